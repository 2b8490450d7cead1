import PyProof.Rows.All
import Wide.All
import OpenK.AllK
import Wide.FinOn
import HandS.ForMost
import HandS.IsInst
import HandS.More
import HandS.SetFor
import HandS.Evl
import HandS.Walk
import PyProof.Rows.CountFlat
import HandS.ForExc
import HandS.TryMany
import HandS.Small
import HandS.Style
import HandS.Lambda
import HandS.EndTab
import HandS.ExcIs
import KE.KNestM
import HandS.Zip
import HandS.TupAny
import HandS.Strs
import HandS.SortInts
import HandS.ExcInit
import HandS.ExcField
import KE.KExcIs
import KE.GoesMore
import PyProof.EnumMake
import PyProof.Draws
import PyProof.ReprRoads
import PyProof.CallFns
import PyProof.ReprLen
import PyProof.InstEq
import HandS.TupMul
import HandS.Flow
import HandS.Dict
import HandS.DictComp
import HandS.Deep
import HandS.TupSets
import HandS.Conv
import HandS.Rev
import KE.SortData
import HandS.TupLe
import PyProof.TupleOfSeq
import HandS.ExcValue
import PyProof.Transfer
import HandS.TupSets
import HandS.SortKw
import HandS.TupMul
import HandS.Zip0
import HandS.Zip
import HandS.Comp
import HandS.Walk
import HandS.Sort
import HandS.Deep
import HandS.WordsExc
import HandS.Text
import HandS.FStr
import KE.GoesMore
import PyProof.EnumMake
import PyProof.Draws
import PyProof.EnumIter
import KE.DataMinMax
import KE.KDictList
import KE.SortData
import PySem.Challenge.RW_exactbeats_k81_arrivals_judged_as_texts
set_option Elab.async false
set_option linter.all false
set_option maxRecDepth 100000
set_option maxHeartbeats 4000000
/-! Rules that the layer lacks: an own exception made without arguments; what a lambda's call may raise. -/
namespace GX
open PySem PySem.Spec PyProof.Rows L2
section
variable {X : Cx}
/-- X(): an own exception class without an __init__ of its own, no argument -/
theorem pmk_own0 {C : Addr} {bmB : List Value} {B newId initId : String} {x : Str} {p pos : Pos} (FB : ExcBaseFacts B newId initId bmB) (hx : PySem.W.excIn X.K C bmB newId = true) (hm : X.mg x = some (.ref C)) (hk : PySem.W.keepIn X.K (.ref C) = true)
    (hR : Raises X (.ref C)) (hg : Gl X x) (hdb : (x == ("__debug__" : Str)) = false := by decide) : PMk X (.Call (.Name x p) [] [] pos) (fun _ H Q => Q (.ref C) none H) := by
  intro pins s σ H Q I h
  refine wpAny_Call_Name_kw (ld_glob I hg hm (PySem.W.callWith_K0 I.kIn hk ?_) hdb)
  obtain ⟨bm, N, nm, qn, bs, hdct, sn, sub, ab, col, dd, k0, k1, k2, k3, k5, mN, e1, e2, e3, tail⟩ := exc_obj I.kIn hx
  refine wpAny_call_exc_subT (rest := [] ++ []) FB tail e1 e2 e3 (fun h' e made => ?_)
  refine mk_of I made hR h ?_
  -- the new address is tracked by nothing
  cases q : H e with
  | none => rfl
  | some o =>
    have z := made.new
    obtain ⟨b, hb⟩ := objOk_get (I.hok e o q)
    rw [hb] at z
    cases z
/-- raising calls within a def's own body (or a lambda's) -/
theorem passX {E : XK} (h1 : X.stack = X.env :: X.outer) (h2 : X.env.frame = some X.env.locals) (h3 : X.ex = []) {E₁ : Value → Shared → Prop}
    (h4 : X.xe = fun e s' => wpAny (model X.prog X.w) X.A (leaving X.env e) (fun _ s'' => L2.CX X.prog X.w X.outer X.H_0 X.s_0 E e s'') E₁ s') : Passes (L2.CX X.prog X.w) X E :=
  passes_call (takes_of h1 h2 h3 h4) fun _ _ _ _ h => h
theorem takes_len {W : WX} (h : Takes X W) : Takes X (fun cls d σ H => σ.length = X.N.length → W cls d σ H) := fun u s' z => by
  obtain ⟨a, B, sI, pins, σ, H, cls, d, e1, I, r1, r2, r3, r4, r5, r6, r7⟩ := z
  exact h u s' ⟨a, B, sI, pins, σ, H, cls, d, e1, I, r1, r2, r3, r4, r5, r6, r7 I.len⟩
theorem call_isEg {a : Addr} {cls : Value} {d : Option Addr} {oe : Obj} {pn : List (Addr × Obj)} (hz : Zc cls d oe) (hf : ∃ vs, oe.data = Data.fields vs) :
    CallR (X.suite a ((a, oe) :: pn)) (.builtin "isinstance") (fun xs H Q => ∃ D, cls = .ref D ∧ d = none ∧ ExcC X.K D ∧ rIsE X.K D a xs H Q) := by
  intro pins s σ H xs us Q I r h
  obtain ⟨D, rfl, rfl, hE, h⟩ := h
  exact call_isE hE hz hf pins s σ H xs us Q I r h
/-- isinstance(e, c), e the error that the suite holds, with fields or without -/
theorem call_isEa {a : Addr} {cls : Value} {d : Option Addr} {oe : Obj} {pn : List (Addr × Obj)} (hz : Zc cls d oe) (hf : ∃ vs, oe.data = Data.fields vs) :
    CallR (X.suite a ((a, oe) :: pn)) (.builtin "isinstance") (fun xs H Q => ∃ D, cls = .ref D ∧ ExcC X.K D ∧ (d = none ∨ ∃ dd fs, d = some dd ∧ H dd = some (.xd fs)) ∧ rIsE X.K D a xs H Q) := by
  intro pins s σ H xs us Q I r h
  obtain ⟨D, rfl, C, hd, c, cv, b, rfl, hcv, e, q⟩ := h
  obtain ⟨u, u2, rfl, ru, ru2⟩ := r.two
  cases (show u = Value.ref a from ru)
  cases hcv _ ru2
  obtain ⟨there, _⟩ := I.pin (a, oe) (List.mem_append.mpr (.inl List.mem_cons_self))
  obtain ⟨vs, hv⟩ := hf
  have nc : PySem.W.notCls oe = true := by
    unfold PySem.W.notCls
    rw [hv]
  have od : ∃ od, PySem.W.InstAt s.heap a oe D od := by
    rcases hd with e1 | ⟨dd, fs, e1, e2⟩
    · subst e1
      exact ⟨none, there, hz.1, nc, by rw [hz.2]; trivial⟩
    · subst e1
      obtain ⟨mA, hns, _⟩ : ObjOk X.prog X.w H s.heap dd (.xd fs) := I.hok dd _ e2
      obtain ⟨od, ho, _⟩ := lookIn_ns hns
      exact ⟨some od, there, hz.1, nc, by rw [hz.2]; exact ho⟩
  obtain ⟨od, J⟩ := od
  have isC : (PySem.W.clsIn X.K D).isSome = true := by
    obtain ⟨cd, hc, _⟩ := PySem.W.any_some C.hd
    rw [hc] <;> rfl
  exact PySem.W.kia_one (PySem.W.kitx_exc isC C.hg C.hk C.hs C.ha C.hn C.ht C.hm) I.kIn J e (fun z => nomatch z) fun tk => ⟨.bl b, H, I.kept (t' := tk) fun _ _ z => z, rfl, q⟩
theorem exm_kit {K : PySem.W.Frag} {t c : Value} {b : Bool} (h : PySem.W.exmOne K t c = some b) : PySem.W.kitCls K t c = some b := by
  unfold PySem.W.exmOne at h
  split at h
  · exact h
  · cases h
theorem kit_yes {K : PySem.W.Frag} {t c : Value} (h : PySem.W.exmOne K t c = some true) : PySem.W.kitOne K t c = some true := by
  unfold PySem.W.kitOne
  split
  · rfl
  · exact exm_kit h
theorem kit_no {K : PySem.W.Frag} {D C : Addr} (h : PySem.W.exmOne K (.ref D) (.ref C) = some false) (self : PySem.W.subIn K (.ref C) (.ref C) = some true) (no : PySem.W.subIn K (.ref D) (.ref C) = some false) : PySem.W.kitOne K (.ref D) (.ref C) = some false := by
  unfold PySem.W.kitOne
  split
  · rename_i e
    have e2 : (Value.ref D) = .ref C := eq_of_beq e
    rw [e2, self] at no
    cases no
  · exact exm_kit h
theorem kit_bi {K : PySem.W.Frag} {D : Addr} {T : String} {b : Bool} (m : PySem.W.kitMeta T = true) (h : PySem.W.subIn K (.ref D) (.type T) = some b) : PySem.W.kitOne K (.ref D) (.type T) = some b := by
  unfold PySem.W.kitOne
  split
  · rename_i e
    have e2 : (Value.ref D) = .type T := eq_of_beq e
    cases e2
  · show (if PySem.W.kitMeta T = true then PySem.W.subIn K (.ref D) (.type T) else none) = some b
    rw [if_pos m]
    exact h
/-- a def of the text whose code is known -/
structure FunC (K : PySem.W.Frag) (x qual : Str) (st : Stmt) (f : Addr) (fd : FuncData) (c : Addr) : Prop where
  ex : ∃ oc od kV doc pm an ct osl, fd = PySem.W.fnOf x qual (defArgs st) (defBody st) (defScope st) .none kV doc pm an (.ref c) ct ∧ K.lookup f = some ⟨oc, od, .func fd, osl⟩ ∧ PySem.W.codeIn K (.ref c) qual = true
theorem FunC.ok {P : Program} {w : World} {K : PySem.W.Frag} {mg : Str → Option Value} {base : Heap} {x qual : Str} {st : Stmt} {f c : Addr} {fd : FuncData} {N ps : List Str} {k : Nat} {sp : Sp} (F : FunC K x qual st f fd c) (S : FnScope N ps (defScope st))
    (len : ∀ vs H Q E, sp vs H Q E → vs.length = ps.length)
    (hb : ∀ (A : Around) (outer : List Env) (s : Shared) (H : Hp) (vs : List V) (Q : VK) (E : XK), Room k (A.deeper (envOfC qual (defScope st) s.heap.objs.size f (.ref c))) → sp vs H Q E →
      ∃ t, PSs (cxOf L2.CX0 P w K mg base N qual (defScope st) f (.ref c) A outer s H E).nox (defBody st) t ∧ t { nx := fun _ H' => Q .non H', rt := Q } (L2.start N vs) H) : FnOk P w K mg base L2.CX0 (k + 1) f fd ps sp := by
  obtain ⟨oc, od, kV, doc, pm, an, ct, osl, rfl, lk, hcd⟩ := F.ex
  refine fn_of lk hcd S len fun A outer s H vs Q E hr h => ?_
  obtain ⟨t, h1, h2⟩ := hb A outer s H vs Q E hr h
  exact ⟨t, h1.nox, h2⟩
def tTru (K : PySem.W.Frag) (ta : TE) : L2.St → Hp → (Bool → Hp → Prop) → Prop := fun σ H Q => ta σ H fun x H' => ∃ k, TruV K x H' k ∧ Q k H'
def WL (n : Nat) (W : WX) : WX := fun cls d σ H => σ.length = n → W cls d σ H
def EE (n : Nat) (W : WX) : XK := fun cls d H => ∀ σ : L2.St, σ.length = n → W cls d σ H
/-- raising calls within a try's body -/
theorem passT (n : Nat) {W : WX} (tk : Takes X W) (hn : X.N.length = n := by rfl) : Passes (L2.CX X.prog X.w) X (EE n W) := passes_call (takes_len tk) fun cls d σ H h hl => h σ (hl.trans hn)
/-- f(lambda: e) -/
theorem pe_lam {T : List (Addr × Str)} {TT : (XK → Hp → VK → Prop) → Hp → VK → Prop} {x a : Str} {g c P : Addr} {fd : FuncData} {k : Nat} {st : Stmt} {Ng : List Str} {params : Arguments} {body : Expr} {scope : Scope} {t : XK → TE} {p lpos pos : Pos}
    (F : Fun X.K x x st g fd) (Sg : FnScope Ng [a] (defScope st)) (hg : Gl X x) (hm : X.mg x = some (.ref g)) (hb : Binds X.K fd [a] []) (hNg : Ng[0]? = some a) (hva : Vis (defScope st) a)
    (hG : ∀ cdv, LamX.GivesTo X Ng x (defScope st) g cdv (defBody st) a (X.env.qual ++ "<lambda>") TT) (TB : LamX.TabB X.base X.mg c P) (hcode : X.env.code = .ref c) (hmT : (P, X.env.qual ++ "<lambda>") ∈ T)
    (hu : ∀ p ∈ T, p.1 = P → p.2 = X.env.qual ++ "<lambda>") (hr : Room (k + 2) X.A) (L : LamX.LamS X.env.scope scope) (hdef : defaultsOf params X.env = ([], []))
    (hbind : ∀ (q : Str) (cl : List (Str × Addr)) (pm cv ctv : Value), bindArgs (PySem.W.kla_fn "<lambda>" q params body scope cl pm cv ctv) ⟨[], []⟩ = pure [])
    (hbody : ∀ (A : Around) (outer : List Env) (s : Shared) (H : Hp) (E : XK) (f c' : Addr), Room k (A.deeper (LamX.lamEnv X scope s.heap.objs.size f c')) → PE (LamX.lamCx X A outer s H E scope f c') body (t E))
    (h1 : (x == ("__debug__" : Str)) = false := by decide) (h2 : (a == ("__debug__" : Str)) = false := by decide) (h3 : (a == ("__classdict__" : Str)) = false := by decide) :
    PE X (.Call (.Name x p) [.Lambda params body scope lpos] [] pos) (LamX.tLam T TT t) := by
  obtain ⟨oc, od, kV, doc, pm, an, cdv, ct, osl, rfl, lk, hcd⟩ := F.ex
  exact LamX.pe_lamcall hg hm F.kp lk hcd hb Sg hNg hva (hG cdv) TB hcode hmT hu hr L hdef hbind hbody h1 h2 h3
end
end GX
namespace KX
open PySem PySem.Spec PyProof.Rows L2
section
variable {X : Cx}
/-- xs.count(True), xs a list of bools -/
def rCntB (K : PySem.W.Frag) : V → List V → Hp → VK → Prop := fun x xs H Q => ∃ (p : Addr) (bs : List Bool) (k : Bool), x = .ref p ∧ xs = [.bl k] ∧ SqL K H p (bs.map V.bl) ∧ Q (.int (bs.countP (fun b => b == k) : Nat)) H
theorem bools_of : ∀ {bs : List Bool} {its : List Value}, Vals (bs.map V.bl) its → its = bs.map Value.bool
  | [], _, .nil => rfl
  | b :: bs, _, .cons r t => by
    cases (show _ = Value.bool b from r)
    rw [bools_of t]
    rfl
theorem mt_count_bl : MtR X "list.count" (rCntB X.K) := by
  intro pins s σ H x xs v us Q I rx rxs h
  obtain ⟨p, bs, k, rfl, rfl, hs, q⟩ := h
  cases rx
  obtain ⟨u, rfl, ru⟩ := rxs.one
  cases (show u = Value.bool k from ru)
  obtain ⟨its, rv, ⟨⟨cls, dd, data, sl⟩, n, ho, hc, hdn, hd⟩, hlen⟩ := I.list hs
  simp only at hc hd
  subst hc hd
  have hi := bools_of rv
  refine call_meets PySem.F.slot_list_count ⟨_, ho, rfl⟩ PySem.F.entry_list_count (PySem.F.args_list_count_2 _ _)
    (SeqAt.list_countAt p its.toArray n dd sl (.bool k) (isBoolOf k)) ⟨ho, fun y hy => ?_, ?_⟩
  · have hy' : y ∈ its := by simpa using hy
    rw [hi] at hy'
    obtain ⟨b, _, rfl⟩ := List.mem_map.mp hy'
    exact PySem.SeqAt.EqAt.bool_bool b k
  · have ec : its.toArray.toList.countP (isBoolOf k) = bs.countP (fun b => b == k) := by
      show its.countP (isBoolOf k) = _
      rw [hi, List.countP_map]
      rfl
    refine ⟨.int (bs.countP (fun b => b == k) : Nat), H, I.tok _, ⟨s.toks, ?_⟩, q⟩
    show Value.int ((its.toArray.toList.countP (isBoolOf k) : Nat) : Int) s.toks = _
    rw [ec]
end
end KX

/-! try: .. with any number of clauses, each naming one class, with `as` or without. -/
namespace GT
open PySem PySem.Spec PyProof.Rows L2
abbrev Suite := Addr → Value → Option Addr → TS
/-- what holds behind a suite: the clause's name is gone -/
def asEnds (D : Ends) : Option Nat → Ends
  | none => D
  | some i => { nx := fun σ' H' => D.nx (σ'.set i none) H', rt := D.rt, bk := fun σ' H' => D.bk (σ'.set i none) H', ct := fun σ' H' => D.ct (σ'.set i none) H' }
def asSt (σ : L2.St) (a : Addr) : Option Nat → L2.St
  | none => σ
  | some i => σ.set i (some (.ref a))
inductive Hds (X : Cx) : List ExceptHandler → List (Value × Option Nat × Suite) → Prop
  | nil : Hds X [] []
  | only {x : Str} {c : Value} {ts : Suite} {b₀ : Stmt} {suite : List Stmt} {np pos' : Pos} {hds : List ExceptHandler} {l : List (Value × Option Nat × Suite)} (hc : Gl X x) (hd : (x == ("__debug__" : Str)) = false) (hm : X.mg x = some c)
      (hs : ∀ (a : Addr) (oe : Obj) (cls : Value) (d : Option Addr) (pn : List (Addr × Obj)), Zc cls d oe → (∃ vs, oe.data = .fields vs) → PSs (X.suite a ((a, oe) :: pn)) (b₀ :: suite) (ts a cls d)) (rest : Hds X hds l) :
      Hds X (.ExceptHandler (some (.Name x np)) none (b₀ :: suite) pos' :: hds) ((c, none, ts) :: l)
  | as_ {x n : Str} {c : Value} {i : Nat} {ts : Suite} {b₀ : Stmt} {suite : List Stmt} {np pos' : Pos} {hds : List ExceptHandler} {l : List (Value × Option Nat × Suite)} (hc : Gl X x) (hd : (x == ("__debug__" : Str)) = false) (hm : X.mg x = some c)
      (hi : X.N[i]? = some n) (hn : X.env.kindOf n = some .local)
      (hs : ∀ (a : Addr) (oe : Obj) (cls : Value) (d : Option Addr) (pn : List (Addr × Obj)), Zc cls d oe → (∃ vs, oe.data = .fields vs) → PSs (X.suite a ((a, oe) :: pn)) (b₀ :: suite) (ts a cls d)) (rest : Hds X hds l) :
      Hds X (.ExceptHandler (some (.Name x np)) (some n) (b₀ :: suite) pos' :: hds) ((c, some i, ts) :: l)
def wHds (K : PySem.W.Frag) (Wout : WX) (D : Ends) : List (Value × Option Nat × Suite) → WX
  | [] => Wout
  | (c, oi, ts) :: l => fun cls d σ H => ∃ b, PySem.W.exmOne K cls c = some b ∧ (b = true → ∀ a, H a = none → ts a cls d (asEnds D oi) (asSt σ a oi) H) ∧ (b = false → wHds K Wout D l cls d σ H)
theorem ends_as {X : Cx} {pins : List (Addr × Obj)} {D : Ends} {f : Flow} {s : Shared} {a : Addr} {q : Addr × Obj} {pn' : List (Addr × Obj)} (ok : X.Ok) (h : SP (X.suite a (q :: (X.pn ++ pins))) pn' (asEnds D none) f s) : SP X pins D f s := by
  cases f with
  | ret u =>
    obtain ⟨v, σ', H', J, rv, k⟩ := h
    exact ⟨v, σ', H', J.unsuite ok, rv, k⟩
  | next =>
    obtain ⟨σ', H', J, k⟩ := h
    exact ⟨σ', H', J.unsuite ok, k⟩
  | brk =>
    obtain ⟨σ', H', J, k⟩ := h
    exact ⟨σ', H', J.unsuite ok, k⟩
  | cont =>
    obtain ⟨σ', H', J, k⟩ := h
    exact ⟨σ', H', J.unsuite ok, k⟩
section
variable {X : Cx}
structure Land (X : Cx) (pins : List (Addr × Obj)) (σ : L2.St) (B : Heap) (a : Addr) (cls : Value) (d : Option Addr) (sI : Shared) (H : Hp) (s : Shared) : Prop where
  I : Inv X pins σ H s
  fl : HandSPX.FlyingZ B X.stack a (Zc cls d) s.heap
  up : sI.heap.UpToSlots s.heap
  os : s.os = sI.os
  bare : AllBare s.gens
theorem not_env {pins : List (Addr × Obj)} {σ : L2.St} {H : Hp} {s : Shared} {a : Addr} {oe : Obj} {vs : Array Value} (I : Inv X pins σ H s) (e1 : s.heap.get? a = some oe) (e2 : oe.data = .fields vs) : a ≠ X.env.locals := fun z => by
  obtain ⟨m, ⟨o, es, ep, h1, h2, _⟩, _⟩ := I.loc
  rw [← z, e1] at h1
  cases h1
  rw [e2] at h2
  cases h2
theorem not_frs {B h : Heap} : ∀ {l : List Env} {a : Addr} {oe : Obj} {vs : Array Value}, h.FunFrames B l → h.get? a = some oe → oe.data = .fields vs → a ∉ frs l
  | [], _, _, _, _, _, _ => fun z => by cases z
  | env :: l, a, oe, vs, ff, e1, e2 => fun z => by
    rw [Heap.FunFrames.eq_2] at ff
    obtain ⟨_, ⟨L, o, f1, _, f3, f4⟩, f5⟩ := ff
    have z2 : a ∈ (env.frame.toList ++ frs l) := by
      unfold frs at z ⊢
      rw [List.filterMap_cons] at z
      rw [f1] at z ⊢
      exact z
    rw [f1] at z2
    rcases List.mem_cons.mp (show a ∈ L :: frs l from z2) with e | e
    · rw [e, f3] at e1
      cases e1
      exact f4 vs e2
    · exact not_frs f5 e1 e2 e
/-- an exception that landed: the clauses, one behind another -/
theorem handle {Wout : WX} {D : Ends} {pins : List (Addr × Obj)} {B : Heap} {a : Addr} {cls : Value} {d : Option Addr} {sI : Shared} {H : Hp} {σ : L2.St} (ok : X.Ok) (hs : X.stack = X.env :: X.outer) (hf : X.env.frame = some X.env.locals) (hN : X.N.Nodup) (tk : Takes X Wout)
    (ha : H a = none) (keep : ∀ (b : Addr) (o : Obj), sI.heap.get? b = some o → b ∉ frs X.stack → B.get? b = some o) (II : Inv X pins σ H sI) :
    ∀ {hds : List ExceptHandler} {l : List (Value × Option Nat × Suite)}, Hds X hds l → wHds X.K Wout D l cls d σ H → ∀ s : Shared, Land X pins σ B a cls d sI H s →
      wpAny (model X.prog X.w) X.A (handleBy (.ref a) X.env hds) (SP X pins D) X.xe s := by
  intro hds l hd
  have enter : ∀ {s : Shared}, Land X pins σ B a cls d sI H s → ∃ oe vs, s.heap.get? a = some oe ∧ Zc cls d oe ∧ oe.data = .fields vs ∧ ∀ {σ' : L2.St} {s' : Shared}, Inv X pins σ' H s' → s'.heap.get? a = some oe → Inv (X.suite a ((a, oe) :: (X.pn ++ pins))) [] σ' H s' := fun {s} L => by
    obtain ⟨oe, vs, e1, z, e2⟩ := L.fl.there
    have ff := L.fl.2.2.1
    rw [hs, Heap.FunFrames.eq_2] at ff
    exact ⟨oe, vs, e1, z, e2, fun I' e => I'.suite e e2 ha (not_env L.I e1 e2) (not_frs ff.2.2 e1 e2)⟩
  have look : ∀ {s : Shared} {c : Value} {b : Bool}, Land X pins σ B a cls d sI H s → PySem.W.exmOne X.K cls c = some b → PySem.W.Looks (model X.prog X.w) s.heap (excMatches (.ref a) c) b := fun {s c b} L eb => by
    obtain ⟨oe, vs, e1, z, e2, _⟩ := enter L
    exact PySem.W.exm_one L.I.kIn (fun A' Q' E' s' sub q => wpAny_typeOf_ref (sub _ _ e1) (by rw [z.1]; exact q)) eb
  have again : ∀ {s : Shared} {h' : Heap}, Land X pins σ B a cls d sI H s → HandSPX.FlyingZ B X.stack a (Zc cls d) h' → s.heap.UpToSlots h' → Land X pins σ B a cls d sI H { heap := h', gens := s.gens, drawn := s.drawn, toks := s.toks, os := s.os } := fun {s h'} L fl up =>
    ⟨II.landed keep fl.1 (L.up.trans up) L.os L.bare, fl, L.up.trans up, L.os, L.bare⟩
  induction hd with
  | nil =>
    intro hw s L
    refine wpAny_handleBy_nil ?_
    obtain ⟨st, bn, ff, oe, vs, T, oT, ts, e1, z, e2, e3, _⟩ := id L.fl
    unfold PySem.passOn
    refine wpAny_bind (wpAny_field e1 e2 e3 ?_)
    show wpAny _ _ (if (Value.ref T == Value.none) = true then _ else _) _ _ _
    rw [if_neg (fun h => by cases (eq_of_beq h))]
    refine wpAny_bind ?_
    rw [hf]
    exact HandSPX.setFlight_upZ L.fl fun h' held up2 => wpAny_throw (tk _ _ ⟨a, B, sI, pins, σ, H, cls, d, rfl, II, keep, L.up.trans up2, .inr (.inr held), ha, L.os, L.bare, hw⟩)
  | only hc hdb hm hsu rest ih =>
    intro hw s L
    obtain ⟨b, eb, hw1, hw2⟩ := hw
    obtain ⟨oe, vs, e1, z, e2, su⟩ := enter L
    refine wpAny_handleBy_cons ?_ (by intro h; cases h)
    refine codeAny_handlers_test (ld_glob (su L.I e1) hc hm ?_ hdb)
    refine look L eb _ _ _ _ (fun _ _ e => e) ?_
    cases b with
    | false => exact ih (hw2 rfl) s L
    | true =>
      refine codeAny_handlers_suite (HandSPX.lands_againZ L.fl fun h' fl' up' => ?_)
      have L' := again L fl' up'
      obtain ⟨oe', vs', e1', z', e2', su'⟩ := enter L'
      exact wpAny_mono ((hsu a oe' cls d (X.pn ++ pins) z' ⟨_, e2'⟩).run [] _ σ H D (su' L'.I e1') (hw1 rfl a ha)) (fun f s₂ q => ends_as ok q) fun _ _ q => q.elim
  | @as_ x n c i ts b₀ suite np pos' hds' l' hc hdb hm hi hn hsu rest ih =>
    intro hw s L
    obtain ⟨b, eb, hw1, hw2⟩ := hw
    obtain ⟨oe, vs, e1, z, e2, su⟩ := enter L
    refine wpAny_handleBy_cons ?_ (by intro h; cases h)
    refine codeAny_handlers_test (ld_glob (su L.I e1) hc hm ?_ hdb)
    refine look L eb _ _ _ _ (fun _ _ e => e) ?_
    cases b with
    | false => exact ih (hw2 rfl) s L
    | true =>
      refine codeAny_handlers_suite_as (HandSPX.lands_againZ L.fl fun h' fl' up' => ?_)
      have L' := again L fl' up'
      obtain ⟨oe', vs', e1', z', e2', su'⟩ := enter L'
      refine store_ok2 L'.I hN hi (.inl hn) (show RelV (.ref a) (.ref a) from rfl) (fun s'' J sb => ?_) (.inr hn)
      have e3 : s''.heap.get? a = some oe' := by
        obtain ⟨a2, sb, hor⟩ := sb
        have ne : a ≠ a2 := by
          rcases hor with e | e
          · rw [e]
            exact not_env L'.I e1' e2'
          · intro e3
            obtain ⟨v, o, c1, c2⟩ := L'.I.cell _ _ e
            rw [← e3] at c1
            have c3 : some oe' = some o := e1'.symm.trans c1
            cases c3
            rw [e2'] at c2
            cases c2
        rw [sb.2 a ne]
        exact e1'
      refine wpAny_mono ((hsu a oe' cls d (X.pn ++ pins) z' ⟨_, e2'⟩).run [] _ (σ.set i (some (.ref a))) H (asEnds D (some i)) (su' J e3) (hw1 rfl a ha)) (fun f s₂ q => ?_) fun _ _ q => q.elim
      cases f with
      | ret u =>
        obtain ⟨v, σ', H', J', rv, k⟩ := q
        exact gone_ok (J'.unsuite ok) hN hi hn fun s3 J3 => ⟨v, _, H', J3, rv, k⟩
      | next =>
        obtain ⟨σ', H', J', k⟩ := q
        exact gone_ok (J'.unsuite ok) hN hi hn fun s3 J3 => ⟨_, H', J3, k⟩
      | brk =>
        obtain ⟨σ', H', J', k⟩ := q
        exact gone_ok (J'.unsuite ok) hN hi hn fun s3 J3 => ⟨_, H', J3, k⟩
      | cont =>
        obtain ⟨σ', H', J', k⟩ := q
        exact gone_ok (J'.unsuite ok) hN hi hn fun s3 J3 => ⟨_, H', J3, k⟩
/-- try: body except A as x: .. except B: .. -/
theorem ps_try_g {body : List Stmt} {h₀ : ExceptHandler} {hds : List ExceptHandler} {l : List (Value × Option Nat × Suite)} {pos : Pos} {tb : WX → TS} {Wout : WX} (hs : X.stack = X.env :: X.outer) (hf : X.env.frame = some X.env.locals) (hN : X.N.Nodup) (tk : Takes X Wout)
    (hb : ∀ (W : WX) (pn : List (Addr × Obj)) (xe : Value → Shared → Prop), Takes (X.tr pn xe) W → PassesOwn (model X.prog X.w) X.A X.env xe → PSs (X.tr pn xe) body (tb W)) (hh : Hds X (h₀ :: hds) l) :
    PS X (.Try body (h₀ :: hds) [] [] pos) (fun D σ H => tb (wHds X.K Wout D l) D σ H) := by
  refine ⟨fun pins s σ H D I h => ?_⟩
  have ok := I.ok
  refine wpAny_Try_except ?_
  have fr : X.A.frames = some (X.env :: X.outer) := by
    rw [ok.frames, hs]
  have tkW : Takes (X.tr (X.pn ++ pins) (fun e s₁ => wpAny (model X.prog X.w) X.A (noteFrame e X.env) (fun _ s₂ => wpAny (model X.prog X.w) X.A (setFlight e none) (fun _ s₃ => wpAny (model X.prog X.w) X.A (handleBy e X.env (h₀ :: hds)) (SP X pins D) X.xe s₃) X.xe s₂) X.xe s₁)) (wHds X.K Wout D l) := fun u s' z => by
    obtain ⟨a, B, sI, pn', σ', H', cls, d, rfl, I', keep, up, sky, ha, os, bare, hw⟩ := z
    have II : Inv X pins σ' H' sI := I'.ofTry ok
    have sky' : Sky B (X.env :: X.outer) a (Zc cls d) X.env.locals s'.heap := by
      rw [← hs]
      exact sky
    refine Sky.land Zc.steady fr hf sky' fun h' fl up2 => ?_
    rw [← hs] at fl
    exact handle ok hs hf hN tk ha keep II hh hw _ ⟨II.landed keep fl.1 (up.trans up2) os bare, fl, up.trans up2, os, bare⟩
  refine wpAny_mono ((hb _ (X.pn ++ pins) _ tkW PassesOwn.looking).run [] s σ H D (I.toTry _) h) (fun f s1 q => ?_) fun e s1 q => q
  cases f with
  | ret u =>
    obtain ⟨v, σ', H', J, rv, k⟩ := q
    exact ⟨v, σ', H', J.ofTry ok, rv, k⟩
  | next =>
    obtain ⟨σ', H', J, k⟩ := q
    exact (pss_nil (X := X)).run pins s1 σ' H' D (J.ofTry ok) k
  | brk =>
    obtain ⟨σ', H', J, k⟩ := q
    exact ⟨σ', H', J.ofTry ok, k⟩
  | cont =>
    obtain ⟨σ', H', J, k⟩ := q
    exact ⟨σ', H', J.ofTry ok, k⟩
end
end GT

/-! enumerate(t), t a tuple. -/
namespace GE
open PySem PySem.Spec PyProof.Rows L2 Builtin
/-- a tuple's items with their places, a new pair at each turn -/
def Etp (K : PySem.W.Frag) (t : Addr) : It where
  go i H := ∃ xs x, SqT K H t xs ∧ xs[i]? = some x
  yld i H v H' := ∃ (p : Addr) (x : V), v = .ref p ∧ H p = none ∧ H' = upd H p (.tup [.int ((i : Nat) : Int), x]) ∧ ∀ xs, SqT K H t xs → xs[i]? = some x
  stop i H := ∃ xs, SqT K H t xs ∧ xs.length ≤ i
abbrev tIt (t : Addr) : Obj := { cls := .type "tuple_iterator", data := .fields #[.ref t, .int 0 0] }
abbrev eOb (i : Addr) : Obj := { cls := .type "enumerate", data := .fields #[.none, .bool false, .ref i, rawInt 0, .none, .none] }
set_option maxHeartbeats 8000000 in
theorem made (t : Addr) (vs : Array Value) : Meets (Builtin.«enumerate.__new__» ⟨[.type "enumerate", .ref t], []⟩)
    (fun _ R s => s.heap.IsTuple t vs ∧ R (.ok (.ret (.ref (s.heap.push (tIt t)).objs.size))) { s with heap := (s.heap.push (tIt t)).push (eOb s.heap.objs.size) }) := by
  refine Meets.of_wp fun prog w A R s both => ?_
  obtain ⟨h0, gs, dr, tk, os⟩ := s
  obtain ⟨isT, back⟩ := both
  have z1 := PySem.sub_enumerate
  have z2 : ∀ {B : Around} {F : Value → Shared → Prop} {G : Value → Shared → Prop}, G (.ref h0.objs.size) ⟨h0.push (tIt t), gs, dr, tk, os⟩ → wpAny (model prog w) B (pyIter (.ref t)) G F ⟨h0, gs, dr, tk, os⟩ := fun g => wpAny_pyIter_tuple isT g
  wp_walk using z2
  refine wpAny_stack_any fun st => ?_
  refine wpAny_pure ?_
  split
  · rename_i c _ _ _ _ _
    cases (c == Value.type "enumerate") <;> (wp_walk using z2; exact ⟨_, rfl, back⟩)
  · wp_walk using z2
    exact ⟨_, rfl, back⟩
section
variable {P : Program} {w : World} {A : Around} {E : Value → Shared → Prop} {s : Shared}
theorem begins {t : Addr} {vs : Array Value} {Q : Value → Shared → Prop} (isT : s.heap.IsTuple t vs)
    (k : ∀ h1, IsEnum h1 (s.heap.objs.size + 1) s.heap.objs.size 0 .none → h1.IsTupleIter s.heap.objs.size t 0 → h1.objs.size = s.heap.objs.size + 2 → (∀ b o, s.heap.get? b = some o → h1.get? b = some o) → Q (.ref (s.heap.objs.size + 1)) { s with heap := h1 }) :
    wpAny (model P w) A (call (.type "enumerate") [.ref t]) Q E s := by
  refine callType_new F.called_enumerate (by decide) (F.typeCall_enumerate_1 _) (F.newCall_enumerate_1 _) (fun y => F.args_object_init_2 y _) F.entry_enumerate_new (made t vs) ⟨isT, ?_⟩
  have sz : (s.heap.push (tIt t)).objs.size = s.heap.objs.size + 1 := Heap.size_push ..
  have at_ : IsEnum ((s.heap.push (tIt t)).push (eOb s.heap.objs.size)) (s.heap.objs.size + 1) s.heap.objs.size 0 .none := by
    have z := Heap.get?_push_size (s.heap.push (tIt t)) (o := eOb s.heap.objs.size) rfl
    rw [sz] at z
    exact z
  show _ ∧ _
  rw [sz]
  exact ⟨⟨_, at_, rfl⟩, k _ at_ ⟨_, Heap.get?_push_of_some _ (Heap.get?_push_size _ rfl), rfl, rfl⟩ (by rw [Heap.size_push, sz]) fun b o x => Heap.get?_push_of_some _ (Heap.get?_push_of_some _ x)⟩
end
theorem turn {P : Program} {w : World} {K : PySem.W.Frag} {elts : List Expr} {kk : Nat} {tpos : Pos} (t e i : Addr) :
    Turn P w K (.Tuple elts kk tpos) (Etp K t) [e, i] e (fun n h => (∃ old, IsEnum h e i ((n : Nat) : Int) old) ∧ h.IsTupleIter i t n ∧ e ≠ i) := by
  have two : ∀ {b : Addr}, b ∈ [e, i] → b = e ∨ b = i := fun hb => by simpa using hb
  constructor
  case mem => simp
  case obj =>
    rintro n h ⟨⟨old, h1⟩, ⟨o, h2, h3, h4⟩, _⟩ b hb
    rcases two hb with q | q <;> subst q
    · exact ⟨_, h1, fun v z => nomatch z⟩
    · exact ⟨o, h2, fun v z => by rw [h4] at z; cases z⟩
  case keep =>
    rintro n h h' ⟨⟨old, h1⟩, h2, h3⟩ k
    exact ⟨⟨old, k e (by simp) _ h1⟩, h2.at fun o q => k i (by simp) o q, h3⟩
  case item =>
    intro X eP ew eK calm n pins s σ H Er I free st go
    subst eP ew eK
    obtain ⟨⟨old, h1⟩, h2, apart⟩ := st
    obtain ⟨xs, x, hq, hx⟩ := go
    obtain ⟨vs, rv, isT, _⟩ := I.tuple hq
    obtain ⟨u, hu, ru⟩ := rv.get hx
    have le : e < s.heap.objs.size := Heap.lt_size h1
    have li : i < s.heap.objs.size := by
      obtain ⟨_, q, _⟩ := h2
      exact Heap.lt_size q
    have ti : t ≠ i := fun z => by
      subst z
      obtain ⟨o1, q1, c1, _⟩ := h2
      obtain ⟨o2, q2, c2, _⟩ := isT
      rw [q1] at q2
      cases q2
      rw [c1] at c2
      exact absurd (Value.type.inj c2) (by decide)
    have te : t ≠ e := fun z => by
      subst z
      obtain ⟨o2, q2, c2, _⟩ := isT
      rw [h1] at q2
      cases q2
      exact absurd (Value.type.inj c2) (by decide)
    have quiet : X.A.in1.handled = none := by
      have z := I.ok.hd calm
      simp [z]
    have lt : n < vs.toArray.size := by
      have z := (List.getElem?_eq_some_iff.mp hu).1
      simpa using z
    refine wpAny_pyNext_enum_itemD (Draws.tuple quiet i t ti vs.toArray) h1 ⟨h2, isT⟩ lt apart (by simp [apart, te.symm]) fun y h' tk py out st' tup size keep => ?_
    have ey : y = u := by
      have z : vs.toArray[n]? = some y := py
      rw [List.getElem?_toArray, hu] at z
      exact (Option.some.inj z).symm
    subst ey
    refine ⟨_, rfl, wpAny_letOwnedTupleGo_enum (s := { s with heap := h', toks := tk + 1 }) out fun h'' again sb => ?_⟩
    have tup2 : h''.get? s.heap.objs.size = some { cls := .type "tuple", data := .seq #[.int n tk, y] } := (sb.2 _ (Nat.ne_of_gt le)).trans tup
    have fresh : ObjOk X.prog X.w (upd H s.heap.objs.size (.tup [.int ((n : Nat) : Int), x])) h'' s.heap.objs.size (.tup [.int ((n : Nat) : Int), x]) :=
      ⟨by show 2 ≤ sizeLine; decide, [.int n tk, y], .cons ⟨_, rfl⟩ (.cons ru .nil), ⟨_, tup2, rfl, _, rfl⟩⟩
    have J : Inv X pins σ (upd H s.heap.objs.size (.tup [.int ((n : Nat) : Int), x])) { s with heap := h'', toks := tk + 1 } :=
      I.turnedNew (t' := tk + 1) (ch := [e, i]) (fun b ob hb q => (sb.2 b (fun z => hb (by simp [z]))).trans (keep b ob (fun z => hb (by simp [z])) (fun z => hb (by simp [z])) q)) free (Nat.le_refl _) fresh
    refine ⟨.ref s.heap.objs.size, _, J, rfl, ⟨_, x, rfl, I.hok.fresh (Nat.le_refl _), rfl, fun ys hy => by rw [I.tuple_inj hy hq]; exact hx⟩, ⟨⟨y, ?_⟩, st'.1.at fun o q => (sb.2 i (Ne.symm apart)).trans q, apart⟩, fun b hb => ?_⟩
    · rw [show ((n + 1 : Nat) : Int) = (n : Int) + 1 by omega]
      exact again
    · have lb : b < s.heap.objs.size := by
        rcases two hb with z | z <;> subst z
        · exact le
        · exact li
      rw [upd_ne (Nat.ne_of_lt lb)]
      exact (free b hb).1
  case done =>
    intro X eP ew eK calm n pins s σ H Er I free st stop
    subst eP ew eK
    obtain ⟨⟨old, h1⟩, h2, apart⟩ := st
    obtain ⟨xs, hq, hl⟩ := stop
    obtain ⟨vs, rv, isT, _⟩ := I.tuple hq
    have long := rv.length
    have quiet : X.A.in1.handled = none := by
      have z := I.ok.hd calm
      simp [z]
    have hT : s.TypeIs (.ref e) "enumerate" := ⟨_, h1, rfl⟩
    obtain ⟨f0, f1, f2, f3, f4, f5⟩ := free i (by simp)
    unfold pyNext
    refine wpAny_bind (wpAny_attempt (wpAny_callSpecial?_slot (name := Str.ofString "__next__") hT F.slot_enumerate_next (wpAny_call_entry F.slot_enumerate_next hT F.entry_enumerate_next ?_ (F.args_enumerate_next_1 _))))
    show wpAny _ _ (field (.ref e) 2 >>= _) _ _ _
    refine wpAny_bind (wpAny_field h1 rfl (x := .ref i) rfl (wpAny_bind ?_))
    refine wpAny_nextOf_tuple_end quiet h2 isT (by simp; omega) fun h' ex eb isx => ?_
    obtain ⟨o, ho, hc⟩ := isx
    refine wpAny_bind (wpAny_isInstance (T := "StopIteration") (b := true) ⟨o, ho, hc⟩ isSubtype_stop (wpAny_pure ?_))
    exact ⟨rfl, I.turned (t' := s.toks) (fun b o hb q => eb b o hb q) f0 f1 f3 f4 f5⟩
  case self =>
    rintro A n s Q Er ⟨⟨_, h1⟩, _⟩ q
    exact wpAny_pyIter_enum h1 q
/-- enumerate of a list or a tuple -/
def iEnA (K : PySem.W.Frag) (ta : TA) : TI := fun σ H R => ta σ H fun vs H1 => ∃ a xs, vs = [.ref a] ∧ ((SqL K H1 a xs ∧ R (Ite K a) H1) ∨ (SqT K H1 a xs ∧ R (Etp K a) H1))
theorem pi_enumA {X : Cx} {e : Expr} {ta : TA} {p pos tpos : Pos} {elts : List Expr} {kk : Nat} (hg : Gl X "enumerate") (hm : X.mg "enumerate" = none) (ha : PA X [e] ta) (hs : starEach [e] X.env = [(false, eval e X.env)] := by rfl) :
    PI X (.Tuple elts kk tpos) (.Call (.Name "enumerate" p) [e] [] pos) (iEnA X.K ta) := by
  constructor
  intro pins s σ H R I h
  refine Call_ (ld_blt I hg hm boot_enumerate (PyProof.Rows.callWith_type1 (thn (ha.run pos pins s σ H _ I h) fun us s1 got => ?_) hs rfl))
  obtain ⟨_, H1, I1, r1, a, xs, rfl, q⟩ := got
  have fp : ∀ b ∈ [s1.heap.objs.size + 1, s1.heap.objs.size], FpOk X pins H1 b := fun b hb => by
    have le : s1.heap.objs.size ≤ b := by
      rcases (show b = s1.heap.objs.size + 1 ∨ b = s1.heap.objs.size by simpa using hb) with z | z <;> omega
    exact I1.fpOk le (I1.hok.fresh le)
  cases r1 with
  | cons r rr =>
    cases rr
    cases r
    rcases q with ⟨hq, q⟩ | ⟨hq, q⟩
    · obtain ⟨vs, rv, isL, _⟩ := I1.list hq
      refine call_enumerate_list isL.isList fun h' at_ it size keep => wpAny_pyIter_enum at_ ?_
      exact ⟨_, _, _, _, H1, rfl, I1.kept (t' := s1.toks) keep, turn_enum a (s1.heap.objs.size + 1) s1.heap.objs.size, ⟨⟨.none, at_⟩, it, Nat.succ_ne_self _⟩, fp, q⟩
    · obtain ⟨vs, rv, isT, _⟩ := I1.tuple hq
      refine begins isT fun h' at_ it size keep => wpAny_pyIter_enum at_ ?_
      exact ⟨_, _, _, _, H1, rfl, I1.kept (t' := s1.toks) keep, turn a (s1.heap.objs.size + 1) s1.heap.objs.size, ⟨⟨.none, at_⟩, it, Nat.succ_ne_self _⟩, fp, q⟩
theorem walk {K : PySem.W.Frag} {a : Addr} {xs : List V} : Walk (Etp K a) xs.length (fun H => SqT K H a xs) (YPair (fun i => some (.int (i : Nat))) (fun i => xs[i]?)) := by
  constructor
  · exact fun i _ hi q => ⟨xs, xs[i], q, by simp [hi]⟩
  · exact fun _ q => ⟨xs, q, Nat.le_refl _⟩
  · rintro i H v H' _ q ⟨p, x, h1, h2, h3, h4⟩
    exact ⟨p, .int (i : Nat), x, h1, h2, h3, rfl, h4 xs q⟩
/-- zip of two tuples -/
theorem walk_zipT {K : PySem.W.Frag} {a b : Addr} {xs ys : List V} {n : Nat} (hn : n = min xs.length ys.length) : Walk (RZ.ItzT K a b) n (fun H => SqT K H a xs ∧ SqT K H b ys) (YPair (fun i => xs[i]?) (fun i => ys[i]?)) := by
  subst hn
  constructor
  · intro i _ hi q
    exact ⟨xs, ys, xs[i]'(by omega), ys[i]'(by omega), q.1, q.2, List.getElem?_eq_getElem _, List.getElem?_eq_getElem _⟩
  · exact fun _ q => ⟨xs, ys, q.1, q.2, by omega⟩
  · rintro i H v H' _ q ⟨p, x, y, h1, h2, h3, h4, h5⟩
    exact ⟨p, x, y, h1, h2, h3, h4 xs q.1, h5 ys q.2⟩
end GE

/-! comprehensions with two clauses, dict comprehensions, over any walk. -/
namespace GC
open PySem PySem.Spec PyProof.Rows L2
section
variable {J J1 : It} {n n1 : Nat} {G G1 : Hp → Prop} {Y Y1 : Nat → Hp → V → Hp → Prop}
/-- the outer clause -/
theorem lc2_it (w : Walk J n G Y) {g : TG} {tt : TT} {wi1 : TI} {g1 : TG} {tt1 : TT} {te : TE} {vs vs1 : List Nat} {σ : L2.St} {H1 : Hp} {D : Addr} {Qd : Hp → Prop} (Pv : Nat → Hp → Prop) (h0 : Pv 0 (upd H1 D (.lst []))) (hG : ∀ i H, i ≤ n → Pv i H → G H)
    (hs : ∀ i x H H', i < n → Pv i H → Y i H x H' → g x (wipe σ vs) H' fun σ2 H2 => wipe σ2 vs = wipe σ vs ∧ tt σ2 H2 fun b H3 =>
      if b = true then wi1 σ2 H3 fun J1 H4 => ∃ W1 : Nat → Nat → Hp → Prop, (∃ m, W1 0 m H4) ∧ ∀ j k H, W1 j k H →
        (J1.stop j H ∧ Pv (i + 1) H) ∨ (J1.go j H ∧ ∃ Nx1 : Hp → Prop, (∀ H', Nx1 H' → ∃ k', k' < k ∧ W1 (j + 1) k' H') ∧ ∀ x H', J1.yld j H x H' → g1 x (wipe σ2 vs1) H' fun σ3 H5 => wipe σ3 vs1 = wipe σ2 vs1 ∧ tt1 σ3 H5 fun b H6 =>
          if b = true then te σ3 H6 fun y H7 => ∃ acc, H7 D = some (.lst acc) ∧ acc.length < sizeLine ∧ Nx1 (upd H7 D (.lst (acc ++ [y]))) else Nx1 H6)
      else Pv (i + 1) H3) (hd : ∀ H, Pv n H → Qd H) :
    ∃ W : Nat → Nat → Hp → Prop, (∃ m, W 0 m (upd H1 D (.lst []))) ∧ ∀ i m H, W i m H →
      (J.stop i H ∧ Qd H) ∨ (J.go i H ∧ ∃ Nx : Hp → Prop, (∀ H', Nx H' → ∃ m', m' < m ∧ W (i + 1) m' H') ∧ ∀ x H', J.yld i H x H' → g x (wipe σ vs) H' fun σ2 H2 => wipe σ2 vs = wipe σ vs ∧ tt σ2 H2 fun b H3 =>
        if b = true then wi1 σ2 H3 fun J1 H4 => ∃ W1 : Nat → Nat → Hp → Prop, (∃ m, W1 0 m H4) ∧ ∀ j k H, W1 j k H →
          (J1.stop j H ∧ Nx H) ∨ (J1.go j H ∧ ∃ Nx1 : Hp → Prop, (∀ H', Nx1 H' → ∃ k', k' < k ∧ W1 (j + 1) k' H') ∧ ∀ x H', J1.yld j H x H' → g1 x (wipe σ2 vs1) H' fun σ3 H5 => wipe σ3 vs1 = wipe σ2 vs1 ∧ tt1 σ3 H5 fun b H6 =>
            if b = true then te σ3 H6 fun y H7 => ∃ acc, H7 D = some (.lst acc) ∧ acc.length < sizeLine ∧ Nx1 (upd H7 D (.lst (acc ++ [y]))) else Nx1 H6)
        else Nx H3) := by
  refine ⟨fun i m H => m = n - i ∧ i ≤ n ∧ Pv i H, ⟨n, by simp, Nat.zero_le _, h0⟩, ?_⟩
  rintro i m H ⟨rfl, hi, p⟩
  have q := hG i H hi p
  by_cases hlt : i < n
  · exact .inr ⟨w.goes i H hlt q, Pv (i + 1), fun H' p' => ⟨n - (i + 1), by omega, rfl, hlt, p'⟩, fun x H' y => hs i x H H' hlt p (w.yields i H x H' hlt q y)⟩
  · have e : i = n := by omega
    subst e
    exact .inl ⟨w.stops H q, hd H p⟩
/-- the inner clause -/
theorem lc2_in (w : Walk J1 n1 G1 Y1) {g1 : TG} {tt1 : TT} {te : TE} {vs1 : List Nat} {σ2 : L2.St} {H4 : Hp} {D : Addr} {Nx : Hp → Prop} (Pv : Nat → Hp → Prop) (h0 : Pv 0 H4) (hG : ∀ i H, i ≤ n1 → Pv i H → G1 H)
    (hs : ∀ i x H H', i < n1 → Pv i H → Y1 i H x H' → g1 x (wipe σ2 vs1) H' fun σ3 H5 => wipe σ3 vs1 = wipe σ2 vs1 ∧ tt1 σ3 H5 fun b H6 =>
      if b = true then te σ3 H6 fun y H7 => ∃ acc, H7 D = some (.lst acc) ∧ acc.length < sizeLine ∧ Pv (i + 1) (upd H7 D (.lst (acc ++ [y]))) else Pv (i + 1) H6) (hd : ∀ H, Pv n1 H → Nx H) :
    ∃ W1 : Nat → Nat → Hp → Prop, (∃ m, W1 0 m H4) ∧ ∀ j k H, W1 j k H →
      (J1.stop j H ∧ Nx H) ∨ (J1.go j H ∧ ∃ Nx1 : Hp → Prop, (∀ H', Nx1 H' → ∃ k', k' < k ∧ W1 (j + 1) k' H') ∧ ∀ x H', J1.yld j H x H' → g1 x (wipe σ2 vs1) H' fun σ3 H5 => wipe σ3 vs1 = wipe σ2 vs1 ∧ tt1 σ3 H5 fun b H6 =>
        if b = true then te σ3 H6 fun y H7 => ∃ acc, H7 D = some (.lst acc) ∧ acc.length < sizeLine ∧ Nx1 (upd H7 D (.lst (acc ++ [y]))) else Nx1 H6) := by
  refine ⟨fun i m H => m = n1 - i ∧ i ≤ n1 ∧ Pv i H, ⟨n1, by simp, Nat.zero_le _, h0⟩, ?_⟩
  rintro i m H ⟨rfl, hi, p⟩
  have q := hG i H hi p
  by_cases hlt : i < n1
  · exact .inr ⟨w.goes i H hlt q, Pv (i + 1), fun H' p' => ⟨n1 - (i + 1), by omega, rfl, hlt, p'⟩, fun x H' y => hs i x H H' hlt p (w.yields i H x H' hlt q y)⟩
  · have e : i = n1 := by omega
    subst e
    exact .inl ⟨w.stops H q, hd H p⟩
/-- a dict comprehension -/
theorem dc_it (w : Walk J n G Y) {g : TG} {tt : TT} {tk tv : TE} {vs : List Nat} {σ : L2.St} {H1 : Hp} {D : Addr} {Qd : Hp → Prop} (Pv : Nat → Hp → Prop) (h0 : Pv 0 (upd H1 D (.dK []))) (hG : ∀ i H, i ≤ n → Pv i H → G H)
    (hs : ∀ i x H H', i < n → Pv i H → Y i H x H' → g x (wipe σ vs) H' fun σ2 H2 => wipe σ2 vs = wipe σ vs ∧ tt σ2 H2 fun b H3 =>
      if b = true then tk σ2 H3 fun y H4 => tv σ2 H4 fun z H5 => ∃ kvs k, y = kV k ∧ H5 D = some (.dK kvs) ∧ kvs.length < sizeLine ∧ Pv (i + 1) (upd H5 D (.dK (putK kvs k z))) else Pv (i + 1) H3) (hd : ∀ H, Pv n H → Qd H) :
    ∃ W : Nat → Nat → Hp → Prop, (∃ m, W 0 m (upd H1 D (.dK []))) ∧ ∀ i m H, W i m H →
      (J.stop i H ∧ Qd H) ∨ (J.go i H ∧ ∃ Nx : Hp → Prop, (∀ H', Nx H' → ∃ m', m' < m ∧ W (i + 1) m' H') ∧ ∀ x H', J.yld i H x H' → g x (wipe σ vs) H' fun σ2 H2 => wipe σ2 vs = wipe σ vs ∧ tt σ2 H2 fun b H3 =>
        if b = true then tk σ2 H3 fun y H4 => tv σ2 H4 fun z H5 => ∃ kvs k, y = kV k ∧ H5 D = some (.dK kvs) ∧ kvs.length < sizeLine ∧ Nx (upd H5 D (.dK (putK kvs k z))) else Nx H3) := by
  refine ⟨fun i m H => m = n - i ∧ i ≤ n ∧ Pv i H, ⟨n, by simp, Nat.zero_le _, h0⟩, ?_⟩
  rintro i m H ⟨rfl, hi, p⟩
  have q := hG i H hi p
  by_cases hlt : i < n
  · exact .inr ⟨w.goes i H hlt q, Pv (i + 1), fun H' p' => ⟨n - (i + 1), by omega, rfl, hlt, p'⟩, fun x H' y => hs i x H H' hlt p (w.yields i H x H' hlt q y)⟩
  · have e : i = n := by omega
    subst e
    exact .inl ⟨w.stops H q, hd H p⟩
end
section
variable {X : Cx}
/-- xs[i], by values: for xs[i] += e -/
def rGetI : V → V → Hp → VK → Prop := fun x y H Q => ∃ p xs i j v, x = .ref p ∧ y = .int i ∧ H p = some (.lst xs) ∧ i = ((j : Nat) : Int) ∧ xs[j]? = some v ∧ Q v H
theorem get_listI : PGet X rGetI := by
  intro pins s σ H x y ov iv Q I rx ry h
  obtain ⟨p, xs, i, j, z, rfl, rfl, hq, rfl, he, q⟩ := h
  cases rx
  obtain ⟨t, rfl⟩ := ry
  obtain ⟨its, r, pl, hz⟩ := I.list (.inl (.inl hq))
  obtain ⟨w, ew, rw'⟩ := r.get he
  have hl := r.length
  have hn := line63
  have lt := (List.getElem?_eq_some_iff.mp he).1
  exact wpAny_getItem_list (x := w) pl.isList (by omega) (by omega) (by simpa using ew) ⟨z, H, I, rw', q⟩
end
theorem hu1 {k : Nat} {A : Around} (r : Room k A) : A.units + 1 < cLine := by have := r.un; omega
theorem hu65 {k : Nat} {A : Around} (r : Room k A) : A.units + 65 < cLine := by have := r.un; omega
theorem hu4 {k : Nat} {A : Around} (r : Room k A) : A.units + 4 < cLine := by have := r.un; omega
/-- tuple(xs), said for comprehensions -/
def rTupK (K : PySem.W.Frag) : List V → Hp → VK → Prop := fun xs H Q => ∃ p ys, xs = [.ref p] ∧ ((SqL K H p ys ∧ ∀ l, H l = none → Q (.ref l) (upd H l (.tup ys))) ∨ (SqT K H p ys ∧ Q (.ref p) H))
end GC

/-! () * n, the tuple itself. -/
namespace GRe
open PySem PySem.Spec PyProof.Rows L2 Builtin
theorem mul0 (l : Addr) (n : Nat) (dd : Option Addr) (sl : Array (Option Value)) (x : Int) (u : Tok) (hx : (decide (x < -2 ^ 63) || decide (x ≥ 2 ^ 63)) = false) :
    Meets (Builtin.«tuple.__mul__» ⟨[.ref l, .int x u], []⟩) (fun _ R s => s.heap.get? l = some { cls := .type "tuple", dict := dd, data := .seq #[] n, slots := sl } ∧ R (.ok (.ret (.ref l))) s) := by
  refine Meets.of_wp fun prog w A R s both => ?_
  obtain ⟨h0, gs, dr, tk, os⟩ := s
  obtain ⟨isT, back⟩ := both
  wp_walk
  rw [if_neg (by rw [hx]; decide)]
  have ld : ∀ {B : Around} {F : Value → Shared → Prop} {G : Obj → Shared → Prop}, G { cls := .type "tuple", dict := dd, data := .seq #[] n, slots := sl } ⟨h0, gs, dr, tk, os⟩ → wpAny (model prog w) B (load l) G F ⟨h0, gs, dr, tk, os⟩ := fun g => wpAny_load' isT g
  unfold Tuple.tupleItemsOf Tuple.tupleIsExact
  wp_walk using ld
  exact ⟨_, rfl, back⟩
/-- () * k -/
def rRep0 (K : PySem.W.Frag) : R2 := fun x y H Q => ∃ l k, x = .ref l ∧ y = .int k ∧ SqT K H l [] ∧ 0 ≤ k ∧ k ≤ 1000 ∧ Q (.ref l) H
theorem op_rep0 {X : Cx} : OpR X (binaryOp .Mult) (rRep0 X.K) := by
  intro pins s σ H x y v u Q I rx ry h
  obtain ⟨l, k, rfl, rfl, hs, k0, k1, q⟩ := h
  obtain ⟨its, rv, ⟨o, ho, hc, n, hd⟩, hz⟩ := I.tuple hs
  cases rv
  have rx : v = .ref l := rx
  subst rx
  obtain ⟨t, rfl⟩ : ∃ t, u = .int k t := ry
  obtain ⟨cl, dd, dat, sl⟩ := o
  have hc : cl = .type "tuple" := hc
  have hd : dat = .seq #[] n := hd
  subst hc hd
  refine wpAny_binaryOp_repeat_ref (T := "tuple") (U := "int") (id := "tuple.__mul__") (idr := "int.__rmul__") (by decide) ⟨_, ho, rfl⟩ (fun s' => typeIs_int s' _ _) noFill_tuple_mul F.fills_int_mul F.slot_int_rmul repeat_tuple F.slot_int_index.lookup ?_
  refine call_meets F.slot_int_rmul (typeIs_int _ _ _) F.entry_int_rmul (F.args_int_rmul_2 _ _) (int_rmul_tuple k t l #[] n dd sl) ⟨ho, rfl, ⟨_, ho, rfl⟩, ?_⟩
  refine call_meets F.slot_tuple_mul ⟨_, ho, rfl⟩ F.entry_tuple_mul (F.args_tuple_mul_2 _ _) (mul0 l n dd sl k t ?_) ⟨ho, ?_⟩
  · rw [decide_eq_false (show ¬ k < -2 ^ 63 by omega), decide_eq_false (show ¬ k ≥ 2 ^ 63 by omega)]
    rfl
  · exact ⟨.ref l, H, I, rfl, q⟩
end GRe

namespace KX
open PySem L2
/-! ### the text by places -/
def top (i : Nat) : Stmt := PySem.Challenge.pw_exactbeats_k81_arrivals_judged_as_texts.main.body.getD i (.Pass ⟨0, 0, 0, 0⟩)
abbrev s_is_integer : Stmt := top 5
abbrev N_is_integer : List Str := ["thing"]
abbrev P_is_integer : List Str := ["thing"]
theorem sc_is_integer : FnScope N_is_integer P_is_integer (defScope s_is_integer) := ⟨rfl, rfl, rfl, by decide +kernel, rfl, by decide +kernel, by decide +kernel⟩
abbrev s_is_integer_from : Stmt := top 6
abbrev N_is_integer_from : List Str := ["least", "greatest", "thing"]
abbrev P_is_integer_from : List Str := ["least", "greatest", "thing"]
theorem sc_is_integer_from : FnScope N_is_integer_from P_is_integer_from (defScope s_is_integer_from) := ⟨rfl, rfl, rfl, by decide +kernel, rfl, by decide +kernel, by decide +kernel⟩
abbrev s_is_number_below : Stmt := top 7
abbrev N_is_number_below : List Str := ["bound", "thing"]
abbrev P_is_number_below : List Str := ["bound", "thing"]
theorem sc_is_number_below : FnScope N_is_number_below P_is_number_below (defScope s_is_number_below) := ⟨rfl, rfl, rfl, by decide +kernel, rfl, by decide +kernel, by decide +kernel⟩
abbrev s_is_tuple_of : Stmt := top 8
abbrev N_is_tuple_of : List Str := ["many", "thing"]
abbrev P_is_tuple_of : List Str := ["many", "thing"]
theorem sc_is_tuple_of : FnScope N_is_tuple_of P_is_tuple_of (defScope s_is_tuple_of) := ⟨rfl, rfl, rfl, by decide +kernel, rfl, by decide +kernel, by decide +kernel⟩
abbrev s_is_lot_below : Stmt := top 9
abbrev N_is_lot_below : List Str := ["bound", "thing", "last", "item"]
abbrev P_is_lot_below : List Str := ["bound", "thing"]
theorem sc_is_lot_below : FnScope N_is_lot_below P_is_lot_below (defScope s_is_lot_below) := ⟨rfl, rfl, rfl, by decide +kernel, rfl, by decide +kernel, by decide +kernel⟩
abbrev s_are_outs : Stmt := top 16
abbrev N_are_outs : List Str := ["lines", "most", "thing"]
abbrev P_are_outs : List Str := ["lines", "most", "thing"]
theorem sc_are_outs : FnScope N_are_outs P_are_outs (defScope s_are_outs) := ⟨rfl, rfl, rfl, by decide +kernel, rfl, by decide +kernel, by decide +kernel⟩
abbrev s_is_arrival : Stmt := top 17
abbrev N_is_arrival : List Str := ["lines", "most", "thing", "stream", "kind", "outs"]
abbrev P_is_arrival : List Str := ["lines", "most", "thing"]
theorem sc_is_arrival : FnScope N_is_arrival P_is_arrival (defScope s_is_arrival) := ⟨rfl, rfl, rfl, by decide +kernel, rfl, by decide +kernel, by decide +kernel⟩
abbrev s_first_wrong_item : Stmt := top 18
abbrev N_first_wrong_item : List Str := ["lines", "most", "coming", "line", "item"]
abbrev P_first_wrong_item : List Str := ["lines", "most", "coming"]
theorem sc_first_wrong_item : FnScope N_first_wrong_item P_first_wrong_item (defScope s_first_wrong_item) := ⟨rfl, rfl, rfl, by decide +kernel, rfl, by decide +kernel, by decide +kernel⟩
abbrev s_arrivals_fault : Stmt := top 19
abbrev N_arrivals_fault : List Str := ["lines", "most", "thing", "beat", "coming", "line"]
abbrev P_arrivals_fault : List Str := ["lines", "most", "thing"]
theorem sc_arrivals_fault : FnScope N_arrivals_fault P_arrivals_fault (defScope s_arrivals_fault) := ⟨rfl, rfl, rfl, by decide +kernel, rfl, by decide +kernel, by decide +kernel⟩
abbrev s_are_texted : Stmt := top 21
abbrev N_are_texted : List Str := ["thing"]
abbrev P_are_texted : List Str := ["thing"]
theorem sc_are_texted : FnScope N_are_texted P_are_texted (defScope s_are_texted) := ⟨rfl, rfl, rfl, by decide +kernel, rfl, by decide +kernel, by decide +kernel⟩
abbrev s_item_text : Stmt := top 22
abbrev N_item_text : List Str := ["item", "stream", "kind", "outs", "told", "output"]
abbrev P_item_text : List Str := ["item"]
theorem sc_item_text : FnScope N_item_text P_item_text (defScope s_item_text) := ⟨rfl, rfl, rfl, by decide +kernel, rfl, by decide +kernel, by decide +kernel⟩
abbrev s_coming_text : Stmt := top 23
abbrev N_coming_text : List Str := ["coming", "item"]
abbrev P_coming_text : List Str := ["coming"]
theorem sc_coming_text : FnScope N_coming_text P_coming_text (defScope s_coming_text) := ⟨rfl, rfl, rfl, by decide +kernel, rfl, by decide +kernel, by decide +kernel⟩
abbrev s_arrivals_text : Stmt := top 24
abbrev N_arrivals_text : List Str := ["arrivals", "coming"]
abbrev P_arrivals_text : List Str := ["arrivals"]
theorem sc_arrivals_text : FnScope N_arrivals_text P_arrivals_text (defScope s_arrivals_text) := ⟨rfl, rfl, rfl, by decide +kernel, rfl, by decide +kernel, by decide +kernel⟩
abbrev s_law_deck : Stmt := top 26
abbrev N_law_deck : List Str := ["_law_script", "_law_seed", "_law_cell"]
abbrev P_law_deck : List Str := ["_law_script"]
theorem sc_law_deck : FnScope N_law_deck P_law_deck (defScope s_law_deck) := ⟨rfl, rfl, rfl, by decide +kernel, rfl, by decide +kernel, by decide +kernel⟩
abbrev s_law_mixed : Stmt := top 27
abbrev N_law_mixed : List Str := ["_law_cell", "_law_turn", "_law_number"]
abbrev P_law_mixed : List Str := ["_law_cell", "_law_turn"]
theorem sc_law_mixed : FnScope N_law_mixed P_law_mixed (defScope s_law_mixed) := ⟨rfl, rfl, rfl, by decide +kernel, rfl, by decide +kernel, by decide +kernel⟩
abbrev s_law_draw : Stmt := top 28
abbrev N_law_draw : List Str := ["_law_deck_here", "_law_many", "_law_cell", "_law_found"]
abbrev P_law_draw : List Str := ["_law_deck_here", "_law_many"]
theorem sc_law_draw : FnScope N_law_draw P_law_draw (defScope s_law_draw) := ⟨rfl, rfl, rfl, by decide +kernel, rfl, by decide +kernel, by decide +kernel⟩
abbrev s_law_outs : Stmt := top 30
abbrev N_law_outs : List Str := ["_law_deck_here", "_law_lines", "_law_most", "_law_hot", "_law_found", "_law_k", "_law_out"]
abbrev P_law_outs : List Str := ["_law_deck_here", "_law_lines", "_law_most", "_law_hot"]
theorem sc_law_outs : FnScope N_law_outs P_law_outs (defScope s_law_outs) := ⟨rfl, rfl, rfl, by decide +kernel, rfl, by decide +kernel, by decide +kernel⟩
abbrev s_law_items : Stmt := top 31
abbrev N_law_items : List Str := ["_law_deck_here", "_law_lines", "_law_most", "_law_dense", "_law_hot", "_law_found", "_law_line", "_law_stream"]
abbrev P_law_items : List Str := ["_law_deck_here", "_law_lines", "_law_most", "_law_dense", "_law_hot"]
theorem sc_law_items : FnScope N_law_items P_law_items (defScope s_law_items) := ⟨rfl, rfl, rfl, by decide +kernel, rfl, by decide +kernel, by decide +kernel⟩
abbrev s_law_arrivals : Stmt := top 32
abbrev N_law_arrivals : List Str := ["_law_deck_here", "_law_lines", "_law_most", "_law_beats", "_law_dense", "_law_hot", "_law_beat"]
abbrev P_law_arrivals : List Str := ["_law_deck_here", "_law_lines", "_law_most", "_law_beats"]
theorem sc_law_arrivals : FnScope N_law_arrivals P_law_arrivals (defScope s_law_arrivals) := ⟨rfl, rfl, rfl, by decide +kernel, rfl, by decide +kernel, by decide +kernel⟩
abbrev s_law_arrival_text : Stmt := top 33
abbrev N_law_arrival_text : List Str := ["_law_item", "_law_out"]
abbrev P_law_arrival_text : List Str := ["_law_item"]
theorem sc_law_arrival_text : FnScope N_law_arrival_text P_law_arrival_text (defScope s_law_arrival_text) := ⟨rfl, rfl, rfl, by decide +kernel, rfl, by decide +kernel, by decide +kernel⟩
abbrev s_law_beat_text : Stmt := top 34
abbrev N_law_beat_text : List Str := ["_law_items_here", "_law_item"]
abbrev P_law_beat_text : List Str := ["_law_items_here"]
theorem sc_law_beat_text : FnScope N_law_beat_text P_law_beat_text (defScope s_law_beat_text) := ⟨rfl, rfl, rfl, by decide +kernel, rfl, by decide +kernel, by decide +kernel⟩
abbrev s_law_is_within : Stmt := top 35
abbrev N_law_is_within : List Str := ["_law_thing", "_law_least", "_law_most"]
abbrev P_law_is_within : List Str := ["_law_thing", "_law_least", "_law_most"]
theorem sc_law_is_within : FnScope N_law_is_within P_law_is_within (defScope s_law_is_within) := ⟨rfl, rfl, rfl, by decide +kernel, rfl, by decide +kernel, by decide +kernel⟩
abbrev s_law_is_item : Stmt := top 36
abbrev N_law_is_item : List Str := ["_law_lines", "_law_thing", "_law_k", "_law_out"]
abbrev P_law_is_item : List Str := ["_law_lines", "_law_thing"]
theorem sc_law_is_item : FnScope N_law_is_item P_law_is_item (defScope s_law_is_item) := ⟨rfl, rfl, rfl, by decide +kernel, rfl, by decide +kernel, by decide +kernel⟩
abbrev s_law_are_arrivals : Stmt := top 37
abbrev N_law_are_arrivals : List Str := ["_law_thing", "_law_items_here", "_law_item"]
abbrev P_law_are_arrivals : List Str := ["_law_thing"]
theorem sc_law_are_arrivals : FnScope N_law_are_arrivals P_law_are_arrivals (defScope s_law_are_arrivals) := ⟨rfl, rfl, rfl, by decide +kernel, rfl, by decide +kernel, by decide +kernel⟩
abbrev s_law_odd_item : Stmt := top 38
abbrev N_law_odd_item : List Str := ["_law_deck_here", "_law_lines", "_law_outs_here", "_law_odd"]
abbrev P_law_odd_item : List Str := ["_law_deck_here", "_law_lines"]
theorem sc_law_odd_item : FnScope N_law_odd_item P_law_odd_item (defScope s_law_odd_item) := ⟨rfl, rfl, rfl, by decide +kernel, rfl, by decide +kernel, by decide +kernel⟩
abbrev s_law_spoilt : Stmt := top 39
abbrev N_law_spoilt : List Str := ["_law_deck_here", "_law_arrivals_here", "_law_kind", "_law_at", "_law_items_here", "_law_odd", "_law_more", "_law_line"]
abbrev P_law_spoilt : List Str := ["_law_deck_here", "_law_arrivals_here"]
theorem sc_law_spoilt : FnScope N_law_spoilt P_law_spoilt (defScope s_law_spoilt) := ⟨rfl, rfl, rfl, by decide +kernel, rfl, by decide +kernel, by decide +kernel⟩
abbrev s_law_told : Stmt := top 40
abbrev N_law_told : List Str := ["_law_thing", "_law_found", "error"]
abbrev P_law_told : List Str := ["_law_thing"]
theorem sc_law_told : FnScope N_law_told P_law_told (defScope s_law_told) := ⟨rfl, rfl, rfl, by decide +kernel, rfl, by decide +kernel, by decide +kernel⟩
abbrev s_law : Stmt := top 41
abbrev N_law : List Str := ["_law_script", "_law_deck_here", "_law_lines", "_law_turn", "_law_thing", "_law_k", "_law_due", "_law_items_here"]
abbrev P_law : List Str := ["_law_script"]
theorem sc_law : FnScope N_law P_law (defScope s_law) := ⟨rfl, rfl, rfl, by decide +kernel, rfl, by decide +kernel, by decide +kernel⟩
/-! ### what the top has left -/
structure Adr where
  a_is_integer : Addr
  d_is_integer : FuncData
  a_is_integer_from : Addr
  d_is_integer_from : FuncData
  a_is_number_below : Addr
  d_is_number_below : FuncData
  a_is_tuple_of : Addr
  d_is_tuple_of : FuncData
  a_is_lot_below : Addr
  d_is_lot_below : FuncData
  a_are_outs : Addr
  d_are_outs : FuncData
  a_is_arrival : Addr
  d_is_arrival : FuncData
  a_first_wrong_item : Addr
  d_first_wrong_item : FuncData
  a_arrivals_fault : Addr
  d_arrivals_fault : FuncData
  a_are_texted : Addr
  d_are_texted : FuncData
  a_item_text : Addr
  d_item_text : FuncData
  a_coming_text : Addr
  d_coming_text : FuncData
  a_arrivals_text : Addr
  d_arrivals_text : FuncData
  a_law_deck : Addr
  d_law_deck : FuncData
  a_law_mixed : Addr
  d_law_mixed : FuncData
  a_law_draw : Addr
  d_law_draw : FuncData
  a_law_outs : Addr
  d_law_outs : FuncData
  a_law_items : Addr
  d_law_items : FuncData
  a_law_arrivals : Addr
  d_law_arrivals : FuncData
  a_law_arrival_text : Addr
  d_law_arrival_text : FuncData
  a_law_beat_text : Addr
  d_law_beat_text : FuncData
  a_law_is_within : Addr
  d_law_is_within : FuncData
  a_law_is_item : Addr
  d_law_is_item : FuncData
  a_law_are_arrivals : Addr
  d_law_are_arrivals : FuncData
  a_law_odd_item : Addr
  d_law_odd_item : FuncData
  a_law_spoilt : Addr
  d_law_spoilt : FuncData
  a_law_told : Addr
  d_law_told : FuncData
  a_law : Addr
  d_law : FuncData
  c_FabricError : Addr
  c_NoArrivals : Addr
  c_NoSaying : Addr
structure Top (K : PySem.W.Frag) (mg : Str → Option Value) (A : Adr) : Prop where
  F_is_integer : Fun K "is_integer" "is_integer" s_is_integer A.a_is_integer A.d_is_integer
  g_is_integer : mg "is_integer" = some (.ref A.a_is_integer)
  b_is_integer : Binds K A.d_is_integer P_is_integer []
  F_is_integer_from : Fun K "is_integer_from" "is_integer_from" s_is_integer_from A.a_is_integer_from A.d_is_integer_from
  g_is_integer_from : mg "is_integer_from" = some (.ref A.a_is_integer_from)
  b_is_integer_from : Binds K A.d_is_integer_from P_is_integer_from []
  F_is_number_below : Fun K "is_number_below" "is_number_below" s_is_number_below A.a_is_number_below A.d_is_number_below
  g_is_number_below : mg "is_number_below" = some (.ref A.a_is_number_below)
  b_is_number_below : Binds K A.d_is_number_below P_is_number_below []
  F_is_tuple_of : Fun K "is_tuple_of" "is_tuple_of" s_is_tuple_of A.a_is_tuple_of A.d_is_tuple_of
  g_is_tuple_of : mg "is_tuple_of" = some (.ref A.a_is_tuple_of)
  b_is_tuple_of : Binds K A.d_is_tuple_of P_is_tuple_of []
  F_is_lot_below : Fun K "is_lot_below" "is_lot_below" s_is_lot_below A.a_is_lot_below A.d_is_lot_below
  g_is_lot_below : mg "is_lot_below" = some (.ref A.a_is_lot_below)
  b_is_lot_below : Binds K A.d_is_lot_below P_is_lot_below []
  F_are_outs : Fun K "are_outs" "are_outs" s_are_outs A.a_are_outs A.d_are_outs
  g_are_outs : mg "are_outs" = some (.ref A.a_are_outs)
  b_are_outs : Binds K A.d_are_outs P_are_outs []
  F_is_arrival : Fun K "is_arrival" "is_arrival" s_is_arrival A.a_is_arrival A.d_is_arrival
  g_is_arrival : mg "is_arrival" = some (.ref A.a_is_arrival)
  b_is_arrival : Binds K A.d_is_arrival P_is_arrival []
  F_first_wrong_item : Fun K "first_wrong_item" "first_wrong_item" s_first_wrong_item A.a_first_wrong_item A.d_first_wrong_item
  g_first_wrong_item : mg "first_wrong_item" = some (.ref A.a_first_wrong_item)
  b_first_wrong_item : Binds K A.d_first_wrong_item P_first_wrong_item []
  F_arrivals_fault : Fun K "arrivals_fault" "arrivals_fault" s_arrivals_fault A.a_arrivals_fault A.d_arrivals_fault
  g_arrivals_fault : mg "arrivals_fault" = some (.ref A.a_arrivals_fault)
  b_arrivals_fault : Binds K A.d_arrivals_fault P_arrivals_fault []
  F_are_texted : Fun K "are_texted" "are_texted" s_are_texted A.a_are_texted A.d_are_texted
  g_are_texted : mg "are_texted" = some (.ref A.a_are_texted)
  b_are_texted : Binds K A.d_are_texted P_are_texted []
  F_item_text : Fun K "item_text" "item_text" s_item_text A.a_item_text A.d_item_text
  g_item_text : mg "item_text" = some (.ref A.a_item_text)
  b_item_text : Binds K A.d_item_text P_item_text []
  F_coming_text : Fun K "coming_text" "coming_text" s_coming_text A.a_coming_text A.d_coming_text
  g_coming_text : mg "coming_text" = some (.ref A.a_coming_text)
  b_coming_text : Binds K A.d_coming_text P_coming_text []
  F_arrivals_text : Fun K "arrivals_text" "arrivals_text" s_arrivals_text A.a_arrivals_text A.d_arrivals_text
  g_arrivals_text : mg "arrivals_text" = some (.ref A.a_arrivals_text)
  b_arrivals_text : Binds K A.d_arrivals_text P_arrivals_text []
  F_law_deck : Fun K "_law_deck" "_law_deck" s_law_deck A.a_law_deck A.d_law_deck
  g_law_deck : mg "_law_deck" = some (.ref A.a_law_deck)
  b_law_deck : Binds K A.d_law_deck P_law_deck []
  F_law_mixed : Fun K "_law_mixed" "_law_mixed" s_law_mixed A.a_law_mixed A.d_law_mixed
  g_law_mixed : mg "_law_mixed" = some (.ref A.a_law_mixed)
  b_law_mixed : Binds K A.d_law_mixed P_law_mixed []
  F_law_draw : Fun K "_law_draw" "_law_draw" s_law_draw A.a_law_draw A.d_law_draw
  g_law_draw : mg "_law_draw" = some (.ref A.a_law_draw)
  b_law_draw : Binds K A.d_law_draw P_law_draw []
  F_law_outs : Fun K "_law_outs" "_law_outs" s_law_outs A.a_law_outs A.d_law_outs
  g_law_outs : mg "_law_outs" = some (.ref A.a_law_outs)
  b_law_outs : Binds K A.d_law_outs P_law_outs []
  F_law_items : Fun K "_law_items" "_law_items" s_law_items A.a_law_items A.d_law_items
  g_law_items : mg "_law_items" = some (.ref A.a_law_items)
  b_law_items : Binds K A.d_law_items P_law_items []
  F_law_arrivals : Fun K "_law_arrivals" "_law_arrivals" s_law_arrivals A.a_law_arrivals A.d_law_arrivals
  g_law_arrivals : mg "_law_arrivals" = some (.ref A.a_law_arrivals)
  b_law_arrivals : Binds K A.d_law_arrivals P_law_arrivals []
  F_law_arrival_text : Fun K "_law_arrival_text" "_law_arrival_text" s_law_arrival_text A.a_law_arrival_text A.d_law_arrival_text
  g_law_arrival_text : mg "_law_arrival_text" = some (.ref A.a_law_arrival_text)
  b_law_arrival_text : Binds K A.d_law_arrival_text P_law_arrival_text []
  F_law_beat_text : Fun K "_law_beat_text" "_law_beat_text" s_law_beat_text A.a_law_beat_text A.d_law_beat_text
  g_law_beat_text : mg "_law_beat_text" = some (.ref A.a_law_beat_text)
  b_law_beat_text : Binds K A.d_law_beat_text P_law_beat_text []
  F_law_is_within : Fun K "_law_is_within" "_law_is_within" s_law_is_within A.a_law_is_within A.d_law_is_within
  g_law_is_within : mg "_law_is_within" = some (.ref A.a_law_is_within)
  b_law_is_within : Binds K A.d_law_is_within P_law_is_within []
  F_law_is_item : Fun K "_law_is_item" "_law_is_item" s_law_is_item A.a_law_is_item A.d_law_is_item
  g_law_is_item : mg "_law_is_item" = some (.ref A.a_law_is_item)
  b_law_is_item : Binds K A.d_law_is_item P_law_is_item []
  F_law_are_arrivals : Fun K "_law_are_arrivals" "_law_are_arrivals" s_law_are_arrivals A.a_law_are_arrivals A.d_law_are_arrivals
  g_law_are_arrivals : mg "_law_are_arrivals" = some (.ref A.a_law_are_arrivals)
  b_law_are_arrivals : Binds K A.d_law_are_arrivals P_law_are_arrivals []
  F_law_odd_item : Fun K "_law_odd_item" "_law_odd_item" s_law_odd_item A.a_law_odd_item A.d_law_odd_item
  g_law_odd_item : mg "_law_odd_item" = some (.ref A.a_law_odd_item)
  b_law_odd_item : Binds K A.d_law_odd_item P_law_odd_item []
  F_law_spoilt : Fun K "_law_spoilt" "_law_spoilt" s_law_spoilt A.a_law_spoilt A.d_law_spoilt
  g_law_spoilt : mg "_law_spoilt" = some (.ref A.a_law_spoilt)
  b_law_spoilt : Binds K A.d_law_spoilt P_law_spoilt []
  F_law_told : Fun K "_law_told" "_law_told" s_law_told A.a_law_told A.d_law_told
  g_law_told : mg "_law_told" = some (.ref A.a_law_told)
  b_law_told : Binds K A.d_law_told P_law_told []
  F_law : Fun K "law" "law" s_law A.a_law A.d_law
  g_law : mg "law" = some (.ref A.a_law)
  b_law : Binds K A.d_law P_law []
  gc_FabricError : mg "FabricError" = some (.ref A.c_FabricError)
  gc_NoArrivals : mg "NoArrivals" = some (.ref A.c_NoArrivals)
  gc_NoSaying : mg "NoSaying" = some (.ref A.c_NoSaying)
  x_NoArrivals : PySem.W.excIn K A.c_NoArrivals [.type "ValueError", .type "Exception", .type "BaseException", .type "object"] "ValueError.__new__" = true
  kp_NoArrivals : PySem.W.keepIn K (.ref A.c_NoArrivals) = true
  s_NoArrivals : PySem.W.subIn K (.ref A.c_NoArrivals) (.type "BaseException") = some true
  t_NoArrivals : PySem.W.typeIn K (.ref A.c_NoArrivals) = some (.type "type")
  e1_NoArrivals : PySem.W.findIn K (.ref A.c_NoArrivals) "__getattribute__" = some (some (.builtin "BaseException.__getattribute__"))
  e2_NoArrivals : PySem.W.findIn K (.ref A.c_NoArrivals) "__getattr__" = some none
  e3_NoArrivals : PySem.W.hasDictIn K A.c_NoArrivals = true
  e4_NoArrivals : PySem.W.findIn K (.ref A.c_NoArrivals) "__class__" = some (some (.builtin "object.__class__"))
  e5_NoArrivals : PySem.W.mroIn K A.c_NoArrivals (.type "object") = some true
  en1 : PySem.W.specialIn K (.builtin "object.__class__") "__get__" = some (some (.builtin "getset_descriptor.__get__"))
  en2 : PySem.W.takesIn K (.builtin "object.__class__") = some true
  kt_NoArrivals_NoArrivals : PySem.W.kitOne K (.ref A.c_NoArrivals) (.ref A.c_NoArrivals) = some true
  xm_NoArrivals_NoArrivals : PySem.W.exmOne K (.ref A.c_NoArrivals) (.ref A.c_NoArrivals) = some true
  kt_NoArrivals_NoSaying : PySem.W.kitOne K (.ref A.c_NoArrivals) (.ref A.c_NoSaying) = some false
  xm_NoArrivals_NoSaying : PySem.W.exmOne K (.ref A.c_NoArrivals) (.ref A.c_NoSaying) = some false
  kt_NoArrivals_FabricError : PySem.W.kitOne K (.ref A.c_NoArrivals) (.ref A.c_FabricError) = some true
  xm_NoArrivals_FabricError : PySem.W.exmOne K (.ref A.c_NoArrivals) (.ref A.c_FabricError) = some true
  k_MOST_LINES : ∃ t, mg "MOST_LINES" = some (.int 12 t)
  k_MOST_COPIES : ∃ t, mg "MOST_COPIES" = some (.int 3 t)
  k_MOST_BEATS : ∃ t, mg "MOST_BEATS" = some (.int 200 t)
  k_STREAMS : ∃ t, mg "STREAMS" = some (.int 100 t)
  k_KINDS : ∃ t, mg "KINDS" = some (.int 8 t)
  z_abs : mg "abs" = none
  z_all : mg "all" = none
  z_bool : mg "bool" = none
  z_enumerate : mg "enumerate" = none
  z_int : mg "int" = none
  z_isinstance : mg "isinstance" = none
  z_len : mg "len" = none
  z_list : mg "list" = none
  z_range : mg "range" = none
  z_sorted : mg "sorted" = none
  z_str : mg "str" = none
  z_tuple : mg "tuple" = none
theorem top_mk {l : PySem.W.OpenLaw} {w : World} {K : PySem.W.Frag} {h : Heap} {mg : Str → Option Value} (X : K.In h) (G : h.Ns mainGlobals mg)
    {f_is_integer : Addr} {od_is_integer an_is_integer : Option Addr} {sl_is_integer : Array (Option Value)} {oc_is_integer kV_is_integer dc_is_integer pm_is_integer cd_is_integer ct_is_integer : Value}
    {f_is_integer_from : Addr} {od_is_integer_from an_is_integer_from : Option Addr} {sl_is_integer_from : Array (Option Value)} {oc_is_integer_from kV_is_integer_from dc_is_integer_from pm_is_integer_from cd_is_integer_from ct_is_integer_from : Value}
    {f_is_number_below : Addr} {od_is_number_below an_is_number_below : Option Addr} {sl_is_number_below : Array (Option Value)} {oc_is_number_below kV_is_number_below dc_is_number_below pm_is_number_below cd_is_number_below ct_is_number_below : Value}
    {f_is_tuple_of : Addr} {od_is_tuple_of an_is_tuple_of : Option Addr} {sl_is_tuple_of : Array (Option Value)} {oc_is_tuple_of kV_is_tuple_of dc_is_tuple_of pm_is_tuple_of cd_is_tuple_of ct_is_tuple_of : Value}
    {f_is_lot_below : Addr} {od_is_lot_below an_is_lot_below : Option Addr} {sl_is_lot_below : Array (Option Value)} {oc_is_lot_below kV_is_lot_below dc_is_lot_below pm_is_lot_below cd_is_lot_below ct_is_lot_below : Value}
    {f_are_outs : Addr} {od_are_outs an_are_outs : Option Addr} {sl_are_outs : Array (Option Value)} {oc_are_outs kV_are_outs dc_are_outs pm_are_outs cd_are_outs ct_are_outs : Value}
    {f_is_arrival : Addr} {od_is_arrival an_is_arrival : Option Addr} {sl_is_arrival : Array (Option Value)} {oc_is_arrival kV_is_arrival dc_is_arrival pm_is_arrival cd_is_arrival ct_is_arrival : Value}
    {f_first_wrong_item : Addr} {od_first_wrong_item an_first_wrong_item : Option Addr} {sl_first_wrong_item : Array (Option Value)} {oc_first_wrong_item kV_first_wrong_item dc_first_wrong_item pm_first_wrong_item cd_first_wrong_item ct_first_wrong_item : Value}
    {f_arrivals_fault : Addr} {od_arrivals_fault an_arrivals_fault : Option Addr} {sl_arrivals_fault : Array (Option Value)} {oc_arrivals_fault kV_arrivals_fault dc_arrivals_fault pm_arrivals_fault cd_arrivals_fault ct_arrivals_fault : Value}
    {f_are_texted : Addr} {od_are_texted an_are_texted : Option Addr} {sl_are_texted : Array (Option Value)} {oc_are_texted kV_are_texted dc_are_texted pm_are_texted cd_are_texted ct_are_texted : Value}
    {f_item_text : Addr} {od_item_text an_item_text : Option Addr} {sl_item_text : Array (Option Value)} {oc_item_text kV_item_text dc_item_text pm_item_text cd_item_text ct_item_text : Value}
    {f_coming_text : Addr} {od_coming_text an_coming_text : Option Addr} {sl_coming_text : Array (Option Value)} {oc_coming_text kV_coming_text dc_coming_text pm_coming_text cd_coming_text ct_coming_text : Value}
    {f_arrivals_text : Addr} {od_arrivals_text an_arrivals_text : Option Addr} {sl_arrivals_text : Array (Option Value)} {oc_arrivals_text kV_arrivals_text dc_arrivals_text pm_arrivals_text cd_arrivals_text ct_arrivals_text : Value}
    {f_law_deck : Addr} {od_law_deck an_law_deck : Option Addr} {sl_law_deck : Array (Option Value)} {oc_law_deck kV_law_deck dc_law_deck pm_law_deck cd_law_deck ct_law_deck : Value}
    {f_law_mixed : Addr} {od_law_mixed an_law_mixed : Option Addr} {sl_law_mixed : Array (Option Value)} {oc_law_mixed kV_law_mixed dc_law_mixed pm_law_mixed cd_law_mixed ct_law_mixed : Value}
    {f_law_draw : Addr} {od_law_draw an_law_draw : Option Addr} {sl_law_draw : Array (Option Value)} {oc_law_draw kV_law_draw dc_law_draw pm_law_draw cd_law_draw ct_law_draw : Value}
    {f_law_outs : Addr} {od_law_outs an_law_outs : Option Addr} {sl_law_outs : Array (Option Value)} {oc_law_outs kV_law_outs dc_law_outs pm_law_outs cd_law_outs ct_law_outs : Value}
    {f_law_items : Addr} {od_law_items an_law_items : Option Addr} {sl_law_items : Array (Option Value)} {oc_law_items kV_law_items dc_law_items pm_law_items cd_law_items ct_law_items : Value}
    {f_law_arrivals : Addr} {od_law_arrivals an_law_arrivals : Option Addr} {sl_law_arrivals : Array (Option Value)} {oc_law_arrivals kV_law_arrivals dc_law_arrivals pm_law_arrivals cd_law_arrivals ct_law_arrivals : Value}
    {f_law_arrival_text : Addr} {od_law_arrival_text an_law_arrival_text : Option Addr} {sl_law_arrival_text : Array (Option Value)} {oc_law_arrival_text kV_law_arrival_text dc_law_arrival_text pm_law_arrival_text cd_law_arrival_text ct_law_arrival_text : Value}
    {f_law_beat_text : Addr} {od_law_beat_text an_law_beat_text : Option Addr} {sl_law_beat_text : Array (Option Value)} {oc_law_beat_text kV_law_beat_text dc_law_beat_text pm_law_beat_text cd_law_beat_text ct_law_beat_text : Value}
    {f_law_is_within : Addr} {od_law_is_within an_law_is_within : Option Addr} {sl_law_is_within : Array (Option Value)} {oc_law_is_within kV_law_is_within dc_law_is_within pm_law_is_within cd_law_is_within ct_law_is_within : Value}
    {f_law_is_item : Addr} {od_law_is_item an_law_is_item : Option Addr} {sl_law_is_item : Array (Option Value)} {oc_law_is_item kV_law_is_item dc_law_is_item pm_law_is_item cd_law_is_item ct_law_is_item : Value}
    {f_law_are_arrivals : Addr} {od_law_are_arrivals an_law_are_arrivals : Option Addr} {sl_law_are_arrivals : Array (Option Value)} {oc_law_are_arrivals kV_law_are_arrivals dc_law_are_arrivals pm_law_are_arrivals cd_law_are_arrivals ct_law_are_arrivals : Value}
    {f_law_odd_item : Addr} {od_law_odd_item an_law_odd_item : Option Addr} {sl_law_odd_item : Array (Option Value)} {oc_law_odd_item kV_law_odd_item dc_law_odd_item pm_law_odd_item cd_law_odd_item ct_law_odd_item : Value}
    {f_law_spoilt : Addr} {od_law_spoilt an_law_spoilt : Option Addr} {sl_law_spoilt : Array (Option Value)} {oc_law_spoilt kV_law_spoilt dc_law_spoilt pm_law_spoilt cd_law_spoilt ct_law_spoilt : Value}
    {f_law_told : Addr} {od_law_told an_law_told : Option Addr} {sl_law_told : Array (Option Value)} {oc_law_told kV_law_told dc_law_told pm_law_told cd_law_told ct_law_told : Value}
    {f_law : Addr} {od_law an_law : Option Addr} {sl_law : Array (Option Value)} {oc_law kV_law dc_law pm_law cd_law ct_law : Value}
    {c_FabricError : Addr}
    {c_NoArrivals : Addr}
    {c_NoSaying : Addr}
    {t_MOST_LINES : Tok}
    {t_MOST_COPIES : Tok}
    {t_MOST_BEATS : Tok}
    {t_STREAMS : Tok}
    {t_KINDS : Tok}
    (ac_FabricError : PySem.W.nsIn K mainGlobals "FabricError" = some (some (.ref c_FabricError)))
    (ac_NoArrivals : PySem.W.nsIn K mainGlobals "NoArrivals" = some (some (.ref c_NoArrivals)))
    (ac_NoSaying : PySem.W.nsIn K mainGlobals "NoSaying" = some (some (.ref c_NoSaying)))
    (a_is_integer : PySem.W.nsIn K mainGlobals "is_integer" = some (some (.ref f_is_integer)))
    (l_is_integer : K.lookup f_is_integer = some ⟨oc_is_integer, od_is_integer, .func (PySem.W.fnOf "is_integer" "is_integer" (defArgs s_is_integer) (defBody s_is_integer) (defScope s_is_integer) .none kV_is_integer dc_is_integer pm_is_integer an_is_integer cd_is_integer ct_is_integer), sl_is_integer⟩)
    (q_is_integer : PySem.W.codeIn K cd_is_integer "is_integer" = true)
    (p_is_integer : PySem.W.keepIn K (.ref f_is_integer) = true)
    (a_is_integer_from : PySem.W.nsIn K mainGlobals "is_integer_from" = some (some (.ref f_is_integer_from)))
    (l_is_integer_from : K.lookup f_is_integer_from = some ⟨oc_is_integer_from, od_is_integer_from, .func (PySem.W.fnOf "is_integer_from" "is_integer_from" (defArgs s_is_integer_from) (defBody s_is_integer_from) (defScope s_is_integer_from) .none kV_is_integer_from dc_is_integer_from pm_is_integer_from an_is_integer_from cd_is_integer_from ct_is_integer_from), sl_is_integer_from⟩)
    (q_is_integer_from : PySem.W.codeIn K cd_is_integer_from "is_integer_from" = true)
    (p_is_integer_from : PySem.W.keepIn K (.ref f_is_integer_from) = true)
    (a_is_number_below : PySem.W.nsIn K mainGlobals "is_number_below" = some (some (.ref f_is_number_below)))
    (l_is_number_below : K.lookup f_is_number_below = some ⟨oc_is_number_below, od_is_number_below, .func (PySem.W.fnOf "is_number_below" "is_number_below" (defArgs s_is_number_below) (defBody s_is_number_below) (defScope s_is_number_below) .none kV_is_number_below dc_is_number_below pm_is_number_below an_is_number_below cd_is_number_below ct_is_number_below), sl_is_number_below⟩)
    (q_is_number_below : PySem.W.codeIn K cd_is_number_below "is_number_below" = true)
    (p_is_number_below : PySem.W.keepIn K (.ref f_is_number_below) = true)
    (a_is_tuple_of : PySem.W.nsIn K mainGlobals "is_tuple_of" = some (some (.ref f_is_tuple_of)))
    (l_is_tuple_of : K.lookup f_is_tuple_of = some ⟨oc_is_tuple_of, od_is_tuple_of, .func (PySem.W.fnOf "is_tuple_of" "is_tuple_of" (defArgs s_is_tuple_of) (defBody s_is_tuple_of) (defScope s_is_tuple_of) .none kV_is_tuple_of dc_is_tuple_of pm_is_tuple_of an_is_tuple_of cd_is_tuple_of ct_is_tuple_of), sl_is_tuple_of⟩)
    (q_is_tuple_of : PySem.W.codeIn K cd_is_tuple_of "is_tuple_of" = true)
    (p_is_tuple_of : PySem.W.keepIn K (.ref f_is_tuple_of) = true)
    (a_is_lot_below : PySem.W.nsIn K mainGlobals "is_lot_below" = some (some (.ref f_is_lot_below)))
    (l_is_lot_below : K.lookup f_is_lot_below = some ⟨oc_is_lot_below, od_is_lot_below, .func (PySem.W.fnOf "is_lot_below" "is_lot_below" (defArgs s_is_lot_below) (defBody s_is_lot_below) (defScope s_is_lot_below) .none kV_is_lot_below dc_is_lot_below pm_is_lot_below an_is_lot_below cd_is_lot_below ct_is_lot_below), sl_is_lot_below⟩)
    (q_is_lot_below : PySem.W.codeIn K cd_is_lot_below "is_lot_below" = true)
    (p_is_lot_below : PySem.W.keepIn K (.ref f_is_lot_below) = true)
    (a_are_outs : PySem.W.nsIn K mainGlobals "are_outs" = some (some (.ref f_are_outs)))
    (l_are_outs : K.lookup f_are_outs = some ⟨oc_are_outs, od_are_outs, .func (PySem.W.fnOf "are_outs" "are_outs" (defArgs s_are_outs) (defBody s_are_outs) (defScope s_are_outs) .none kV_are_outs dc_are_outs pm_are_outs an_are_outs cd_are_outs ct_are_outs), sl_are_outs⟩)
    (q_are_outs : PySem.W.codeIn K cd_are_outs "are_outs" = true)
    (p_are_outs : PySem.W.keepIn K (.ref f_are_outs) = true)
    (a_is_arrival : PySem.W.nsIn K mainGlobals "is_arrival" = some (some (.ref f_is_arrival)))
    (l_is_arrival : K.lookup f_is_arrival = some ⟨oc_is_arrival, od_is_arrival, .func (PySem.W.fnOf "is_arrival" "is_arrival" (defArgs s_is_arrival) (defBody s_is_arrival) (defScope s_is_arrival) .none kV_is_arrival dc_is_arrival pm_is_arrival an_is_arrival cd_is_arrival ct_is_arrival), sl_is_arrival⟩)
    (q_is_arrival : PySem.W.codeIn K cd_is_arrival "is_arrival" = true)
    (p_is_arrival : PySem.W.keepIn K (.ref f_is_arrival) = true)
    (a_first_wrong_item : PySem.W.nsIn K mainGlobals "first_wrong_item" = some (some (.ref f_first_wrong_item)))
    (l_first_wrong_item : K.lookup f_first_wrong_item = some ⟨oc_first_wrong_item, od_first_wrong_item, .func (PySem.W.fnOf "first_wrong_item" "first_wrong_item" (defArgs s_first_wrong_item) (defBody s_first_wrong_item) (defScope s_first_wrong_item) .none kV_first_wrong_item dc_first_wrong_item pm_first_wrong_item an_first_wrong_item cd_first_wrong_item ct_first_wrong_item), sl_first_wrong_item⟩)
    (q_first_wrong_item : PySem.W.codeIn K cd_first_wrong_item "first_wrong_item" = true)
    (p_first_wrong_item : PySem.W.keepIn K (.ref f_first_wrong_item) = true)
    (a_arrivals_fault : PySem.W.nsIn K mainGlobals "arrivals_fault" = some (some (.ref f_arrivals_fault)))
    (l_arrivals_fault : K.lookup f_arrivals_fault = some ⟨oc_arrivals_fault, od_arrivals_fault, .func (PySem.W.fnOf "arrivals_fault" "arrivals_fault" (defArgs s_arrivals_fault) (defBody s_arrivals_fault) (defScope s_arrivals_fault) .none kV_arrivals_fault dc_arrivals_fault pm_arrivals_fault an_arrivals_fault cd_arrivals_fault ct_arrivals_fault), sl_arrivals_fault⟩)
    (q_arrivals_fault : PySem.W.codeIn K cd_arrivals_fault "arrivals_fault" = true)
    (p_arrivals_fault : PySem.W.keepIn K (.ref f_arrivals_fault) = true)
    (a_are_texted : PySem.W.nsIn K mainGlobals "are_texted" = some (some (.ref f_are_texted)))
    (l_are_texted : K.lookup f_are_texted = some ⟨oc_are_texted, od_are_texted, .func (PySem.W.fnOf "are_texted" "are_texted" (defArgs s_are_texted) (defBody s_are_texted) (defScope s_are_texted) .none kV_are_texted dc_are_texted pm_are_texted an_are_texted cd_are_texted ct_are_texted), sl_are_texted⟩)
    (q_are_texted : PySem.W.codeIn K cd_are_texted "are_texted" = true)
    (p_are_texted : PySem.W.keepIn K (.ref f_are_texted) = true)
    (a_item_text : PySem.W.nsIn K mainGlobals "item_text" = some (some (.ref f_item_text)))
    (l_item_text : K.lookup f_item_text = some ⟨oc_item_text, od_item_text, .func (PySem.W.fnOf "item_text" "item_text" (defArgs s_item_text) (defBody s_item_text) (defScope s_item_text) .none kV_item_text dc_item_text pm_item_text an_item_text cd_item_text ct_item_text), sl_item_text⟩)
    (q_item_text : PySem.W.codeIn K cd_item_text "item_text" = true)
    (p_item_text : PySem.W.keepIn K (.ref f_item_text) = true)
    (a_coming_text : PySem.W.nsIn K mainGlobals "coming_text" = some (some (.ref f_coming_text)))
    (l_coming_text : K.lookup f_coming_text = some ⟨oc_coming_text, od_coming_text, .func (PySem.W.fnOf "coming_text" "coming_text" (defArgs s_coming_text) (defBody s_coming_text) (defScope s_coming_text) .none kV_coming_text dc_coming_text pm_coming_text an_coming_text cd_coming_text ct_coming_text), sl_coming_text⟩)
    (q_coming_text : PySem.W.codeIn K cd_coming_text "coming_text" = true)
    (p_coming_text : PySem.W.keepIn K (.ref f_coming_text) = true)
    (a_arrivals_text : PySem.W.nsIn K mainGlobals "arrivals_text" = some (some (.ref f_arrivals_text)))
    (l_arrivals_text : K.lookup f_arrivals_text = some ⟨oc_arrivals_text, od_arrivals_text, .func (PySem.W.fnOf "arrivals_text" "arrivals_text" (defArgs s_arrivals_text) (defBody s_arrivals_text) (defScope s_arrivals_text) .none kV_arrivals_text dc_arrivals_text pm_arrivals_text an_arrivals_text cd_arrivals_text ct_arrivals_text), sl_arrivals_text⟩)
    (q_arrivals_text : PySem.W.codeIn K cd_arrivals_text "arrivals_text" = true)
    (p_arrivals_text : PySem.W.keepIn K (.ref f_arrivals_text) = true)
    (a_law_deck : PySem.W.nsIn K mainGlobals "_law_deck" = some (some (.ref f_law_deck)))
    (l_law_deck : K.lookup f_law_deck = some ⟨oc_law_deck, od_law_deck, .func (PySem.W.fnOf "_law_deck" "_law_deck" (defArgs s_law_deck) (defBody s_law_deck) (defScope s_law_deck) .none kV_law_deck dc_law_deck pm_law_deck an_law_deck cd_law_deck ct_law_deck), sl_law_deck⟩)
    (q_law_deck : PySem.W.codeIn K cd_law_deck "_law_deck" = true)
    (p_law_deck : PySem.W.keepIn K (.ref f_law_deck) = true)
    (a_law_mixed : PySem.W.nsIn K mainGlobals "_law_mixed" = some (some (.ref f_law_mixed)))
    (l_law_mixed : K.lookup f_law_mixed = some ⟨oc_law_mixed, od_law_mixed, .func (PySem.W.fnOf "_law_mixed" "_law_mixed" (defArgs s_law_mixed) (defBody s_law_mixed) (defScope s_law_mixed) .none kV_law_mixed dc_law_mixed pm_law_mixed an_law_mixed cd_law_mixed ct_law_mixed), sl_law_mixed⟩)
    (q_law_mixed : PySem.W.codeIn K cd_law_mixed "_law_mixed" = true)
    (p_law_mixed : PySem.W.keepIn K (.ref f_law_mixed) = true)
    (a_law_draw : PySem.W.nsIn K mainGlobals "_law_draw" = some (some (.ref f_law_draw)))
    (l_law_draw : K.lookup f_law_draw = some ⟨oc_law_draw, od_law_draw, .func (PySem.W.fnOf "_law_draw" "_law_draw" (defArgs s_law_draw) (defBody s_law_draw) (defScope s_law_draw) .none kV_law_draw dc_law_draw pm_law_draw an_law_draw cd_law_draw ct_law_draw), sl_law_draw⟩)
    (q_law_draw : PySem.W.codeIn K cd_law_draw "_law_draw" = true)
    (p_law_draw : PySem.W.keepIn K (.ref f_law_draw) = true)
    (a_law_outs : PySem.W.nsIn K mainGlobals "_law_outs" = some (some (.ref f_law_outs)))
    (l_law_outs : K.lookup f_law_outs = some ⟨oc_law_outs, od_law_outs, .func (PySem.W.fnOf "_law_outs" "_law_outs" (defArgs s_law_outs) (defBody s_law_outs) (defScope s_law_outs) .none kV_law_outs dc_law_outs pm_law_outs an_law_outs cd_law_outs ct_law_outs), sl_law_outs⟩)
    (q_law_outs : PySem.W.codeIn K cd_law_outs "_law_outs" = true)
    (p_law_outs : PySem.W.keepIn K (.ref f_law_outs) = true)
    (a_law_items : PySem.W.nsIn K mainGlobals "_law_items" = some (some (.ref f_law_items)))
    (l_law_items : K.lookup f_law_items = some ⟨oc_law_items, od_law_items, .func (PySem.W.fnOf "_law_items" "_law_items" (defArgs s_law_items) (defBody s_law_items) (defScope s_law_items) .none kV_law_items dc_law_items pm_law_items an_law_items cd_law_items ct_law_items), sl_law_items⟩)
    (q_law_items : PySem.W.codeIn K cd_law_items "_law_items" = true)
    (p_law_items : PySem.W.keepIn K (.ref f_law_items) = true)
    (a_law_arrivals : PySem.W.nsIn K mainGlobals "_law_arrivals" = some (some (.ref f_law_arrivals)))
    (l_law_arrivals : K.lookup f_law_arrivals = some ⟨oc_law_arrivals, od_law_arrivals, .func (PySem.W.fnOf "_law_arrivals" "_law_arrivals" (defArgs s_law_arrivals) (defBody s_law_arrivals) (defScope s_law_arrivals) .none kV_law_arrivals dc_law_arrivals pm_law_arrivals an_law_arrivals cd_law_arrivals ct_law_arrivals), sl_law_arrivals⟩)
    (q_law_arrivals : PySem.W.codeIn K cd_law_arrivals "_law_arrivals" = true)
    (p_law_arrivals : PySem.W.keepIn K (.ref f_law_arrivals) = true)
    (a_law_arrival_text : PySem.W.nsIn K mainGlobals "_law_arrival_text" = some (some (.ref f_law_arrival_text)))
    (l_law_arrival_text : K.lookup f_law_arrival_text = some ⟨oc_law_arrival_text, od_law_arrival_text, .func (PySem.W.fnOf "_law_arrival_text" "_law_arrival_text" (defArgs s_law_arrival_text) (defBody s_law_arrival_text) (defScope s_law_arrival_text) .none kV_law_arrival_text dc_law_arrival_text pm_law_arrival_text an_law_arrival_text cd_law_arrival_text ct_law_arrival_text), sl_law_arrival_text⟩)
    (q_law_arrival_text : PySem.W.codeIn K cd_law_arrival_text "_law_arrival_text" = true)
    (p_law_arrival_text : PySem.W.keepIn K (.ref f_law_arrival_text) = true)
    (a_law_beat_text : PySem.W.nsIn K mainGlobals "_law_beat_text" = some (some (.ref f_law_beat_text)))
    (l_law_beat_text : K.lookup f_law_beat_text = some ⟨oc_law_beat_text, od_law_beat_text, .func (PySem.W.fnOf "_law_beat_text" "_law_beat_text" (defArgs s_law_beat_text) (defBody s_law_beat_text) (defScope s_law_beat_text) .none kV_law_beat_text dc_law_beat_text pm_law_beat_text an_law_beat_text cd_law_beat_text ct_law_beat_text), sl_law_beat_text⟩)
    (q_law_beat_text : PySem.W.codeIn K cd_law_beat_text "_law_beat_text" = true)
    (p_law_beat_text : PySem.W.keepIn K (.ref f_law_beat_text) = true)
    (a_law_is_within : PySem.W.nsIn K mainGlobals "_law_is_within" = some (some (.ref f_law_is_within)))
    (l_law_is_within : K.lookup f_law_is_within = some ⟨oc_law_is_within, od_law_is_within, .func (PySem.W.fnOf "_law_is_within" "_law_is_within" (defArgs s_law_is_within) (defBody s_law_is_within) (defScope s_law_is_within) .none kV_law_is_within dc_law_is_within pm_law_is_within an_law_is_within cd_law_is_within ct_law_is_within), sl_law_is_within⟩)
    (q_law_is_within : PySem.W.codeIn K cd_law_is_within "_law_is_within" = true)
    (p_law_is_within : PySem.W.keepIn K (.ref f_law_is_within) = true)
    (a_law_is_item : PySem.W.nsIn K mainGlobals "_law_is_item" = some (some (.ref f_law_is_item)))
    (l_law_is_item : K.lookup f_law_is_item = some ⟨oc_law_is_item, od_law_is_item, .func (PySem.W.fnOf "_law_is_item" "_law_is_item" (defArgs s_law_is_item) (defBody s_law_is_item) (defScope s_law_is_item) .none kV_law_is_item dc_law_is_item pm_law_is_item an_law_is_item cd_law_is_item ct_law_is_item), sl_law_is_item⟩)
    (q_law_is_item : PySem.W.codeIn K cd_law_is_item "_law_is_item" = true)
    (p_law_is_item : PySem.W.keepIn K (.ref f_law_is_item) = true)
    (a_law_are_arrivals : PySem.W.nsIn K mainGlobals "_law_are_arrivals" = some (some (.ref f_law_are_arrivals)))
    (l_law_are_arrivals : K.lookup f_law_are_arrivals = some ⟨oc_law_are_arrivals, od_law_are_arrivals, .func (PySem.W.fnOf "_law_are_arrivals" "_law_are_arrivals" (defArgs s_law_are_arrivals) (defBody s_law_are_arrivals) (defScope s_law_are_arrivals) .none kV_law_are_arrivals dc_law_are_arrivals pm_law_are_arrivals an_law_are_arrivals cd_law_are_arrivals ct_law_are_arrivals), sl_law_are_arrivals⟩)
    (q_law_are_arrivals : PySem.W.codeIn K cd_law_are_arrivals "_law_are_arrivals" = true)
    (p_law_are_arrivals : PySem.W.keepIn K (.ref f_law_are_arrivals) = true)
    (a_law_odd_item : PySem.W.nsIn K mainGlobals "_law_odd_item" = some (some (.ref f_law_odd_item)))
    (l_law_odd_item : K.lookup f_law_odd_item = some ⟨oc_law_odd_item, od_law_odd_item, .func (PySem.W.fnOf "_law_odd_item" "_law_odd_item" (defArgs s_law_odd_item) (defBody s_law_odd_item) (defScope s_law_odd_item) .none kV_law_odd_item dc_law_odd_item pm_law_odd_item an_law_odd_item cd_law_odd_item ct_law_odd_item), sl_law_odd_item⟩)
    (q_law_odd_item : PySem.W.codeIn K cd_law_odd_item "_law_odd_item" = true)
    (p_law_odd_item : PySem.W.keepIn K (.ref f_law_odd_item) = true)
    (a_law_spoilt : PySem.W.nsIn K mainGlobals "_law_spoilt" = some (some (.ref f_law_spoilt)))
    (l_law_spoilt : K.lookup f_law_spoilt = some ⟨oc_law_spoilt, od_law_spoilt, .func (PySem.W.fnOf "_law_spoilt" "_law_spoilt" (defArgs s_law_spoilt) (defBody s_law_spoilt) (defScope s_law_spoilt) .none kV_law_spoilt dc_law_spoilt pm_law_spoilt an_law_spoilt cd_law_spoilt ct_law_spoilt), sl_law_spoilt⟩)
    (q_law_spoilt : PySem.W.codeIn K cd_law_spoilt "_law_spoilt" = true)
    (p_law_spoilt : PySem.W.keepIn K (.ref f_law_spoilt) = true)
    (a_law_told : PySem.W.nsIn K mainGlobals "_law_told" = some (some (.ref f_law_told)))
    (l_law_told : K.lookup f_law_told = some ⟨oc_law_told, od_law_told, .func (PySem.W.fnOf "_law_told" "_law_told" (defArgs s_law_told) (defBody s_law_told) (defScope s_law_told) .none kV_law_told dc_law_told pm_law_told an_law_told cd_law_told ct_law_told), sl_law_told⟩)
    (q_law_told : PySem.W.codeIn K cd_law_told "_law_told" = true)
    (p_law_told : PySem.W.keepIn K (.ref f_law_told) = true)
    (a_law : PySem.W.nsIn K mainGlobals "law" = some (some (.ref f_law)))
    (l_law : K.lookup f_law = some ⟨oc_law, od_law, .func (PySem.W.fnOf "law" "law" (defArgs s_law) (defBody s_law) (defScope s_law) .none kV_law dc_law pm_law an_law cd_law ct_law), sl_law⟩)
    (q_law : PySem.W.codeIn K cd_law "law" = true)
    (p_law : PySem.W.keepIn K (.ref f_law) = true)
    (x_NoArrivals : PySem.W.excIn K c_NoArrivals [.type "ValueError", .type "Exception", .type "BaseException", .type "object"] "ValueError.__new__" = true)
    (kp_NoArrivals : PySem.W.keepIn K (.ref c_NoArrivals) = true)
    (s_NoArrivals : PySem.W.subIn K (.ref c_NoArrivals) (.type "BaseException") = some true)
    (t_NoArrivals : PySem.W.typeIn K (.ref c_NoArrivals) = some (.type "type"))
    (e1_NoArrivals : PySem.W.findIn K (.ref c_NoArrivals) "__getattribute__" = some (some (.builtin "BaseException.__getattribute__")))
    (e2_NoArrivals : PySem.W.findIn K (.ref c_NoArrivals) "__getattr__" = some none)
    (e3_NoArrivals : PySem.W.hasDictIn K c_NoArrivals = true)
    (e4_NoArrivals : PySem.W.findIn K (.ref c_NoArrivals) "__class__" = some (some (.builtin "object.__class__")))
    (e5_NoArrivals : PySem.W.mroIn K c_NoArrivals (.type "object") = some true)
    (en1 : PySem.W.specialIn K (.builtin "object.__class__") "__get__" = some (some (.builtin "getset_descriptor.__get__")))
    (en2 : PySem.W.takesIn K (.builtin "object.__class__") = some true)
    (s_NoSaying : PySem.W.subIn K (.ref c_NoSaying) (.type "BaseException") = some true)
    (t_NoSaying : PySem.W.typeIn K (.ref c_NoSaying) = some (.type "type"))
    (e3_NoSaying : PySem.W.hasDictIn K c_NoSaying = true)
    (su_NoSaying_NoSaying : PySem.W.subIn K (.ref c_NoSaying) (.ref c_NoSaying) = some true)
    (s_FabricError : PySem.W.subIn K (.ref c_FabricError) (.type "BaseException") = some true)
    (t_FabricError : PySem.W.typeIn K (.ref c_FabricError) = some (.type "type"))
    (e3_FabricError : PySem.W.hasDictIn K c_FabricError = true)
    (su_FabricError_FabricError : PySem.W.subIn K (.ref c_FabricError) (.ref c_FabricError) = some true)
    (su_NoArrivals_NoArrivals : PySem.W.subIn K (.ref c_NoArrivals) (.ref c_NoArrivals) = some true)
    (su_NoArrivals_NoSaying : PySem.W.subIn K (.ref c_NoArrivals) (.ref c_NoSaying) = some false)
    (su_NoArrivals_FabricError : PySem.W.subIn K (.ref c_NoArrivals) (.ref c_FabricError) = some true)
    (k_MOST_LINES : PySem.W.nsIn K mainGlobals "MOST_LINES" = some (some (.int 12 t_MOST_LINES)))
    (k_MOST_COPIES : PySem.W.nsIn K mainGlobals "MOST_COPIES" = some (some (.int 3 t_MOST_COPIES)))
    (k_MOST_BEATS : PySem.W.nsIn K mainGlobals "MOST_BEATS" = some (some (.int 200 t_MOST_BEATS)))
    (k_STREAMS : PySem.W.nsIn K mainGlobals "STREAMS" = some (some (.int 100 t_STREAMS)))
    (k_KINDS : PySem.W.nsIn K mainGlobals "KINDS" = some (some (.int 8 t_KINDS)))
    (z_abs : PySem.W.nsIn K mainGlobals "abs" = some none)
    (z_all : PySem.W.nsIn K mainGlobals "all" = some none)
    (z_bool : PySem.W.nsIn K mainGlobals "bool" = some none)
    (z_enumerate : PySem.W.nsIn K mainGlobals "enumerate" = some none)
    (z_int : PySem.W.nsIn K mainGlobals "int" = some none)
    (z_isinstance : PySem.W.nsIn K mainGlobals "isinstance" = some none)
    (z_len : PySem.W.nsIn K mainGlobals "len" = some none)
    (z_list : PySem.W.nsIn K mainGlobals "list" = some none)
    (z_range : PySem.W.nsIn K mainGlobals "range" = some none)
    (z_sorted : PySem.W.nsIn K mainGlobals "sorted" = some none)
    (z_str : PySem.W.nsIn K mainGlobals "str" = some none)
    (z_tuple : PySem.W.nsIn K mainGlobals "tuple" = some none)
    : ∃ A : Adr, Top K mg A ∧ A.d_law = PySem.W.fnOf "law" "law" (defArgs s_law) (defBody s_law) (defScope s_law) .none kV_law dc_law pm_law an_law cd_law ct_law ∧ A.a_law = f_law := by
  have F_is_integer := fun_mk (st := s_is_integer) l_is_integer q_is_integer p_is_integer
  have F_is_integer_from := fun_mk (st := s_is_integer_from) l_is_integer_from q_is_integer_from p_is_integer_from
  have F_is_number_below := fun_mk (st := s_is_number_below) l_is_number_below q_is_number_below p_is_number_below
  have F_is_tuple_of := fun_mk (st := s_is_tuple_of) l_is_tuple_of q_is_tuple_of p_is_tuple_of
  have F_is_lot_below := fun_mk (st := s_is_lot_below) l_is_lot_below q_is_lot_below p_is_lot_below
  have F_are_outs := fun_mk (st := s_are_outs) l_are_outs q_are_outs p_are_outs
  have F_is_arrival := fun_mk (st := s_is_arrival) l_is_arrival q_is_arrival p_is_arrival
  have F_first_wrong_item := fun_mk (st := s_first_wrong_item) l_first_wrong_item q_first_wrong_item p_first_wrong_item
  have F_arrivals_fault := fun_mk (st := s_arrivals_fault) l_arrivals_fault q_arrivals_fault p_arrivals_fault
  have F_are_texted := fun_mk (st := s_are_texted) l_are_texted q_are_texted p_are_texted
  have F_item_text := fun_mk (st := s_item_text) l_item_text q_item_text p_item_text
  have F_coming_text := fun_mk (st := s_coming_text) l_coming_text q_coming_text p_coming_text
  have F_arrivals_text := fun_mk (st := s_arrivals_text) l_arrivals_text q_arrivals_text p_arrivals_text
  have F_law_deck := fun_mk (st := s_law_deck) l_law_deck q_law_deck p_law_deck
  have F_law_mixed := fun_mk (st := s_law_mixed) l_law_mixed q_law_mixed p_law_mixed
  have F_law_draw := fun_mk (st := s_law_draw) l_law_draw q_law_draw p_law_draw
  have F_law_outs := fun_mk (st := s_law_outs) l_law_outs q_law_outs p_law_outs
  have F_law_items := fun_mk (st := s_law_items) l_law_items q_law_items p_law_items
  have F_law_arrivals := fun_mk (st := s_law_arrivals) l_law_arrivals q_law_arrivals p_law_arrivals
  have F_law_arrival_text := fun_mk (st := s_law_arrival_text) l_law_arrival_text q_law_arrival_text p_law_arrival_text
  have F_law_beat_text := fun_mk (st := s_law_beat_text) l_law_beat_text q_law_beat_text p_law_beat_text
  have F_law_is_within := fun_mk (st := s_law_is_within) l_law_is_within q_law_is_within p_law_is_within
  have F_law_is_item := fun_mk (st := s_law_is_item) l_law_is_item q_law_is_item p_law_is_item
  have F_law_are_arrivals := fun_mk (st := s_law_are_arrivals) l_law_are_arrivals q_law_are_arrivals p_law_are_arrivals
  have F_law_odd_item := fun_mk (st := s_law_odd_item) l_law_odd_item q_law_odd_item p_law_odd_item
  have F_law_spoilt := fun_mk (st := s_law_spoilt) l_law_spoilt q_law_spoilt p_law_spoilt
  have F_law_told := fun_mk (st := s_law_told) l_law_told q_law_told p_law_told
  have F_law := fun_mk (st := s_law) l_law q_law p_law
  refine ⟨⟨f_is_integer, PySem.W.fnOf "is_integer" "is_integer" (defArgs s_is_integer) (defBody s_is_integer) (defScope s_is_integer) .none kV_is_integer dc_is_integer pm_is_integer an_is_integer cd_is_integer ct_is_integer, f_is_integer_from, PySem.W.fnOf "is_integer_from" "is_integer_from" (defArgs s_is_integer_from) (defBody s_is_integer_from) (defScope s_is_integer_from) .none kV_is_integer_from dc_is_integer_from pm_is_integer_from an_is_integer_from cd_is_integer_from ct_is_integer_from, f_is_number_below, PySem.W.fnOf "is_number_below" "is_number_below" (defArgs s_is_number_below) (defBody s_is_number_below) (defScope s_is_number_below) .none kV_is_number_below dc_is_number_below pm_is_number_below an_is_number_below cd_is_number_below ct_is_number_below, f_is_tuple_of, PySem.W.fnOf "is_tuple_of" "is_tuple_of" (defArgs s_is_tuple_of) (defBody s_is_tuple_of) (defScope s_is_tuple_of) .none kV_is_tuple_of dc_is_tuple_of pm_is_tuple_of an_is_tuple_of cd_is_tuple_of ct_is_tuple_of, f_is_lot_below, PySem.W.fnOf "is_lot_below" "is_lot_below" (defArgs s_is_lot_below) (defBody s_is_lot_below) (defScope s_is_lot_below) .none kV_is_lot_below dc_is_lot_below pm_is_lot_below an_is_lot_below cd_is_lot_below ct_is_lot_below, f_are_outs, PySem.W.fnOf "are_outs" "are_outs" (defArgs s_are_outs) (defBody s_are_outs) (defScope s_are_outs) .none kV_are_outs dc_are_outs pm_are_outs an_are_outs cd_are_outs ct_are_outs, f_is_arrival, PySem.W.fnOf "is_arrival" "is_arrival" (defArgs s_is_arrival) (defBody s_is_arrival) (defScope s_is_arrival) .none kV_is_arrival dc_is_arrival pm_is_arrival an_is_arrival cd_is_arrival ct_is_arrival, f_first_wrong_item, PySem.W.fnOf "first_wrong_item" "first_wrong_item" (defArgs s_first_wrong_item) (defBody s_first_wrong_item) (defScope s_first_wrong_item) .none kV_first_wrong_item dc_first_wrong_item pm_first_wrong_item an_first_wrong_item cd_first_wrong_item ct_first_wrong_item, f_arrivals_fault, PySem.W.fnOf "arrivals_fault" "arrivals_fault" (defArgs s_arrivals_fault) (defBody s_arrivals_fault) (defScope s_arrivals_fault) .none kV_arrivals_fault dc_arrivals_fault pm_arrivals_fault an_arrivals_fault cd_arrivals_fault ct_arrivals_fault, f_are_texted, PySem.W.fnOf "are_texted" "are_texted" (defArgs s_are_texted) (defBody s_are_texted) (defScope s_are_texted) .none kV_are_texted dc_are_texted pm_are_texted an_are_texted cd_are_texted ct_are_texted, f_item_text, PySem.W.fnOf "item_text" "item_text" (defArgs s_item_text) (defBody s_item_text) (defScope s_item_text) .none kV_item_text dc_item_text pm_item_text an_item_text cd_item_text ct_item_text, f_coming_text, PySem.W.fnOf "coming_text" "coming_text" (defArgs s_coming_text) (defBody s_coming_text) (defScope s_coming_text) .none kV_coming_text dc_coming_text pm_coming_text an_coming_text cd_coming_text ct_coming_text, f_arrivals_text, PySem.W.fnOf "arrivals_text" "arrivals_text" (defArgs s_arrivals_text) (defBody s_arrivals_text) (defScope s_arrivals_text) .none kV_arrivals_text dc_arrivals_text pm_arrivals_text an_arrivals_text cd_arrivals_text ct_arrivals_text, f_law_deck, PySem.W.fnOf "_law_deck" "_law_deck" (defArgs s_law_deck) (defBody s_law_deck) (defScope s_law_deck) .none kV_law_deck dc_law_deck pm_law_deck an_law_deck cd_law_deck ct_law_deck, f_law_mixed, PySem.W.fnOf "_law_mixed" "_law_mixed" (defArgs s_law_mixed) (defBody s_law_mixed) (defScope s_law_mixed) .none kV_law_mixed dc_law_mixed pm_law_mixed an_law_mixed cd_law_mixed ct_law_mixed, f_law_draw, PySem.W.fnOf "_law_draw" "_law_draw" (defArgs s_law_draw) (defBody s_law_draw) (defScope s_law_draw) .none kV_law_draw dc_law_draw pm_law_draw an_law_draw cd_law_draw ct_law_draw, f_law_outs, PySem.W.fnOf "_law_outs" "_law_outs" (defArgs s_law_outs) (defBody s_law_outs) (defScope s_law_outs) .none kV_law_outs dc_law_outs pm_law_outs an_law_outs cd_law_outs ct_law_outs, f_law_items, PySem.W.fnOf "_law_items" "_law_items" (defArgs s_law_items) (defBody s_law_items) (defScope s_law_items) .none kV_law_items dc_law_items pm_law_items an_law_items cd_law_items ct_law_items, f_law_arrivals, PySem.W.fnOf "_law_arrivals" "_law_arrivals" (defArgs s_law_arrivals) (defBody s_law_arrivals) (defScope s_law_arrivals) .none kV_law_arrivals dc_law_arrivals pm_law_arrivals an_law_arrivals cd_law_arrivals ct_law_arrivals, f_law_arrival_text, PySem.W.fnOf "_law_arrival_text" "_law_arrival_text" (defArgs s_law_arrival_text) (defBody s_law_arrival_text) (defScope s_law_arrival_text) .none kV_law_arrival_text dc_law_arrival_text pm_law_arrival_text an_law_arrival_text cd_law_arrival_text ct_law_arrival_text, f_law_beat_text, PySem.W.fnOf "_law_beat_text" "_law_beat_text" (defArgs s_law_beat_text) (defBody s_law_beat_text) (defScope s_law_beat_text) .none kV_law_beat_text dc_law_beat_text pm_law_beat_text an_law_beat_text cd_law_beat_text ct_law_beat_text, f_law_is_within, PySem.W.fnOf "_law_is_within" "_law_is_within" (defArgs s_law_is_within) (defBody s_law_is_within) (defScope s_law_is_within) .none kV_law_is_within dc_law_is_within pm_law_is_within an_law_is_within cd_law_is_within ct_law_is_within, f_law_is_item, PySem.W.fnOf "_law_is_item" "_law_is_item" (defArgs s_law_is_item) (defBody s_law_is_item) (defScope s_law_is_item) .none kV_law_is_item dc_law_is_item pm_law_is_item an_law_is_item cd_law_is_item ct_law_is_item, f_law_are_arrivals, PySem.W.fnOf "_law_are_arrivals" "_law_are_arrivals" (defArgs s_law_are_arrivals) (defBody s_law_are_arrivals) (defScope s_law_are_arrivals) .none kV_law_are_arrivals dc_law_are_arrivals pm_law_are_arrivals an_law_are_arrivals cd_law_are_arrivals ct_law_are_arrivals, f_law_odd_item, PySem.W.fnOf "_law_odd_item" "_law_odd_item" (defArgs s_law_odd_item) (defBody s_law_odd_item) (defScope s_law_odd_item) .none kV_law_odd_item dc_law_odd_item pm_law_odd_item an_law_odd_item cd_law_odd_item ct_law_odd_item, f_law_spoilt, PySem.W.fnOf "_law_spoilt" "_law_spoilt" (defArgs s_law_spoilt) (defBody s_law_spoilt) (defScope s_law_spoilt) .none kV_law_spoilt dc_law_spoilt pm_law_spoilt an_law_spoilt cd_law_spoilt ct_law_spoilt, f_law_told, PySem.W.fnOf "_law_told" "_law_told" (defArgs s_law_told) (defBody s_law_told) (defScope s_law_told) .none kV_law_told dc_law_told pm_law_told an_law_told cd_law_told ct_law_told, f_law, PySem.W.fnOf "law" "law" (defArgs s_law) (defBody s_law) (defScope s_law) .none kV_law dc_law pm_law an_law cd_law ct_law, c_FabricError, c_NoArrivals, c_NoSaying⟩, ?_, rfl, rfl⟩
  exact ⟨F_is_integer,
    PySem.W.mg_of X G a_is_integer,
    F_is_integer.binds (fun _ _ _ _ _ _ us hl => match us, hl with | [_], _ => rfl),
    F_is_integer_from,
    PySem.W.mg_of X G a_is_integer_from,
    F_is_integer_from.binds (fun _ _ _ _ _ _ us hl => match us, hl with | [_, _, _], _ => rfl),
    F_is_number_below,
    PySem.W.mg_of X G a_is_number_below,
    F_is_number_below.binds (fun _ _ _ _ _ _ us hl => match us, hl with | [_, _], _ => rfl),
    F_is_tuple_of,
    PySem.W.mg_of X G a_is_tuple_of,
    F_is_tuple_of.binds (fun _ _ _ _ _ _ us hl => match us, hl with | [_, _], _ => rfl),
    F_is_lot_below,
    PySem.W.mg_of X G a_is_lot_below,
    F_is_lot_below.binds (fun _ _ _ _ _ _ us hl => match us, hl with | [_, _], _ => rfl),
    F_are_outs,
    PySem.W.mg_of X G a_are_outs,
    F_are_outs.binds (fun _ _ _ _ _ _ us hl => match us, hl with | [_, _, _], _ => rfl),
    F_is_arrival,
    PySem.W.mg_of X G a_is_arrival,
    F_is_arrival.binds (fun _ _ _ _ _ _ us hl => match us, hl with | [_, _, _], _ => rfl),
    F_first_wrong_item,
    PySem.W.mg_of X G a_first_wrong_item,
    F_first_wrong_item.binds (fun _ _ _ _ _ _ us hl => match us, hl with | [_, _, _], _ => rfl),
    F_arrivals_fault,
    PySem.W.mg_of X G a_arrivals_fault,
    F_arrivals_fault.binds (fun _ _ _ _ _ _ us hl => match us, hl with | [_, _, _], _ => rfl),
    F_are_texted,
    PySem.W.mg_of X G a_are_texted,
    F_are_texted.binds (fun _ _ _ _ _ _ us hl => match us, hl with | [_], _ => rfl),
    F_item_text,
    PySem.W.mg_of X G a_item_text,
    F_item_text.binds (fun _ _ _ _ _ _ us hl => match us, hl with | [_], _ => rfl),
    F_coming_text,
    PySem.W.mg_of X G a_coming_text,
    F_coming_text.binds (fun _ _ _ _ _ _ us hl => match us, hl with | [_], _ => rfl),
    F_arrivals_text,
    PySem.W.mg_of X G a_arrivals_text,
    F_arrivals_text.binds (fun _ _ _ _ _ _ us hl => match us, hl with | [_], _ => rfl),
    F_law_deck,
    PySem.W.mg_of X G a_law_deck,
    F_law_deck.binds (fun _ _ _ _ _ _ us hl => match us, hl with | [_], _ => rfl),
    F_law_mixed,
    PySem.W.mg_of X G a_law_mixed,
    F_law_mixed.binds (fun _ _ _ _ _ _ us hl => match us, hl with | [_, _], _ => rfl),
    F_law_draw,
    PySem.W.mg_of X G a_law_draw,
    F_law_draw.binds (fun _ _ _ _ _ _ us hl => match us, hl with | [_, _], _ => rfl),
    F_law_outs,
    PySem.W.mg_of X G a_law_outs,
    F_law_outs.binds (fun _ _ _ _ _ _ us hl => match us, hl with | [_, _, _, _], _ => rfl),
    F_law_items,
    PySem.W.mg_of X G a_law_items,
    F_law_items.binds (fun _ _ _ _ _ _ us hl => match us, hl with | [_, _, _, _, _], _ => rfl),
    F_law_arrivals,
    PySem.W.mg_of X G a_law_arrivals,
    F_law_arrivals.binds (fun _ _ _ _ _ _ us hl => match us, hl with | [_, _, _, _], _ => rfl),
    F_law_arrival_text,
    PySem.W.mg_of X G a_law_arrival_text,
    F_law_arrival_text.binds (fun _ _ _ _ _ _ us hl => match us, hl with | [_], _ => rfl),
    F_law_beat_text,
    PySem.W.mg_of X G a_law_beat_text,
    F_law_beat_text.binds (fun _ _ _ _ _ _ us hl => match us, hl with | [_], _ => rfl),
    F_law_is_within,
    PySem.W.mg_of X G a_law_is_within,
    F_law_is_within.binds (fun _ _ _ _ _ _ us hl => match us, hl with | [_, _, _], _ => rfl),
    F_law_is_item,
    PySem.W.mg_of X G a_law_is_item,
    F_law_is_item.binds (fun _ _ _ _ _ _ us hl => match us, hl with | [_, _], _ => rfl),
    F_law_are_arrivals,
    PySem.W.mg_of X G a_law_are_arrivals,
    F_law_are_arrivals.binds (fun _ _ _ _ _ _ us hl => match us, hl with | [_], _ => rfl),
    F_law_odd_item,
    PySem.W.mg_of X G a_law_odd_item,
    F_law_odd_item.binds (fun _ _ _ _ _ _ us hl => match us, hl with | [_, _], _ => rfl),
    F_law_spoilt,
    PySem.W.mg_of X G a_law_spoilt,
    F_law_spoilt.binds (fun _ _ _ _ _ _ us hl => match us, hl with | [_, _], _ => rfl),
    F_law_told,
    PySem.W.mg_of X G a_law_told,
    F_law_told.binds (fun _ _ _ _ _ _ us hl => match us, hl with | [_], _ => rfl),
    F_law,
    PySem.W.mg_of X G a_law,
    F_law.binds (fun _ _ _ _ _ _ us hl => match us, hl with | [_], _ => rfl),
    PySem.W.mg_of X G ac_FabricError,
    PySem.W.mg_of X G ac_NoArrivals,
    PySem.W.mg_of X G ac_NoSaying,
    x_NoArrivals,
    kp_NoArrivals,
    s_NoArrivals,
    t_NoArrivals,
    e1_NoArrivals,
    e2_NoArrivals,
    e3_NoArrivals,
    e4_NoArrivals,
    e5_NoArrivals,
    en1,
    en2,
    GX.kit_yes (PySem.W.exm_ref s_NoArrivals e3_NoArrivals t_NoArrivals su_NoArrivals_NoArrivals),
    (PySem.W.exm_ref s_NoArrivals e3_NoArrivals t_NoArrivals su_NoArrivals_NoArrivals),
    GX.kit_no (PySem.W.exm_ref s_NoSaying e3_NoSaying t_NoSaying su_NoArrivals_NoSaying) su_NoSaying_NoSaying su_NoArrivals_NoSaying,
    (PySem.W.exm_ref s_NoSaying e3_NoSaying t_NoSaying su_NoArrivals_NoSaying),
    GX.kit_yes (PySem.W.exm_ref s_FabricError e3_FabricError t_FabricError su_NoArrivals_FabricError),
    (PySem.W.exm_ref s_FabricError e3_FabricError t_FabricError su_NoArrivals_FabricError),
    ⟨_, PySem.W.mg_of X G k_MOST_LINES⟩,
    ⟨_, PySem.W.mg_of X G k_MOST_COPIES⟩,
    ⟨_, PySem.W.mg_of X G k_MOST_BEATS⟩,
    ⟨_, PySem.W.mg_of X G k_STREAMS⟩,
    ⟨_, PySem.W.mg_of X G k_KINDS⟩,
    PySem.W.mg_none_of X G z_abs,
    PySem.W.mg_none_of X G z_all,
    PySem.W.mg_none_of X G z_bool,
    PySem.W.mg_none_of X G z_enumerate,
    PySem.W.mg_none_of X G z_int,
    PySem.W.mg_none_of X G z_isinstance,
    PySem.W.mg_none_of X G z_len,
    PySem.W.mg_none_of X G z_list,
    PySem.W.mg_none_of X G z_range,
    PySem.W.mg_none_of X G z_sorted,
    PySem.W.mg_none_of X G z_str,
    PySem.W.mg_none_of X G z_tuple⟩

/-! ### heaps -/
theorem dec_int {a b : Int} : decide (V.int a = V.int b) = decide (a = b) := decide_eq_decide.mpr ⟨fun e => V.int.inj e, fun e => by rw [e]⟩
theorem dec_self {a : V} : decide (a = a) = true := decide_eq_true rfl
theorem same_upd {H : Hp} {p : Addr} {o : HO} (h : H p = none) : Same H (upd H p o) := fun b x e => by
  rw [upd_ne (ne_of_none e h)]
  exact e
theorem same_to {H H1 : Hp} {p : Addr} {o : HO} (s : Same H H1) (h : H p = none) : Same H (upd H1 p o) := fun b x e => by
  rw [upd_ne (ne_of_none e h)]
  exact s b x e
/-- as H but at x, new objects apart -/
def Kp (x : Addr) (H H' : Hp) : Prop := ∀ q o, q ≠ x → H q = some o → H' q = some o
theorem Kp.same {x : Addr} {H H1 H2 : Hp} (a : Kp x H H1) (b : Same H1 H2) : Kp x H H2 := fun q o hq h => b _ _ (a q o hq h)
theorem kp_of {H H' : Hp} (a : Same H H') (x : Addr) : Kp x H H' := fun q o _ h => a q o h
theorem Kp.upd {x : Addr} {H H1 : Hp} {o : HO} (a : Kp x H H1) : Kp x H (upd H1 x o) := fun q u hq h => by
  rw [upd_ne hq]
  exact a q u hq h
theorem Kp.trans {h : Addr} {H H1 H2 : Hp} (a : Kp h H H1) (b : Kp h H1 H2) : Kp h H H2 := fun q o hq e => b q o hq (a q o hq e)
theorem Kp.free {h p : Addr} {H H' : Hp} (a : Kp h H H') (hp : p ≠ h) (e : H' p = none) : H p = none := by
  cases q : H p with
  | none => rfl
  | some o =>
    rw [a p o hp q] at e
    cases e
theorem small1000 {n : Nat} (h : n < 1000) : n < sizeLine := Nat.lt_trans h (by decide)
theorem ne_of {H : Hp} {p q : Addr} {o u : HO} (hp : H p = some o) (hq : H q = some u) (h : o ≠ u) : p ≠ q := fun e => by
  rw [e, hq] at hp
  exact h (Option.some.inj hp).symm
def NT (o : HO) : Prop := ∀ ps, o ≠ .tbl ps
/-- as H but at h, tables apart -/
def Mv (h : Addr) (H H' : Hp) : Prop := ∀ q o, q ≠ h → H q = some o → NT o → H' q = some o
theorem Mv.of {h : Addr} {H H' : Hp} (k : Kp h H H') : Mv h H H' := fun q o hq e _ => k q o hq e
theorem Mv.same {h : Addr} {H H' : Hp} (k : Same H H') : Mv h H H' := fun q o _ e _ => k q o e
theorem Mv.ext {h : Addr} {H H' : Hp} (k : LamX.ExtN H H') : Mv h H H' := fun q o _ e n => k q o e n
theorem Mv.trans {h : Addr} {H H1 H2 : Hp} (a : Mv h H H1) (b : Mv h H1 H2) : Mv h H H2 := fun q o hq e n => b q o hq (a q o hq e n) n
theorem nt_lst {xs : List V} : NT (.lst xs) := fun _ z => by cases z
theorem nt_tup {xs : List V} : NT (.tup xs) := fun _ z => by cases z
theorem nt_ins {a b : Addr} {fs : List (Str × V)} : NT (.ins a b fs) := fun _ z => by cases z
theorem nt_dK {kvs : List (Key × V)} : NT (.dK kvs) := fun _ z => by cases z
/-! ### things of any sort, told as data -/
inductive Td where
  | int (i : Int) | bl (b : Bool) | non | str (s : Str) | tup (ds : List Td) | oth
mutual
/-- v tells d; what may change (the list at h) is none of it -/
inductive Is (h : Addr) (H : Hp) : V → Td → Prop
  | int (i : Int) : Is h H (.int i) (.int i)
  | bl (b : Bool) : Is h H (.bl b) (.bl b)
  | non : Is h H .non .non
  | str (s : Str) : Is h H (.str s) (.str s)
  | tup {a : Addr} {xs : List V} {ds : List Td} : H a = some (.tup xs) → IsL h H xs ds → Is h H (.ref a) (.tup ds)
  | lst {a : Addr} {xs : List V} : H a = some (.lst xs) → a ≠ h → Is h H (.ref a) .oth
  | dK {a : Addr} {kvs : List (Key × V)} : H a = some (.dK kvs) → Is h H (.ref a) .oth
inductive IsL (h : Addr) (H : Hp) : List V → List Td → Prop
  | nil : IsL h H [] []
  | cons {v : V} {d : Td} {vs : List V} {ds : List Td} : Is h H v d → IsL h H vs ds → IsL h H (v :: vs) (d :: ds)
end
section
variable {h : Addr} {H H' : Hp}
theorem Is.mv {v : V} {d : Td} (t : Is h H v d) (k : Mv h H H') (hh : ∃ ys, H h = some (.lst ys)) : Is h H' v d := by
  obtain ⟨ys, hh⟩ := hh
  refine Is.rec (motive_1 := fun v d _ => Is h H' v d) (motive_2 := fun vs ds _ => IsL h H' vs ds) (fun i => .int i) (fun b => .bl b) .non (fun s => .str s) (fun e _ ih => .tup (k _ _ (ne_of e hh (by intro z; cases z)) e nt_tup) ih)
    (fun e n => .lst (k _ _ n e nt_lst) n) (fun e => .dK (k _ _ (ne_of e hh (by intro z; cases z)) e nt_dK)) .nil (fun _ _ a b => .cons a b) t
theorem IsL.mv {vs : List V} {ds : List Td} (t : IsL h H vs ds) (k : Mv h H H') (hh : ∃ ys, H h = some (.lst ys)) : IsL h H' vs ds := by
  obtain ⟨ys, hh⟩ := hh
  refine IsL.rec (motive_1 := fun v d _ => Is h H' v d) (motive_2 := fun vs ds _ => IsL h H' vs ds) (fun i => .int i) (fun b => .bl b) .non (fun s => .str s) (fun e _ ih => .tup (k _ _ (ne_of e hh (by intro z; cases z)) e nt_tup) ih)
    (fun e n => .lst (k _ _ n e nt_lst) n) (fun e => .dK (k _ _ (ne_of e hh (by intro z; cases z)) e nt_dK)) .nil (fun _ _ a b => .cons a b) t
theorem Is.same {v : V} {d : Td} (t : Is h H v d) (s : Same H H') : Is h H' v d := by
  refine Is.rec (motive_1 := fun v d _ => Is h H' v d) (motive_2 := fun vs ds _ => IsL h H' vs ds) (fun i => .int i) (fun b => .bl b) .non (fun s => .str s) (fun e _ ih => .tup (s _ _ e) ih)
    (fun e n => .lst (s _ _ e) n) (fun e => .dK (s _ _ e)) .nil (fun _ _ a b => .cons a b) t
theorem IsL.same {v : List V} {d : List Td} (t : IsL h H v d) (s : Same H H') : IsL h H' v d := by
  refine IsL.rec (motive_1 := fun v d _ => Is h H' v d) (motive_2 := fun vs ds _ => IsL h H' vs ds) (fun i => .int i) (fun b => .bl b) .non (fun s => .str s) (fun e _ ih => .tup (s _ _ e) ih)
    (fun e n => .lst (s _ _ e) n) (fun e => .dK (s _ _ e)) .nil (fun _ _ a b => .cons a b) t
theorem IsL.len : ∀ {vs : List V} {ds : List Td}, IsL h H vs ds → vs.length = ds.length
  | _, _, .nil => rfl
  | _, _, .cons _ t => by rw [List.length_cons, List.length_cons, t.len]
theorem IsL.get : ∀ {vs : List V} {ds : List Td}, IsL h H vs ds → ∀ {i : Nat} {v : V}, vs[i]? = some v → ∃ d, ds[i]? = some d ∧ Is h H v d
  | _, _, .cons a _, 0, _, e => by
    cases e
    exact ⟨_, rfl, a⟩
  | _, _, .cons _ t, i + 1, _, e => by
    obtain ⟨d, e1, e2⟩ := t.get (i := i) e
    exact ⟨d, e1, e2⟩
theorem IsL.append : ∀ {vs us : List V} {ds es : List Td}, IsL h H vs ds → IsL h H us es → IsL h H (vs ++ us) (ds ++ es)
  | _, _, _, _, .nil, t => t
  | _, _, _, _, .cons a r, t => .cons a (r.append t)
theorem IsL.three {x y z : V} {ds : List Td} (t : IsL h H [x, y, z] ds) : ∃ a b c, ds = [a, b, c] ∧ Is h H x a ∧ Is h H y b ∧ Is h H z c := by
  cases t with
  | cons a t => cases t with
    | cons b t => cases t with
      | cons c t => cases t with
        | nil => exact ⟨_, _, _, rfl, a, b, c⟩
theorem IsL.ints : ∀ {ns : List Int}, IsL h H (ns.map V.int) (ns.map Td.int)
  | [] => .nil
  | n :: ns => .cons (.int n) IsL.ints
end
def isI : Td → Bool
  | .int _ => true
  | _ => false
def isBl : Td → Bool
  | .bl _ => true
  | _ => false
def isT : Td → Bool
  | .tup _ => true
  | _ => false
/-- an integer from lo to hi -/
def inI (lo hi : Int) : Td → Bool
  | .int i => decide (lo ≤ i) && decide (i ≤ hi)
  | _ => false
def tupN (n : Int) : Td → Bool
  | .tup ds => decide ((ds.length : Int) = n)
  | _ => false
section
variable {P : Program} {w : World} {K : PySem.W.Frag} {mg : Str → Option Value} {base : Heap} {A : Adr}
theorem kitQ {a b : String} {r r' : Bool} (h : kitB a b = some r) (e : r' = r) : PySem.W.kitOne K (.type a) (.type b) = some r' := by
  rw [e]
  exact kit_ty h
theorem is_ty (T : Top K mg A) {h : Addr} {H : Hp} {x : V} {d : Td} (t : Is h H x d) : ∃ t, TyX K H x t ∧ PySem.W.kitOne K t (.type "int") = some (isI d || isBl d) ∧ PySem.W.kitOne K t (.type "bool") = some (isBl d) ∧ PySem.W.kitOne K t (.type "tuple") = some (isT d) := by
  cases t with
  | non => exact ⟨_, .base .non, kitQ (a := "NoneType") (b := "int") (r := false) (by decide +kernel) rfl, kitQ (a := "NoneType") (b := "bool") (r := false) (by decide +kernel) rfl, kitQ (a := "NoneType") (b := "tuple") (r := false) (by decide +kernel) rfl⟩
  | bl b => exact ⟨_, .base (.bl b), kitQ (a := "bool") (b := "int") (r := true) (by decide +kernel) rfl, kitQ (a := "bool") (b := "bool") (r := true) (by decide +kernel) rfl, kitQ (a := "bool") (b := "tuple") (r := false) (by decide +kernel) rfl⟩
  | int i => exact ⟨_, .base (.int i), kitQ (a := "int") (b := "int") (r := true) (by decide +kernel) rfl, kitQ (a := "int") (b := "bool") (r := false) (by decide +kernel) rfl, kitQ (a := "int") (b := "tuple") (r := false) (by decide +kernel) rfl⟩
  | str s => exact ⟨_, .base (.str s), kitQ (a := "str") (b := "int") (r := false) (by decide +kernel) rfl, kitQ (a := "str") (b := "bool") (r := false) (by decide +kernel) rfl, kitQ (a := "str") (b := "tuple") (r := false) (by decide +kernel) rfl⟩
  | tup e l => exact ⟨_, .base (.tup e), kitQ (a := "tuple") (b := "int") (r := false) (by decide +kernel) rfl, kitQ (a := "tuple") (b := "bool") (r := false) (by decide +kernel) rfl, kitQ (a := "tuple") (b := "tuple") (r := true) (by decide +kernel) rfl⟩
  | lst e n => exact ⟨_, .base (.lst e), kitQ (a := "list") (b := "int") (r := false) (by decide +kernel) rfl, kitQ (a := "list") (b := "bool") (r := false) (by decide +kernel) rfl, kitQ (a := "list") (b := "tuple") (r := false) (by decide +kernel) rfl⟩
  | dK e => exact ⟨_, .base (.dK e), kitQ (a := "dict") (b := "int") (r := false) (by decide +kernel) rfl, kitQ (a := "dict") (b := "bool") (r := false) (by decide +kernel) rfl, kitQ (a := "dict") (b := "tuple") (r := false) (by decide +kernel) rfl⟩
theorem isT_of {h : Addr} {H : Hp} {x : V} {d : Td} (t : Is h H x d) (c : isT d = true) : ∃ a xs ds, x = .ref a ∧ d = .tup ds ∧ H a = some (.tup xs) ∧ IsL h H xs ds := by
  cases t with
  | tup e l => exact ⟨_, _, _, rfl, rfl, e, l⟩
  | _ => cases c
/-! ### what counts as an integer -/
def spIsInteger : Sp := fun vs H Q _ => ∃ x d h, vs = [x] ∧ Is h H x d ∧ Q (.bl (isI d)) H
theorem ok_is_integer (T : Top K mg A) : FnOk P w K mg base CX0 1 A.a_is_integer A.d_is_integer P_is_integer spIsInteger := by
  refine T.F_is_integer.ok sc_is_integer (fun vs H Q E h => ?_) (fun cdv A' outer s H vs Q E hr h => ?_)
  · obtain ⟨x, d, h, rfl, _⟩ := h
    rfl
  · obtain ⟨x, d, h, rfl, ht, k⟩ := h
    obtain ⟨t, ty, e1, e2, _⟩ := is_ty T ht
    refine ⟨_, (pss_one (ps_ret (pe_and (pe_callB call_isi (by rfl) T.z_isinstance (by decide +kernel) (pa_cons (pv 0) (pa_cons (pe_bltn (v := .ty "int") (by rfl) T.z_int (by decide +kernel) rfl) pa_nil))) (pe_one (pe_not (pe_callB call_isi (by rfl) T.z_isinstance (by decide +kernel) (pa_cons (pv 0) (pa_cons (pe_bltn (v := .ty "bool") (by rfl) T.z_bool (by decide +kernel) rfl) pa_nil)))))))), ?_⟩
    refine ⟨_, rfl, _, _, _, _, _, rfl, .ty "int", ty, e1, (isI d || isBl d), rfl, ?_⟩
    cases c : (isI d || isBl d) with
    | false =>
      refine iteF ?_
      have q : isI d = false := by
        cases d <;> first | rfl | cases c
      rw [q] at k
      exact k
    | true =>
      refine iteT ?_
      refine ⟨_, rfl, _, _, _, _, _, rfl, .ty "bool", ty, e2, _, rfl, ?_⟩
      have q : isI d = !isBl d := by
        cases d <;> first | rfl | cases c
      rw [q] at k
      exact k
theorem is_int {h : Addr} {H : Hp} {x : V} {d : Td} (t : Is h H x d) (c : isI d = true) : ∃ i, x = .int i ∧ d = .int i := by
  cases t with
  | int i => exact ⟨i, rfl, rfl⟩
  | _ => cases c
theorem inI_no {lo hi : Int} {d : Td} (c : isI d = false) : inI lo hi d = false := by
  cases d with
  | int i => cases c
  | _ => rfl
def spIIF : Sp := fun vs H Q _ => ∃ (lo hi : Int) (x : V) (d : Td) (h : Addr), vs = [.int lo, .int hi, x] ∧ Is h H x d ∧ Q (.bl (inI lo hi d)) H
theorem ok_is_integer_from (T : Top K mg A) : FnOk P w K mg base CX0 2 A.a_is_integer_from A.d_is_integer_from P_is_integer_from spIIF := by
  refine T.F_is_integer_from.ok sc_is_integer_from (fun vs H Q E h => ?_) (fun cdv A' outer s H vs Q E hr h => ?_)
  · obtain ⟨lo, hi, x, d, h, rfl, _⟩ := h
    rfl
  · obtain ⟨lo, hi, x, d, h, rfl, ht, k⟩ := h
    refine ⟨_, (pss_one (ps_ret (pe_and (pe_call (ok_is_integer T) (hr.mono (by decide)) (by rfl) T.g_is_integer T.F_is_integer.kp T.b_is_integer .nil pass0 (pa_cons (pv 2) pa_nil)) (pe_one (pe_chain op_le op_le (pv 0) (pv 2) (pv 1)))))), ?_⟩
    refine ⟨_, rfl, x, d, h, rfl, ht, _, rfl, ?_⟩
    cases c : isI d with
    | true =>
      obtain ⟨i, rfl, rfl⟩ := is_int ht c
      refine iteT ?_
      refine ⟨_, rfl, _, rfl, _, _, rfl, rfl, _, rfl, ?_⟩
      by_cases c : lo ≤ i
      · simp only [inI, decide_eq_true c, Bool.true_and] at k
        rw [decide_eq_true c]
        refine iteT ⟨_, rfl, _, _, rfl, rfl, k⟩
      · simp only [inI, decide_eq_false c, Bool.false_and] at k
        rw [decide_eq_false c]
        exact iteF k
    | false =>
      rw [inI_no c] at k
      exact iteF k
def spINB : Sp := fun vs H Q _ => ∃ (n : Int) (x : V) (d : Td) (h : Addr), vs = [.int n, x] ∧ Is h H x d ∧ Q (.bl (inI 0 (n - 1) d)) H
theorem ok_is_number_below (T : Top K mg A) : FnOk P w K mg base CX0 3 A.a_is_number_below A.d_is_number_below P_is_number_below spINB := by
  refine T.F_is_number_below.ok sc_is_number_below (fun vs H Q E h => ?_) (fun cdv A' outer s H vs Q E hr h => ?_)
  · obtain ⟨n, x, d, h, rfl, _⟩ := h
    rfl
  · obtain ⟨n, x, d, h, rfl, ht, k⟩ := h
    refine ⟨_, (pss_one (ps_ret (pe_call (ok_is_integer_from T) (hr.mono (by decide)) (by rfl) T.g_is_integer_from T.F_is_integer_from.kp T.b_is_integer_from .nil pass0 (pa_cons pe_int (pa_cons (pe_op op_sub (pv 0) pe_int) (pa_cons (pv 1) pa_nil)))))), ?_⟩
    exact ⟨_, rfl, _, _, rfl, rfl, _, rfl, _, _, _, _, _, rfl, ht, k⟩
theorem tupN_no {n : Int} {d : Td} (c : isT d = false) : tupN n d = false := by
  cases d with
  | tup i => cases c
  | _ => rfl
def spITO : Sp := fun vs H Q _ => ∃ (n : Int) (x : V) (d : Td) (h : Addr), vs = [.int n, x] ∧ Is h H x d ∧ Q (.bl (tupN n d)) H
theorem ok_is_tuple_of (T : Top K mg A) : FnOk P w K mg base CX0 1 A.a_is_tuple_of A.d_is_tuple_of P_is_tuple_of spITO := by
  refine T.F_is_tuple_of.ok sc_is_tuple_of (fun vs H Q E h => ?_) (fun cdv A' outer s H vs Q E hr h => ?_)
  · obtain ⟨n, x, d, h, rfl, _⟩ := h
    rfl
  · obtain ⟨n, x, d, h, rfl, ht, k⟩ := h
    obtain ⟨t, ty, _, _, e3⟩ := is_ty T ht
    refine ⟨_, (pss_one (ps_ret (pe_and (pe_callB call_isi (by rfl) T.z_isinstance (by decide +kernel) (pa_cons (pv 1) (pa_cons (pe_bltn (v := .ty "tuple") (by rfl) T.z_tuple (by decide +kernel) rfl) pa_nil))) (pe_one (pe_cmpR op_eq (pe_callB call_len_seq (by rfl) T.z_len (by decide +kernel) (pa_cons (pv 1) pa_nil)) (pv 0) (nomark _)))))), ?_⟩
    refine ⟨_, rfl, _, _, _, _, _, rfl, .ty "tuple", ty, e3, _, rfl, ?_⟩
    cases c : isT d with
    | false =>
      rw [tupN_no c] at k
      exact iteF k
    | true =>
      obtain ⟨a, xs, ds, rfl, rfl, ha, hl⟩ := isT_of ht c
      refine iteT ?_
      refine ⟨_, rfl, _, _, rfl, .inr (SqT.of ha), _, rfl, rfl, ?_⟩
      rw [dec_int, hl.len]
      exact k
end

/-! ### what many laws want -/
/-- one by one -/
inductive All2 {α β : Type} (R : α → β → Prop) : List α → List β → Prop where
  | nil : All2 R [] []
  | cons {a : α} {b : β} {as : List α} {bs : List β} : R a b → All2 R as bs → All2 R (a :: as) (b :: bs)
section
variable {α β : Type} {R R' : α → β → Prop}
theorem All2.imp (f : ∀ a b, R a b → R' a b) : ∀ {as : List α} {bs : List β}, All2 R as bs → All2 R' as bs
  | _, _, .nil => .nil
  | _, _, .cons h t => .cons (f _ _ h) (t.imp f)
theorem All2.snoc : ∀ {as : List α} {bs : List β} {a : α} {b : β}, All2 R as bs → R a b → All2 R (as ++ [a]) (bs ++ [b])
  | _, _, _, _, .nil, h => .cons h .nil
  | _, _, _, _, .cons h t, h' => .cons h (t.snoc h')
theorem All2.len : ∀ {as : List α} {bs : List β}, All2 R as bs → as.length = bs.length
  | _, _, .nil => rfl
  | _, _, .cons _ t => by rw [List.length_cons, List.length_cons, t.len]
theorem All2.get : ∀ {as : List α} {bs : List β}, All2 R as bs → ∀ {i : Nat} {b : β}, bs[i]? = some b → ∃ a, as[i]? = some a ∧ R a b
  | _, _, .cons h _, 0, _, e => by
    cases e
    exact ⟨_, rfl, h⟩
  | _, _, .cons _ t, i + 1, _, e => t.get (i := i) e
theorem All2.getL : ∀ {as : List α} {bs : List β}, All2 R as bs → ∀ {i : Nat} {a : α}, as[i]? = some a → ∃ b, bs[i]? = some b ∧ R a b
  | _, _, .cons h _, 0, _, e => by
    cases e
    exact ⟨_, rfl, h⟩
  | _, _, .cons _ t, i + 1, _, e => t.getL (i := i) e
theorem All2.take : ∀ {as : List α} {bs : List β}, All2 R as bs → ∀ n : Nat, All2 R (as.take n) (bs.take n)
  | _, _, _, 0 => .nil
  | _, _, .nil, _ + 1 => .nil
  | _, _, .cons h t, n + 1 => .cons h (t.take n)
theorem All2.drop : ∀ {as : List α} {bs : List β}, All2 R as bs → ∀ n : Nat, All2 R (as.drop n) (bs.drop n)
  | _, _, h, 0 => h
  | _, _, .nil, _ + 1 => .nil
  | _, _, .cons _ t, n + 1 => t.drop n
theorem All2.mem : ∀ {as : List α} {bs : List β}, All2 R as bs → ∀ {b : β}, b ∈ bs → ∃ a ∈ as, R a b
  | _, _, .cons h t, b, m => by
    rcases List.mem_cons.mp m with e | m
    · subst e
      exact ⟨_, List.mem_cons_self, h⟩
    · obtain ⟨a, h1, h2⟩ := t.mem m
      exact ⟨a, List.mem_cons_of_mem _ h1, h2⟩
theorem All2.append : ∀ {as : List α} {bs : List β} {as' : List α} {bs' : List β}, All2 R as bs → All2 R as' bs' → All2 R (as ++ as') (bs ++ bs')
  | _, _, _, _, .nil, h => h
  | _, _, _, _, .cons h t, h' => .cons h (t.append h')
end
/-! ### comprehensions whose items are known -/
def LP (H : Hp) (D : Addr) (vals : List V) (i : Nat) (H' : Hp) : Prop := Same H H' ∧ H' D = some (.lst (vals.take i))
theorem LP.start {H : Hp} {D : Addr} {vals : List V} (nD : H D = none) : LP H D vals 0 (upd H D (.lst [])) := ⟨same_upd nD, upd_same⟩
theorem lcPut {H0 H1 H4 : Hp} {D : Addr} {vals : List V} {i : Nat} {y : V} (nD : H0 D = none) (p : LP H0 D vals i H1) (s : Same H1 H4) (hy : vals[i]? = some y) (few : vals.length ≤ 100000) :
    ∃ acc, H4 D = some (.lst acc) ∧ acc.length < sizeLine ∧ LP H0 D vals (i + 1) (upd H4 D (.lst (acc ++ [y]))) := by
  refine ⟨_, s _ _ p.2, ?_, same_to (p.1.trans s) nD, ?_⟩
  · rw [List.length_take]
    exact Nat.lt_of_le_of_lt (Nat.le_trans (Nat.min_le_right _ _) few) (by decide)
  · rw [upd_same, List.take_add_one, hy]
    rfl
theorem map_at {α β : Type} {f : α → β} {l : List α} {i : Nat} {x : α} (h : l[i]? = some x) : (l.map f)[i]? = some (f x) := by
  rw [List.getElem?_map, h]
  rfl
theorem take_all {α : Type} {l : List α} {n : Nat} (h : n = l.length) : l.take n = l := List.take_of_length_le (by omega)
/-- a new object -/
theorem newS {H : Hp} {o : HO} {Q : VK} (k : ∀ (H' : Hp) (p : Addr), H p = none → Same H H' → H' p = some o → Q (.ref p) H') : ∀ p, H p = none → Q (.ref p) (upd H p o) := fun p n => k _ p n (same_upd n) upd_same
theorem lay_all : ∀ {ds : List PyData}, (∀ x ∈ ds, PyData.canLay0 x = true) → PyData.canLayAll0 ds = true
  | [], _ => rfl
  | x :: ds, h => by
    show (PyData.canLay0 x && PyData.canLayAll0 ds) = true
    rw [h x List.mem_cons_self, lay_all fun y hy => h y (List.mem_cons_of_mem _ hy)]
    rfl
theorem dep_all {n : Nat} : ∀ {ds : List PyData}, (∀ x ∈ ds, PyData.depth x ≤ n) → PyData.depthAll ds ≤ n
  | [], _ => Nat.zero_le _
  | x :: ds, h => by
    show max (PyData.depth x) (PyData.depthAll ds) ≤ n
    exact Nat.max_le.mpr ⟨h x List.mem_cons_self, dep_all fun y hy => h y (List.mem_cons_of_mem _ hy)⟩
/-- data that may be laid, of a depth -/
structure Lay (d : PyData) (n : Nat) : Prop where
  lay : d.canLay0 = true
  dep : d.depth ≤ n
theorem Lay.sh {d : PyData} {n : Nat} (h : Lay d n) (hn : n ≤ 64) : SeqAt.shaped d = true := by
  unfold SeqAt.shaped
  rw [h.lay, decide_eq_true (Nat.le_trans h.dep hn)]
  rfl
theorem Lay.int (i : Int) : Lay (.int i) 0 := ⟨rfl, Nat.le_refl _⟩
theorem Lay.tup {ds : List PyData} {n : Nat} (h : ∀ x ∈ ds, Lay x n) : Lay (.tuple ds) (n + 1) := ⟨lay_all fun x hx => (h x hx).lay, Nat.succ_le_succ (dep_all fun x hx => (h x hx).dep)⟩
theorem Lay.lst {ds : List PyData} {n : Nat} (h : ∀ x ∈ ds, Lay x n) : Lay (.list ds) (n + 1) := ⟨lay_all fun x hx => (h x hx).lay, Nat.succ_le_succ (dep_all fun x hx => (h x hx).dep)⟩
theorem Lay.mono {d : PyData} {n m : Nat} (h : Lay d n) (hm : n ≤ m) : Lay d m := ⟨h.lay, Nat.le_trans h.dep hm⟩
theorem dpAll_of {α : Type} {K : PySem.W.Frag} {H : Hp} {R : α → V → Prop} {f : α → PyData} (g : ∀ a v, R a v → Dp K H v (f a)) : ∀ {as : List α} {vs : List V}, All2 R as vs → DpAll K H vs (as.map f)
  | _, _, .nil => .nil
  | _, _, .cons h t => .cons (g _ _ h) (dpAll_of g t)
theorem eqv_int {i j : Int} : PyData.eqv (.int i) (.int j) = decide (i = j) := by
  show (i == j) = decide (i = j)
  by_cases h : i = j <;> simp [h]
theorem eqvAll_map {α : Type} [DecidableEq α] {f : α → PyData} (h : ∀ a b, PyData.eqv (f a) (f b) = decide (a = b)) : ∀ as bs : List α, PyData.eqvAll (as.map f) (bs.map f) = decide (as = bs)
  | [], [] => rfl
  | [], _ :: _ => rfl
  | _ :: _, [] => rfl
  | a :: as, b :: bs => by
    show (PyData.eqv (f a) (f b) && PyData.eqvAll (as.map f) (bs.map f)) = _
    rw [h, eqvAll_map h as bs]
    by_cases h1 : a = b <;> by_cases h2 : as = bs <;> simp [h1, h2]
def intsD (ns : List Int) : List PyData := ns.map PyData.int
theorem eqv_ints (ns ms : List Int) : PyData.eqv (.list (intsD ns)) (.list (intsD ms)) = decide (ns = ms) := eqvAll_map (fun _ _ => eqv_int) ns ms
theorem eqv_intsT (ns ms : List Int) : PyData.eqv (.tuple (intsD ns)) (.tuple (intsD ms)) = decide (ns = ms) := eqvAll_map (fun _ _ => eqv_int) ns ms
theorem dp_ints {K : PySem.W.Frag} {H : Hp} : ∀ {ns : List Int}, DpAll K H (ns.map V.int) (intsD ns)
  | [] => .nil
  | n :: _ => .cons (.int n) dp_ints
theorem lay_intsL (ns : List Int) : Lay (.list (intsD ns)) 1 := Lay.lst fun x hx => by
  obtain ⟨i, _, rfl⟩ := List.mem_map.mp hx
  exact Lay.int i
theorem lay_intsT (ns : List Int) : Lay (.tuple (intsD ns)) 1 := Lay.tup fun x hx => by
  obtain ⟨i, _, rfl⟩ := List.mem_map.mp hx
  exact Lay.int i
def matD (m : List (List Int)) : PyData := .tuple (m.map fun r => .tuple (intsD r))
theorem eqv_mat (a b : List (List Int)) : PyData.eqv (matD a) (matD b) = decide (a = b) := eqvAll_map (f := fun r => .tuple (intsD r)) eqv_intsT a b
theorem lay_mat (a : List (List Int)) : Lay (matD a) 2 := Lay.tup fun x hx => by
  obtain ⟨r, _, rfl⟩ := List.mem_map.mp hx
  exact lay_intsT r
theorem ixN_at {n j : Nat} (h : j < n) : ixN n (j : Int) = some j := by
  unfold ixN
  rw [if_pos (by omega), if_pos (by omega), Int.toNat_natCast]
theorem flat_len {α : Type} {m : Nat} : ∀ {l : List (List α)}, (∀ r ∈ l, r.length ≤ m) → l.flatten.length ≤ l.length * m
  | [], _ => by simp
  | r :: l, h => by
    rw [List.flatten_cons, List.length_append, List.length_cons, Nat.add_mul, Nat.one_mul]
    have h1 := h r List.mem_cons_self
    have h2 := flat_len (l := l) fun x hx => h x (List.mem_cons_of_mem _ hx)
    omega
theorem take_flat {α : Type} {l : List (List α)} {i : Nat} {r : List α} (h : l[i]? = some r) : (l.take (i + 1)).flatten = (l.take i).flatten ++ r := by
  rw [List.take_add_one, h, List.flatten_append]
  congr 1
  show [r].flatten = r
  rw [List.flatten_cons, List.flatten_nil, List.append_nil]
theorem take_flat_le {α : Type} {l : List (List α)} (n : Nat) : ((l.take n).flatten).length ≤ l.flatten.length := by
  conv => rhs; rw [← List.take_append_drop n l, List.flatten_append, List.length_append]
  omega
theorem newH {H : Hp} {p : Addr} {o : HO} (n : H p = none) : ∃ H', upd H p o = H' ∧ Same H H' ∧ H' p = some o := ⟨_, rfl, same_upd n, upd_same⟩
theorem sl_at {H : Hp} {K : PySem.W.Frag} {b : Addr} {us : List V} {lo hi : Option Int} {Q : VK} (e : H b = some (.tup us)) (q : ∀ H' p, Same H H' → H' p = some (.tup (cutV us lo hi)) → Q (.ref p) H') : rSlA K (.ref b) lo hi H Q := by
  refine ⟨b, us, rfl, SqT.of e, fun ⟨z1, z2⟩ => q _ _ (fun _ _ z => z) ?_, fun _ p np => q _ _ (same_upd np) upd_same⟩
  rw [e]
  unfold cutV
  rw [z1, z2, List.drop_zero, Nat.sub_zero, List.take_length]
/-! ### matchings: (line, output, place) -/
theorem cut_one {xs : List V} : cutV xs (some (1 : Int)) none = xs.drop 1 := by
  cases xs with
  | nil => rfl
  | cons y r =>
    show cutV (y :: r) (some ((1 : Nat) : Int)) none = _
    unfold cutV
    rw [HT.sIx_none, HT.sIx_nat, Nat.min_eq_left (by rw [List.length_cons]; omega)]
    exact List.take_of_length_le (by rw [List.length_drop]; exact Nat.le_refl _)
theorem cat_at {H : Hp} {K : PySem.W.Frag} {a b : Addr} {xs ys : List V} {Q : VK} (e1 : H a = some (.tup xs)) (e2 : H b = some (.tup ys)) (l : xs.length + ys.length ≤ 1000) (q : ∀ H' p, Same H H' → H' p = some (.tup (xs ++ ys)) → Q (.ref p) H') : rCatA K (.ref a) (.ref b) H Q := by
  refine ⟨a, b, xs, ys, rfl, rfl, SqT.of e1, SqT.of e2, Nat.le_trans l (by decide), fun z => ?_, fun _ z => ?_, fun _ _ p np => q _ p (same_upd np) upd_same⟩
  · subst z
    exact q H b (fun _ _ e => e) e2
  · subst z
    exact q H a (fun _ _ e => e) (by rw [List.append_nil]; exact e1)
theorem cut_to {xs : List V} {n : Nat} (h : n ≤ xs.length) : cutV xs none (some (n : Int)) = xs.take n := by
  unfold cutV
  rw [HT.sIx_none, HT.sIx_nat, Nat.min_eq_left h]
  rfl
theorem cut_from {xs : List V} {n : Nat} (h : n ≤ xs.length) : cutV xs (some (n : Int)) none = xs.drop n := by
  unfold cutV
  rw [HT.sIx_none, HT.sIx_nat, Nat.min_eq_left h]
  exact List.take_of_length_le (by rw [List.length_drop]; exact Nat.le_refl _)

section
variable {P : Program} {w : World} {K : PySem.W.Frag} {mg : Str → Option Value} {base : Heap} {A : Adr}
/-! ### the deck: a list of five, [the script's numbers, place, rest, turns, seed] -/
def deckO (g : Addr) (i m t s : Int) : HO := .lst [.ref g, .int i, .int m, .int t, .int s]
structure DeckAt (H : Hp) (h g : Addr) : Prop where
  cells : ∃ ns : List Int, H g = some (.lst (ns.map V.int))
  five : ∃ i m t s, H h = some (deckO g i m t s) ∧ 0 ≤ i
  ne : h ≠ g
def But (h : Addr) (H H' : Hp) : Prop := ∀ b, b ≠ h → H' b = H b
theorem But.upd {h : Addr} {H : Hp} {o : HO} : But h H (upd H h o) := fun _ hb => upd_ne hb
theorem But.trans {h : Addr} {H H1 H2 : Hp} (a : But h H H1) (b : But h H1 H2) : But h H H2 := fun c hc => (b c hc).trans (a c hc)
theorem But.refl (h : Addr) (H : Hp) : But h H H := fun _ _ => rfl
theorem But.mv {h : Addr} {H H' : Hp} (b : But h H H') : Mv h H H' := fun q o hq e _ => (b q hq).trans e
theorem deck_upd {H : Hp} {h g : Addr} (a : DeckAt H h g) {i m t s : Int} (hi : 0 ≤ i) : DeckAt (upd H h (deckO g i m t s)) h g :=
  ⟨by
    obtain ⟨ns, e⟩ := a.cells
    exact ⟨ns, by rw [upd_ne a.ne.symm]; exact e⟩, ⟨i, m, t, s, upd_same, hi⟩, a.ne⟩
theorem DeckAt.same {H H' : Hp} {h g : Addr} (a : DeckAt H h g) (s : Same H H') : DeckAt H' h g :=
  ⟨let ⟨ns, e⟩ := a.cells; ⟨ns, s _ _ e⟩, let ⟨i, m, t, sd, e, hi⟩ := a.five; ⟨i, m, t, sd, s _ _ e, hi⟩, a.ne⟩
theorem DeckAt.lst {H : Hp} {h g : Addr} (a : DeckAt H h g) : ∃ ys, H h = some (.lst ys) := let ⟨_, _, _, _, e, _⟩ := a.five; ⟨_, e⟩
def spMixed : Sp := fun vs H Q _ => ∃ c t : Int, vs = [.int c, .int t] ∧ ∀ z : Int, Q (.int z) H
theorem ok_law_mixed (T : Top K mg A) : FnOk P w K mg base CX0 1 A.a_law_mixed A.d_law_mixed P_law_mixed spMixed := by
  refine T.F_law_mixed.ok sc_law_mixed (fun vs H Q E h => ?_) (fun cdv A' outer s H vs Q E hr h => ?_)
  · obtain ⟨c, t, rfl, _⟩ := h
    rfl
  · obtain ⟨c, t, rfl, k⟩ := h
    refine ⟨_, (pss_cons (ps_set (i := 2) sc_law_mixed.nd rfl (.inl rfl) (pe_op op_mod (pe_op op_mul (pe_callTy call_int1 (by rfl) T.z_int (by decide +kernel) (pa_cons (pe_op op_add (pe_op op_add (pv 0) (pe_op op_mul pe_int (pv 1))) pe_int) pa_nil)) pe_int) pe_int))
    (pss_cons (ps_set (i := 2) sc_law_mixed.nd rfl (.inl rfl) (pe_op op_mod (pe_callTy call_int1 (by rfl) T.z_int (by decide +kernel) (pa_cons (pe_op op_mul (pv 2) (pe_op op_add (pe_op op_fdiv (pv 2) pe_int) pe_int)) pa_nil)) pe_int))
    (pss_cons (ps_set (i := 2) sc_law_mixed.nd rfl (.inl rfl) (pe_op op_mod (pe_callTy call_int1 (by rfl) T.z_int (by decide +kernel) (pa_cons (pe_op op_mul (pv 2) (pe_op op_add (pe_op op_add (pe_op op_fdiv (pv 2) pe_int) pe_int) (pv 1))) pa_nil)) pe_int))
    (pss_one (ps_ret (pe_op op_fdiv (pv 2) pe_int)))))), ?_⟩
    refine ⟨_, rfl, _, rfl, _, _, rfl, rfl, .inl ⟨by decide, by decide⟩, _, _, rfl, rfl, _, _, rfl, rfl, .inl ⟨_, rfl, _, _, rfl, rfl, .inr ⟨by decide, by decide⟩, _, _, rfl, rfl, (by show (0 : Int) < 2147483647; decide), ?_⟩⟩
    generalize hz : (c + 7919 * t + 1) * 48271 = z0
    have m0 := Int.emod_nonneg z0 (show (2147483647 : Int) ≠ 0 by decide)
    have m1 := Int.emod_lt_of_pos z0 (show (0 : Int) < 2147483647 by decide)
    generalize z0 % 2147483647 = x1 at m0 m1 ⊢
    refine ⟨_, rfl, _, rfl, _, _, rfl, rfl, ⟨by decide, by decide⟩, _, _, rfl, rfl, _, _, rfl, rfl, .inl ⟨by omega, by omega⟩, .inl ⟨_, rfl, _, _, rfl, rfl, (by show (0 : Int) < 2147483647; decide), ?_⟩⟩
    have m2 := Int.emod_nonneg (x1 * (x1 / 1009 + 69621)) (show (2147483647 : Int) ≠ 0 by decide)
    have m3 := Int.emod_lt_of_pos (x1 * (x1 / 1009 + 69621)) (show (0 : Int) < 2147483647 by decide)
    generalize x1 * (x1 / 1009 + 69621) % 2147483647 = x2 at m2 m3 ⊢
    refine ⟨_, rfl, _, rfl, _, _, rfl, rfl, ⟨by decide, by decide⟩, _, _, rfl, rfl, _, rfl, _, _, rfl, rfl, _, _, rfl, rfl, .inl ⟨by omega, by omega⟩, .inl ⟨_, rfl, _, _, rfl, rfl, (by show (0 : Int) < 2147483399; decide), ?_⟩⟩
    exact ⟨_, rfl, _, _, rfl, rfl, ⟨by decide, by decide⟩, k _⟩
def spDraw : Sp := fun vs H Q _ => ∃ (h g : Addr) (n : Int), vs = [.ref h, .int n] ∧ DeckAt H h g ∧ 0 < n ∧ n < 1073741824 ∧ ∀ (H' : Hp) (d : Int), But h H H' → DeckAt H' h g → 0 ≤ d → d < n → Q (.int d) H'
theorem ok_law_draw (T : Top K mg A) : FnOk P w K mg base CX0 2 A.a_law_draw A.d_law_draw P_law_draw spDraw := by
  refine T.F_law_draw.ok sc_law_draw (fun vs H Q E h => ?_) (fun cdv A' outer s H vs Q E hr h => ?_)
  · obtain ⟨h, g, n, rfl, _⟩ := h
    rfl
  · obtain ⟨h, g, n, rfl, ha, hn, hn2, k⟩ := h
    obtain ⟨ns, eg⟩ := ha.cells
    obtain ⟨i, m, t, sd, eh, hi⟩ := ha.five
    have hne := ha.ne
    refine ⟨_, (pss_cons (ps_asg (pe_op op_add (pe_ix ix_list (pv 0) pe_int (fun _ _ => rfl)) pe_int) (pg_sub (pv 0) pe_int set_list))
    (Evl.pss_cut (ps_if (PW.pt (pw_and (pt_cmpR op_eq (pe_ix ix_list (pv 0) pe_int (fun _ _ => rfl)) pe_int (nomark _)) (pw_and1 (pt_cmpR op_lt (pe_ix ix_list (pv 0) pe_int (fun _ _ => rfl)) (pe_callB call_len_seq (by rfl) T.z_len (by decide +kernel) (pa_cons (pe_ix ix_list (pv 0) pe_int (fun _ _ => rfl)) pa_nil)) (nomark _))))) (pss_cons (ps_set (i := 2) sc_law_draw.nd rfl (.inl rfl) (pe_ix ix_list (pe_ix ix_list (pv 0) pe_int (fun _ _ => rfl)) (pe_ix ix_list (pv 0) pe_int (fun _ _ => rfl)) (fun _ _ => rfl)))
    (pss_cons (ps_asg (pe_op op_add (pe_ix ix_list (pv 0) pe_int (fun _ _ => rfl)) pe_int) (pg_sub (pv 0) pe_int set_list))
    (pss_cons (ps_if (pt_chain op_lt op_lt (pe_un un_neg (pe_op op_pow pe_int pe_int)) (pv 2) (pe_op op_pow pe_int pe_int)) (pss_one (ps_ret (pe_op op_mod (pe_callTy call_int1 (by rfl) T.z_int (by decide +kernel) (pa_cons (pe_call (ok_law_mixed T) (hr.mono (by decide)) (by rfl) T.g_law_mixed T.F_law_mixed.kp T.b_law_mixed .nil pass0 (pa_cons (pv 2) (pa_cons (pe_ix ix_list (pv 0) pe_int (fun _ _ => rfl)) pa_nil))) pa_nil)) (pv 1)))) pss_nil)
    (pss_one (ps_asg (pe_callB call_abs (by rfl) T.z_abs (by decide +kernel) (pa_cons (pv 2) pa_nil)) (pg_sub (pv 0) pe_int set_list)))))) pss_nil)
    (pss_cons (ps_if (pt_cmpR op_gt (pe_ix ix_list (pv 0) pe_int (fun _ _ => rfl)) pe_int (nomark _)) (pss_cons (ps_set (i := 3) sc_law_draw.nd rfl (.inl rfl) (pe_op op_mod (pe_callTy call_int1 (by rfl) T.z_int (by decide +kernel) (pa_cons (pe_ix ix_list (pv 0) pe_int (fun _ _ => rfl)) pa_nil)) (pv 1)))
    (pss_cons (ps_asg (pe_op op_fdiv (pe_ix ix_list (pv 0) pe_int (fun _ _ => rfl)) (pv 1)) (pg_sub (pv 0) pe_int set_list))
    (pss_one (ps_ret (pv 3))))) pss_nil)
    (pss_one (ps_ret (pe_op op_mod (pe_callTy call_int1 (by rfl) T.z_int (by decide +kernel) (pa_cons (pe_call (ok_law_mixed T) (hr.mono (by decide)) (by rfl) T.g_law_mixed T.F_law_mixed.kp T.b_law_mixed .nil pass0 (pa_cons (pe_ix ix_list (pv 0) pe_int (fun _ _ => rfl)) (pa_cons (pe_ix ix_list (pv 0) pe_int (fun _ _ => rfl)) pa_nil))) pa_nil)) (pv 1))))))), ?_⟩
    refine ⟨_, rfl, h, _, 3, _, rfl, rfl, SqL.of eh, atI_nat (j := 3) rfl, _, _, rfl, rfl, _, rfl, h, _, _, 3, rfl, rfl, eh, rfl, ?_⟩
    have eh1 : (upd H h (deckO g i m (t + 1) sd)) h = some (deckO g i m (t + 1) sd) := upd_same
    have h1 : DeckAt (upd H h (deckO g i m (t + 1) sd)) h g := deck_upd ha hi
    have eg1 : (upd H h (deckO g i m (t + 1) sd)) g = some (.lst (ns.map V.int)) := by rw [upd_ne hne.symm]; exact eg
    have b1 : But h H (upd H h (deckO g i m (t + 1) sd)) := But.upd
    refine ⟨fun σ' H' => ∃ y2, σ' = [some (.ref h), some (.int n), y2, none] ∧ But h H H' ∧ DeckAt H' h g, ?_, ?_⟩
    · have stay : ∃ y2, ([some (.ref h), some (.int n), none, none] : L2.St) = [some (.ref h), some (.int n), y2, none] ∧ But h H (upd H h (deckO g i m (t + 1) sd)) ∧ DeckAt (upd H h (deckO g i m (t + 1) sd)) h g := ⟨none, rfl, b1, h1⟩
      refine ⟨_, rfl, h, _, 2, _, rfl, rfl, SqL.of eh1, atI_nat (j := 2) rfl, rfl, _, rfl, ite2 (fun c1 => ?_) (fun _ => iteF stay)⟩
      refine ⟨_, rfl, h, _, 1, _, rfl, rfl, SqL.of eh1, atI_nat (j := 1) rfl, _, rfl, h, _, 0, _, rfl, rfl, SqL.of eh1, atI_nat (j := 0) rfl, g, _, rfl, .inl (SqL.of eg1), _, _, rfl, rfl, _, rfl, ite2 (fun c2 => ?_) (fun _ => stay)⟩
      have c3 : i < (ns.length : Int) := by
        have q := of_decide_eq_true c2
        rw [List.length_map] at q
        exact q
      have hj : i.toNat < ns.length := by omega
      have ej : (ns.map V.int)[i.toNat]? = some (.int ns[i.toNat]) := by
        rw [List.getElem?_map, List.getElem?_eq_getElem hj]
        rfl
      refine ⟨_, rfl, h, _, 0, _, rfl, rfl, SqL.of eh1, atI_nat (j := 0) rfl, _, rfl, h, _, 1, _, rfl, rfl, SqL.of eh1, atI_nat (j := 1) rfl, g, _, i, _, rfl, rfl, SqL.of eg1, at_of (by omega) ej, ?_⟩
      refine ⟨_, rfl, h, _, 1, _, rfl, rfl, SqL.of eh1, atI_nat (j := 1) rfl, i, 1, rfl, rfl, _, rfl, h, _, _, 1, rfl, rfl, eh1, rfl, ?_⟩
      have eh2 : (upd (upd H h (deckO g i m (t + 1) sd)) h (deckO g (i + 1) m (t + 1) sd)) h = some (deckO g (i + 1) m (t + 1) sd) := upd_same
      have h2 : DeckAt (upd (upd H h (deckO g i m (t + 1) sd)) h (deckO g (i + 1) m (t + 1) sd)) h g := deck_upd h1 (by omega)
      have b2 : But h H (upd (upd H h (deckO g i m (t + 1) sd)) h (deckO g (i + 1) m (t + 1) sd)) := b1.trans But.upd
      have last : ∃ y2, ([some (.ref h), some (.int n), some (.int ns[i.toNat]), none] : L2.St) = [some (.ref h), some (.int n), y2, none] ∧ But h H (upd (upd (upd H h (deckO g i m (t + 1) sd)) h (deckO g (i + 1) m (t + 1) sd)) h (deckO g (i + 1) (if ns[i.toNat] < 0 then -ns[i.toNat] else ns[i.toNat]) (t + 1) sd)) ∧ DeckAt (upd (upd (upd H h (deckO g i m (t + 1) sd)) h (deckO g (i + 1) m (t + 1) sd)) h (deckO g (i + 1) (if ns[i.toNat] < 0 then -ns[i.toNat] else ns[i.toNat]) (t + 1) sd)) h g := ⟨_, rfl, b2.trans But.upd, deck_upd h2 (by omega)⟩
      refine ⟨10, 18, rfl, rfl, ⟨by decide, by decide, by decide⟩, _, rfl, _, rfl, _, _, rfl, rfl, _, rfl, ite2 (fun _ => ?_) (fun _ => ?_)⟩
      · refine ⟨10, 18, rfl, rfl, ⟨by decide, by decide, by decide⟩, _, _, rfl, rfl, _, rfl, ite2 (fun _ => ?_) (fun _ => ?_)⟩
        · refine ⟨_, rfl, _, rfl, h, _, 3, _, rfl, rfl, SqL.of eh2, atI_nat (j := 3) rfl, _, _, rfl, fun z => .inl ⟨_, rfl, _, rfl, _, _, rfl, rfl, hn, ?_⟩⟩
          exact k _ _ b2 h2 (Int.emod_nonneg _ (by omega)) (Int.emod_lt_of_pos _ hn)
        · exact ⟨_, rfl, _, rfl, _, rfl, h, _, _, 2, rfl, rfl, eh2, rfl, last⟩
      · exact ⟨_, rfl, iteF ⟨_, rfl, _, rfl, _, rfl, h, _, _, 2, rfl, rfl, eh2, rfl, last⟩⟩
    · rintro σ' H1 ⟨y2, rfl, b1, h1⟩
      obtain ⟨i, m, t, sd, eh, hi⟩ := h1.five
      refine ⟨_, rfl, h, _, 2, _, rfl, rfl, SqL.of eh, atI_nat (j := 2) rfl, _, _, rfl, rfl, _, rfl, ite2 (fun c => ?_) (fun _ => ?_)⟩
      · refine ⟨_, rfl, h, _, 2, _, rfl, rfl, SqL.of eh, atI_nat (j := 2) rfl, .inl ⟨_, rfl, _, rfl, _, _, rfl, rfl, hn, ?_⟩⟩
        refine ⟨_, rfl, h, _, 2, _, rfl, rfl, SqL.of eh, atI_nat (j := 2) rfl, _, rfl, _, _, rfl, rfl, ⟨hn, hn2⟩, _, rfl, h, _, _, 2, rfl, rfl, eh, rfl, ?_⟩
        exact ⟨_, rfl, k _ _ (b1.trans But.upd) (deck_upd h1 hi) (Int.emod_nonneg _ (by omega)) (Int.emod_lt_of_pos _ hn)⟩
      · refine ⟨_, rfl, h, _, 4, _, rfl, rfl, SqL.of eh, atI_nat (j := 4) rfl, _, rfl, h, _, 3, _, rfl, rfl, SqL.of eh, atI_nat (j := 3) rfl, _, _, rfl, fun z => .inl ⟨_, rfl, _, rfl, _, _, rfl, rfl, hn, ?_⟩⟩
        exact k _ _ b1 h1 (Int.emod_nonneg _ (by omega)) (Int.emod_lt_of_pos _ hn)
def spDeck (K : PySem.W.Frag) : Sp := fun vs H Q _ => ∃ (a : Addr) (ns : List Int), vs = [.ref a] ∧ SqL K H a (ns.map V.int) ∧ ∀ (H' : Hp) (h g : Addr), Same H H' → H h = none → H g = none → DeckAt H' h g → Q (.ref h) H'
theorem ok_law_deck (T : Top K mg A) : FnOk P w K mg base CX0 1 A.a_law_deck A.d_law_deck P_law_deck (spDeck K) := by
  refine T.F_law_deck.ok sc_law_deck (fun vs H Q E h => ?_) (fun cdv A' outer s H vs Q E hr h => ?_)
  · obtain ⟨a, ns, rfl, _⟩ := h
    rfl
  · obtain ⟨a, ns, rfl, ha, k⟩ := h
    refine ⟨_, (pss_cons (ps_set (i := 1) sc_law_deck.nd rfl (.inl rfl) pe_int)
    (pss_cons (ps_for PassesOwn.never rfl (pi_list (pv 0)) (pg_name (i := 2) sc_law_deck.nd rfl (.inl rfl)) (pss_one (ps_set (i := 1) sc_law_deck.nd rfl (.inl rfl) (pe_op op_mod (pe_callTy call_int1 (by rfl) T.z_int (by decide +kernel) (pa_cons (pe_op op_add (pe_op op_mul (pv 1) pe_int) (pv 2)) pa_nil)) pe_int))))
    (pss_one (ps_ret (pe_lst (pa_cons (pe_callTy call_list_of (by rfl) T.z_list (by decide +kernel) (pa_cons (pv 0) pa_nil)) (pa_cons pe_int (pa_cons pe_int (pa_cons pe_int (pa_cons (pv 1) pa_nil)))))))))), ?_⟩
    refine ⟨_, rfl, a, rfl, ⟨_, ha⟩, for_list (K := K) (a := a) (xs := ns.map V.int) (fun i σ H' => ∃ (s : Int) (y2 : Option V), σ = [some (.ref a), some (.int s), y2] ∧ H' = H) ⟨1, _, rfl, rfl⟩ (fun i σ H' _ ⟨_, _, _, e⟩ => by rw [e]; exact ha) ?_ ?_⟩
    · rintro i x σ H' hx ⟨s, y2, rfl, rfl⟩
      rw [List.getElem?_map] at hx
      obtain ⟨n, hn, rfl⟩ := Option.map_eq_some_iff.mp hx
      refine ⟨_, rfl, _, _, rfl, rfl, .inr ⟨by decide, by decide⟩, _, rfl, _, _, rfl, rfl, .inl ⟨_, rfl, _, _, rfl, rfl, (by show (0 : Int) < 998244353; decide), ?_⟩⟩
      exact ⟨_, _, rfl, rfl⟩
    · rintro σ H' ⟨s, y2, rfl, rfl⟩
      refine ⟨_, rfl, a, _, rfl, .inl ha, fun g ng => ⟨_, rfl, by show 5 ≤ sizeLine; decide, fun h nh => ?_⟩⟩
      have hg : h ≠ g := fun e => by
        rw [e, upd_same] at nh
        cases nh
      have nh' := (same_upd ng (o := .lst (ns.map V.int))).free nh
      exact k _ h g (same_to (same_upd ng) nh') nh' ng ⟨⟨ns, by rw [upd_ne hg.symm]; exact upd_same⟩, ⟨0, 0, 0, s, upd_same, by decide⟩, hg⟩
end

/-! ### things judged -/
def itsOf : Td → List Td
  | .tup es => es
  | _ => []
def intOf : Td → Int
  | .int i => i
  | _ => 0
def lotL (b : Int) : Int → List Td → Bool
  | _, [] => true
  | last, d :: ds => inI (last + 1) (b - 1) d && lotL b (intOf d) ds
def lotB (b : Int) : Td → Bool
  | .tup ds => lotL b (-1) ds
  | _ => false
def outsB (b m : Int) (d : Td) : Bool := lotB b d && (decide (1 ≤ ((itsOf d).length : Int)) && decide (((itsOf d).length : Int) ≤ m))
def wordsB (m : Int) : Td → Bool
  | .tup ds => (decide (1 ≤ (ds.length : Int)) && decide ((ds.length : Int) ≤ m)) && ds.all (inI 0 255)
  | _ => false
def packB (b m : Int) : Td → Bool
  | .tup [s, k, o, w] => inI 0 99 s && (inI 0 7 k && (outsB b m o && wordsB 40 w))
  | _ => false
theorem lotB_no {b : Int} {d : Td} (c : isT d = false) : lotB b d = false := by
  cases d with
  | tup ds => cases c
  | _ => rfl
theorem wordsB_no {m : Int} {d : Td} (c : isT d = false) : wordsB m d = false := by
  cases d with
  | tup ds => cases c
  | _ => rfl
theorem inI_yes {lo hi : Int} {d : Td} (c : inI lo hi d = true) : ∃ i, d = .int i ∧ lo ≤ i ∧ i ≤ hi := by
  cases d with
  | int i =>
    unfold inI at c
    rw [Bool.and_eq_true] at c
    exact ⟨i, rfl, of_decide_eq_true c.1, of_decide_eq_true c.2⟩
  | _ => cases c
section
variable {P : Program} {w : World} {K : PySem.W.Frag} {mg : Str → Option Value} {base : Heap} {A : Adr}
def spLot : Sp := fun vs H Q _ => ∃ (n : Int) (x : V) (d : Td) (h : Addr), vs = [.int n, x] ∧ Is h H x d ∧ Q (.bl (lotB n d)) H
theorem ok_is_lot_below (T : Top K mg A) : FnOk P w K mg base CX0 3 A.a_is_lot_below A.d_is_lot_below P_is_lot_below spLot := by
  refine T.F_is_lot_below.ok sc_is_lot_below (fun vs H Q E h => ?_) (fun cdv A' outer s H vs Q E hr h => ?_)
  · obtain ⟨n, x, d, h, rfl, _⟩ := h
    rfl
  · obtain ⟨n, x, d, h, rfl, ix, k⟩ := h
    obtain ⟨t, ty, _, _, e3⟩ := is_ty T ix
    refine ⟨_, (pss_cons (ps_if (pt_not (pt_val (pe_callB call_isi (by rfl) T.z_isinstance (by decide +kernel) (pa_cons (pv 1) (pa_cons (pe_bltn (v := .ty "tuple") (by rfl) T.z_tuple (by decide +kernel) rfl) pa_nil))))) (pss_one (ps_ret pe_bl)) pss_nil)
    (pss_cons (ps_set (i := 2) sc_is_lot_below.nd rfl (.inl rfl) (pe_un un_neg pe_int))
    (pss_cons (ps_for PassesOwn.never rfl (pi_tup (pv 1)) (pg_name (i := 3) sc_is_lot_below.nd rfl (.inl rfl)) (pss_cons (ps_if (pt_not (pt_val (pe_call (ok_is_integer_from T) (hr.mono (by decide)) (by rfl) T.g_is_integer_from T.F_is_integer_from.kp T.b_is_integer_from .nil pass0 (pa_cons (pe_op op_add (pv 2) pe_int) (pa_cons (pe_op op_sub (pv 0) pe_int) (pa_cons (pv 3) pa_nil)))))) (pss_one (ps_ret pe_bl)) pss_nil)
    (pss_one (ps_set (i := 2) sc_is_lot_below.nd rfl (.inl rfl) (pv 3)))))
    (pss_one (ps_ret pe_bl))))), ?_⟩
    refine ⟨_, rfl, _, _, _, _, _, rfl, .ty "tuple", ty, e3, _, rfl, ?_⟩
    cases c : isT d with
    | false =>
      rw [lotB_no c] at k
      exact iteT k
    | true =>
      obtain ⟨a, xs, ds, rfl, rfl, ha, hl⟩ := isT_of ix c
      have lx := hl.len
      refine iteF ⟨_, rfl, ?_⟩
      refine ⟨_, rfl, a, rfl, ⟨_, SqT.of ha⟩, for_tup (K := K) (a := a) (xs := xs) (fun i σ H' => ∃ (last : Int) (y3 : Option V), σ = [some (.int n), some (.ref a), some (.int last), y3] ∧ H' = H ∧ lotB n (.tup ds) = lotL n last (ds.drop i)) ⟨-1, _, rfl, rfl, rfl⟩ (fun i σ H' _ ⟨_, _, _, e, _⟩ => by rw [e]; exact SqT.of ha) ?_ ?_⟩
      · rintro i y σ H' hi ⟨last, y3, rfl, rfl, el⟩
        obtain ⟨e, he, ie⟩ := hl.get hi
        have hd : ds.drop i = e :: ds.drop (i + 1) := by
          obtain ⟨h1, h2⟩ := List.getElem?_eq_some_iff.mp he
          rw [List.drop_eq_getElem_cons h1, h2]
        rw [hd] at el
        have el : lotB n (.tup ds) = (inI (last + 1) (n - 1) e && lotL n (intOf e) (ds.drop (i + 1))) := el
        refine ⟨_, rfl, _, _, rfl, rfl, _, rfl, _, _, rfl, rfl, _, rfl, _, _, _, e, h, rfl, ie, _, rfl, ?_⟩
        cases c2 : inI (last + 1) (n - 1) e with
        | false =>
          rw [c2] at el
          rw [el] at k
          exact iteT k
        | true =>
          obtain ⟨j, rfl, _, _⟩ := inI_yes c2
          cases ie
          rw [c2, Bool.true_and] at el
          exact iteF ⟨_, rfl, j, _, rfl, rfl, el⟩
      · rintro σ H' ⟨last, y3, rfl, rfl, el⟩
        rw [lx, List.drop_length] at el
        have el : lotB n (.tup ds) = true := el
        rw [el] at k
        exact k
def spOuts : Sp := fun vs H Q _ => ∃ (n m : Int) (x : V) (d : Td) (h : Addr), vs = [.int n, .int m, x] ∧ Is h H x d ∧ Q (.bl (outsB n m d)) H
theorem ok_are_outs (T : Top K mg A) : FnOk P w K mg base CX0 4 A.a_are_outs A.d_are_outs P_are_outs spOuts := by
  refine T.F_are_outs.ok sc_are_outs (fun vs H Q E h => ?_) (fun cdv A' outer s H vs Q E hr h => ?_)
  · obtain ⟨n, m, x, d, h, rfl, _⟩ := h
    rfl
  · obtain ⟨n, m, x, d, h, rfl, ix, k⟩ := h
    refine ⟨_, (pss_one (ps_ret (pe_and (pe_call (ok_is_lot_below T) (hr.mono (by decide)) (by rfl) T.g_is_lot_below T.F_is_lot_below.kp T.b_is_lot_below .nil pass0 (pa_cons (pv 0) (pa_cons (pv 2) pa_nil))) (pe_one (pe_chain op_le op_le pe_int (pe_callB call_len_seq (by rfl) T.z_len (by decide +kernel) (pa_cons (pv 2) pa_nil)) (pv 1)))))), ?_⟩
    refine ⟨_, rfl, _, rfl, n, x, d, h, rfl, ix, _, rfl, ?_⟩
    unfold outsB at k
    cases c : lotB n d with
    | false =>
      rw [c] at k
      exact iteF k
    | true =>
      have ct : isT d = true := by
        cases z : isT d with
        | true => rfl
        | false => rw [lotB_no z] at c; cases c
      obtain ⟨a, xs, ds, rfl, rfl, ha, hl⟩ := isT_of ix ct
      have lx := hl.len
      rw [c, Bool.true_and] at k
      have k : Q (.bl (decide (1 ≤ (ds.length : Int)) && decide ((ds.length : Int) ≤ m))) H := k
      rw [← lx] at k
      refine iteT ⟨_, rfl, a, xs, rfl, .inr (SqT.of ha), _, _, rfl, rfl, _, rfl, ?_⟩
      by_cases c1 : (1 : Int) ≤ xs.length
      · rw [decide_eq_true c1, Bool.true_and] at k
        rw [decide_eq_true c1]
        exact iteT ⟨_, rfl, _, _, rfl, rfl, k⟩
      · rw [decide_eq_false c1, Bool.false_and] at k
        rw [decide_eq_false c1]
        exact iteF k
def spWords : Sp := fun vs H Q _ => ∃ (m : Int) (x : V) (d : Td) (h : Addr), vs = [.int m, x] ∧ Is h H x d ∧ m ≤ 1000 ∧ ∀ H', Same H H' → Q (.bl (wordsB m d)) H'
end

/-! ### arrivals judged -/
def arrB (n m : Int) : Td → Bool
  | .tup [s, k, o] => inI 0 99 s && (inI 0 7 k && outsB n m o)
  | _ => false
def itemB (n m : Int) : Td → Bool
  | .non => true
  | d => arrB n m d
def rowB (n m : Int) : Td → Bool
  | .tup ds => decide ((ds.length : Int) = n) && ds.all (itemB n m)
  | _ => false
def arrsB (n m : Int) : Td → Bool
  | .tup ds => decide ((ds.length : Int) ≤ 200) && ds.all (rowB n m)
  | _ => false
section
variable {P : Program} {w : World} {K : PySem.W.Frag} {mg : Str → Option Value} {base : Heap} {A : Adr}
theorem arrB_no {n m : Int} {d : Td} (c : tupN 3 d = false) : arrB n m d = false := by
  cases d with
  | tup ds =>
    match ds, c with
    | [], _ => rfl
    | [_], _ => rfl
    | [_, _], _ => rfl
    | [_, _, _], c => cases c
    | _ :: _ :: _ :: _ :: _, _ => rfl
  | _ => rfl
theorem three {h : Addr} {H : Hp} {x : V} {d : Td} (t : Is h H x d) (c : tupN 3 d = true) : ∃ a u v z du dv dz, x = .ref a ∧ d = .tup [du, dv, dz] ∧ H a = some (.tup [u, v, z]) ∧ Is h H u du ∧ Is h H v dv ∧ Is h H z dz := by
  have ct : isT d = true := by
    cases d with
    | tup ds => rfl
    | _ => cases c
  obtain ⟨a, xs, ds, rfl, rfl, ha, hl⟩ := isT_of t ct
  have e : ds.length = 3 := by
    have q := of_decide_eq_true c
    omega
  match ds, e, hl with
  | [du, dv, dz], _, .cons (v := u) a1 (.cons (v := v) a2 (.cons (v := z) a3 .nil)) => exact ⟨a, u, v, z, du, dv, dz, rfl, rfl, ha, a1, a2, a3⟩
def spArr : Sp := fun vs H Q _ => ∃ (n m : Int) (x : V) (d : Td) (h : Addr), vs = [.int n, .int m, x] ∧ Is h H x d ∧ Q (.bl (arrB n m d)) H
theorem ok_is_arrival (T : Top K mg A) : FnOk P w K mg base CX0 5 A.a_is_arrival A.d_is_arrival P_is_arrival spArr := by
  refine T.F_is_arrival.ok sc_is_arrival (fun vs H Q E h => ?_) (fun cdv A' outer s H vs Q E hr h => ?_)
  · obtain ⟨n, m, x, d, h, rfl, _⟩ := h
    rfl
  · obtain ⟨n, m, x, d, h, rfl, ht, k⟩ := h
    refine ⟨_, (pss_cons (ps_if (pt_not (pt_val (pe_call (ok_is_tuple_of T) (hr.mono (by decide)) (by rfl) T.g_is_tuple_of T.F_is_tuple_of.kp T.b_is_tuple_of .nil pass0 (pa_cons pe_int (pa_cons (pv 2) pa_nil))))) (pss_one (ps_ret pe_bl)) pss_nil)
    (pss_cons (ps_asg (pv 2) (pg_tup rfl (pgs_cons (pg_name (i := 3) sc_is_arrival.nd rfl (.inl rfl)) (pgs_cons (pg_name (i := 4) sc_is_arrival.nd rfl (.inl rfl)) (pgs_cons (pg_name (i := 5) sc_is_arrival.nd rfl (.inl rfl)) pgs_nil)))))
    (pss_one (ps_ret (pe_and (pe_call (ok_is_number_below T) (hr.mono (by decide)) (by rfl) T.g_is_number_below T.F_is_number_below.kp T.b_is_number_below .nil pass0 (pa_cons (pe_glob (v := .int 100) rfl (T.k_STREAMS).choose_spec ⟨_, rfl⟩) (pa_cons (pv 3) pa_nil))) (pe_and (pe_call (ok_is_number_below T) (hr.mono (by decide)) (by rfl) T.g_is_number_below T.F_is_number_below.kp T.b_is_number_below .nil pass0 (pa_cons (pe_glob (v := .int 8) rfl (T.k_KINDS).choose_spec ⟨_, rfl⟩) (pa_cons (pv 4) pa_nil))) (pe_one (pe_call (ok_are_outs T) (hr.mono (by decide)) (by rfl) T.g_are_outs T.F_are_outs.kp T.b_are_outs .nil pass0 (pa_cons (pv 0) (pa_cons (pv 1) (pa_cons (pv 5) pa_nil))))))))))), ?_⟩
    refine ⟨_, rfl, _, _, _, _, rfl, ht, _, rfl, ?_⟩
    cases c : tupN 3 d with
    | false =>
      rw [arrB_no c] at k
      exact iteT k
    | true =>
      obtain ⟨a, u, v, z, du, dv, dz, rfl, rfl, ha, hu, hv, hz⟩ := three ht c
      refine iteF ?_
      refine ⟨_, rfl, a, _, rfl, SqT.of ha, rfl, _, _, rfl, _, _, rfl, _, _, rfl, rfl, ?_⟩
      have e : arrB n m (.tup [du, dv, dz]) = (inI 0 99 du && (inI 0 7 dv && outsB n m dz)) := rfl
      rw [e] at k
      refine ⟨_, rfl, _, _, _, _, rfl, hu, _, rfl, ?_⟩
      cases c1 : inI 0 (100 - 1) du with
      | false =>
        rw [show inI 0 99 du = false from c1] at k
        exact iteF k
      | true =>
        rw [show inI 0 99 du = true from c1] at k
        refine iteT ?_
        refine ⟨_, rfl, _, _, _, _, rfl, hv, _, rfl, ?_⟩
        cases c2 : inI 0 (8 - 1) dv with
        | false =>
          rw [show inI 0 7 dv = false from c2] at k
          exact iteF k
        | true =>
          rw [show inI 0 7 dv = true from c2] at k
          exact iteT ⟨_, rfl, _, rfl, _, rfl, _, _, _, _, _, rfl, hz, k⟩
theorem arrsB_no {n m : Int} {d : Td} (c : isT d = false) : arrsB n m d = false := by
  cases d with
  | tup i => cases c
  | _ => rfl
theorem rowB_no {n m : Int} {d : Td} (c : tupN n d = false) : rowB n m d = false := by
  cases d with
  | tup ds =>
    show (decide ((ds.length : Int) = n) && _) = false
    rw [show decide ((ds.length : Int) = n) = false from c]
    rfl
  | _ => rfl
theorem rowB_yes {n m : Int} {d : Td} (c : tupN n d = true) : ∃ ds, d = .tup ds ∧ rowB n m d = ds.all (itemB n m) := by
  cases d with
  | tup ds =>
    refine ⟨ds, rfl, ?_⟩
    show (decide ((ds.length : Int) = n) && _) = _
    rw [show decide ((ds.length : Int) = n) = true from c]
    rfl
  | _ => cases c
theorem all_no {f : Td → Bool} {ds : List Td} {i : Nat} {d : Td} (h : ds[i]? = some d) (c : f d = false) : ds.all f = false := by
  rw [List.all_eq_false]
  exact ⟨d, List.mem_of_getElem? h, by rw [c]; exact Bool.false_ne_true⟩
theorem all_yes {f : Td → Bool} {ds : List Td} (h : ∀ (i : Nat) (d : Td), ds[i]? = some d → f d = true) : ds.all f = true := by
  rw [List.all_eq_true]
  intro d hd
  obtain ⟨i, hi⟩ := List.getElem?_of_mem hd
  exact h i d hi
theorem itemB_some {n m : Int} {d : Td} (h : d ≠ .non) : itemB n m d = arrB n m d := by
  cases d with
  | non => exact absurd rfl h
  | _ => rfl
theorem is_non {h : Addr} {H : Hp} {v : V} {d : Td} (t : Is h H v d) : v = .non ↔ d = .non := by
  cases t <;> first | exact ⟨fun _ => rfl, fun _ => rfl⟩ | exact ⟨(by intro z; cases z), (by intro z; cases z)⟩
def spFWI : Sp := fun vs H Q _ => ∃ (n m : Int) (a : Addr) (ds : List Td) (h : Addr), vs = [.int n, .int m, .ref a] ∧ Is h H (.ref a) (.tup ds) ∧ ∀ (H' : Hp) (v : V), Same H H' → (ds.all (itemB n m) = true → v = .non) → (ds.all (itemB n m) = false → ∃ i : Nat, v = .int (i : Int)) → Q v H'
theorem ok_first_wrong_item (T : Top K mg A) : FnOk P w K mg base CX0 6 A.a_first_wrong_item A.d_first_wrong_item P_first_wrong_item spFWI := by
  refine T.F_first_wrong_item.ok sc_first_wrong_item (fun vs H Q E h => ?_) (fun cdv A' outer s H vs Q E hr h => ?_)
  · obtain ⟨n, m, x, d, h, rfl, _⟩ := h
    rfl
  · obtain ⟨n, m, b0, ds0, h, rfl, ht, k⟩ := h
    refine ⟨_, (pss_cons (ps_for PassesOwn.never rfl (GE.pi_enumA (by rfl) T.z_enumerate (pa_cons (pv 2) pa_nil)) (pg_tup rfl (pgs_cons (pg_name (i := 3) sc_first_wrong_item.nd rfl (.inl rfl)) (pgs_cons (pg_name (i := 4) sc_first_wrong_item.nd rfl (.inl rfl)) pgs_nil))) (pss_one (ps_if (PW.pt (pw_and (pt_cmpR op_notN (pv 4) pe_non (nomark _)) (pw_and1 (pt_not (pt_val (pe_call (ok_is_arrival T) (hr.mono (by decide)) (by rfl) T.g_is_arrival T.F_is_arrival.kp T.b_is_arrival .nil pass0 (pa_cons (pv 0) (pa_cons (pv 1) (pa_cons (pv 4) pa_nil))))))))) (pss_one (ps_ret (pv 3))) pss_nil)))
    (pss_one (ps_ret pe_non))), ?_⟩
    obtain ⟨b, ys, ds, e0, ed, hb, hls⟩ := isT_of ht rfl
    cases e0
    cases ed
    refine ⟨_, rfl, b0, ys, rfl, .inr ⟨SqT.of hb, for_it GE.walk (fun l σ H' => ∃ y5 y6 : Option V, σ = [some (.int n), some (.int m), some (.ref b0), y5, y6] ∧ Same H H' ∧ ∀ j dj, j < l → ds0[j]? = some dj → itemB n m dj = true)
      ⟨none, none, rfl, fun _ _ e => e, fun j _ hj => absurd hj (Nat.not_lt_zero _)⟩ (fun i σ H' _ ⟨_, _, _, s1, _⟩ => SqT.of (s1 _ _ hb)) ?_ ?_⟩⟩
    · rintro l v σ H3 H3' hl3 ⟨y5, y6, rfl, s4, al3⟩ ⟨p3, x1, x2, rfl, np3, rfl, e1, e3⟩
      cases e1
      have e3 : ys[l]? = some x2 := e3
      obtain ⟨di, hdi, hxi⟩ := hls.get e3
      have s5 := same_to s4 (s4.free np3) (o := .tup [.int (l : Nat), x2])
      have hxi' := hxi.same s5
      refine ⟨p3, _, rfl, SqT.of upd_same, rfl, _, _, rfl, _, _, rfl, rfl, ?_⟩
      refine ⟨_, rfl, rfl, _, rfl, ?_⟩
      have step : itemB n m di = true → ∀ j dj, j < l + 1 → ds0[j]? = some dj → itemB n m dj = true := fun c4 j dj hj hdj => by
        by_cases e : j = l
        · subst e
          rw [hdi] at hdj
          cases hdj
          exact c4
        · exact al3 j dj (by omega) hdj
      by_cases hx : x2 = .non
      · have ed : di = .non := (is_non hxi).mp hx
        rw [decide_eq_true hx]
        exact iteF ⟨_, _, rfl, s5, step (by rw [ed]; rfl)⟩
      · have ed : di ≠ .non := fun z => hx ((is_non hxi).mpr z)
        rw [decide_eq_false hx]
        refine iteT ?_
        refine ⟨_, rfl, _, rfl, _, rfl, _, _, _, _, _, rfl, hxi', _, rfl, ?_⟩
        cases c4 : arrB n m di with
        | true => exact iteF ⟨_, _, rfl, s5, step (by rw [itemB_some ed]; exact c4)⟩
        | false =>
          refine iteT ⟨_, rfl, ?_⟩
          have f := all_no (f := itemB n m) hdi (by rw [itemB_some ed]; exact c4)
          exact k _ _ s5 (fun z => by rw [f] at z; cases z) (fun _ => ⟨l, rfl⟩)
    · rintro σ H3 ⟨y5, y6, rfl, s4, al3⟩
      have f : ds0.all (itemB n m) = true := all_yes fun l d hd => al3 l d (by rw [hls.len]; exact (List.getElem?_eq_some_iff.mp hd).1) hd
      exact k _ _ s4 (fun _ => rfl) (fun z => by rw [f] at z; cases z)
def spFault : Sp := fun vs H Q _ => ∃ (n m : Int) (x : V) (d : Td) (h : Addr), vs = [.int n, .int m, x] ∧ Is h H x d ∧ ∀ (H' : Hp) (v : V), Same H H' → (arrsB n m d = true → v = .non) → (arrsB n m d = false → v ≠ .non) → Q v H'
theorem ok_arrivals_fault (T : Top K mg A) : FnOk P w K mg base CX0 7 A.a_arrivals_fault A.d_arrivals_fault P_arrivals_fault spFault := by
  refine T.F_arrivals_fault.ok sc_arrivals_fault (fun vs H Q E h => ?_) (fun cdv A' outer s H vs Q E hr h => ?_)
  · obtain ⟨n, m, x, d, h, rfl, _⟩ := h
    rfl
  · obtain ⟨n, m, x, d, h, rfl, ht, k⟩ := h
    obtain ⟨t, ty, _, _, e3⟩ := is_ty T ht
    refine ⟨_, (pss_cons (ps_if (PW.pt (pw_or (pt_not (pt_val (pe_callB call_isi (by rfl) T.z_isinstance (by decide +kernel) (pa_cons (pv 2) (pa_cons (pe_bltn (v := .ty "tuple") (by rfl) T.z_tuple (by decide +kernel) rfl) pa_nil))))) (pw_or1 (pt_cmpR op_gt (pe_callB call_len_seq (by rfl) T.z_len (by decide +kernel) (pa_cons (pv 2) pa_nil)) (pe_glob (v := .int 200) rfl (T.k_MOST_BEATS).choose_spec ⟨_, rfl⟩) (nomark _))))) (pss_one (ps_ret (pe_un un_neg pe_int))) pss_nil)
    (pss_cons (ps_for PassesOwn.never rfl (GE.pi_enumA (by rfl) T.z_enumerate (pa_cons (pv 2) pa_nil)) (pg_tup rfl (pgs_cons (pg_name (i := 3) sc_arrivals_fault.nd rfl (.inl rfl)) (pgs_cons (pg_name (i := 4) sc_arrivals_fault.nd rfl (.inl rfl)) pgs_nil))) (pss_one (ps_if (pt_not (pt_val (pe_call (ok_is_tuple_of T) (hr.mono (by decide)) (by rfl) T.g_is_tuple_of T.F_is_tuple_of.kp T.b_is_tuple_of .nil pass0 (pa_cons (pv 0) (pa_cons (pv 4) pa_nil))))) (pss_one (ps_ret (pv 3))) pss_nil)))
    (pss_cons (ps_for PassesOwn.never rfl (GE.pi_enumA (by rfl) T.z_enumerate (pa_cons (pv 2) pa_nil)) (pg_tup rfl (pgs_cons (pg_name (i := 3) sc_arrivals_fault.nd rfl (.inl rfl)) (pgs_cons (pg_name (i := 4) sc_arrivals_fault.nd rfl (.inl rfl)) pgs_nil))) (pss_cons (ps_set (i := 5) sc_arrivals_fault.nd rfl (.inl rfl) (pe_call (ok_first_wrong_item T) (hr.mono (by decide)) (by rfl) T.g_first_wrong_item T.F_first_wrong_item.kp T.b_first_wrong_item .nil pass0 (pa_cons (pv 0) (pa_cons (pv 1) (pa_cons (pv 4) pa_nil)))))
    (pss_one (ps_if (pt_cmpR op_notN (pv 5) pe_non (nomark _)) (pss_one (ps_ret (pe_tup (pa_cons (pv 3) (pa_cons (pv 5) pa_nil))))) pss_nil))))
    (pss_one (ps_ret pe_non))))), ?_⟩
    have bad : ∀ {H' : Hp} {v : V}, Same H H' → arrsB n m d = false → v ≠ .non → Q v H' := fun s c hv => k _ _ s (fun z => by rw [c] at z; cases z) (fun _ => hv)
    refine ⟨_, rfl, _, _, _, _, _, rfl, .ty "tuple", ty, e3, _, rfl, ?_⟩
    cases c : isT d with
    | false => exact iteT ⟨_, rfl, bad (fun _ _ e => e) (arrsB_no c) (by intro z; cases z)⟩
    | true =>
      obtain ⟨a, xs, rs, rfl, rfl, ha, hl⟩ := isT_of ht c
      refine iteF ?_
      refine ⟨_, rfl, _, _, rfl, .inr (SqT.of ha), _, _, rfl, rfl, _, rfl, ite2 (fun c2 => ?_) (fun c2 => ?_)⟩
      · refine ⟨_, rfl, bad (fun _ _ e => e) ?_ (by intro z; cases z)⟩
        have q := of_decide_eq_true c2
        show (decide ((rs.length : Int) ≤ 200) && _) = false
        rw [decide_eq_false (by rw [← hl.len]; omega)]
        rfl
      · have q : ¬ (200 < (xs.length : Int)) := fun z => c2 (decide_eq_true z)
        have e0 : arrsB n m (.tup rs) = rs.all (rowB n m) := by
          show (decide ((rs.length : Int) ≤ 200) && _) = _
          rw [decide_eq_true (by rw [← hl.len]; omega)]
          rfl
        rw [e0] at bad k
        -- the rows' lengths
        refine ⟨_, rfl, a, xs, rfl, .inr ⟨SqT.of ha, for_it GE.walk (fun i σ H' => ∃ y3 y4 : Option V, σ = [some (.int n), some (.int m), some (.ref a), y3, y4, none] ∧ Same H H' ∧ ∀ j dj, j < i → rs[j]? = some dj → tupN n dj = true)
          ⟨none, none, rfl, fun _ _ e => e, fun j _ hj => absurd hj (Nat.not_lt_zero _)⟩ (fun i σ H' _ ⟨_, _, _, s1, _⟩ => SqT.of (s1 _ _ ha)) ?_ ?_⟩⟩
        · rintro i v σ H1 H1' hi ⟨y3, y4, rfl, s1, al⟩ ⟨p, x1, x2, rfl, np, rfl, e1, e2⟩
          cases e1
          have e2 : xs[i]? = some x2 := e2
          obtain ⟨dr, hdr, hxr⟩ := hl.get e2
          have s2 := same_to s1 (s1.free np) (o := .tup [.int (i : Nat), x2])
          refine ⟨p, _, rfl, SqT.of upd_same, rfl, _, _, rfl, _, _, rfl, rfl, ?_⟩
          refine ⟨_, rfl, _, rfl, _, _, _, _, rfl, hxr.same s2, _, rfl, ?_⟩
          cases c3 : tupN n dr with
          | false => exact iteT ⟨_, rfl, bad s2 (all_no hdr (rowB_no c3)) (by intro z; cases z)⟩
          | true =>
            refine iteF ⟨_, _, rfl, s2, fun j dj hj hdj => ?_⟩
            by_cases e : j = i
            · subst e
              rw [hdr] at hdj
              cases hdj
              exact c3
            · exact al j dj (by omega) hdj
        · rintro σ H1 ⟨y3, y4, rfl, s1, al⟩
          have al : ∀ j dj, rs[j]? = some dj → tupN n dj = true := fun j dj hj => al j dj (by rw [hl.len]; exact (List.getElem?_eq_some_iff.mp hj).1) hj
          -- the items
          refine ⟨_, rfl, a, xs, rfl, .inr ⟨SqT.of (s1 _ _ ha), for_it GE.walk (fun i σ H' => ∃ y3 y4 y5 : Option V, σ = [some (.int n), some (.int m), some (.ref a), y3, y4, y5] ∧ Same H H' ∧ ∀ j dj, j < i → rs[j]? = some dj → rowB n m dj = true)
            ⟨y3, y4, none, rfl, s1, fun j _ hj => absurd hj (Nat.not_lt_zero _)⟩ (fun i σ H' _ ⟨_, _, _, _, s1, _⟩ => SqT.of (s1 _ _ ha)) ?_ ?_⟩⟩
          · rintro i v σ H2 H2' hi ⟨y3, y4, y5, rfl, s2, al2⟩ ⟨p, x1, x2, rfl, np, rfl, e1, e2⟩
            cases e1
            have e2 : xs[i]? = some x2 := e2
            obtain ⟨dr, hdr, hxr⟩ := hl.get e2
            have s3 := same_to s2 (s2.free np) (o := .tup [.int (i : Nat), x2])
            refine ⟨p, _, rfl, SqT.of upd_same, rfl, _, _, rfl, _, _, rfl, rfl, ?_⟩
            obtain ⟨ds, rfl, er⟩ := rowB_yes (m := m) (al i dr hdr)
            obtain ⟨b, ys, ds', rfl, ed, hb, hls⟩ := isT_of hxr rfl
            refine ⟨_, rfl, _, rfl, _, rfl, n, m, b, ds, _, rfl, hxr.same s3, fun H4 v s4 y1 y2 => ?_⟩
            cases c4 : ds.all (itemB n m) with
            | true =>
              cases y1 c4
              refine ⟨_, rfl, rfl, _, rfl, ?_⟩
              rw [decide_eq_true rfl]
              refine iteF ⟨_, _, _, rfl, s3.trans s4, fun j dj hj hdj => ?_⟩
              by_cases e : j = i
              · subst e
                rw [hdr] at hdj
                cases hdj
                rw [er]
                exact c4
              · exact al2 j dj (by omega) hdj
            | false =>
              obtain ⟨l, rfl⟩ := y2 c4
              refine ⟨_, rfl, rfl, _, rfl, ?_⟩
              rw [decide_eq_false (by intro z; cases z)]
              refine iteT ⟨_, rfl, _, rfl, (by show 2 ≤ sizeLine; decide), fun q nq => ?_⟩
              exact bad (same_to (s3.trans s4) ((s3.trans s4).free nq)) (all_no hdr (by rw [er]; exact c4)) (by intro z; cases z)
          · rintro σ H2 ⟨y3, y4, y5, rfl, s2, al2⟩
            refine k _ _ s2 (fun _ => rfl) (fun c3 => ?_)
            rw [all_yes fun i d hd => al2 i d (by rw [hl.len]; exact (List.getElem?_eq_some_iff.mp hd).1) hd] at c3
            cases c3
end

/-! ### arrivals that may be told as a text -/
def textB : Td → Bool
  | .tup [] => true
  | .tup (.tup is :: ds) => (decide (1 ≤ (is.length : Int)) && decide ((is.length : Int) ≤ 12)) && arrsB is.length 3 (.tup (.tup is :: ds))
  | _ => false
theorem textB_no {d : Td} {ds : List Td} (c : isT d = false) : textB (.tup (d :: ds)) = false := by
  cases d with
  | tup is => cases c
  | _ => rfl
section
variable {P : Program} {w : World} {K : PySem.W.Frag} {mg : Str → Option Value} {base : Heap} {A : Adr}
def spTexted : Sp := fun vs H Q _ => ∃ (x : V) (d : Td) (h : Addr), vs = [x] ∧ Is h H x d ∧ ∀ H', Same H H' → Q (.bl (textB d)) H'
theorem ok_are_texted (T : Top K mg A) : FnOk P w K mg base CX0 8 A.a_are_texted A.d_are_texted P_are_texted spTexted := by
  refine T.F_are_texted.ok sc_are_texted (fun vs H Q E h => ?_) (fun cdv A' outer s H vs Q E hr h => ?_)
  · obtain ⟨x, d, h, rfl, _⟩ := h
    rfl
  · obtain ⟨x, d, h, rfl, ix, k⟩ := h
    obtain ⟨t, ty, _, _, e3⟩ := is_ty T ix
    refine ⟨_, (pss_cons (ps_if (pt_not (pt_val (pe_callB call_isi (by rfl) T.z_isinstance (by decide +kernel) (pa_cons (pv 0) (pa_cons (pe_bltn (v := .ty "tuple") (by rfl) T.z_tuple (by decide +kernel) rfl) pa_nil))))) (pss_one (ps_ret pe_bl)) pss_nil)
    (pss_cons (ps_if (pt_not (pt_truth (pv 0) (by intro _; rfl))) (pss_one (ps_ret pe_bl)) pss_nil)
    (pss_cons (ps_if (PW.pt (pw_or (pt_not (pt_val (pe_callB call_isi (by rfl) T.z_isinstance (by decide +kernel) (pa_cons (pe_ix ix_tup (pv 0) pe_int (fun _ _ => rfl)) (pa_cons (pe_bltn (v := .ty "tuple") (by rfl) T.z_tuple (by decide +kernel) rfl) pa_nil))))) (pw_or1 (pt_not (pt_chain op_le op_le pe_int (pe_callB call_len_seq (by rfl) T.z_len (by decide +kernel) (pa_cons (pe_ix ix_tup (pv 0) pe_int (fun _ _ => rfl)) pa_nil)) (pe_glob (v := .int 12) rfl (T.k_MOST_LINES).choose_spec ⟨_, rfl⟩)))))) (pss_one (ps_ret pe_bl)) pss_nil)
    (pss_one (ps_ret (pe_cmpR op_isN (pe_call (ok_arrivals_fault T) (hr.mono (by decide)) (by rfl) T.g_arrivals_fault T.F_arrivals_fault.kp T.b_arrivals_fault .nil pass0 (pa_cons (pe_callB call_len_seq (by rfl) T.z_len (by decide +kernel) (pa_cons (pe_ix ix_tup (pv 0) pe_int (fun _ _ => rfl)) pa_nil)) (pa_cons (pe_glob (v := .int 3) rfl (T.k_MOST_COPIES).choose_spec ⟨_, rfl⟩) (pa_cons (pv 0) pa_nil)))) pe_non (nomark _))))))), ?_⟩
    refine ⟨_, rfl, _, _, _, _, _, rfl, .ty "tuple", ty, e3, _, rfl, ?_⟩
    cases c : isT d with
    | false =>
      have e : textB d = false := by
        cases d with
        | tup ds => cases c
        | _ => rfl
      rw [e] at k
      exact iteT (k H fun _ _ e => e)
    | true =>
      obtain ⟨a, xs, ds, rfl, rfl, ha, hl⟩ := isT_of ix c
      refine iteF ⟨_, rfl, (!xs.isEmpty), .inr (.inl ⟨_, SqT.of ha, rfl⟩), ?_⟩
      cases hl with
      | nil => exact iteT (k H fun _ _ e => e)
      | @cons v d vs ds i0 tl =>
        refine iteF ?_
        obtain ⟨t0, ty0, _, _, e30⟩ := is_ty T i0
        refine ⟨_, rfl, a, _, 0, _, rfl, rfl, SqT.of ha, atI_nat (j := 0) rfl, _, _, _, _, _, rfl, .ty "tuple", ty0, e30, _, rfl, ?_⟩
        cases c0 : isT d with
        | false =>
          rw [textB_no c0] at k
          exact iteT (iteT (k H fun _ _ e => e))
        | true =>
          obtain ⟨b, us, is, rfl, rfl, hb, hl0⟩ := isT_of i0 c0
          have l0 := hl0.len
          have k : ∀ H', Same H H' → Q (.bl ((decide (1 ≤ (is.length : Int)) && decide ((is.length : Int) ≤ 12)) && arrsB is.length 3 (.tup (.tup is :: ds)))) H' := k
          refine iteF ⟨_, rfl, a, _, 0, _, rfl, rfl, SqT.of ha, atI_nat (j := 0) rfl, b, us, rfl, .inr (SqT.of hb), _, _, rfl, rfl, _, rfl, ?_⟩
          by_cases g1 : (1 : Int) ≤ is.length
          · rw [decide_eq_true (show (1 : Int) ≤ us.length by omega)]
            refine iteT ⟨_, _, rfl, rfl, _, rfl, ?_⟩
            by_cases g2 : (is.length : Int) ≤ 12
            · rw [decide_eq_true (show (us.length : Int) ≤ 12 by omega)]
              rw [decide_eq_true g1, decide_eq_true g2] at k
              have k : ∀ H', Same H H' → Q (.bl (arrsB is.length 3 (.tup (.tup is :: ds)))) H' := k
              refine iteF ⟨_, rfl, a, _, 0, _, rfl, rfl, SqT.of ha, atI_nat (j := 0) rfl, b, us, rfl, .inr (SqT.of hb), _, rfl, (us.length : Int), 3, _, _, h, rfl, ix, fun H1 v s1 y1 n1 => ⟨rfl, ?_⟩⟩
              have e : decide (v = .non) = arrsB is.length 3 (.tup (.tup is :: ds)) := by
                rw [l0] at y1 n1
                cases z : arrsB is.length 3 (.tup (.tup is :: ds)) with
                | true => exact decide_eq_true (y1 z)
                | false => exact decide_eq_false (n1 z)
              rw [e]
              exact k H1 s1
            · rw [decide_eq_false (show ¬ (us.length : Int) ≤ 12 by omega)]
              rw [decide_eq_false g2] at k
              simp only [Bool.false_and, Bool.and_false] at k
              exact iteT (k H fun _ _ e => e)
          · rw [decide_eq_false (show ¬ (1 : Int) ≤ us.length by omega)]
            rw [decide_eq_false g1] at k
            simp only [Bool.false_and, Bool.and_false] at k
            exact iteF ⟨_, rfl, iteT (k H fun _ _ e => e)⟩
end

/-! ### texts -/
theorem emp_app (a : Str) : Str.empty ++ a = a := by
  cases a with
  | mk cps =>
    show Str.mk (Str.empty.cps ++ cps) = Str.mk cps
    have e : Str.empty.cps = #[] := rfl
    rw [e, Array.empty_append]
def strI (i : Int) : Str := toString i
theorem strI_len {i : Int} (h0 : 0 ≤ i) (h1 : i ≤ 99) : (strI i).length ≤ 2 ∧ i.natAbs.log2 < 1920 := by
  have z : (List.range 100).all (fun n => decide ((strI (n : Int)).length ≤ 2 ∧ (n : Int).natAbs.log2 < 1920)) = true := by decide +kernel
  have q := List.all_eq_true.mp z i.toNat (List.mem_range.mpr (by omega))
  have q := of_decide_eq_true q
  rw [Int.toNat_of_nonneg h0] at q
  exact q
def itT : Td → Str
  | .tup [.int s, .int k, .tup os] => strI s ++ "." ++ strI k ++ ">" ++ Txt.join "," (os.map fun d => strI (intOf d))
  | _ => "-"
def rowT (d : Td) : Str := Txt.join " " ((itsOf d).map itT)
def txT (d : Td) : Str := Txt.join "" ((itsOf d).map fun r => rowT r ++ "\n")
theorem sum_le {α : Type} {f : α → Nat} {B : Nat} : ∀ {l : List α}, (∀ x ∈ l, f x ≤ B) → (l.map f).sum ≤ l.length * B
  | [], _ => by simp
  | x :: l, h => by
    rw [List.map_cons, List.sum_cons, List.length_cons, Nat.add_mul, Nat.one_mul]
    have h1 := h x List.mem_cons_self
    have h2 := sum_le (l := l) fun y hy => h y (List.mem_cons_of_mem _ hy)
    omega
theorem join_le {sep : Str} {ys : List Str} {B : Nat} (h : ∀ y ∈ ys, y.length ≤ B) : (ys.map (·.length)).sum + ys.length * sep.length ≤ ys.length * (B + sep.length) ∧ (Txt.join sep ys).length ≤ ys.length * (B + sep.length) := by
  have h1 := sum_le (f := fun y : Str => y.length) h
  have h2 := PySem.size_glued sep ys
  have h3 : (ys.length - 1) * sep.length ≤ ys.length * sep.length := Nat.mul_le_mul_right _ (Nat.sub_le _ _)
  have h4 : (Txt.join sep ys).length = (Builtin.Str.glued sep ys).length := rfl
  rw [Nat.mul_add]
  omega
theorem item_yes {n : Int} {d : Td} (hn : n ≤ 12) (c : itemB n 3 d = true) : d = .non ∨ ∃ s k es, d = .tup [.int s, .int k, .tup es] ∧ (0 ≤ s ∧ s ≤ 99) ∧ (0 ≤ k ∧ k ≤ 7) ∧ es.length ≤ 3 ∧ ∀ e ∈ es, ∃ i, e = .int i ∧ 0 ≤ i ∧ i ≤ 11 := by
  by_cases z : d = .non
  · exact .inl z
  right
  rw [itemB_some z] at c
  have c3 : tupN 3 d = true := by
    cases q : tupN 3 d with
    | true => rfl
    | false => rw [arrB_no q] at c; cases c
  match d, c3, c with
  | .tup [s, k, o], _, c =>
    have c : (inI 0 99 s && (inI 0 7 k && outsB n 3 o)) = true := c
    rw [Bool.and_eq_true, Bool.and_eq_true] at c
    obtain ⟨c1, c2, c3⟩ := c
    obtain ⟨s, rfl, hs⟩ := inI_yes c1
    obtain ⟨k, rfl, hk⟩ := inI_yes c2
    have c3 : (lotB n o && (decide (1 ≤ ((itsOf o).length : Int)) && decide (((itsOf o).length : Int) ≤ 3))) = true := c3
    rw [Bool.and_eq_true, Bool.and_eq_true, decide_eq_true_eq, decide_eq_true_eq] at c3
    obtain ⟨l1, _, l3⟩ := c3
    cases o with
    | tup es =>
      refine ⟨s, k, es, rfl, hs, hk, by have l3 : (es.length : Int) ≤ 3 := l3; omega, ?_⟩
      have go : ∀ (last : Int) (es : List Td), -1 ≤ last → lotL n last es = true → ∀ e ∈ es, ∃ i, e = .int i ∧ 0 ≤ i ∧ i ≤ 11 := by
        intro last es
        induction es generalizing last with
        | nil => intro _ _ e he; exact absurd he List.not_mem_nil
        | cons x es ih =>
          intro hl c e he
          have c : (inI (last + 1) (n - 1) x && lotL n (intOf x) es) = true := c
          rw [Bool.and_eq_true] at c
          obtain ⟨i, rfl, i0, i1⟩ := inI_yes c.1
          rcases List.mem_cons.mp he with q | q
          · exact ⟨i, q, by omega, by omega⟩
          · exact ih i (by omega) c.2 e q
      exact go (-1) es (by decide) l1
    | _ => cases l1
theorem itT_len {n : Int} {d : Td} (hn : n ≤ 12) (c : itemB n 3 d = true) : (itT d).length ≤ 20 := by
  rcases item_yes hn c with rfl | ⟨s, k, es, rfl, hs, hk, le, all⟩
  · show ("-" : Str).length ≤ 20
    decide +kernel
  · show (strI s ++ "." ++ strI k ++ ">" ++ Txt.join "," (es.map fun d => strI (intOf d))).length ≤ 20
    have h1 := (strI_len hs.1 hs.2).1
    have h2 := (strI_len hk.1 (by omega)).1
    have h3 := (join_le (sep := ",") (ys := es.map fun d => strI (intOf d)) (B := 2) fun y hy => by
      obtain ⟨e, he, rfl⟩ := List.mem_map.mp hy
      obtain ⟨i, rfl, i0, i1⟩ := all e he
      exact (strI_len i0 (by omega)).1).2
    have h4 : ("," : Str).length = 1 := by decide +kernel
    have h5 : ("." : Str).length = 1 := by decide +kernel
    have h6 : (">" : Str).length = 1 := by decide +kernel
    rw [List.length_map, h4] at h3
    rw [Str.length_append, Str.length_append, Str.length_append, Str.length_append, h5, h6]
    omega
section
variable {P : Program} {w : World} {K : PySem.W.Frag} {mg : Str → Option Value} {base : Heap} {A : Adr}
def spItT : Sp := fun vs H Q _ => ∃ (x : V) (d : Td) (h : Addr) (n : Int), vs = [x] ∧ Is h H x d ∧ n ≤ 12 ∧ itemB n 3 d = true ∧ ∀ H', Same H H' → Q (.str (itT d)) H'
theorem ok_item_text (T : Top K mg A) : FnOk P w K mg base CX0 1 A.a_item_text A.d_item_text P_item_text spItT := by
  refine T.F_item_text.ok sc_item_text (fun vs H Q E h => ?_) (fun cdv A' outer s H vs Q E hr h => ?_)
  · obtain ⟨x, d, h, n, rfl, _⟩ := h
    rfl
  · obtain ⟨x, d, h, n, rfl, ix, hn, c, k⟩ := h
    refine ⟨_, (pss_cons (ps_if (pt_cmpR op_isN (pv 0) pe_non (nomark _)) (pss_one (ps_ret pe_str)) pss_nil)
    (pss_cons (ps_asg (pv 0) (pg_tup rfl (pgs_cons (pg_name (i := 1) sc_item_text.nd rfl (.inl rfl)) (pgs_cons (pg_name (i := 2) sc_item_text.nd rfl (.inl rfl)) (pgs_cons (pg_name (i := 3) sc_item_text.nd rfl (.inl rfl)) pgs_nil)))))
    (pss_cons (ps_set (i := 4) sc_item_text.nd rfl (.inl rfl) (pe_join pe_str (pe_lc (own := [("output", 5)]) (by rfl) sc_item_text.nd (pi_tup (pv 3)) (blkOk_by (own := [("output", 5)]) (N := N_item_text) (sc := defScope s_item_text) (by decide +kernel)) (fun _ _ _ _ _ => (pg_name (i := 5) sc_item_text.nd rfl (.inl rfl))) (fun _ _ _ _ _ => pts_nil) (fun _ _ _ _ _ => (pe_callTy call_str_int (by rfl) T.z_str (by decide +kernel) (pa_cons (pv 5) pa_nil))))))
    (pss_one (ps_ret (pe_joined (PJ.cons (pe_fmt (pv 1)) (PJ.cons pe_str (PJ.cons (pe_fmt (pv 2)) (PJ.cons pe_str (PJ.cons (pe_fmt (pv 4)) PJ.nil))))))))))), ?_⟩
    refine ⟨_, rfl, rfl, _, rfl, ?_⟩
    have lt := itT_len hn c
    rcases item_yes hn c with rfl | ⟨s, kk, es, rfl, hs, hk, le, all⟩
    · cases ix
      rw [dec_self]
      exact iteT (k H fun _ _ e => e)
    · obtain ⟨a, xs, ds, rfl, ed, ha, hl⟩ := isT_of ix rfl
      cases ed
      rw [decide_eq_false (by intro z; cases z)]
      match xs, hl with
      | _, .cons i1 (.cons i2 (.cons i3 .nil)) =>
        cases i1
        cases i2
        obtain ⟨b, us, ds, rfl, ed, hb, hl3⟩ := isT_of i3 rfl
        cases ed
        refine iteF ⟨_, rfl, a, _, rfl, SqT.of ha, rfl, _, _, rfl, _, _, rfl, _, _, rfl, rfl, ?_⟩
        refine ⟨⟨_, rfl⟩, ?_⟩
        have l3 := hl3.len
        have vl : (((es.map fun d => strI (intOf d)).map V.str)).length = es.length := by rw [List.length_map, List.length_map]
        have h1 := strI_len hs.1 hs.2
        have h2 := strI_len hk.1 (show kk ≤ 99 by omega)
        have h3 := join_le (sep := ",") (ys := es.map fun d => strI (intOf d)) (B := 2) fun y hy => by
          obtain ⟨e, he, rfl⟩ := List.mem_map.mp hy
          obtain ⟨i, rfl, i0, i1⟩ := all e he
          exact (strI_len i0 (by omega)).1
        have h4 : ("," : Str).length = 1 := by decide +kernel
        have h5 : ("." : Str).length = 1 := by decide +kernel
        have h6 : (">" : Str).length = 1 := by decide +kernel
        rw [List.length_map, h4] at h3
        refine ⟨_, rfl, b, rfl, ⟨_, SqT.of hb⟩, fun D nD => ?_⟩
        refine lc_tup (K := K) (a := b) (xs := us) (LP H D ((es.map fun d => strI (intOf d)).map V.str)) (LP.start nD) (fun i H' _ p => SqT.of (p.1 _ _ hb)) ?_ ?_
        · rintro i y H' hi p
          obtain ⟨e, he, ie⟩ := hl3.get hi
          obtain ⟨j, rfl, j0, j1⟩ := all e (List.mem_of_getElem? he)
          cases ie
          refine ⟨rfl, _, rfl, j, rfl, (strI_len j0 (by omega)).2, ?_⟩
          exact lcPut nD p (fun _ _ e => e) (map_at (map_at he)) (by rw [vl]; omega)
        rintro H1 ⟨s1, d1⟩
        rw [take_all (by rw [vl]; exact l3)] at d1
        refine ⟨",", D, es.map fun d => strI (intOf d), rfl, rfl, .inl (SqL.of d1), by rw [List.length_map, h4]; omega, ?_⟩
        have big : ∀ {m : Nat}, m ≤ 1000 → m ≤ sizeLine := fun h => Nat.le_trans h (by decide)
        have e0 : (Str.empty).length = 0 := rfl
        have goal : Str.empty ++ strI s ++ "." ++ strI kk ++ ">" ++ Txt.join "," (es.map fun d => strI (intOf d)) = itT (.tup [.int s, .int kk, .tup es]) := by
          rw [emp_app]
          rfl
        have k := k H1 s1
        rw [← goal] at k
        have h7 := h3.2
        have a1 : (Str.empty ++ strI s).length ≤ 2 := by rw [Str.length_append, e0]; omega
        have a2 : (Str.empty ++ strI s ++ ".").length ≤ 3 := by rw [Str.length_append, h5]; omega
        have a3 : (Str.empty ++ strI s ++ "." ++ strI kk).length ≤ 5 := by rw [Str.length_append]; omega
        have a4 : (Str.empty ++ strI s ++ "." ++ strI kk ++ ">").length ≤ 6 := by rw [Str.length_append, h6]; omega
        have a5 : (Str.empty ++ strI s ++ "." ++ strI kk ++ ">" ++ Txt.join "," (es.map fun d => strI (intOf d))).length ≤ 50 := by rw [Str.length_append]; omega
        refine ⟨_, rfl, .inr ⟨s, rfl, h1.2, _, rfl, big (show (Str.empty ++ strI s).length ≤ 1000 by omega), _, rfl, big (show (Str.empty ++ strI s ++ ".").length ≤ 1000 by omega), ?_⟩⟩
        refine ⟨_, rfl, .inr ⟨kk, rfl, h2.2, _, rfl, big (show (Str.empty ++ strI s ++ "." ++ strI kk).length ≤ 1000 by omega), _, rfl, big (show (Str.empty ++ strI s ++ "." ++ strI kk ++ ">").length ≤ 1000 by omega), ?_⟩⟩
        exact ⟨_, rfl, .inl ⟨_, rfl, big (by omega), _, rfl, big (show (Str.empty ++ strI s ++ "." ++ strI kk ++ ">" ++ Txt.join "," (es.map fun d => strI (intOf d))).length ≤ 1000 by omega), k⟩⟩
theorem rowT_len {n : Int} {ds : List Td} (hn : n ≤ 12) (c : ds.all (itemB n 3) = true) (l : ds.length ≤ 12) : (rowT (.tup ds)).length ≤ 300 := by
  have h := (join_le (sep := " ") (ys := ds.map itT) (B := 20) fun y hy => by
    obtain ⟨e, he, rfl⟩ := List.mem_map.mp hy
    exact itT_len hn (List.all_eq_true.mp c e he)).2
  have h4 : (" " : Str).length = 1 := by decide +kernel
  rw [List.length_map, h4] at h
  show (Txt.join " " (ds.map itT)).length ≤ 300
  omega
def spRowT : Sp := fun vs H Q _ => ∃ (x : V) (ds : List Td) (h : Addr) (n : Int), vs = [x] ∧ Is h H x (.tup ds) ∧ n ≤ 12 ∧ ds.length ≤ 12 ∧ ds.all (itemB n 3) = true ∧ ∀ H', Same H H' → Q (.str (rowT (.tup ds))) H'
theorem ok_coming_text (T : Top K mg A) : FnOk P w K mg base CX0 2 A.a_coming_text A.d_coming_text P_coming_text spRowT := by
  refine T.F_coming_text.ok sc_coming_text (fun vs H Q E h => ?_) (fun cdv A' outer s H vs Q E hr h => ?_)
  · obtain ⟨x, ds, h, n, rfl, _⟩ := h
    rfl
  · obtain ⟨x, ds, h, n, rfl, ix, hn, l12, c, k⟩ := h
    refine ⟨_, (pss_one (ps_ret (pe_join pe_str (pe_lc (own := [("item", 1)]) (by rfl) sc_coming_text.nd (pi_tup (pv 0)) (blkOk_by (own := [("item", 1)]) (N := N_coming_text) (sc := defScope s_coming_text) (by decide +kernel)) (fun _ _ _ _ _ => (pg_name (i := 1) sc_coming_text.nd rfl (.inl rfl))) (fun _ _ _ _ _ => pts_nil) (fun _ _ _ _ _ => (pe_call (ok_item_text (P := P) (w := w) T) (hr.mono (by decide)) (by rfl) T.g_item_text T.F_item_text.kp T.b_item_text .nil pass0 (pa_cons (pv 1) pa_nil))))))), ?_⟩
    obtain ⟨a, xs, ds', rfl, ed, ha, hl⟩ := isT_of ix rfl
    cases ed
    have l3 := hl.len
    have vl : ((ds.map itT).map V.str).length = ds.length := by rw [List.length_map, List.length_map]
    have h4 : (" " : Str).length = 1 := by decide +kernel
    have h3 := join_le (sep := " ") (ys := ds.map itT) (B := 20) fun y hy => by
      obtain ⟨e, he, rfl⟩ := List.mem_map.mp hy
      exact itT_len hn (List.all_eq_true.mp c e he)
    rw [List.length_map, h4] at h3
    refine ⟨⟨_, rfl⟩, _, rfl, a, rfl, ⟨_, SqT.of ha⟩, fun D nD => ?_⟩
    refine lc_tup (K := K) (a := a) (xs := xs) (LP H D ((ds.map itT).map V.str)) (LP.start nD) (fun i H' _ p => SqT.of (p.1 _ _ ha)) ?_ ?_
    · rintro i y H' hi p
      obtain ⟨e, he, ie⟩ := hl.get hi
      refine ⟨rfl, _, rfl, y, e, h, n, rfl, ie.same p.1, hn, List.all_eq_true.mp c e (List.mem_of_getElem? he), fun H2 s2 => ?_⟩
      exact lcPut nD p s2 (map_at (map_at he)) (by rw [vl]; omega)
    rintro H1 ⟨s1, d1⟩
    rw [take_all (by rw [vl]; exact l3)] at d1
    exact ⟨" ", D, ds.map itT, rfl, rfl, .inl (SqL.of d1), by rw [List.length_map, h4]; omega, k H1 s1⟩
/-- what a text is made of -/
structure Rows (n : Int) (ds : List Td) : Prop where
  n12 : n ≤ 12
  few : ds.length ≤ 200
  row : ∀ d ∈ ds, ∃ es, d = .tup es ∧ es.length ≤ 12 ∧ es.all (itemB n 3) = true
theorem rows_of {d : Td} (c : textB d = true) : ∃ n ds, d = .tup ds ∧ Rows n ds := by
  match d, c with
  | .tup [], _ => exact ⟨1, [], rfl, by decide, by decide, fun d hd => absurd hd List.not_mem_nil⟩
  | .tup (.tup is :: ds), c =>
    have c : ((decide (1 ≤ (is.length : Int)) && decide ((is.length : Int) ≤ 12)) && arrsB is.length 3 (.tup (.tup is :: ds))) = true := c
    rw [Bool.and_eq_true, Bool.and_eq_true, decide_eq_true_eq, decide_eq_true_eq] at c
    obtain ⟨⟨c1, c2⟩, c3⟩ := c
    have c3 : (decide (((Td.tup is :: ds).length : Int) ≤ 200) && (Td.tup is :: ds).all (rowB is.length 3)) = true := c3
    rw [Bool.and_eq_true, decide_eq_true_eq] at c3
    refine ⟨(is.length : Int), _, rfl, c2, by have := c3.1; omega, fun d hd => ?_⟩
    have q := List.all_eq_true.mp c3.2 d hd
    cases d with
    | tup es =>
      have q : (decide ((es.length : Int) = (is.length : Int)) && es.all (itemB is.length 3)) = true := q
      rw [Bool.and_eq_true, decide_eq_true_eq] at q
      exact ⟨es, rfl, by omega, q.2⟩
    | _ => cases q
  | .tup (.int _ :: _), c => cases c
  | .tup (.bl _ :: _), c => cases c
  | .tup (.non :: _), c => cases c
  | .tup (.str _ :: _), c => cases c
  | .tup (.oth :: _), c => cases c
theorem line_len {n : Int} {ds : List Td} (r : Rows n ds) : ∀ y ∈ ds.map fun r => rowT r ++ "\n", y.length ≤ 301 := fun y hy => by
  obtain ⟨d, hd, rfl⟩ := List.mem_map.mp hy
  obtain ⟨es, rfl, l, c⟩ := r.row d hd
  have h := rowT_len r.n12 c l
  have h4 : ("\n" : Str).length = 1 := by decide +kernel
  rw [Str.length_append, h4]
  omega
theorem txT_len {n : Int} {ds : List Td} (r : Rows n ds) : (txT (.tup ds)).length ≤ 100000 ∧ ((ds.map fun r => rowT r ++ "\n").map (·.length)).sum + (ds.map fun r => rowT r ++ "\n").length * ("" : Str).length ≤ 16777216 := by
  have h := join_le (sep := "") (line_len r)
  have h4 : ("" : Str).length = 0 := by decide +kernel
  have few := r.few
  rw [List.length_map, h4] at h
  rw [List.length_map, h4]
  have h1 : (txT (.tup ds)).length ≤ ds.length * (301 + 0) := h.2
  omega
def spText (N : Addr) : Sp := fun vs H Q E => ∃ (x : V) (d : Td) (h : Addr), vs = [x] ∧ Is h H x d ∧ (textB d = true → ∀ H', Same H H' → Q (.str (txT d)) H') ∧ (textB d = false → ∀ H', Same H H' → E (.ref N) none H')
theorem ok_arrivals_text (T : Top K mg A) : FnOk P w K mg base (L2.CX P w) 9 A.a_arrivals_text A.d_arrivals_text P_arrivals_text (spText A.c_NoArrivals) := by
  refine T.F_arrivals_text.okX sc_arrivals_text (fun vs H Q E h => ?_) (fun cdv A' outer s H vs Q E hr h => ?_)
  · obtain ⟨x, d, h, rfl, _⟩ := h
    rfl
  · obtain ⟨x, d, h, rfl, ix, yes, no⟩ := h
    refine ⟨_, (pss_cons (ps_if (pt_not (pt_val (pe_call (ok_are_texted T) (hr.mono (by decide)) (by rfl) T.g_are_texted T.F_are_texted.kp T.b_are_texted .nil pass0 (pa_cons (pv 0) pa_nil)))) (pss_one (ps_raise rfl (takes_of rfl rfl rfl rfl) (GX.pmk_own0 PySem.F.excBase_ValueError T.x_NoArrivals T.gc_NoArrivals T.kp_NoArrivals (raises_own T.s_NoArrivals T.t_NoArrivals) rfl))) pss_nil)
    (pss_one (ps_ret (pe_join pe_str (pe_lc (own := [("coming", 1)]) (by rfl) sc_arrivals_text.nd (pi_tup (pv 0)) (blkOk_by (own := [("coming", 1)]) (N := N_arrivals_text) (sc := defScope s_arrivals_text) (by decide +kernel)) (fun _ _ _ _ _ => (pg_name (i := 1) sc_arrivals_text.nd rfl (.inl rfl))) (fun _ _ _ _ _ => pts_nil) (fun _ _ _ _ _ => (pe_joined (PJ.cons (pe_fmt (pe_call (ok_coming_text (P := P) (w := w) T) (hr.mono (by decide)) (by rfl) T.g_coming_text T.F_coming_text.kp T.b_coming_text .nil pass0 (pa_cons (pv 1) pa_nil))) (PJ.cons pe_str PJ.nil))))))))), ?_⟩
    refine ⟨_, rfl, x, d, h, rfl, ix, fun H1 s1 => ⟨_, rfl, ?_⟩⟩
    show if (!textB d) = true then _ else _
    cases c : textB d with
    | false => exact iteT (no c H1 s1)
    | true =>
      have yes := yes c
      obtain ⟨n, ds, rfl, rw_⟩ := rows_of c
      obtain ⟨a, xs, ds', rfl, ed, ha, hl⟩ := isT_of ix rfl
      cases ed
      have l3 := hl.len
      have few := rw_.few
      have ha1 := s1 _ _ ha
      have vl : ((ds.map fun r => rowT r ++ "\n").map V.str).length = ds.length := by rw [List.length_map, List.length_map]
      refine iteF ⟨⟨_, rfl⟩, _, rfl, a, rfl, ⟨_, SqT.of ha1⟩, fun D nD => ?_⟩
      refine lc_tup (K := K) (a := a) (xs := xs) (te := fun σ H Q => tJs [tFmt (tCall spRowT [] E0 (tCons (tVar 1) tNil)), tC (V.str "\n")] Str.empty σ H fun out H1 => Q (V.str out) H1) (LP H1 D ((ds.map fun r => rowT r ++ "\n").map V.str)) (LP.start nD) (fun i H' _ p => SqT.of (p.1 _ _ ha1)) ?_ ?_
      · rintro i y H' hi p
        obtain ⟨e, he, ie⟩ := hl.get hi
        obtain ⟨es, rfl, le, ce⟩ := rw_.row e (List.mem_of_getElem? he)
        have h1 := rowT_len rw_.n12 ce le
        have h4 : ("\n" : Str).length = 1 := by decide +kernel
        have e0 : (Str.empty).length = 0 := rfl
        have big : ∀ {m : Nat}, m ≤ 1000 → m ≤ sizeLine := fun h => Nat.le_trans h (by decide)
        have a1 : (Str.empty ++ rowT (.tup es)).length ≤ 300 := by rw [Str.length_append, e0]; omega
        have a2 : (Str.empty ++ rowT (.tup es) ++ "\n").length ≤ 301 := by rw [Str.length_append, h4]; omega
        refine ⟨rfl, _, rfl, y, es, h, n, rfl, (ie.same s1).same p.1, rw_.n12, le, ce, fun H2 s2 => .inl ⟨_, rfl, big (by omega), _, rfl, big (by omega), _, rfl, big (show (Str.empty ++ rowT (.tup es) ++ "\n").length ≤ 1000 by omega), ?_⟩⟩
        rw [emp_app]
        exact lcPut nD p s2 (map_at (map_at he)) (by rw [vl]; omega)
      rintro H2 ⟨s2, d1⟩
      rw [take_all (by rw [vl]; exact l3)] at d1
      exact ⟨"", D, ds.map fun r => rowT r ++ "\n", rfl, rfl, .inl (SqL.of d1), (txT_len rw_).2, yes H2 (s1.trans s2)⟩
end

/-! ### the law's looks at packets and loads -/
def stepL : List Int → List Bool
  | x :: y :: r => decide (x < y) :: stepL (y :: r)
  | _ => []
theorem stepL_len : ∀ os : List Int, (stepL os).length = os.length - 1
  | [] => rfl
  | [_] => rfl
  | x :: y :: r => by
    show (stepL (y :: r)).length + 1 = _
    rw [stepL_len (y :: r)]
    simp only [List.length_cons]
    omega
theorem stepL_at : ∀ {os : List Int} {i : Nat} {x y : Int}, os[i]? = some x → os[i + 1]? = some y → (stepL os)[i]? = some (decide (x < y))
  | [], _, _, _, h, _ => by simp at h
  | [_], i, _, _, _, h => by simp at h
  | a :: b :: r, 0, x, y, h1, h2 => by
    cases h1
    cases h2
    rfl
  | a :: b :: r, i + 1, x, y, h1, h2 => by
    show (stepL (b :: r))[i]? = _
    exact stepL_at (os := b :: r) h1 h2
theorem lotL_eq (b : Int) : ∀ (last : Int) (ds : List Td), -1 ≤ last → lotL b last ds = (ds.all (inI 0 (b - 1)) && (stepL (last :: ds.map intOf)).all id)
  | last, [], _ => rfl
  | last, d :: ds, h => by
    show (inI (last + 1) (b - 1) d && lotL b (intOf d) ds) = ((inI 0 (b - 1) d && ds.all (inI 0 (b - 1))) && (decide (last < intOf d) && (stepL (intOf d :: ds.map intOf)).all id))
    cases d with
    | int i =>
      show ((decide (last + 1 ≤ i) && decide (i ≤ b - 1)) && lotL b i ds) = (((decide (0 ≤ i) && decide (i ≤ b - 1)) && ds.all (inI 0 (b - 1))) && (decide (last < i) && (stepL (i :: ds.map intOf)).all id))
      by_cases c : last < i
      · rw [lotL_eq b i ds (by omega), decide_eq_true (show last + 1 ≤ i by omega), decide_eq_true (show 0 ≤ i by omega), decide_eq_true c]
        simp only [Bool.true_and, Bool.and_assoc]
      · rw [decide_eq_false (show ¬ last + 1 ≤ i by omega), decide_eq_false c]
        simp only [Bool.false_and, Bool.and_false]
    | _ => rfl
theorem lotB_eq (n : Int) (ds : List Td) : lotB n (.tup ds) = (ds.all (inI 0 (n - 1)) && (stepL (ds.map intOf)).all id) := by
  show lotL n (-1) ds = _
  rw [lotL_eq n (-1) ds (by decide)]
  cases c : ds.all (inI 0 (n - 1)) with
  | false => rfl
  | true =>
    cases ds with
    | nil => rfl
    | cons d ds =>
      rw [List.all_cons, Bool.and_eq_true] at c
      obtain ⟨i, rfl, i0, _⟩ := inI_yes c.1
      show (true && (decide (-1 < i) && (stepL (i :: ds.map intOf)).all id)) = (true && (stepL (i :: ds.map intOf)).all id)
      rw [decide_eq_true (show -1 < i by omega), Bool.true_and]
theorem ints_all {h : Addr} {H : Hp} {lo hi : Int} : ∀ {vs : List V} {ds : List Td}, IsL h H vs ds → ds.all (inI lo hi) = true → vs = (ds.map intOf).map V.int
  | _, _, .nil, _ => rfl
  | _, _, .cons a t, c => by
    rw [List.all_cons, Bool.and_eq_true] at c
    obtain ⟨i, rfl, i0, i1⟩ := inI_yes c.1
    cases a
    rw [ints_all t c.2]
    rfl
section
variable {P : Program} {w : World} {K : PySem.W.Frag} {mg : Str → Option Value} {base : Heap} {A : Adr}
def spWithin : Sp := fun vs H Q _ => ∃ (lo hi : Int) (x : V) (d : Td) (h : Addr), vs = [x, .int lo, .int hi] ∧ Is h H x d ∧ Q (.bl (inI lo hi d)) H
theorem ok_law_is_within (T : Top K mg A) : FnOk P w K mg base CX0 1 A.a_law_is_within A.d_law_is_within P_law_is_within spWithin := by
  refine T.F_law_is_within.ok sc_law_is_within (fun vs H Q E h => ?_) (fun cdv A' outer s H vs Q E hr h => ?_)
  · obtain ⟨lo, hi, x, d, h, rfl, _⟩ := h
    rfl
  · obtain ⟨lo, hi, x, d, h, rfl, ix, k⟩ := h
    obtain ⟨t, ty, e1, e2, _⟩ := is_ty T ix
    refine ⟨_, (pss_one (ps_ret (pe_and (pe_callB call_isi (by rfl) T.z_isinstance (by decide +kernel) (pa_cons (pv 0) (pa_cons (pe_bltn (v := .ty "int") (by rfl) T.z_int (by decide +kernel) rfl) pa_nil))) (pe_and (pe_not (pe_callB call_isi (by rfl) T.z_isinstance (by decide +kernel) (pa_cons (pv 0) (pa_cons (pe_bltn (v := .ty "bool") (by rfl) T.z_bool (by decide +kernel) rfl) pa_nil)))) (pe_one (pe_chain op_le op_le (pv 1) (pv 0) (pv 2))))))), ?_⟩
    refine ⟨_, rfl, _, _, _, _, _, rfl, .ty "int", ty, e1, (isI d || isBl d), rfl, ?_⟩
    cases c : isI d with
    | false =>
      rw [inI_no c] at k
      cases c2 : isBl d with
      | false => exact iteF k
      | true =>
        refine iteT ⟨_, rfl, _, _, _, _, _, rfl, .ty "bool", ty, e2, _, rfl, ?_⟩
        rw [c2]
        exact ⟨false, rfl, iteF k⟩
    | true =>
      obtain ⟨i, rfl, rfl⟩ := is_int ix c
      refine iteT ⟨_, rfl, _, _, _, _, _, rfl, .ty "bool", ty, e2, _, rfl, true, rfl, iteT ?_⟩
      refine ⟨_, rfl, _, rfl, _, _, rfl, rfl, _, rfl, ?_⟩
      by_cases c : lo ≤ i
      · simp only [inI, decide_eq_true c, Bool.true_and] at k
        rw [decide_eq_true c]
        refine iteT ⟨_, rfl, _, _, rfl, rfl, k⟩
      · simp only [inI, decide_eq_false c, Bool.false_and] at k
        rw [decide_eq_false c]
        exact iteF k
def spLItem : Sp := fun vs H Q _ => ∃ (n : Int) (x : V) (d : Td) (h : Addr), vs = [.int n, x] ∧ Is h H x d ∧ ∀ H', Same H H' → Q (.bl (itemB n 3 d)) H'
theorem ok_law_is_item (T : Top K mg A) : FnOk P w K mg base CX0 2 A.a_law_is_item A.d_law_is_item P_law_is_item spLItem := by
  refine T.F_law_is_item.ok sc_law_is_item (fun vs H Q E h => ?_) (fun cdv A' outer s H vs Q E hr h => ?_)
  · obtain ⟨n, x, d, h, rfl, _⟩ := h
    rfl
  · obtain ⟨n, x, d, h, rfl, ix, k⟩ := h
    obtain ⟨t, ty, _, _, e3⟩ := is_ty T ix
    refine ⟨_, (pss_cons (ps_if (pt_cmpR op_isN (pv 1) pe_non (nomark _)) (pss_one (ps_ret pe_bl)) pss_nil)
    (pss_cons (ps_if (PW.pt (pw_or (pt_not (pt_val (pe_callB call_isi (by rfl) T.z_isinstance (by decide +kernel) (pa_cons (pv 1) (pa_cons (pe_bltn (v := .ty "tuple") (by rfl) T.z_tuple (by decide +kernel) rfl) pa_nil))))) (pw_or (pt_cmpR op_ne (pe_callB call_len_seq (by rfl) T.z_len (by decide +kernel) (pa_cons (pv 1) pa_nil)) pe_int (nomark _)) (pw_or1 (pt_not (pt_val (pe_callB call_isi (by rfl) T.z_isinstance (by decide +kernel) (pa_cons (pe_ix ix_tup (pv 1) pe_int (fun _ _ => rfl)) (pa_cons (pe_bltn (v := .ty "tuple") (by rfl) T.z_tuple (by decide +kernel) rfl) pa_nil))))))))) (pss_one (ps_ret pe_bl)) pss_nil)
    (pss_cons (ps_if (PW.pt (pw_or (pt_not (pt_val (pe_call (ok_law_is_within T) (hr.mono (by decide)) (by rfl) T.g_law_is_within T.F_law_is_within.kp T.b_law_is_within .nil pass0 (pa_cons (pe_ix ix_tup (pv 1) pe_int (fun _ _ => rfl)) (pa_cons pe_int (pa_cons pe_int pa_nil)))))) (pw_or (pt_not (pt_val (pe_call (ok_law_is_within T) (hr.mono (by decide)) (by rfl) T.g_law_is_within T.F_law_is_within.kp T.b_law_is_within .nil pass0 (pa_cons (pe_ix ix_tup (pv 1) pe_int (fun _ _ => rfl)) (pa_cons pe_int (pa_cons pe_int pa_nil)))))) (pw_or1 (pt_not (pt_chain op_le op_le pe_int (pe_callB call_len_seq (by rfl) T.z_len (by decide +kernel) (pa_cons (pe_ix ix_tup (pv 1) pe_int (fun _ _ => rfl)) pa_nil)) pe_int)))))) (pss_one (ps_ret pe_bl)) pss_nil)
    (pss_cons (ps_if (pt_not (pt_val (pe_callB (cr_all rfl) (by rfl) T.z_all (by decide +kernel) (pa_cons (pe_lc (own := [("_law_out", 3)]) (by rfl) sc_law_is_item.nd (pi_tup (pe_ix ix_tup (pv 1) pe_int (fun _ _ => rfl))) (blkOk_by (own := [("_law_out", 3)]) (N := N_law_is_item) (sc := defScope s_law_is_item) (by decide +kernel)) (fun _ _ _ _ _ => (pg_name (i := 3) sc_law_is_item.nd rfl (.inl rfl))) (fun _ _ _ _ _ => pts_nil) (fun _ _ _ _ _ => (pe_call (ok_law_is_within (P := P) (w := w) T) (hr.mono (by decide)) (by rfl) T.g_law_is_within T.F_law_is_within.kp T.b_law_is_within .nil pass0 (pa_cons (pv 3) (pa_cons pe_int (pa_cons (pe_op op_sub (pv 0) pe_int) pa_nil)))))) pa_nil)))) (pss_one (ps_ret pe_bl)) pss_nil)
    (pss_one (ps_ret (pe_callB (cr_all rfl) (by rfl) T.z_all (by decide +kernel) (pa_cons (pe_lc (own := [("_law_k", 2)]) (by rfl) sc_law_is_item.nd (pi_range1 rfl T.z_range (pa_cons (pe_op op_sub (pe_callB call_len_seq (by rfl) T.z_len (by decide +kernel) (pa_cons (pe_ix ix_tup (pv 1) pe_int (fun _ _ => rfl)) pa_nil)) pe_int) pa_nil)) (blkOk_by (own := [("_law_k", 2)]) (N := N_law_is_item) (sc := defScope s_law_is_item) (by decide +kernel)) (fun _ _ _ _ _ => (pg_name (i := 2) sc_law_is_item.nd rfl (.inl rfl))) (fun _ _ _ _ _ => pts_nil) (fun _ _ _ _ _ => (pe_cmpR op_lt (pe_ix (show IxR _ (rIxT K) from ix_tup) (pe_ix (show IxR _ (rIxT K) from ix_tup) (pv 1) pe_int (fun _ _ => rfl)) (pv 2) (fun _ _ => rfl)) (pe_ix (show IxR _ (rIxT K) from ix_tup) (pe_ix (show IxR _ (rIxT K) from ix_tup) (pv 1) pe_int (fun _ _ => rfl)) (pe_op op_add (pv 2) pe_int) (fun _ _ => rfl)) (nomark _)))) pa_nil)))))))), ?_⟩
    refine ⟨_, rfl, rfl, _, rfl, ?_⟩
    by_cases nn : d = .non
    · have ex := (is_non ix).mpr nn
      subst nn ex
      rw [dec_self]
      exact iteT (k H fun _ _ e => e)
    rw [itemB_some nn] at k
    rw [decide_eq_false (fun z => nn ((is_non ix).mp z))]
    refine iteF ⟨_, rfl, _, _, _, _, _, rfl, .ty "tuple", ty, e3, _, rfl, ?_⟩
    cases c : isT d with
    | false =>
      rw [arrB_no (tupN_no c)] at k
      exact iteT (iteT (k H fun _ _ e => e))
    | true =>
      obtain ⟨a, xs, ds, rfl, rfl, ha, hl⟩ := isT_of ix c
      refine iteF ⟨_, rfl, a, xs, rfl, .inr (SqT.of ha), rfl, _, rfl, ?_⟩
      rw [dec_int, hl.len]
      cases c4 : tupN 3 (.tup ds) with
      | false =>
        rw [arrB_no c4] at k
        rw [show decide ((ds.length : Int) = 3) = false from c4]
        exact iteT (iteT (k H fun _ _ e => e))
      | true =>
        rw [show decide ((ds.length : Int) = 3) = true from c4]
        obtain ⟨a', x1, x2, x3, d1, d2, d3, ea, ed, ha, i1, i2, i3⟩ := three ix c4
        cases ea
        cases ed
        obtain ⟨t3, ty3, _, _, e33⟩ := is_ty T i3
        have pk : arrB n 3 (.tup [d1, d2, d3]) = (inI 0 99 d1 && (inI 0 7 d2 && (lotB n d3 && (decide (1 ≤ ((itsOf d3).length : Int)) && decide (((itsOf d3).length : Int) ≤ 3))))) := rfl
        rw [pk] at k
        refine iteF ⟨_, rfl, a, _, _, _, rfl, rfl, SqT.of ha, atI_nat (j := 2) rfl, _, _, _, _, _, rfl, .ty "tuple", ty3, e33, _, rfl, ?_⟩
        cases ct : isT d3 with
        | false =>
          rw [lotB_no ct] at k
          simp only [Bool.false_and, Bool.and_false] at k
          exact iteT (k H fun _ _ e => e)
        | true =>
          obtain ⟨b, us, es, rfl, rfl, hb, hl3⟩ := isT_of i3 ct
          have l3 := hl3.len
          refine iteF ?_
          refine ⟨_, rfl, a, _, _, _, rfl, rfl, SqT.of ha, atI_nat (j := 0) rfl, 0, 99, x1, d1, h, rfl, i1, _, rfl, ?_⟩
          cases c1 : inI 0 99 d1 with
          | false =>
            rw [c1] at k
            exact iteT (iteT (k H fun _ _ e => e))
          | true =>
            refine iteF ⟨_, rfl, a, _, _, _, rfl, rfl, SqT.of ha, atI_nat (j := 1) rfl, 0, 7, x2, d2, h, rfl, i2, _, rfl, ?_⟩
            cases c2 : inI 0 7 d2 with
            | false =>
              rw [c1, c2] at k
              exact iteT (iteT (k H fun _ _ e => e))
            | true =>
              rw [c1, c2, Bool.true_and, Bool.true_and, lotB_eq] at k
              have k : ∀ H', Same H H' → Q (.bl ((es.all (inI 0 (n - 1)) && (stepL (es.map intOf)).all id) && (decide (1 ≤ (es.length : Int)) && decide ((es.length : Int) ≤ 3)))) H' := k
              refine iteF ⟨_, rfl, a, _, _, _, rfl, rfl, SqT.of ha, atI_nat (j := 2) rfl, b, us, rfl, .inr (SqT.of hb), _, _, rfl, rfl, _, rfl, ?_⟩
              by_cases g1 : (1 : Int) ≤ es.length
              · rw [decide_eq_true (show (1 : Int) ≤ us.length by omega)]
                refine iteT ⟨_, _, rfl, rfl, _, rfl, ?_⟩
                by_cases g2 : (es.length : Int) ≤ 3
                · rw [decide_eq_true (show (us.length : Int) ≤ 3 by omega)]
                  rw [decide_eq_true g1, decide_eq_true g2, Bool.and_self, Bool.and_true] at k
                  refine iteF ?_
                  refine ⟨_, rfl, a, _, _, _, rfl, rfl, SqT.of ha, atI_nat (j := 2) rfl, b, rfl, ⟨_, SqT.of hb⟩, fun D nD => ?_⟩
                  refine lc_tup (K := K) (a := b) (xs := us) (LP H D ((es.map (inI 0 (n - 1))).map V.bl)) (LP.start nD) (fun i H' _ p => SqT.of (p.1 _ _ hb)) ?_ ?_
                  · rintro i y H' hi p
                    obtain ⟨e, he, ie⟩ := hl3.get hi
                    refine ⟨by kernel_rfl, ?_⟩
                    refine ⟨_, rfl, _, rfl, _, _, rfl, rfl, 0, n - 1, y, e, h, rfl, ie.same p.1, ?_⟩
                    exact lcPut nD p (fun _ _ e => e) (map_at (map_at he)) (by rw [List.length_map, List.length_map]; omega)
                  rintro H1 ⟨s1, d1'⟩
                  rw [take_all (by rw [List.length_map, List.length_map]; exact l3)] at d1'
                  refine ⟨D, _, rfl, SqL.of d1', ?_⟩
                  rw [List.all_map]
                  refine ⟨_, rfl, ?_⟩
                  show if (!es.all (inI 0 (n - 1))) = true then _ else _
                  cases g3 : es.all (inI 0 (n - 1)) with
                  | false =>
                    rw [g3] at k
                    exact iteT (k H1 s1)
                  | true =>
                    rw [g3, Bool.true_and] at k
                    have eu := ints_all hl3 g3
                    subst eu
                    have ha1 := s1 _ _ ha
                    have hb1 := s1 _ _ hb
                    refine iteF ?_
                    refine ⟨_, rfl, a, _, _, _, rfl, rfl, SqT.of ha1, atI_nat (j := 2) rfl, b, _, rfl, .inr (SqT.of hb1), _, _, rfl, rfl, _, rfl, by omega, by omega, fun D2 nD2 => ?_⟩
                    have ls := stepL_len (es.map intOf)
                    rw [List.length_map] at ls
                    rw [List.length_map, List.length_map] at *
                    refine lc_range (lo := 0) (n := ((es.length : Int) - 1).toNat) (fun i H' => Same H1 H' ∧ H' D2 = some (.lst (((stepL (es.map intOf)).take i).map V.bl))) ⟨same_upd nD2, upd_same⟩ ?_ ?_
                    · rintro i H2 hi ⟨s2, e2⟩
                      have hi1 : i < (es.map intOf).length := by rw [List.length_map]; omega
                      have hi2 : i + 1 < (es.map intOf).length := by rw [List.length_map]; omega
                      have h1 : (es.map intOf)[i]? = some (es.map intOf)[i] := List.getElem?_eq_getElem hi1
                      have h2 : (es.map intOf)[i + 1]? = some (es.map intOf)[i + 1] := List.getElem?_eq_getElem hi2
                      have v1 : ((es.map intOf).map V.int)[i]? = some (.int (es.map intOf)[i]) := by rw [List.getElem?_map, h1]; rfl
                      have v2 : ((es.map intOf).map V.int)[i + 1]? = some (.int (es.map intOf)[i + 1]) := by rw [List.getElem?_map, h2]; rfl
                      refine ⟨by kernel_rfl, ?_⟩
                      refine ⟨_, rfl, a, _, _, _, rfl, rfl, SqT.of (s2 _ _ ha1), atI_nat (j := 2) rfl, _, rfl, b, _, _, _, rfl, rfl, SqT.of (s2 _ _ hb1), at_of (j := i) (by omega) v1, ?_⟩
                      refine ⟨_, rfl, a, _, _, _, rfl, rfl, SqT.of (s2 _ _ ha1), atI_nat (j := 2) rfl, _, rfl, _, _, rfl, rfl, b, _, _, _, rfl, rfl, SqT.of (s2 _ _ hb1), at_of (j := i + 1) (by omega) v2, _, _, rfl, rfl, ?_⟩
                      refine ⟨_, e2, small1000 (by rw [List.length_map, List.length_take]; omega), same_to s2 nD2, ?_⟩
                      rw [upd_same, List.take_add_one, stepL_at h1 h2, List.map_append]
                      rfl
                    rintro H2 ⟨s2, e2⟩
                    rw [take_all (by rw [ls]; omega)] at e2
                    refine ⟨D2, _, rfl, SqL.of e2, ?_⟩
                    exact k H2 (s1.trans s2)
                · rw [decide_eq_false (show ¬ (us.length : Int) ≤ 3 by omega)]
                  rw [decide_eq_false g2] at k
                  simp only [Bool.false_and, Bool.and_false] at k
                  exact iteT (k H fun _ _ e => e)
              · rw [decide_eq_false (show ¬ (1 : Int) ≤ us.length by omega)]
                rw [decide_eq_false g1] at k
                simp only [Bool.false_and, Bool.and_false] at k
                exact iteF ⟨_, rfl, iteT (k H fun _ _ e => e)⟩
theorem ok_law_arrival_text (T : Top K mg A) : FnOk P w K mg base CX0 1 A.a_law_arrival_text A.d_law_arrival_text P_law_arrival_text spItT := by
  refine T.F_law_arrival_text.ok sc_law_arrival_text (fun vs H Q E h => ?_) (fun cdv A' outer s H vs Q E hr h => ?_)
  · obtain ⟨x, d, h, n, rfl, _⟩ := h
    rfl
  · obtain ⟨x, d, h, n, rfl, ix, hn, c, k⟩ := h
    refine ⟨_, (pss_cons (ps_if (pt_cmpR op_isN (pv 0) pe_non (nomark _)) (pss_one (ps_ret pe_str)) pss_nil)
    (pss_one (ps_ret (pe_op op_add_str (pe_op op_add_str (pe_op op_add_str (pe_op op_add_str (pe_callTy call_str_int (by rfl) T.z_str (by decide +kernel) (pa_cons (pe_ix ix_tup (pv 0) pe_int (fun _ _ => rfl)) pa_nil)) pe_str) (pe_callTy call_str_int (by rfl) T.z_str (by decide +kernel) (pa_cons (pe_ix ix_tup (pv 0) pe_int (fun _ _ => rfl)) pa_nil))) pe_str) (pe_join pe_str (pe_lc (own := [("_law_out", 1)]) (by rfl) sc_law_arrival_text.nd (pi_tup (pe_ix ix_tup (pv 0) pe_int (fun _ _ => rfl))) (blkOk_by (own := [("_law_out", 1)]) (N := N_law_arrival_text) (sc := defScope s_law_arrival_text) (by decide +kernel)) (fun _ _ _ _ _ => (pg_name (i := 1) sc_law_arrival_text.nd rfl (.inl rfl))) (fun _ _ _ _ _ => pts_nil) (fun _ _ _ _ _ => (pe_callTy call_str_int (by rfl) T.z_str (by decide +kernel) (pa_cons (pv 1) pa_nil))))))))), ?_⟩
    refine ⟨_, rfl, rfl, _, rfl, ?_⟩
    rcases item_yes hn c with rfl | ⟨s, kk, es, rfl, hs, hk, le, all⟩
    · cases ix
      rw [dec_self]
      exact iteT (k H fun _ _ e => e)
    · obtain ⟨a, xs, ds, rfl, ed, ha, hl⟩ := isT_of ix rfl
      cases ed
      rw [decide_eq_false (by intro z; cases z)]
      match xs, hl with
      | _, .cons i1 (.cons i2 (.cons i3 .nil)) =>
        cases i1
        cases i2
        obtain ⟨b, us, ds, rfl, ed, hb, hl3⟩ := isT_of i3 rfl
        cases ed
        have l3 := hl3.len
        have vl : (((es.map fun d => strI (intOf d)).map V.str)).length = es.length := by rw [List.length_map, List.length_map]
        have h1 := strI_len hs.1 hs.2
        have h2 := strI_len hk.1 (show kk ≤ 99 by omega)
        have h3 := join_le (sep := ",") (ys := es.map fun d => strI (intOf d)) (B := 2) fun y hy => by
          obtain ⟨e, he, rfl⟩ := List.mem_map.mp hy
          obtain ⟨i, rfl, i0, i1⟩ := all e he
          exact (strI_len i0 (by omega)).1
        have h4 : ("," : Str).length = 1 := by decide +kernel
        have h5 : ("." : Str).length = 1 := by decide +kernel
        have h6 : (">" : Str).length = 1 := by decide +kernel
        rw [List.length_map, h4] at h3
        have big : ∀ {m : Nat}, m ≤ 1000 → m ≤ sizeLine := fun h => Nat.le_trans h (by decide)
        have a2 : (strI s ++ ".").length ≤ 3 := by rw [Str.length_append, h5]; omega
        have a3 : (strI s ++ "." ++ strI kk).length ≤ 5 := by rw [Str.length_append]; omega
        have a4 : (strI s ++ "." ++ strI kk ++ ">").length ≤ 6 := by rw [Str.length_append, h6]; omega
        refine iteF ⟨_, rfl, a, _, 0, _, rfl, rfl, SqT.of ha, atI_nat (j := 0) rfl, s, rfl, h1.2, _, _, rfl, rfl, big (show (strI s).length + ("." : Str).length ≤ 1000 by omega), ?_⟩
        refine ⟨_, rfl, a, _, 1, _, rfl, rfl, SqT.of ha, atI_nat (j := 1) rfl, kk, rfl, h2.2, _, _, rfl, rfl, big (show (strI s ++ ".").length + (strI kk).length ≤ 1000 by omega), ?_⟩
        refine ⟨_, _, rfl, rfl, big (show (strI s ++ "." ++ strI kk).length + (">" : Str).length ≤ 1000 by omega), ?_⟩
        refine ⟨⟨_, rfl⟩, _, rfl, a, _, 2, _, rfl, rfl, SqT.of ha, atI_nat (j := 2) rfl, b, rfl, ⟨_, SqT.of hb⟩, fun D nD => ?_⟩
        refine lc_tup (K := K) (a := b) (xs := us) (LP H D ((es.map fun d => strI (intOf d)).map V.str)) (LP.start nD) (fun i H' _ p => SqT.of (p.1 _ _ hb)) ?_ ?_
        · rintro i y H' hi p
          obtain ⟨e, he, ie⟩ := hl3.get hi
          obtain ⟨j, rfl, j0, j1⟩ := all e (List.mem_of_getElem? he)
          cases ie
          refine ⟨rfl, _, rfl, j, rfl, (strI_len j0 (by omega)).2, ?_⟩
          exact lcPut nD p (fun _ _ e => e) (map_at (map_at he)) (by rw [vl]; omega)
        rintro H1 ⟨s1, d1⟩
        rw [take_all (by rw [vl]; exact l3)] at d1
        refine ⟨",", D, es.map fun d => strI (intOf d), rfl, rfl, .inl (SqL.of d1), by rw [List.length_map, h4]; omega, ?_⟩
        exact ⟨_, _, rfl, rfl, big (show (strI s ++ "." ++ strI kk ++ ">").length + (Txt.join "," (es.map fun d => strI (intOf d))).length ≤ 1000 by omega), k H1 s1⟩
theorem ok_law_beat_text (T : Top K mg A) : FnOk P w K mg base CX0 2 A.a_law_beat_text A.d_law_beat_text P_law_beat_text spRowT := by
  refine T.F_law_beat_text.ok sc_law_beat_text (fun vs H Q E h => ?_) (fun cdv A' outer s H vs Q E hr h => ?_)
  · obtain ⟨x, ds, h, n, rfl, _⟩ := h
    rfl
  · obtain ⟨x, ds, h, n, rfl, ix, hn, l12, c, k⟩ := h
    refine ⟨_, (pss_one (ps_ret (pe_join pe_str (pe_lc (own := [("_law_item", 1)]) (by rfl) sc_law_beat_text.nd (pi_tup (pv 0)) (blkOk_by (own := [("_law_item", 1)]) (N := N_law_beat_text) (sc := defScope s_law_beat_text) (by decide +kernel)) (fun _ _ _ _ _ => (pg_name (i := 1) sc_law_beat_text.nd rfl (.inl rfl))) (fun _ _ _ _ _ => pts_nil) (fun _ _ _ _ _ => (pe_call (ok_law_arrival_text (P := P) (w := w) T) (hr.mono (by decide)) (by rfl) T.g_law_arrival_text T.F_law_arrival_text.kp T.b_law_arrival_text .nil pass0 (pa_cons (pv 1) pa_nil))))))), ?_⟩
    obtain ⟨a, xs, ds', rfl, ed, ha, hl⟩ := isT_of ix rfl
    cases ed
    have l3 := hl.len
    have vl : ((ds.map itT).map V.str).length = ds.length := by rw [List.length_map, List.length_map]
    have h4 : (" " : Str).length = 1 := by decide +kernel
    have h3 := join_le (sep := " ") (ys := ds.map itT) (B := 20) fun y hy => by
      obtain ⟨e, he, rfl⟩ := List.mem_map.mp hy
      exact itT_len hn (List.all_eq_true.mp c e he)
    rw [List.length_map, h4] at h3
    refine ⟨⟨_, rfl⟩, _, rfl, a, rfl, ⟨_, SqT.of ha⟩, fun D nD => ?_⟩
    refine lc_tup (K := K) (a := a) (xs := xs) (LP H D ((ds.map itT).map V.str)) (LP.start nD) (fun i H' _ p => SqT.of (p.1 _ _ ha)) ?_ ?_
    · rintro i y H' hi p
      obtain ⟨e, he, ie⟩ := hl.get hi
      refine ⟨rfl, _, rfl, y, e, h, n, rfl, ie.same p.1, hn, List.all_eq_true.mp c e (List.mem_of_getElem? he), fun H2 s2 => ?_⟩
      exact lcPut nD p s2 (map_at (map_at he)) (by rw [vl]; omega)
    rintro H1 ⟨s1, d1⟩
    rw [take_all (by rw [vl]; exact l3)] at d1
    exact ⟨" ", D, ds.map itT, rfl, rfl, .inl (SqL.of d1), by rw [List.length_map, h4]; omega, k H1 s1⟩
end

/-! ### the law's look at arrivals -/
def okRow (d0 : Td) : Td → Bool
  | .tup es => (decide (1 ≤ (es.length : Int)) && decide ((es.length : Int) ≤ 12)) && (isT d0 && (decide ((es.length : Int) = ((itsOf d0).length : Int)) && es.all (itemB es.length 3)))
  | _ => false
theorem textB_all (d0 : Td) (ds : List Td) : textB (.tup (d0 :: ds)) = (decide (((d0 :: ds).length : Int) ≤ 200) && (d0 :: ds).all (okRow d0)) := by
  cases c : isT d0 with
  | false =>
    rw [textB_no c, List.all_cons]
    have e : okRow d0 d0 = false := by
      cases d0 with
      | tup is => cases c
      | _ => rfl
    rw [e, Bool.false_and, Bool.and_false]
  | true =>
    cases d0 with
    | tup is =>
      show ((decide (1 ≤ (is.length : Int)) && decide ((is.length : Int) ≤ 12)) && (decide (((Td.tup is :: ds).length : Int) ≤ 200) && (Td.tup is :: ds).all (rowB is.length 3))) = (decide (((Td.tup is :: ds).length : Int) ≤ 200) && (Td.tup is :: ds).all (okRow (.tup is)))
      have e : ∀ r, (decide (1 ≤ (is.length : Int)) && decide ((is.length : Int) ≤ 12)) = true → rowB is.length 3 r = okRow (.tup is) r := fun r h => by
        cases r with
        | tup es =>
          show (decide ((es.length : Int) = (is.length : Int)) && es.all (itemB is.length 3)) = ((decide (1 ≤ (es.length : Int)) && decide ((es.length : Int) ≤ 12)) && (true && (decide ((es.length : Int) = (is.length : Int)) && es.all (itemB es.length 3))))
          by_cases z : (es.length : Int) = (is.length : Int)
          · rw [z, h]
            rfl
          · rw [decide_eq_false z]
            simp
        | _ => rfl
      cases g : (decide (1 ≤ (is.length : Int)) && decide ((is.length : Int) ≤ 12)) with
      | true =>
        rw [show rowB is.length 3 = okRow (.tup is) from funext fun r => e r g]
        rfl
      | false =>
        have e2 : okRow (.tup is) (.tup is) = false := by
          show ((decide (1 ≤ (is.length : Int)) && decide ((is.length : Int) ≤ 12)) && _) = false
          rw [g]
          rfl
        rw [List.all_cons, List.all_cons, e2]
        simp
    | _ => cases c
section
variable {P : Program} {w : World} {K : PySem.W.Frag} {mg : Str → Option Value} {base : Heap} {A : Adr}
def spLAre (M : Nat) : Sp := fun vs H Q _ => ∃ (x : V) (d : Td) (h : Addr), vs = [x] ∧ Is h H x d ∧ (∀ ds, d = .tup ds → ∀ es, .tup es ∈ ds → es.length ≤ M) ∧ ∀ H', Same H H' → Q (.bl (textB d)) H'
theorem ok_law_are_arrivals (T : Top K mg A) : FnOk P w K mg base CX0 3 A.a_law_are_arrivals A.d_law_are_arrivals P_law_are_arrivals (spLAre 100000) := by
  refine T.F_law_are_arrivals.ok sc_law_are_arrivals (fun vs H Q E h => ?_) (fun cdv A' outer s H vs Q E hr h => ?_)
  · obtain ⟨x, d, h, rfl, _⟩ := h
    rfl
  · obtain ⟨x, d, h, rfl, ix, few, k⟩ := h
    obtain ⟨t, ty, _, _, e3⟩ := is_ty T ix
    refine ⟨_, (pss_cons (ps_if (PW.pt (pw_or (pt_not (pt_val (pe_callB call_isi (by rfl) T.z_isinstance (by decide +kernel) (pa_cons (pv 0) (pa_cons (pe_bltn (v := .ty "tuple") (by rfl) T.z_tuple (by decide +kernel) rfl) pa_nil))))) (pw_or1 (pt_cmpR op_gt (pe_callB call_len_seq (by rfl) T.z_len (by decide +kernel) (pa_cons (pv 0) pa_nil)) pe_int (nomark _))))) (pss_one (ps_ret pe_bl)) pss_nil)
    (pss_cons (ps_for PassesOwn.never rfl (pi_tup (pv 0)) (pg_name (i := 1) sc_law_are_arrivals.nd rfl (.inr rfl)) (pss_cons (ps_if (PW.pt (pw_or (pt_not (pt_val (pe_callB call_isi (by rfl) T.z_isinstance (by decide +kernel) (pa_cons (pv 1) (pa_cons (pe_bltn (v := .ty "tuple") (by rfl) T.z_tuple (by decide +kernel) rfl) pa_nil))))) (pw_or (pt_not (pt_chain op_le op_le pe_int (pe_callB call_len_seq (by rfl) T.z_len (by decide +kernel) (pa_cons (pv 1) pa_nil)) pe_int)) (pw_or1 (pt_not (pt_val (pe_callB call_isi (by rfl) T.z_isinstance (by decide +kernel) (pa_cons (pe_ix ix_tup (pv 0) pe_int (fun _ _ => rfl)) (pa_cons (pe_bltn (v := .ty "tuple") (by rfl) T.z_tuple (by decide +kernel) rfl) pa_nil))))))))) (pss_one (ps_ret pe_bl)) pss_nil)
    (pss_one (ps_if (PW.pt (pw_or (pt_cmpR op_ne (pe_callB call_len_seq (by rfl) T.z_len (by decide +kernel) (pa_cons (pv 1) pa_nil)) (pe_callB call_len_seq (by rfl) T.z_len (by decide +kernel) (pa_cons (pe_ix ix_tup (pv 0) pe_int (fun _ _ => rfl)) pa_nil)) (nomark _)) (pw_or1 (pt_not (pt_val (pe_callB (cr_all rfl) (by rfl) T.z_all (by decide +kernel) (pa_cons (pe_lc (own := [("_law_item", 2)]) (by rfl) sc_law_are_arrivals.nd (pi_tup (pv 1)) (blkOk_by (own := [("_law_item", 2)]) (N := N_law_are_arrivals) (sc := defScope s_law_are_arrivals) (by decide +kernel)) (fun _ _ _ _ _ => (pg_name (i := 2) sc_law_are_arrivals.nd rfl (.inl rfl))) (fun _ _ _ _ _ => pts_nil) (fun _ _ _ _ _ => (pe_call (ok_law_is_item (P := P) (w := w) T) (hr.mono (by decide)) (by rfl) T.g_law_is_item T.F_law_is_item.kp T.b_law_is_item .nil pass0 (pa_cons (pe_callB (show CallR _ _ (Evl.rLenS K) from call_len_seq) (by rfl) T.z_len (by decide +kernel) (pa_cons (pv 1) pa_nil)) (pa_cons (pv 2) pa_nil))))) pa_nil))))))) (pss_one (ps_ret pe_bl)) pss_nil))))
    (pss_one (ps_ret pe_bl)))), ?_⟩
    refine ⟨_, rfl, _, _, _, _, _, rfl, .ty "tuple", ty, e3, _, rfl, ?_⟩
    cases c : isT d with
    | false =>
      have e : textB d = false := by
        cases d with
        | tup ds => cases c
        | _ => rfl
      rw [e] at k
      exact iteT (iteT (k H fun _ _ e => e))
    | true =>
      obtain ⟨a, xs, ds, rfl, rfl, ha, hl⟩ := isT_of ix c
      have l0 := hl.len
      have few := few ds rfl
      refine iteF ⟨_, rfl, a, xs, rfl, .inr (SqT.of ha), _, _, rfl, rfl, _, rfl, ite2 (fun c2 => ?_) (fun c2 => ?_)⟩
      · have c2 : (200 : Int) < (xs.length : Int) := of_decide_eq_true c2
        have e : textB (.tup ds) = false := by
          cases ds with
          | nil => rw [l0] at c2; exact absurd c2 (by decide)
          | cons d0 ds =>
            rw [textB_all, decide_eq_false (by omega)]
            rfl
        rw [e] at k
        exact k H fun _ _ e => e
      have c2 : ¬ (200 : Int) < (xs.length : Int) := fun z => c2 (decide_eq_true z)
      refine ⟨_, rfl, a, rfl, ⟨_, SqT.of ha⟩, for_tup (K := K) (a := a) (xs := xs) (fun i σ H' => ∃ y1 : Option V, σ = [some (.ref a), y1, none] ∧ Same H H' ∧ ∀ j d0 dj, j < i → ds[0]? = some d0 → ds[j]? = some dj → okRow d0 dj = true) ⟨_, rfl, fun _ _ e => e, fun j _ _ hj => absurd hj (Nat.not_lt_zero _)⟩ (fun i σ H' _ ⟨_, _, s1, _⟩ => SqT.of (s1 _ _ ha)) ?_ ?_⟩
      · rintro i x σ H1 hx ⟨y1, rfl, s1, all⟩
        obtain ⟨e, he, ie⟩ := hl.get hx
        have n0 : 0 < ds.length := by have := (List.getElem?_eq_some_iff.mp he).1; omega
        have hd0 : ds[0]? = some ds[0] := List.getElem?_eq_getElem n0
        generalize ds[0] = d0 at hd0
        have hx0 : xs[0]? = some (xs[0]'(by omega)) := List.getElem?_eq_getElem (by omega)
        generalize xs[0]'(by omega) = v0 at hx0
        obtain ⟨d0', hd0', i0⟩ := hl.get hx0
        rw [hd0] at hd0'
        cases hd0'
        have ed : ∃ r, ds = d0 :: r := by
          cases ds with
          | nil => cases hd0
          | cons q r => cases hd0; exact ⟨r, rfl⟩
        have no : okRow d0 e = false → ∀ H', Same H H' → Q (.bl false) H' := fun z => by
          obtain ⟨r, er⟩ := ed
          have f : textB (.tup ds) = false := by
            have q : ds.all (okRow d0) = false := all_no he z
            rw [er] at q ⊢
            rw [textB_all, q, Bool.and_false]
          rw [f] at k
          exact k
        have nx : okRow d0 e = true → ∀ H', Same H H' → ∃ y1 : Option V, ([some (.ref a), some x, none] : L2.St) = [some (.ref a), y1, none] ∧ Same H H' ∧ ∀ j d0 dj, j < i + 1 → ds[0]? = some d0 → ds[j]? = some dj → okRow d0 dj = true := fun z H' s => ⟨_, rfl, s, fun j d0' dj hj h0 hdj => by
          rw [hd0] at h0
          cases h0
          by_cases q : j = i
          · subst q
            rw [he] at hdj
            cases hdj
            exact z
          · exact all j _ dj (by omega) hd0 hdj⟩
        obtain ⟨te, tye, _, _, e3e⟩ := is_ty T (ie.same s1)
        refine ⟨_, rfl, _, _, _, _, _, rfl, .ty "tuple", tye, e3e, _, rfl, ?_⟩
        cases ce : isT e with
        | false =>
          have z : okRow d0 e = false := by
            cases e with
            | tup es => cases ce
            | _ => rfl
          exact iteT (iteT (no z H1 s1))
        | true =>
          obtain ⟨b, us, es, rfl, rfl, hb, hle⟩ := isT_of ie ce
          have le := hle.len
          have lm := few es (List.mem_of_getElem? he)
          have hb1 := s1 _ _ hb
          have ha1 := s1 _ _ ha
          have ok : okRow d0 (.tup es) = ((decide (1 ≤ (es.length : Int)) && decide ((es.length : Int) ≤ 12)) && (isT d0 && (decide ((es.length : Int) = ((itsOf d0).length : Int)) && es.all (itemB es.length 3)))) := rfl
          rw [ok] at no nx
          clear ok
          refine iteF ⟨_, rfl, b, us, rfl, .inr (SqT.of hb1), _, _, rfl, rfl, _, rfl, ?_⟩
          by_cases g1 : (1 : Int) ≤ es.length
          · rw [decide_eq_true (show (1 : Int) ≤ us.length by omega)]
            refine iteT ⟨_, _, rfl, rfl, _, rfl, ?_⟩
            by_cases g2 : (es.length : Int) ≤ 12
            · rw [decide_eq_true (show (us.length : Int) ≤ 12 by omega)]
              rw [decide_eq_true g1, decide_eq_true g2, Bool.and_self, Bool.true_and] at no nx
              obtain ⟨t0, ty0, _, _, e30⟩ := is_ty T (i0.same s1)
              refine iteF ⟨_, rfl, a, _, 0, _, rfl, rfl, SqT.of ha1, atI_nat (j := 0) hx0, _, _, _, _, _, rfl, .ty "tuple", ty0, e30, _, rfl, ?_⟩
              cases c0 : isT d0 with
              | false =>
                rw [c0, Bool.false_and] at no
                exact iteT (no rfl H1 s1)
              | true =>
                obtain ⟨b0, us0, es0, rfl, rfl, hb0, hl0⟩ := isT_of i0 c0
                have le0 := hl0.len
                rw [c0, Bool.true_and] at no nx
                refine iteF ⟨_, rfl, b, us, rfl, .inr (SqT.of hb1), _, rfl, a, _, 0, _, rfl, rfl, SqT.of ha1, atI_nat (j := 0) hx0, b0, us0, rfl, .inr (SqT.of (s1 _ _ hb0)), rfl, _, rfl, ?_⟩
                rw [dec_int, le, le0]
                by_cases g3 : (es.length : Int) = (es0.length : Int)
                · rw [decide_eq_true g3]
                  rw [show decide ((es.length : Int) = ((itsOf (Td.tup es0)).length : Int)) = true from decide_eq_true g3, Bool.true_and] at no nx
                  refine iteF ⟨_, rfl, b, rfl, ⟨_, SqT.of hb1⟩, fun D nD => ?_⟩
                  refine lc_tup (K := K) (a := b) (xs := us) (LP H1 D ((es.map (itemB es.length 3)).map V.bl)) (LP.start nD) (fun i H' _ p => SqT.of (p.1 _ _ hb1)) ?_ ?_
                  · rintro j y H' hj p
                    obtain ⟨f, hf, jf⟩ := hle.get hj
                    refine ⟨by kernel_rfl, ?_⟩
                    refine ⟨_, rfl, b, us, rfl, .inr (SqT.of (p.1 _ _ hb1)), _, rfl, (us.length : Int), y, f, h, rfl, (jf.same s1).same p.1, fun H2 s2 => ?_⟩
                    rw [le]
                    exact lcPut nD p s2 (map_at (map_at hf)) (by rw [List.length_map, List.length_map]; omega)
                  rintro H2 ⟨s2, d2⟩
                  rw [take_all (by rw [List.length_map, List.length_map]; exact le)] at d2
                  refine ⟨D, _, rfl, SqL.of d2, ?_⟩
                  rw [List.all_map]
                  refine ⟨_, rfl, ?_⟩
                  show if (!es.all (itemB es.length 3)) = true then _ else _
                  cases g4 : es.all (itemB es.length 3) with
                  | false => exact iteT (no g4 H2 (s1.trans s2))
                  | true => exact iteF (nx g4 H2 (s1.trans s2))
                · rw [decide_eq_false g3]
                  rw [show decide ((es.length : Int) = ((itsOf (Td.tup es0)).length : Int)) = false from decide_eq_false g3, Bool.false_and] at no
                  exact iteT (iteT (no rfl H1 s1))
            · rw [decide_eq_false (show ¬ (us.length : Int) ≤ 12 by omega)]
              rw [decide_eq_false g2, Bool.and_false, Bool.false_and] at no
              exact iteT (iteT (no rfl H1 s1))
          · rw [decide_eq_false (show ¬ (1 : Int) ≤ us.length by omega)]
            rw [decide_eq_false g1, Bool.false_and, Bool.false_and] at no
            exact iteF ⟨_, rfl, iteT (iteT (no rfl H1 s1))⟩
      · rintro σ H1 ⟨y1, rfl, s1, all⟩
        have e : textB (.tup ds) = true := by
          cases ds with
          | nil => rfl
          | cons d0 r =>
            rw [textB_all, decide_eq_true (by omega), Bool.true_and]
            exact all_yes fun j d hd => all j d0 d (by rw [l0]; exact (List.getElem?_eq_some_iff.mp hd).1) rfl hd
        rw [e] at k
        exact k H1 s1
end

/-! ### packets drawn -/
theorem inV_int {o : Int} : ∀ {os : List Int}, inV (.int o) (os.map V.int) = decide (o ∈ os)
  | [] => rfl
  | x :: os => by
    unfold inV
    rw [List.map_cons, List.any_cons]
    have ih : (List.any (os.map V.int) fun y => eqV y (.int o)) = decide (o ∈ os) := inV_int
    rw [ih]
    have h1 : eqV (.int x) (.int o) = decide (x = o) := rfl
    rw [h1]
    by_cases c : x = o
    · subst c
      simp
    · have c2 : ¬ o = x := fun z => c z.symm
      simp [c, c2]
theorem DeckAt.but {H H' : Hp} {h g F : Addr} (a : DeckAt H h g) (b : ∀ q, q ≠ F → H' q = H q) (h1 : F ≠ h) (h2 : F ≠ g) : DeckAt H' h g :=
  ⟨let ⟨ns, e⟩ := a.cells; ⟨ns, by rw [b _ h2.symm]; exact e⟩, let ⟨i, m, t, sd, e, hi⟩ := a.five; ⟨i, m, t, sd, by rw [b _ h1.symm]; exact e, hi⟩, a.ne⟩
structure OutsOk (os : List Int) : Prop where
  few : os.length ≤ 12
section
variable {P : Program} {w : World} {K : PySem.W.Frag} {mg : Str → Option Value} {base : Heap} {A : Adr}
def spLOuts : Sp := fun vs H Q _ => ∃ (h g : Addr) (n m ht : Int), vs = [.ref h, .int n, .int m, .int ht] ∧ DeckAt H h g ∧ 1 ≤ n ∧ n ≤ 12 ∧ 1 ≤ m ∧ m ≤ 12 ∧ ∀ (H' : Hp) (p : Addr) (os : List Int), Kp h H H' → DeckAt H' h g → H' p = some (.tup (os.map V.int)) → OutsOk os → Q (.ref p) H'
theorem ok_law_outs (T : Top K mg A) : FnOk P w K mg base CX0 3 A.a_law_outs A.d_law_outs P_law_outs spLOuts := by
  refine T.F_law_outs.ok sc_law_outs (fun vs H Q E h => ?_) (fun cdv A' outer s H vs Q E hr h => ?_)
  · obtain ⟨h, g, n, m, ht, rfl, _⟩ := h
    rfl
  · obtain ⟨h, g, n, m, ht, rfl, a0, n1, n12, m1, m12, k⟩ := h
    refine ⟨_, (pss_cons (ps_set (i := 4) sc_law_outs.nd rfl (.inl rfl) (pe_lst pa_nil))
    (pss_cons (ps_for PassesOwn.never rfl (pi_range1 rfl T.z_range (pa_cons (pe_op op_add pe_int (pe_call (ok_law_draw T) (hr.mono (by decide)) (by rfl) T.g_law_draw T.F_law_draw.kp T.b_law_draw .nil pass0 (pa_cons (pv 0) (pa_cons (pv 2) pa_nil)))) pa_nil)) (pg_name (i := 5) sc_law_outs.nd rfl (.inl rfl)) (pss_cons (ps_set (i := 6) sc_law_outs.nd rfl (.inl rfl) (pe_call (ok_law_draw T) (hr.mono (by decide)) (by rfl) T.g_law_draw T.F_law_draw.kp T.b_law_draw .nil pass0 (pa_cons (pv 0) (pa_cons (pv 1) pa_nil))))
    (Evl.pss_cut (ps_if (pt_cmpR op_eq (pe_call (ok_law_draw T) (hr.mono (by decide)) (by rfl) T.g_law_draw T.F_law_draw.kp T.b_law_draw .nil pass0 (pa_cons (pv 0) (pa_cons pe_int pa_nil))) pe_int (nomark _)) (pss_one (ps_set (i := 6) sc_law_outs.nd rfl (.inl rfl) (pv 3))) pss_nil)
    (pss_one (ps_if (pt_cmpR op_notIn_seq (pv 6) (pv 4) (by rfl)) (pss_one (ps_expr (pe_bm PySem.F.plainAttrs_list PySem.F.slot_list_append PySem.F.type_list_append mt_append (pv 4) (pa_cons (pv 6) pa_nil)))) pss_nil)))))
    (pss_one (ps_ret (pe_callTy call_tuple_of (by rfl) T.z_tuple (by decide +kernel) (pa_cons (pe_callB cr_sortedI (by rfl) T.z_sorted (by decide +kernel) (pa_cons (pv 4) pa_nil)) pa_nil)))))), ?_⟩
    refine ⟨by show 0 ≤ sizeLine; decide, fun F nF => ?_⟩
    have s0 := same_upd nF (o := .lst [])
    have a1 := a0.same s0
    have Fh : F ≠ h := fun z => by
      obtain ⟨_, e⟩ := a0.lst
      rw [← z, nF] at e
      cases e
    have Fg : F ≠ g := fun z => by
      obtain ⟨_, e⟩ := a0.cells
      rw [← z, nF] at e
      cases e
    refine ⟨_, rfl, _, rfl, h, g, m, rfl, a1, by omega, by omega, fun H1 d b1 a2 d0 d1 => ⟨1, d, rfl, rfl, 1 + d, rfl, by omega, by omega, ?_⟩⟩
    have F1 : H1 F = some (.lst []) := by rw [b1 F Fh]; exact upd_same
    refine for_range (lo := 0) (n := (1 + d).toNat) (fun i σ H' => ∃ (y5 y6 : Option V) (os : List Int), σ = [some (.ref h), some (.int n), some (.int m), some (.int ht), some (.ref F), y5, y6] ∧ (∀ b, b ≠ h → b ≠ F → H' b = H1 b) ∧ DeckAt H' h g ∧ H' F = some (.lst (os.map V.int)) ∧ os.Nodup ∧ os.length ≤ i)
      ⟨_, _, [], rfl, fun _ _ _ => rfl, a2, F1, List.nodup_nil, Nat.le_refl _⟩ ?_ ?_
    · rintro i σ H2 hi ⟨y5, y6, os, rfl, o2, a3, eF, nd, le⟩
      refine ⟨_, rfl, _, rfl, h, g, n, rfl, a3, by omega, by omega, fun H3 d3 b3 a4 d30 d31 => ?_⟩
      refine ⟨fun σ' H' => ∃ (y5 : Option V) (z : Int), σ' = [some (.ref h), some (.int n), some (.int m), some (.int ht), some (.ref F), y5, some (.int z)] ∧ But h H3 H' ∧ DeckAt H' h g, ?_, ?_⟩
      · refine ⟨_, rfl, h, g, 3, rfl, a4, by decide, by decide, fun H4 d4 b4 a5 _ _ => ⟨rfl, _, rfl, ite2 (fun c => ?_) (fun c => ?_)⟩⟩
        · exact ⟨_, rfl, _, ht, rfl, b4, a5⟩
        · exact ⟨_, d3, rfl, b4, a5⟩
      rintro σ' H4 ⟨y5, z, rfl, b4, a5⟩
      have eF4 : H4 F = some (.lst (os.map V.int)) := by rw [b4 F Fh, b3 F Fh]; exact eF
      have o4 : ∀ b, b ≠ h → b ≠ F → H4 b = H1 b := fun b h1 h2 => by rw [b4 b h1, b3 b h1]; exact o2 b h1 h2
      refine ⟨_, rfl, _, rfl, F, _, rfl, .inl (SqL.of eF4), rfl, ?_, _, rfl, ?_⟩
      · rw [List.all_map]
        exact List.all_eq_true.mpr fun _ _ => rfl
      show if (!inV (.int z) (os.map V.int)) = true then _ else _
      rw [inV_int]
      by_cases c : z ∈ os
      · rw [decide_eq_true c]
        exact iteF ⟨_, _, os, rfl, o4, a5, eF4, nd, by omega⟩
      · rw [decide_eq_false c]
        refine iteT ⟨_, rfl, .inl ⟨rfl, _, SqL.of eF4⟩, _, rfl, F, _, _, rfl, rfl, eF4, small1000 (by rw [List.length_map]; omega), ?_⟩
        refine ⟨_, _, os ++ [z], rfl, fun b h1 h2 => by rw [upd_ne h2]; exact o4 b h1 h2, a5.but (fun q hq => upd_ne hq) Fh Fg, by rw [upd_same, List.map_append]; rfl, ?_, ?_⟩
        · rw [List.nodup_append]
          exact ⟨nd, List.nodup_cons.mpr ⟨List.not_mem_nil, List.nodup_nil⟩, fun a ha b hb e => by
            rw [List.mem_singleton] at hb
            rw [e, hb] at ha
            exact c ha⟩
        · rw [List.length_append]
          show os.length + 1 ≤ i + 1
          omega
    · rintro σ H2 ⟨y5, y6, os, rfl, o2, a3, eF, nd, le⟩
      refine ⟨_, rfl, F, os, rfl, SqL.of eF, fun ns p pm pw np => ⟨p, _, rfl, .inl ⟨SqL.of upd_same, fun q nq => ?_⟩⟩⟩
      have s3 := same_upd np (o := .lst (ns.map V.int))
      have s4 := same_upd nq (o := .tup (ns.map V.int))
      refine k _ q ns (fun b o hb e => ?_) (a3.same (s3.trans s4)) upd_same ⟨by rw [pm.length_eq]; omega⟩
      · have bF : b ≠ F := fun z => by rw [z, nF] at e; cases e
        have e2 : H2 b = some o := by rw [o2 b hb bF, b1 b hb]; exact s0 _ _ e
        exact (s3.trans s4) _ _ e2
end
/-! ### arrivals drawn -/
def TK (H H' : Hp) : Prop := ∀ q ys, H q = some (.tup ys) → H' q = some (.tup ys)
theorem TK.trans {H H1 H2 : Hp} (a : TK H H1) (b : TK H1 H2) : TK H H2 := fun q ys h => b q ys (a q ys h)
theorem TK.same {H H1 : Hp} (s : Same H H1) : TK H H1 := fun q ys h => s _ _ h
theorem TK.lst {H : Hp} {a : Addr} {xs : List V} {o : HO} (e : H a = some (.lst xs)) : TK H (upd H a o) := fun q ys h => by
  rw [upd_ne (ne_of h e (by intro z; cases z))]
  exact h
theorem Kp.tk {h : Addr} {H H' : Hp} (b : Kp h H H') {g : Addr} (dk : DeckAt H h g) : TK H H' := fun q ys e => by
  obtain ⟨_, hh⟩ := dk.lst
  exact b _ _ (ne_of e hh (by intro z; cases z)) e
theorem But.kp {h : Addr} {H H' : Hp} (b : But h H H') : Kp h H H' := fun q o hq e => by rw [b q hq]; exact e
inductive Sh (B : Nat) : Td → Prop where
  | int (i : Int) : Sh B (.int i)
  | bl (b : Bool) : Sh B (.bl b)
  | non : Sh B .non
  | str (s : Str) : Sh B (.str s)
  | oth : Sh B .oth
  | tup {ds : List Td} : ds.length ≤ B → (∀ d ∈ ds, Sh B d) → Sh B (.tup ds)
theorem Sh.len {B : Nat} {ds : List Td} (s : Sh B (.tup ds)) : ds.length ≤ B := by
  cases s with
  | tup h _ => exact h
theorem Sh.item {B : Nat} {ds : List Td} {d : Td} (s : Sh B (.tup ds)) (h : d ∈ ds) : Sh B d := by
  cases s with
  | tup _ k => exact k d h
theorem Sh.mono {B C : Nat} {d : Td} (s : Sh B d) (h : B ≤ C) : Sh C d := by
  induction s with
  | int i => exact .int i
  | bl b => exact .bl b
  | non => exact .non
  | str s => exact .str s
  | oth => exact .oth
  | tup l _ ih => exact .tup (Nat.le_trans l h) ih
theorem sh_ints {B : Nat} {os : List Int} (h : os.length ≤ B) : Sh B (.tup (os.map Td.int)) := .tup (by rw [List.length_map]; exact h) fun d hd => by
  obtain ⟨i, _, rfl⟩ := List.mem_map.mp hd
  exact .int i
/-- an item drawn -/
def ItAt (H : Hp) (v : V) (d : Td) : Prop := (v = .non ∧ d = .non) ∨ ∃ (t q : Addr) (s k : Int) (os : List Int), v = .ref t ∧ H t = some (.tup [.int s, .int k, .ref q]) ∧ H q = some (.tup (os.map V.int)) ∧ os.length ≤ 12 ∧ d = .tup [.int s, .int k, .tup (os.map Td.int)]
theorem ItAt.tk {H H' : Hp} (t : TK H H') {v : V} {d : Td} (h : ItAt H v d) : ItAt H' v d := by
  rcases h with h | ⟨t1, q, s, k, os, h1, h2, h3, h4, h5⟩
  · exact .inl h
  · exact .inr ⟨t1, q, s, k, os, h1, t _ _ h2, t _ _ h3, h4, h5⟩
theorem ItAt.is {H : Hp} {v : V} {d : Td} (t : ItAt H v d) (h : Addr) : Is h H v d ∧ Sh 12 d := by
  rcases t with ⟨rfl, rfl⟩ | ⟨t1, q, s, k, os, rfl, h2, h3, h4, rfl⟩
  · exact ⟨.non, .non⟩
  · refine ⟨.tup h2 (.cons (.int _) (.cons (.int _) (.cons (.tup h3 IsL.ints) .nil))), .tup (by show 3 ≤ 12; decide) fun d hd => ?_⟩
    rcases List.mem_cons.mp hd with rfl | hd
    · exact .int _
    rcases List.mem_cons.mp hd with rfl | hd
    · exact .int _
    rw [List.mem_singleton] at hd
    subst hd
    exact sh_ints h4
theorem all2_is {H : Hp} {h : Addr} : ∀ {vs : List V} {ds : List Td}, All2 (ItAt H) vs ds → IsL h H vs ds ∧ ∀ d ∈ ds, Sh 12 d
  | _, _, .nil => ⟨.nil, fun d hd => absurd hd List.not_mem_nil⟩
  | _, _, .cons a t => ⟨.cons (a.is h).1 (all2_is t).1, fun d hd => by
      rcases List.mem_cons.mp hd with z | z
      · rw [z]; exact (a.is h).2
      · exact (all2_is (h := h) t).2 d z⟩
/-- a beat drawn -/
def RwAt (n : Nat) (H : Hp) (v : V) (d : Td) : Prop := ∃ t vs ds, v = .ref t ∧ H t = some (.tup vs) ∧ All2 (ItAt H) vs ds ∧ ds.length = n ∧ d = .tup ds
theorem RwAt.tk {n : Nat} {H H' : Hp} (t : TK H H') {v : V} {d : Td} (h : RwAt n H v d) : RwAt n H' v d :=
  let ⟨t1, vs, ds, h1, h2, h3, h4, h5⟩ := h; ⟨t1, vs, ds, h1, t _ _ h2, h3.imp fun _ _ r => r.tk t, h4, h5⟩
theorem all2_rw {n : Nat} {H : Hp} {h : Addr} (hn : n ≤ 12) : ∀ {vs : List V} {ds : List Td}, All2 (RwAt n H) vs ds → IsL h H vs ds ∧ (∀ d ∈ ds, Sh 12 d) ∧ ds.all isT = true
  | _, _, .nil => ⟨.nil, fun d hd => absurd hd List.not_mem_nil, rfl⟩
  | _, _, .cons a t => by
    obtain ⟨h1, h2, h3⟩ := all2_rw (h := h) hn t
    obtain ⟨t1, vs, ds, rfl, e, al, l, rfl⟩ := a
    refine ⟨.cons (.tup e (all2_is al).1) h1, fun d hd => ?_, ?_⟩
    · rcases List.mem_cons.mp hd with z | z
      · rw [z]
        exact .tup (by omega) (all2_is (h := h) al).2
      · exact h2 d z
    · rw [List.all_cons, h3]
      rfl
theorem pick_at {xs : List V} {n : Nat} {f : Int} (hn : xs.length = n) (f0 : 0 ≤ f) (f1 : f < (n : Int)) : ∃ v, v ∈ xs ∧ atI xs f = some v := by
  have hf : f.toNat < xs.length := by omega
  exact ⟨_, List.getElem_mem hf, at_of (by omega) (List.getElem?_eq_getElem hf)⟩
theorem ne_deck {H H' : Hp} {h g L : Addr} (dk : DeckAt H h g) (s : Same H H') (n : H' L = none) : L ≠ h := fun z => by
  obtain ⟨_, e⟩ := dk.lst
  have e := s _ _ e
  rw [← z, n] at e
  cases e
section
variable {P : Program} {w : World} {K : PySem.W.Frag} {mg : Str → Option Value} {base : Heap} {A : Adr}
def spItems : Sp := fun vs H Q _ => ∃ (h g : Addr) (n : Nat) (m de ht : Int), vs = [.ref h, .int (n : Int), .int m, .int de, .int ht] ∧ DeckAt H h g ∧ 1 ≤ n ∧ n ≤ 12 ∧ 1 ≤ m ∧ m ≤ 12 ∧ ∀ H' v d, Kp h H H' → DeckAt H' h g → RwAt n H' v d → Q v H'
theorem ok_law_items (T : Top K mg A) : FnOk P w K mg base CX0 4 A.a_law_items A.d_law_items P_law_items spItems := by
  refine T.F_law_items.ok sc_law_items (fun vs H Q E h => ?_) (fun cdv A' outer s H vs Q E hr h => ?_)
  · obtain ⟨h, g, n, m, de, ht, rfl, _⟩ := h
    rfl
  · obtain ⟨h, g, n, m, de, ht, rfl, a0, n1, n12, m1, m12, k⟩ := h
    refine ⟨_, (pss_cons (ps_set (i := 5) sc_law_items.nd rfl (.inl rfl) (pe_lst pa_nil))
    (pss_cons (ps_for PassesOwn.never rfl (pi_range1 rfl T.z_range (pa_cons (pv 1) pa_nil)) (pg_name (i := 6) sc_law_items.nd rfl (.inl rfl)) (pss_one (ps_if (pt_cmpR op_gt (pe_call (ok_law_draw T) (hr.mono (by decide)) (by rfl) T.g_law_draw T.F_law_draw.kp T.b_law_draw .nil pass0 (pa_cons (pv 0) (pa_cons pe_int pa_nil))) (pv 3) (nomark _)) (pss_one (ps_expr (pe_bm PySem.F.plainAttrs_list PySem.F.slot_list_append PySem.F.type_list_append mt_append (pv 5) (pa_cons pe_non pa_nil)))) (pss_cons (ps_set (i := 7) sc_law_items.nd rfl (.inl rfl) (pe_ix ix_list (pe_lst (pa_cons pe_int (pa_cons pe_int (pa_cons (pe_call (ok_law_draw T) (hr.mono (by decide)) (by rfl) T.g_law_draw T.F_law_draw.kp T.b_law_draw .nil pass0 (pa_cons (pv 0) (pa_cons pe_int pa_nil))) pa_nil)))) (pe_call (ok_law_draw T) (hr.mono (by decide)) (by rfl) T.g_law_draw T.F_law_draw.kp T.b_law_draw .nil pass0 (pa_cons (pv 0) (pa_cons pe_int pa_nil))) (fun _ _ => rfl)))
    (pss_one (ps_expr (pe_bm PySem.F.plainAttrs_list PySem.F.slot_list_append PySem.F.type_list_append mt_append (pv 5) (pa_cons (pe_tup (pa_cons (pv 7) (pa_cons (pe_call (ok_law_draw T) (hr.mono (by decide)) (by rfl) T.g_law_draw T.F_law_draw.kp T.b_law_draw .nil pass0 (pa_cons (pv 0) (pa_cons pe_int pa_nil))) (pa_cons (pe_call (ok_law_outs T) (hr.mono (by decide)) (by rfl) T.g_law_outs T.F_law_outs.kp T.b_law_outs .nil pass0 (pa_cons (pv 0) (pa_cons (pv 1) (pa_cons (pv 2) (pa_cons (pv 4) pa_nil))))) pa_nil)))) pa_nil))))))))
    (pss_one (ps_ret (pe_callTy call_tuple_of (by rfl) T.z_tuple (by decide +kernel) (pa_cons (pv 5) pa_nil)))))), ?_⟩
    refine ⟨by show 0 ≤ sizeLine; decide, fun F nF => ?_⟩
    have s0 := same_upd nF (o := .lst [])
    have a1 := a0.same s0
    have Fh := ne_deck a0 (fun _ _ e => e) nF
    have Fg : F ≠ g := fun z => by
      obtain ⟨_, e⟩ := a0.cells
      rw [← z, nF] at e
      cases e
    have eF0 : (upd H F (.lst [])) F = some (.lst []) := upd_same
    have k01 : Kp h H (upd H F (.lst [])) := fun q o _ e => s0 _ _ e
    generalize upd H F (.lst []) = H1 at s0 a1 eF0 k01 ⊢
    refine ⟨_, rfl, (n : Int), rfl, by omega, by omega, ?_⟩
    refine for_range (lo := 0) (n := (n : Int).toNat) (fun i σ H' => ∃ (y6 y7 : Option V) (vs : List V) (ds : List Td), σ = [some (.ref h), some (.int (n : Int)), some (.int m), some (.int de), some (.int ht), some (.ref F), y6, y7] ∧ (∀ q o, q ≠ h → q ≠ F → H1 q = some o → H' q = some o) ∧ DeckAt H' h g ∧ H' F = some (.lst vs) ∧ All2 (ItAt H') vs ds ∧ ds.length = i)
      ⟨_, _, [], [], rfl, fun _ _ _ _ e => e, a1, eF0, .nil, rfl⟩ ?_ ?_
    · rintro i σ H2 hi ⟨y6, y7, vs, ds, rfl, o2, a2, eF, al, ld⟩
      rw [Int.toNat_natCast] at hi
      refine ⟨_, rfl, h, g, 6, rfl, a2, by decide, by decide, fun H3 d3 b3 a3 d30 d31 => ?_⟩
      have eF3 : H3 F = some (.lst vs) := by rw [b3 F Fh]; exact eF
      have al3 := al.imp fun _ _ r => r.tk (b3.kp.tk a2)
      have o3 : ∀ q o, q ≠ h → q ≠ F → H1 q = some o → H3 q = some o := fun q o h1 h2 e => by rw [b3 q h1]; exact o2 q o h1 h2 e
      have lv := al.len
      refine ⟨_, rfl, _, _, rfl, rfl, _, rfl, ite2 (fun _ => ?_) (fun _ => ?_)⟩
      · refine ⟨_, rfl, .inl ⟨rfl, _, SqL.of eF3⟩, F, _, _, rfl, rfl, eF3, small1000 (by omega), ?_⟩
        have tk : TK H3 (upd H3 F (.lst (vs ++ [.non]))) := TK.lst eF3
        exact ⟨_, _, _, ds ++ [.non], rfl, fun q o h1 h2 e => by rw [upd_ne h2]; exact o3 q o h1 h2 e, a3.but (fun q hq => upd_ne hq) Fh Fg, upd_same, (al3.imp fun _ _ r => r.tk tk).snoc (Or.inl ⟨rfl, rfl⟩), by rw [List.length_append, ld]; rfl⟩
      · refine ⟨_, rfl, h, g, 100, rfl, a3, by decide, by decide, fun H4 d4 b4 a4 d40 d41 => ⟨by show 3 ≤ sizeLine; decide, fun l0 nl0 => ?_⟩⟩
        have l0h := ne_deck a4 (fun _ _ e => e) nl0
        have s5 := same_upd nl0 (o := .lst [.int 0, .int 1, .int d4])
        have e5 : (upd H4 l0 (.lst [.int 0, .int 1, .int d4])) l0 = some (.lst [.int 0, .int 1, .int d4]) := upd_same
        have a5 := a4.same s5
        generalize upd H4 l0 (.lst [.int 0, .int 1, .int d4]) = H5 at s5 e5 a5 ⊢
        refine ⟨_, rfl, h, g, 3, rfl, a5, by decide, by decide, fun H6 d6 b6 a6 d60 d61 => ?_⟩
        have e6 : H6 l0 = some (.lst [.int 0, .int 1, .int d4]) := by rw [b6 l0 l0h]; exact e5
        obtain ⟨v, hv, hat⟩ := pick_at (n := 3) (xs := [V.int 0, V.int 1, V.int d4]) rfl d60 d61
        obtain ⟨sk, rfl⟩ : ∃ z, v = .int z := by
          rcases List.mem_cons.mp hv with z | hv
          · exact ⟨_, z⟩
          rcases List.mem_cons.mp hv with z | hv
          · exact ⟨_, z⟩
          rw [List.mem_singleton] at hv
          exact ⟨_, hv⟩
        refine ⟨l0, _, d6, _, rfl, rfl, SqL.of e6, hat, ?_⟩
        have k36 : Kp h H3 H6 := fun q o hq e => by rw [b6 q hq]; exact s5 _ _ (by rw [b4 q hq]; exact e)
        have eF6 := k36 _ _ Fh eF3
        refine ⟨_, rfl, .inl ⟨rfl, _, SqL.of eF6⟩, _, rfl, _, rfl, h, g, 8, rfl, a6, by decide, by decide, fun H7 d7 b7 a7 d70 d71 => ⟨_, rfl, _, rfl, _, rfl, _, rfl, h, g, (n : Int), m, ht, rfl, a7, by omega, by omega, m1, m12, fun H8 q os k8 a8 eq oo => ⟨by show 3 ≤ sizeLine; decide, fun t nt => ?_⟩⟩⟩
        have k38 : Kp h H3 H8 := fun q o hq e => k8 q o hq (by rw [b7 q hq]; exact k36 q o hq e)
        have s9 := same_upd nt (o := .tup [.int sk, .int d7, .ref q])
        have e9 : (upd H8 t (.tup [.int sk, .int d7, .ref q])) t = some (.tup [.int sk, .int d7, .ref q]) := upd_same
        have a9 := a8.same s9
        have k39 := k38.same s9
        have eq9 := s9 _ _ eq
        generalize upd H8 t (.tup [.int sk, .int d7, .ref q]) = H9 at e9 a9 k39 eq9 ⊢
        have eF9 := k39 _ _ Fh eF3
        have tk : TK H9 (upd H9 F (.lst (vs ++ [.ref t]))) := TK.lst eF9
        refine ⟨F, _, _, rfl, rfl, eF9, small1000 (by omega), ?_⟩
        exact ⟨_, _, _, ds ++ [.tup [.int sk, .int d7, .tup (os.map Td.int)]], rfl, fun q' o h1 h2 e => by rw [upd_ne h2]; exact k39 q' o h1 (o3 q' o h1 h2 e), a9.but (fun q hq => upd_ne hq) Fh Fg, upd_same, (al3.imp fun _ _ r => (r.tk (k39.tk a3)).tk tk).snoc (ItAt.tk tk (Or.inr ⟨t, q, sk, d7, os, rfl, e9, eq9, oo.few, rfl⟩)), by rw [List.length_append, ld]; rfl⟩
    · rintro σ H2 ⟨y6, y7, vs, ds, rfl, o2, a2, eF, al, ld⟩
      rw [Int.toNat_natCast] at ld
      refine ⟨_, rfl, F, _, rfl, .inl ⟨SqL.of eF, fun q nq => ?_⟩⟩
      have s3 := same_upd nq (o := .tup vs)
      refine k _ _ _ (fun q' o hq e => ?_) (a2.same s3) ⟨q, vs, ds, rfl, upd_same, al.imp fun _ _ r => r.tk (TK.same s3), ld, rfl⟩
      have qF : q' ≠ F := fun z => by rw [z, nF] at e; cases e
      exact s3 _ _ (o2 q' o hq qF (s0 _ _ e))
def spArrivals : Sp := fun vs H Q _ => ∃ (h g : Addr) (n b : Nat), vs = [.ref h, .int (n : Int), .int 3, .int (b : Int)] ∧ DeckAt H h g ∧ 1 ≤ n ∧ n ≤ 12 ∧ b ≤ 100 ∧ ∀ H' v ds, Kp h H H' → DeckAt H' h g → Is h H' v (.tup ds) → ds.length = b → Sh 100 (.tup ds) → ds.all isT = true → (∀ d ∈ ds, Sh 12 d) → Q v H'
theorem ok_law_arrivals (T : Top K mg A) : FnOk P w K mg base CX0 5 A.a_law_arrivals A.d_law_arrivals P_law_arrivals spArrivals := by
  refine T.F_law_arrivals.ok sc_law_arrivals (fun vs H Q E h => ?_) (fun cdv A' outer s H vs Q E hr h => ?_)
  · obtain ⟨h, g, n, b, rfl, _⟩ := h
    rfl
  · obtain ⟨h, g, n, b, rfl, a0, n1, n12, b100, k⟩ := h
    refine ⟨_, (pss_cons (ps_set (i := 4) sc_law_arrivals.nd rfl (.inr rfl) (pe_call (ok_law_draw T) (hr.mono (by decide)) (by rfl) T.g_law_draw T.F_law_draw.kp T.b_law_draw .nil pass0 (pa_cons (pv 0) (pa_cons pe_int pa_nil))))
    (pss_cons (ps_set (i := 5) sc_law_arrivals.nd rfl (.inr rfl) (pe_call (ok_law_draw T) (hr.mono (by decide)) (by rfl) T.g_law_draw T.F_law_draw.kp T.b_law_draw .nil pass0 (pa_cons (pv 0) (pa_cons (pv 1) pa_nil))))
    (pss_one (ps_ret (pe_callTy call_tuple_of (by rfl) T.z_tuple (by decide +kernel) (pa_cons (pe_lc (own := [("_law_beat", 6)]) (by rfl) sc_law_arrivals.nd (pi_range1 rfl T.z_range (pa_cons (pv 3) pa_nil)) (blkOk_by (own := [("_law_beat", 6)]) (N := N_law_arrivals) (sc := defScope s_law_arrivals) (by decide +kernel)) (fun _ _ _ _ _ => (pg_name (i := 6) sc_law_arrivals.nd rfl (.inl rfl))) (fun _ _ _ _ _ => pts_nil) (fun _ _ _ _ _ => (pe_call (ok_law_items (P := P) (w := w) T) (hr.mono (by decide)) (by rfl) T.g_law_items T.F_law_items.kp T.b_law_items .nil pass0 (pa_cons (pv 0) (pa_cons (pv 1) (pa_cons (pv 2) (pa_cons (pv 4) (pa_cons (pv 5) pa_nil)))))))) pa_nil)))))), ?_⟩
    refine ⟨_, rfl, h, g, 6, rfl, a0, by decide, by decide, fun H1 de b1 a1 _ _ => ⟨_, rfl, _, rfl, h, g, (n : Int), rfl, a1, by omega, by omega, fun H2 ht b2 a2 _ _ => ?_⟩⟩
    have k02 : Kp h H H2 := fun q o hq e => by rw [b2 q hq, b1 q hq]; exact e
    refine ⟨_, rfl, (b : Int), rfl, by omega, by omega, fun W nW => ?_⟩
    have Wh := ne_deck a2 (fun _ _ e => e) nW
    have Wg : W ≠ g := fun z => by
      obtain ⟨_, e⟩ := a2.cells
      rw [← z, nW] at e
      cases e
    refine lc_range (lo := 0) (n := (b : Int).toNat) (fun i H' => ∃ (vs : List V) (ds : List Td), Kp h H2 H' ∧ DeckAt H' h g ∧ H' W = some (.lst vs) ∧ All2 (RwAt n H') vs ds ∧ ds.length = i) ⟨[], [], fun q o _ e => same_upd nW _ _ e, a2.same (same_upd nW), upd_same, .nil, rfl⟩ ?_ ?_
    · rintro i H3 hi ⟨vs, ds, k3, a3, eW, al, ld⟩
      rw [Int.toNat_natCast] at hi
      refine ⟨by kernel_rfl, ?_⟩
      refine ⟨_, rfl, _, rfl, _, rfl, _, rfl, _, rfl, h, g, n, 3, de, ht, rfl, a3, n1, n12, by decide, by decide, fun H4 v d k4 a4 rw_ => ?_⟩
      have eW4 := k4 _ _ Wh eW
      have lv := al.len
      have tk : TK H4 (upd H4 W (.lst (vs ++ [v]))) := TK.lst eW4
      refine ⟨_, eW4, small1000 (by omega), vs ++ [v], ds ++ [d], fun q o hq e => ?_, a4.but (fun q hq => upd_ne hq) Wh Wg, upd_same, (al.imp fun _ _ r => (r.tk (k4.tk a3)).tk tk).snoc (rw_.tk tk), by rw [List.length_append, ld]; rfl⟩
      rw [upd_ne (fun z => by rw [z, nW] at e; cases e)]
      exact k4 q o hq (k3 q o hq e)
    · rintro H3 ⟨vs, ds, k3, a3, eW, al, ld⟩
      rw [Int.toNat_natCast] at ld
      refine ⟨W, _, rfl, .inl ⟨SqL.of eW, fun q nq => ?_⟩⟩
      have s4 := same_upd nq (o := .tup vs)
      obtain ⟨h1, h2, h3⟩ := all2_rw (h := h) n12 (al.imp fun _ _ r => r.tk (TK.same s4))
      exact k _ _ ds ((k02.trans k3).same s4) (a3.same s4) (.tup upd_same h1) ld (.tup (by omega) fun d hd => (h2 d hd).mono (by decide)) h3 h2
end

/-! ### odd things, told as data -/
def Gd (B : Nat) (h : Addr) (H : Hp) (v : V) : Prop := ∃ d, Is h H v d ∧ Sh B d
theorem Gd.same {B : Nat} {h : Addr} {H H' : Hp} (s : Same H H') {v : V} (g : Gd B h H v) : Gd B h H' v := let ⟨d, i, e⟩ := g; ⟨d, i.same s, e⟩
theorem Gd.mono {B C : Nat} {h : Addr} {H : Hp} {v : V} (g : Gd B h H v) (l : B ≤ C) : Gd C h H v := let ⟨d, i, e⟩ := g; ⟨d, i, e.mono l⟩
theorem Gd.but {B : Nat} {h : Addr} {H H' : Hp} {v : V} (g : Gd B h H v) (b : Kp h H H') {dg : Addr} (dk : DeckAt H h dg) : Gd B h H' v := let ⟨d, i, e⟩ := g; ⟨d, i.mv (Mv.of b) dk.lst, e⟩
theorem gd_list {B : Nat} {h : Addr} {H : Hp} : ∀ {xs : List V}, (∀ x ∈ xs, Gd B h H x) → ∃ ds, IsL h H xs ds ∧ ∀ d ∈ ds, Sh B d
  | [], _ => ⟨[], .nil, fun d hd => absurd hd List.not_mem_nil⟩
  | x :: xs, g => by
    obtain ⟨d, i, s⟩ := g x List.mem_cons_self
    obtain ⟨ds, is, ss⟩ := gd_list (xs := xs) fun y hy => g y (List.mem_cons_of_mem _ hy)
    exact ⟨d :: ds, .cons i is, fun e he => by
      rcases List.mem_cons.mp he with z | z
      · rw [z]; exact s
      · exact ss e z⟩
theorem gd_tup {B : Nat} {h : Addr} {H : Hp} {a : Addr} {xs : List V} (e : H a = some (.tup xs)) (l : xs.length ≤ B) (g : ∀ x ∈ xs, Gd B h H x) : Gd B h H (.ref a) := by
  obtain ⟨ds, is, ss⟩ := gd_list g
  exact ⟨.tup ds, .tup e is, .tup (by rw [← is.len]; exact l) ss⟩
theorem Gd.int {B : Nat} {h : Addr} {H : Hp} (i : Int) : Gd B h H (.int i) := ⟨_, .int i, .int i⟩
theorem Gd.bl {B : Nat} {h : Addr} {H : Hp} (i : Bool) : Gd B h H (.bl i) := ⟨_, .bl i, .bl i⟩
theorem Gd.non {B : Nat} {h : Addr} {H : Hp} : Gd B h H .non := ⟨_, .non, .non⟩
theorem Gd.str {B : Nat} {h : Addr} {H : Hp} (i : Str) : Gd B h H (.str i) := ⟨_, .str i, .str i⟩
theorem Gd.lst {B : Nat} {h : Addr} {H : Hp} {a : Addr} {xs : List V} (e : H a = some (.lst xs)) (n : a ≠ h) : Gd B h H (.ref a) := ⟨_, .lst e n, .oth⟩
theorem Gd.dk {B : Nat} {h : Addr} {H : Hp} {a : Addr} (e : H a = some (.dK [])) : Gd B h H (.ref a) := ⟨_, .dK e, .oth⟩
theorem l_cons {P : V → Prop} {a : V} {xs : List V} (h : P a) (t : ∀ v ∈ xs, P v) : ∀ v ∈ a :: xs, P v := fun v hv => by
  rcases List.mem_cons.mp hv with z | z
  · rw [z]; exact h
  · exact t v z
theorem l_nil {P : V → Prop} : ∀ v ∈ ([] : List V), P v := fun v hv => absurd hv List.not_mem_nil
theorem no_part {σ : L2.St} {H : Hp} {Q : Option Int → Hp → Prop} (h : Q none H) : tNoPart σ H Q := h
theorem rep_at {K : PySem.W.Frag} {H : Hp} {b : Addr} {us : List V} {k : Int} {Q : VK} (e : H b = some (.tup us)) (l : us.length ≤ 1000) (k2 : 2 ≤ k) (k1 : k ≤ 1000)
    (q : ∀ H' p, Same H H' → H' p = some (.tup (List.replicate k.toNat us).flatten) → Q (.ref p) H') : rRepT K (.ref b) (.int k) H Q ∨ GRe.rRep0 K (.ref b) (.int k) H Q := by
  cases us with
  | nil =>
    right
    refine ⟨b, k, rfl, rfl, SqT.of e, by omega, k1, q H b (fun _ _ z => z) ?_⟩
    rw [e]
    congr 2
    generalize k.toNat = n
    induction n with
    | zero => rfl
    | succ n ih => rw [List.replicate_succ, List.flatten_cons, ← ih]; rfl
  | cons u us =>
    left
    exact ⟨b, k, _, rfl, rfl, SqT.of e, (by intro z; cases z), k2, k1, l, fun p np => q _ p (same_upd np) upd_same⟩
theorem rep_mem {us : List V} {n : Nat} {x : V} (h : x ∈ (List.replicate n us).flatten) : x ∈ us := by
  obtain ⟨l, hl, hx⟩ := List.mem_flatten.mp h
  rw [(List.mem_replicate.mp hl).2] at hx
  exact hx
theorem rep_len {us : List V} : ∀ n : Nat, ((List.replicate n us).flatten).length = n * us.length
  | 0 => by simp
  | n + 1 => by
    rw [List.replicate_succ, List.flatten_cons, List.length_append, rep_len n, Nat.add_mul, Nat.one_mul]
    omega
section
variable {P : Program} {w : World} {K : PySem.W.Frag} {mg : Str → Option Value} {base : Heap} {A : Adr}
def spOddItem : Sp := fun vs H Q _ => ∃ (h g : Addr) (n : Int), vs = [.ref h, .int n] ∧ DeckAt H h g ∧ ∀ H' v, Kp h H H' → DeckAt H' h g → Gd 12 h H' v → Q v H'
theorem ok_law_odd_item (T : Top K mg A) : FnOk P w K mg base CX0 3 A.a_law_odd_item A.d_law_odd_item P_law_odd_item spOddItem := by
  refine T.F_law_odd_item.ok sc_law_odd_item (fun vs H Q E h => ?_) (fun cdv A' outer s H0 vs Q E hr h => ?_)
  · obtain ⟨h, g, n, rfl, _⟩ := h
    rfl
  · obtain ⟨h, g, n, rfl, dk, k⟩ := h
    refine ⟨_, (pss_cons (ps_set (i := 2) sc_law_odd_item.nd rfl (.inl rfl) (pe_lst (pa_cons (pe_tup pa_nil) (pa_cons (pe_tup (pa_cons (pv 1) pa_nil)) (pa_cons (pe_tup (pa_cons (pe_op op_sub (pv 1) pe_int) pa_nil)) (pa_cons (pe_tup (pa_cons pe_int (pa_cons pe_int pa_nil))) (pa_cons (pe_tup (pa_cons pe_int (pa_cons pe_int pa_nil))) (pa_cons (pe_tup (pa_cons pe_int (pa_cons pe_int (pa_cons pe_int (pa_cons pe_int pa_nil))))) (pa_cons (pe_tup (pa_cons pe_int (pa_cons pe_int (pa_cons pe_int pa_nil)))) (pa_cons (pe_lst (pa_cons pe_int pa_nil)) (pa_cons (pe_tup (pa_cons pe_bl pa_nil)) (pa_cons (pe_tup (pa_cons (pe_un un_neg pe_int) pa_nil)) pa_nil))))))))))))
    (pss_cons (ps_set (i := 2) sc_law_odd_item.nd rfl (.inl rfl) (pe_ix ix_list (pv 2) (pe_call (ok_law_draw T) (hr.mono (by decide)) (by rfl) T.g_law_draw T.F_law_draw.kp T.b_law_draw .nil pass0 (pa_cons (pv 0) (pa_cons pe_int pa_nil))) (fun _ _ => rfl)))
    (pss_cons (ps_set (i := 3) sc_law_odd_item.nd rfl (.inl rfl) (pe_lst (pa_cons (pe_tup (pa_cons pe_int (pa_cons pe_int (pa_cons (pv 2) pa_nil)))) (pa_cons (pe_tup (pa_cons pe_int (pa_cons pe_int (pa_cons (pv 2) pa_nil)))) (pa_cons (pe_tup (pa_cons pe_int (pa_cons pe_int (pa_cons (pe_tup (pa_cons pe_int pa_nil)) pa_nil)))) (pa_cons (pe_tup (pa_cons pe_int (pa_cons pe_int (pa_cons (pe_tup (pa_cons pe_int pa_nil)) pa_nil)))) (pa_cons (pe_tup (pa_cons pe_bl (pa_cons pe_int (pa_cons (pe_tup (pa_cons pe_int pa_nil)) pa_nil)))) (pa_cons (pe_tup (pa_cons pe_int (pa_cons pe_non (pa_cons (pe_tup (pa_cons pe_int pa_nil)) pa_nil)))) (pa_cons (pe_tup (pa_cons pe_int (pa_cons pe_int pa_nil))) (pa_cons pe_int (pa_cons pe_str pa_nil)))))))))))
    (pss_one (ps_ret (pe_ix ix_list (pv 3) (pe_ix ix_list (pe_lst (pa_cons pe_int (pa_cons pe_int (pa_cons pe_int (pa_cons pe_int (pa_cons pe_int (pa_cons pe_int (pa_cons pe_int (pa_cons pe_int (pa_cons pe_int (pa_cons pe_int (pa_cons pe_int pa_nil)))))))))))) (pe_call (ok_law_draw T) (hr.mono (by decide)) (by rfl) T.g_law_draw T.F_law_draw.kp T.b_law_draw .nil pass0 (pa_cons (pv 0) (pa_cons pe_int pa_nil))) (fun _ _ => rfl)) (fun _ _ => rfl))))))), ?_⟩
    refine ⟨by show 0 ≤ sizeLine; decide, fun p1 np1 => ?_⟩
    obtain ⟨H1, eq1, s1, e1⟩ := newH np1 (o := .tup [])
    rw [eq1]
    clear eq1
    refine ⟨_, rfl, by show 1 ≤ sizeLine; decide, fun p2 np2 => ?_⟩
    obtain ⟨H2, eq2, s2, e2⟩ := newH np2 (o := .tup [.int n])
    rw [eq2]
    clear eq2
    refine ⟨_, rfl, _, _, rfl, rfl, by show 1 ≤ sizeLine; decide, fun p3 np3 => ?_⟩
    obtain ⟨H3, eq3, s3, e3⟩ := newH np3 (o := .tup [.int (n - 1)])
    rw [eq3]
    clear eq3
    refine ⟨by show 2 ≤ sizeLine; decide, fun p4 np4 => ?_⟩
    obtain ⟨H4, eq4, s4, e4⟩ := newH np4 (o := .tup [.int 0, .int 0])
    rw [eq4]
    clear eq4
    refine ⟨by show 2 ≤ sizeLine; decide, fun p5 np5 => ?_⟩
    obtain ⟨H5, eq5, s5, e5⟩ := newH np5 (o := .tup [.int 1, .int 0])
    rw [eq5]
    clear eq5
    refine ⟨by show 4 ≤ sizeLine; decide, fun p6 np6 => ?_⟩
    obtain ⟨H6, eq6, s6, e6⟩ := newH np6 (o := .tup [.int 0, .int 1, .int 2, .int 3])
    rw [eq6]
    clear eq6
    refine ⟨by show 3 ≤ sizeLine; decide, fun p7 np7 => ?_⟩
    obtain ⟨H7, eq7, s7, e7⟩ := newH np7 (o := .tup [.int 0, .int 1, .int 2])
    rw [eq7]
    clear eq7
    refine ⟨by show 1 ≤ sizeLine; decide, fun p8 np8 => ?_⟩
    obtain ⟨H8, eq8, s8, e8⟩ := newH np8 (o := .lst [.int 0])
    rw [eq8]
    clear eq8
    refine ⟨by show 1 ≤ sizeLine; decide, fun p9 np9 => ?_⟩
    obtain ⟨H9, eq9, s9, e9⟩ := newH np9 (o := .tup [.bl true])
    rw [eq9]
    clear eq9
    refine ⟨_, rfl, by show 1 ≤ sizeLine; decide, fun p10 np10 => ?_⟩
    obtain ⟨H10, eq10, s10, e10⟩ := newH np10 (o := .tup [.int (-1)])
    rw [eq10]
    clear eq10
    refine ⟨by show 10 ≤ sizeLine; decide, fun p11 np11 => ?_⟩
    obtain ⟨H11, eq11, s11, e11⟩ := newH np11 (o := .lst [.ref p1, .ref p2, .ref p3, .ref p4, .ref p5, .ref p6, .ref p7, .ref p8, .ref p9, .ref p10])
    rw [eq11]
    clear eq11
    have u11 : Same H11 H11 := fun _ _ z => z
    have u10 : Same H10 H11 := s11.trans u11
    have u9 : Same H9 H11 := s10.trans u10
    have u8 : Same H8 H11 := s9.trans u9
    have u7 : Same H7 H11 := s8.trans u8
    have u6 : Same H6 H11 := s7.trans u7
    have u5 : Same H5 H11 := s6.trans u6
    have u4 : Same H4 H11 := s5.trans u5
    have u3 : Same H3 H11 := s4.trans u4
    have u2 : Same H2 H11 := s3.trans u3
    have u1 : Same H1 H11 := s2.trans u2
    have u0 : Same H0 H11 := s1.trans u1
    have w8 : Same H0 H7 := s1.trans (s2.trans (s3.trans (s4.trans (s5.trans (s6.trans s7)))))
    have all : ∀ v ∈ ([.ref p1, .ref p2, .ref p3, .ref p4, .ref p5, .ref p6, .ref p7, .ref p8, .ref p9, .ref p10] : List V), Gd 12 h H11 v := (l_cons (gd_tup (u1 _ _ e1) (Nat.le_of_ble_eq_true rfl) l_nil) (l_cons (gd_tup (u2 _ _ e2) (Nat.le_of_ble_eq_true rfl) (l_cons (Gd.int _) l_nil)) (l_cons (gd_tup (u3 _ _ e3) (Nat.le_of_ble_eq_true rfl) (l_cons (Gd.int _) l_nil)) (l_cons (gd_tup (u4 _ _ e4) (Nat.le_of_ble_eq_true rfl) (l_cons (Gd.int _) (l_cons (Gd.int _) l_nil))) (l_cons (gd_tup (u5 _ _ e5) (Nat.le_of_ble_eq_true rfl) (l_cons (Gd.int _) (l_cons (Gd.int _) l_nil))) (l_cons (gd_tup (u6 _ _ e6) (Nat.le_of_ble_eq_true rfl) (l_cons (Gd.int _) (l_cons (Gd.int _) (l_cons (Gd.int _) (l_cons (Gd.int _) l_nil))))) (l_cons (gd_tup (u7 _ _ e7) (Nat.le_of_ble_eq_true rfl) (l_cons (Gd.int _) (l_cons (Gd.int _) (l_cons (Gd.int _) l_nil)))) (l_cons (Gd.lst (u8 _ _ e8) (ne_deck dk w8 np8)) (l_cons (gd_tup (u9 _ _ e9) (Nat.le_of_ble_eq_true rfl) (l_cons (Gd.bl _) l_nil)) (l_cons (gd_tup (u10 _ _ e10) (Nat.le_of_ble_eq_true rfl) (l_cons (Gd.int _) l_nil)) l_nil))))))))))
    have Lh : p11 ≠ h := ne_deck dk (s1.trans (s2.trans (s3.trans (s4.trans (s5.trans (s6.trans (s7.trans (s8.trans (s9.trans s10))))))))) np11
    have dk1 := dk.same u0
    refine ⟨_, rfl, _, rfl, h, g, 10, rfl, dk1, by decide, by decide, fun HA d bA dkA d0 d1 => ?_⟩
    have eA : HA p11 = some (.lst [.ref p1, .ref p2, .ref p3, .ref p4, .ref p5, .ref p6, .ref p7, .ref p8, .ref p9, .ref p10]) := by rw [bA _ Lh]; exact e11
    obtain ⟨v, hv, hat⟩ := pick_at (n := 10) (xs := [V.ref p1, V.ref p2, V.ref p3, V.ref p4, V.ref p5, V.ref p6, V.ref p7, V.ref p8, V.ref p9, V.ref p10]) rfl d0 d1
    have gv := (all v hv).but bA.kp dk1
    refine ⟨p11, _, d, _, rfl, rfl, SqL.of eA, hat, ?_⟩
    have kA : Kp h H0 HA := fun q o hq e => by rw [bA q hq]; exact u0 _ _ e
    clear all hv hat eA Lh u0 u1 u2 u3 u4 u5 u6 u7 u8 u9 u10 u11 w8 e1 s1 np1 e2 s2 np2 e3 s3 np3 e4 s4 np4 e5 s5 np5 e6 s6 np6 e7 s7 np7 e8 s8 np8 e9 s9 np9 e10 s10 np10 e11 s11 np11 dk1 bA d0 d1
    have s100 : True := trivial
    clear s100
    generalize HA = H100 at gv kA dkA ⊢
    refine ⟨_, rfl, by show 3 ≤ sizeLine; decide, fun p101 np101 => ?_⟩
    obtain ⟨H101, eq101, s101, e101⟩ := newH np101 (o := .tup [.int 0, .int 0, v])
    rw [eq101]
    clear eq101
    refine ⟨_, rfl, by show 3 ≤ sizeLine; decide, fun p102 np102 => ?_⟩
    obtain ⟨H102, eq102, s102, e102⟩ := newH np102 (o := .tup [.int 99, .int 7, v])
    rw [eq102]
    clear eq102
    refine ⟨by show 1 ≤ sizeLine; decide, fun p103 np103 => ?_⟩
    obtain ⟨H103, eq103, s103, e103⟩ := newH np103 (o := .tup [.int 0])
    rw [eq103]
    clear eq103
    refine ⟨by show 3 ≤ sizeLine; decide, fun p104 np104 => ?_⟩
    obtain ⟨H104, eq104, s104, e104⟩ := newH np104 (o := .tup [.int 100, .int 0, .ref p103])
    rw [eq104]
    clear eq104
    refine ⟨by show 1 ≤ sizeLine; decide, fun p105 np105 => ?_⟩
    obtain ⟨H105, eq105, s105, e105⟩ := newH np105 (o := .tup [.int 0])
    rw [eq105]
    clear eq105
    refine ⟨by show 3 ≤ sizeLine; decide, fun p106 np106 => ?_⟩
    obtain ⟨H106, eq106, s106, e106⟩ := newH np106 (o := .tup [.int 0, .int 8, .ref p105])
    rw [eq106]
    clear eq106
    refine ⟨by show 1 ≤ sizeLine; decide, fun p107 np107 => ?_⟩
    obtain ⟨H107, eq107, s107, e107⟩ := newH np107 (o := .tup [.int 0])
    rw [eq107]
    clear eq107
    refine ⟨by show 3 ≤ sizeLine; decide, fun p108 np108 => ?_⟩
    obtain ⟨H108, eq108, s108, e108⟩ := newH np108 (o := .tup [.bl true, .int 0, .ref p107])
    rw [eq108]
    clear eq108
    refine ⟨by show 1 ≤ sizeLine; decide, fun p109 np109 => ?_⟩
    obtain ⟨H109, eq109, s109, e109⟩ := newH np109 (o := .tup [.int 0])
    rw [eq109]
    clear eq109
    refine ⟨by show 3 ≤ sizeLine; decide, fun p110 np110 => ?_⟩
    obtain ⟨H110, eq110, s110, e110⟩ := newH np110 (o := .tup [.int 0, .non, .ref p109])
    rw [eq110]
    clear eq110
    refine ⟨by show 2 ≤ sizeLine; decide, fun p111 np111 => ?_⟩
    obtain ⟨H111, eq111, s111, e111⟩ := newH np111 (o := .tup [.int 0, .int 0])
    rw [eq111]
    clear eq111
    refine ⟨by show 9 ≤ sizeLine; decide, fun p112 np112 => ?_⟩
    obtain ⟨H112, eq112, s112, e112⟩ := newH np112 (o := .lst [.ref p101, .ref p102, .ref p104, .ref p106, .ref p108, .ref p110, .ref p111, .int 0, .str "-"])
    rw [eq112]
    clear eq112
    have u112 : Same H112 H112 := fun _ _ z => z
    have u111 : Same H111 H112 := s112.trans u112
    have u110 : Same H110 H112 := s111.trans u111
    have u109 : Same H109 H112 := s110.trans u110
    have u108 : Same H108 H112 := s109.trans u109
    have u107 : Same H107 H112 := s108.trans u108
    have u106 : Same H106 H112 := s107.trans u107
    have u105 : Same H105 H112 := s106.trans u106
    have u104 : Same H104 H112 := s105.trans u105
    have u103 : Same H103 H112 := s104.trans u104
    have u102 : Same H102 H112 := s103.trans u103
    have u101 : Same H101 H112 := s102.trans u102
    have u100 : Same H100 H112 := s101.trans u101
    have all : ∀ v ∈ ([.ref p101, .ref p102, .ref p104, .ref p106, .ref p108, .ref p110, .ref p111, .int 0, .str "-"] : List V), Gd 12 h H112 v := (l_cons (gd_tup (u101 _ _ e101) (Nat.le_of_ble_eq_true rfl) (l_cons (Gd.int _) (l_cons (Gd.int _) (l_cons (gv.same u100) l_nil)))) (l_cons (gd_tup (u102 _ _ e102) (Nat.le_of_ble_eq_true rfl) (l_cons (Gd.int _) (l_cons (Gd.int _) (l_cons (gv.same u100) l_nil)))) (l_cons (gd_tup (u104 _ _ e104) (Nat.le_of_ble_eq_true rfl) (l_cons (Gd.int _) (l_cons (Gd.int _) (l_cons (gd_tup (u103 _ _ e103) (Nat.le_of_ble_eq_true rfl) (l_cons (Gd.int _) l_nil)) l_nil)))) (l_cons (gd_tup (u106 _ _ e106) (Nat.le_of_ble_eq_true rfl) (l_cons (Gd.int _) (l_cons (Gd.int _) (l_cons (gd_tup (u105 _ _ e105) (Nat.le_of_ble_eq_true rfl) (l_cons (Gd.int _) l_nil)) l_nil)))) (l_cons (gd_tup (u108 _ _ e108) (Nat.le_of_ble_eq_true rfl) (l_cons (Gd.bl _) (l_cons (Gd.int _) (l_cons (gd_tup (u107 _ _ e107) (Nat.le_of_ble_eq_true rfl) (l_cons (Gd.int _) l_nil)) l_nil)))) (l_cons (gd_tup (u110 _ _ e110) (Nat.le_of_ble_eq_true rfl) (l_cons (Gd.int _) (l_cons (Gd.non) (l_cons (gd_tup (u109 _ _ e109) (Nat.le_of_ble_eq_true rfl) (l_cons (Gd.int _) l_nil)) l_nil)))) (l_cons (gd_tup (u111 _ _ e111) (Nat.le_of_ble_eq_true rfl) (l_cons (Gd.int _) (l_cons (Gd.int _) l_nil))) (l_cons (Gd.int _) (l_cons (Gd.str _) l_nil)))))))))
    have dk1 := dkA.same u100
    have pre : Same H100 H111 := s101.trans (s102.trans (s103.trans (s104.trans (s105.trans (s106.trans (s107.trans (s108.trans (s109.trans (s110.trans (s111))))))))))
    have Lh : p112 ≠ h := ne_deck dkA pre np112
    refine ⟨_, rfl, by show 11 ≤ sizeLine; decide, fun pz npz => ?_⟩
    obtain ⟨HZ, eqz, sz, ez⟩ := newH npz (o := .lst [.int 0, .int 0, .int 1, .int 1, .int 2, .int 3, .int 4, .int 5, .int 6, .int 7, .int 8])
    rw [eqz]
    clear eqz
    have zh := ne_deck dk1 (fun _ _ z => z) npz
    have dkz := dk1.same sz
    refine ⟨_, rfl, h, g, 11, rfl, dkz, by decide, by decide, fun HB d bB dkB d0 d1 => ?_⟩
    have eB : HB pz = some (.lst [.int 0, .int 0, .int 1, .int 1, .int 2, .int 3, .int 4, .int 5, .int 6, .int 7, .int 8]) := by rw [bB _ zh]; exact ez
    obtain ⟨f, hf, hat⟩ := pick_at (n := 11) (xs := [V.int 0, V.int 0, V.int 1, V.int 1, V.int 2, V.int 3, V.int 4, V.int 5, V.int 6, V.int 7, V.int 8]) rfl d0 d1
    obtain ⟨z, rfl, z0, z1⟩ : ∃ z : Int, f = .int z ∧ 0 ≤ z ∧ z < 9 := by
      simp only [List.mem_cons, List.not_mem_nil, or_false] at hf
      rcases hf with rfl | rfl | rfl | rfl | rfl | rfl | rfl | rfl | rfl | rfl | rfl <;> exact ⟨_, rfl, by decide, by decide⟩
    refine ⟨pz, _, d, _, rfl, rfl, SqL.of eB, hat, ?_⟩
    have eC : HB p112 = some (.lst [.ref p101, .ref p102, .ref p104, .ref p106, .ref p108, .ref p110, .ref p111, .int 0, .str "-"]) := by rw [bB _ Lh]; exact sz _ _ e112
    obtain ⟨r, hr2, hat2⟩ := pick_at (n := 9) (xs := [V.ref p101, V.ref p102, V.ref p104, V.ref p106, V.ref p108, V.ref p110, V.ref p111, V.int 0, V.str "-"]) rfl z0 z1
    refine ⟨p112, _, z, _, rfl, rfl, SqL.of eC, hat2, ?_⟩
    exact k HB r (fun q o hq e => by rw [bB q hq]; exact sz _ _ (u100 _ _ (kA q o hq e))) dkB (((all r hr2).same sz).but bB.kp dkz)
end

/-! ### arrivals spoilt -/
theorem cut_mem {xs : List V} {lo hi : Option Int} {x : V} (h : x ∈ cutV xs lo hi) : x ∈ xs := by
  unfold cutV at h
  exact List.mem_of_mem_drop (List.mem_of_mem_take h)
theorem cut_len {xs : List V} {lo hi : Option Int} : (cutV xs lo hi).length ≤ xs.length := by
  unfold cutV
  rw [List.length_take, List.length_drop]
  omega
structure Arr (B : Nat) (h : Addr) (H : Hp) (a : Addr) (xs : List V) : Prop where
  e : H a = some (.tup xs)
  len : xs.length ≤ B
  it : ∀ x ∈ xs, ∃ b us, x = .ref b ∧ H b = some (.tup us) ∧ us.length ≤ B ∧ ∀ u ∈ us, Gd B h H u
theorem Arr.kp {B : Nat} {h g : Addr} {H H' : Hp} {a : Addr} {xs : List V} (r : Arr B h H a xs) (k : Kp h H H') (dk : DeckAt H h g) : Arr B h H' a xs :=
  ⟨(k.tk dk) _ _ r.e, r.len, fun x hx => let ⟨b, us, h1, h2, h3, h4⟩ := r.it x hx; ⟨b, us, h1, (k.tk dk) _ _ h2, h3, fun u hu => (h4 u hu).but k dk⟩⟩
theorem Arr.same {B : Nat} {h : Addr} {H H' : Hp} {a : Addr} {xs : List V} (r : Arr B h H a xs) (s : Same H H') : Arr B h H' a xs :=
  ⟨s _ _ r.e, r.len, fun x hx => let ⟨b, us, h1, h2, h3, h4⟩ := r.it x hx; ⟨b, us, h1, s _ _ h2, h3, fun u hu => (h4 u hu).same s⟩⟩
theorem Arr.gd {B : Nat} {h : Addr} {H : Hp} {a : Addr} {xs : List V} (r : Arr B h H a xs) : (∀ x ∈ xs, Gd B h H x) ∧ Gd B h H (.ref a) := by
  have q : ∀ x ∈ xs, Gd B h H x := fun x hx => by
    obtain ⟨b, us, rfl, h2, h3, h4⟩ := r.it x hx
    exact gd_tup h2 h3 h4
  exact ⟨q, gd_tup r.e r.len q⟩
theorem arr_of {B : Nat} {h : Addr} {H : Hp} {x : V} {ds : List Td} (i : Is h H x (.tup ds)) (al : ds.all isT = true) (s : Sh B (.tup ds)) : ∃ a xs, x = .ref a ∧ Arr B h H a xs ∧ xs.length = ds.length := by
  obtain ⟨a, xs, ds', rfl, ed, ha, hl⟩ := isT_of i rfl
  cases ed
  refine ⟨a, xs, rfl, ⟨ha, by rw [hl.len]; exact s.len, fun x hx => ?_⟩, hl.len⟩
  obtain ⟨j, hj⟩ := List.mem_iff_getElem?.mp hx
  obtain ⟨d, hd, id⟩ := hl.get hj
  have md := List.mem_of_getElem? hd
  obtain ⟨b, us, es, rfl, rfl, hb, hle⟩ := isT_of id (List.all_eq_true.mp al d md)
  have sd := s.item md
  refine ⟨b, us, rfl, hb, by rw [hle.len]; exact sd.len, fun u hu => ?_⟩
  obtain ⟨l, hl2⟩ := List.mem_iff_getElem?.mp hu
  obtain ⟨e, he, ie⟩ := hle.get hl2
  exact ⟨e, ie, sd.item (List.mem_of_getElem? he)⟩
section
variable {P : Program} {w : World} {K : PySem.W.Frag} {mg : Str → Option Value} {base : Heap} {A : Adr}
def spSpoilt : Sp := fun vs H Q _ => ∃ (h g : Addr) (x : V) (ds : List Td) (B : Nat), vs = [.ref h, x] ∧ DeckAt H h g ∧ Is h H x (.tup ds) ∧ ds ≠ [] ∧ ds.all isT = true ∧ Sh B (.tup ds) ∧ 12 ≤ B ∧ B ≤ 400 ∧ ∀ H' v, Kp h H H' → DeckAt H' h g → Gd (13 * B + 201) h H' v → Q v H'
theorem ok_law_spoilt (T : Top K mg A) : FnOk P w K mg base CX0 4 A.a_law_spoilt A.d_law_spoilt P_law_spoilt spSpoilt := by
  refine T.F_law_spoilt.ok sc_law_spoilt (fun vs H Q E h => ?_) (fun cdv A' outer s H vs Q E hr h => ?_)
  · obtain ⟨h, g, x, ds, B, rfl, _⟩ := h
    rfl
  · obtain ⟨h, g, x, ds, B, rfl, dk, ix, ne, al, sh, B12, B400, k⟩ := h
    obtain ⟨a, xs, rfl, r0, lx⟩ := arr_of ix al sh
    have lpos : 0 < xs.length := by rw [lx]; exact List.length_pos_iff.mpr ne
    have lB := r0.len
    refine ⟨_, (pss_cons (ps_set (i := 2) sc_law_spoilt.nd rfl (.inl rfl) (pe_call (ok_law_draw T) (hr.mono (by decide)) (by rfl) T.g_law_draw T.F_law_draw.kp T.b_law_draw .nil pass0 (pa_cons (pv 0) (pa_cons pe_int pa_nil))))
    (pss_cons (ps_set (i := 3) sc_law_spoilt.nd rfl (.inl rfl) (pe_call (ok_law_draw T) (hr.mono (by decide)) (by rfl) T.g_law_draw T.F_law_draw.kp T.b_law_draw .nil pass0 (pa_cons (pv 0) (pa_cons (pe_callB call_len_seq (by rfl) T.z_len (by decide +kernel) (pa_cons (pv 1) pa_nil)) pa_nil))))
    (pss_cons (ps_set (i := 4) sc_law_spoilt.nd rfl (.inl rfl) (pe_ix ix_tup (pv 1) (pv 3) (fun _ _ => rfl)))
    (pss_cons (ps_if (pt_cmpR op_eq (pv 2) pe_int (nomark _)) (pss_cons (ps_set (i := 5) sc_law_spoilt.nd rfl (.inl rfl) (pe_lst (pa_cons (pe_callTy call_list_of (by rfl) T.z_list (by decide +kernel) (pa_cons (pv 1) pa_nil)) (pa_cons pe_non (pa_cons pe_int (pa_cons pe_str (pa_cons (pe_tup (pa_cons (pe_tup pa_nil) pa_nil)) (pa_cons (pe_tup (pa_cons (pe_op (OpR.or op_repT GRe.op_rep0) (pv 4) pe_int) pa_nil)) (pa_cons (pe_ix ix_tup (pv 1) pe_int (fun _ _ => rfl)) (pa_cons (pe_tup (pa_cons (pv 1) pa_nil)) (pa_cons (pe_lst pa_nil) (pa_cons pe_bl (pa_cons pe_dnewK pa_nil)))))))))))))
    (pss_one (ps_ret (pe_ix ix_list (pv 5) (pe_call (ok_law_draw T) (hr.mono (by decide)) (by rfl) T.g_law_draw T.F_law_draw.kp T.b_law_draw .nil pass0 (pa_cons (pv 0) (pa_cons pe_int pa_nil))) (fun _ _ => rfl))))) pss_nil)
    (pss_cons (ps_if (pt_cmpR op_eq (pv 2) pe_int (nomark _)) (pss_cons (ps_set (i := 6) sc_law_spoilt.nd rfl (.inl rfl) (pe_ix ix_list (pe_lst (pa_cons (pe_callTy call_list_of (by rfl) T.z_list (by decide +kernel) (pa_cons (pv 4) pa_nil)) (pa_cons (pe_slice sl_tupA (pv 4) (po_some pe_int) po_none) (pa_cons (pe_op op_catA (pv 4) (pe_tup (pa_cons pe_non pa_nil))) (pa_cons (pe_tup pa_nil) (pa_cons pe_non (pa_cons (pe_op (OpR.or op_repT GRe.op_rep0) (pv 4) pe_int) (pa_cons pe_int pa_nil)))))))) (pe_call (ok_law_draw T) (hr.mono (by decide)) (by rfl) T.g_law_draw T.F_law_draw.kp T.b_law_draw .nil pass0 (pa_cons (pv 0) (pa_cons pe_int pa_nil))) (fun _ _ => rfl)))
    (pss_one (ps_ret (pe_op op_catA (pe_op op_catA (pe_slice sl_tupA (pv 1) po_none (po_some (pv 3))) (pe_tup (pa_cons (pv 6) pa_nil))) (pe_slice sl_tupA (pv 1) (po_some (pe_op op_add (pv 3) pe_int)) po_none))))) pss_nil)
    (pss_cons (ps_if (pt_cmpR op_eq (pv 2) pe_int (nomark _)) (pss_one (ps_ret (pe_slice sl_tupA (pe_op op_repT (pv 1) pe_int) po_none (po_some (pe_op op_add pe_int (pe_call (ok_law_draw T) (hr.mono (by decide)) (by rfl) T.g_law_draw T.F_law_draw.kp T.b_law_draw .nil pass0 (pa_cons (pv 0) (pa_cons pe_int pa_nil)))))))) pss_nil)
    (pss_cons (ps_if (PW.pt (pw_or (pt_not (pt_val (pe_callB call_isi (by rfl) T.z_isinstance (by decide +kernel) (pa_cons (pv 4) (pa_cons (pe_bltn (v := .ty "tuple") (by rfl) T.z_tuple (by decide +kernel) rfl) pa_nil))))) (pw_or1 (pt_cmpR op_eq (pe_callB call_len_seq (by rfl) T.z_len (by decide +kernel) (pa_cons (pv 4) pa_nil)) pe_int (nomark _))))) (pss_one (ps_ret (pv 1))) pss_nil)
    (pss_cons (ps_set (i := 7) sc_law_spoilt.nd rfl (.inl rfl) (pe_call (ok_law_draw T) (hr.mono (by decide)) (by rfl) T.g_law_draw T.F_law_draw.kp T.b_law_draw .nil pass0 (pa_cons (pv 0) (pa_cons (pe_callB call_len_seq (by rfl) T.z_len (by decide +kernel) (pa_cons (pv 4) pa_nil)) pa_nil))))
    (pss_cons (ps_set (i := 4) sc_law_spoilt.nd rfl (.inl rfl) (pe_op op_catA (pe_op op_catA (pe_slice sl_tupA (pv 4) po_none (po_some (pv 7))) (pe_tup (pa_cons (pe_call (ok_law_odd_item T) (hr.mono (by decide)) (by rfl) T.g_law_odd_item T.F_law_odd_item.kp T.b_law_odd_item .nil pass0 (pa_cons (pv 0) (pa_cons (pe_callB call_len_seq (by rfl) T.z_len (by decide +kernel) (pa_cons (pv 4) pa_nil)) pa_nil))) pa_nil))) (pe_slice sl_tupA (pv 4) (po_some (pe_op op_add (pv 7) pe_int)) po_none)))
    (pss_one (ps_ret (pe_op op_catA (pe_op op_catA (pe_slice sl_tupA (pv 1) po_none (po_some (pv 3))) (pe_tup (pa_cons (pv 4) pa_nil))) (pe_slice sl_tupA (pv 1) (po_some (pe_op op_add (pv 3) pe_int)) po_none))))))))))))), ?_⟩
    refine ⟨_, rfl, h, g, 8, rfl, dk, by decide, by decide, fun H1 kd b1 a1 kd0 kd1 => ?_⟩
    have r1 := r0.kp b1.kp dk
    refine ⟨_, rfl, _, rfl, a, xs, rfl, .inr (SqT.of r1.e), h, g, (xs.length : Int), rfl, a1, by omega, by omega, fun H2 at_ b2 a2 at0 at1 => ?_⟩
    have r2 := r1.kp b2.kp a1
    have k02 : Kp h H H2 := fun q o hq e => by rw [b2 q hq, b1 q hq]; exact e
    obtain ⟨at', rfl⟩ := Int.eq_ofNat_of_zero_le at0
    have hx : xs[at']? = some (xs[at']'(by omega)) := List.getElem?_eq_getElem (by omega)
    obtain ⟨b, us, eb, hb, lb, gu⟩ := r2.it _ (List.mem_of_getElem? hx)
    refine ⟨_, rfl, _, rfl, a, _, _, _, rfl, rfl, SqT.of r2.e, at_of (j := at') (by omega) hx, ?_⟩
    rw [eb]
    clear b1 b2 r1 r0 a1
    have k : ∀ H' v, Kp h H2 H' → DeckAt H' h g → Gd (13 * B + 201) h H' v → Q v H' := fun H' v kk => k H' v (k02.trans kk)
    have ks : ∀ H' v, Same H2 H' → Gd (13 * B + 201) h H' v → Q v H' := fun H' v s => k H' v (fun q o _ e => s q o e) (a2.same s)
    generalize H2 = H200 at *
    refine ⟨_, rfl, rfl, _, rfl, ite2 (fun _ => ?_) (fun _ => ?_)⟩
    rotate_left
    refine ⟨_, rfl, rfl, _, rfl, ite2 (fun _ => ?_) (fun _ => ?_)⟩
    rotate_left
    refine ⟨_, rfl, rfl, _, rfl, ite2 (fun _ => ?_) (fun _ => ?_)⟩
    · -- the second kind
      refine ⟨_, rfl, a, 201, _, rfl, rfl, SqT.of r2.e, (by intro z; rw [z] at lpos; cases lpos), by decide, by decide, by omega, fun p np => ?_⟩
      have s1 := same_upd np (o := .tup (List.replicate (201 : Int).toNat xs).flatten)
      have e1 : (upd H200 p (.tup (List.replicate (201 : Int).toNat xs).flatten)) p = some (.tup (List.replicate (201 : Int).toNat xs).flatten) := upd_same
      have a3 := a2.same s1
      generalize upd H200 p (.tup (List.replicate (201 : Int).toNat xs).flatten) = H3 at s1 e1 a3 ⊢
      refine no_part ⟨_, rfl, h, g, 2, rfl, a3, by decide, by decide, fun H4 d b4 a4 d0 d1 => ⟨200, d, rfl, rfl, 200 + d, rfl, ?_⟩⟩
      have e4 : H4 p = some (.tup (List.replicate (201 : Int).toNat xs).flatten) := (b4.kp.tk a3) _ _ e1
      refine sl_at e4 fun H5 q s5 e5 => ?_
      have r4 := (r2.same s1).kp b4.kp a3
      have g5 := (r4.same s5).gd.1
      have l5 : (cutV (List.replicate (201 : Int).toNat xs).flatten none (some (200 + d))).length ≤ 201 := by
        unfold cutV
        rw [HT.sIx_none, List.drop_zero, Nat.sub_zero, List.length_take]
        have e2 : (200 + d) = ((200 + d.toNat : Nat) : Int) := by omega
        rw [e2, HT.sIx_nat]
        omega
      refine k H5 _ (fun q o hq e => s5 _ _ (by rw [b4 q hq]; exact s1 _ _ e)) (a4.same s5) (gd_tup e5 (by omega) fun x hx => (g5 x (rep_mem (cut_mem hx))).mono (by omega))
    · -- one item in the place of another
      refine ⟨_, rfl, _, _, _, _, _, rfl, .ty "tuple", .base (.tup hb), kitQ (a := "tuple") (r := true) (by decide +kernel) rfl, _, rfl, iteF ?_⟩
      refine ⟨_, rfl, b, us, rfl, .inr (SqT.of hb), rfl, _, rfl, ite2 (fun _ => ?_) (fun c => ?_)⟩
      · exact ⟨_, rfl, ks H200 _ (fun _ _ e => e) (r2.gd.2.mono (by omega))⟩
      have upos : 0 < us.length := by
        refine Nat.pos_of_ne_zero fun z => c ?_
        rw [z]
        rfl
      refine ⟨_, rfl, _, rfl, b, us, rfl, .inr (SqT.of hb), h, g, (us.length : Int), rfl, a2, by omega, by omega, fun H3 li b3 a3 li0 li1 => ?_⟩
      have r3 := r2.kp b3.kp a2
      have hb3 := (b3.kp.tk a2) _ _ hb
      have gu3 : ∀ u ∈ us, Gd B h H3 u := fun u hu => (gu u hu).but b3.kp a2
      refine ⟨_, rfl, no_part ⟨_, rfl, li, rfl, sl_at hb3 fun H4 p4 s4 e4 => ?_⟩⟩
      have a4 := a3.same s4
      refine ⟨_, rfl, _, rfl, b, us, rfl, .inr (SqT.of (s4 _ _ hb3)), h, g, (us.length : Int), rfl, a4, fun H5 v k5 a5 gv => ⟨by show 1 ≤ sizeLine; decide, fun p6 np6 => ?_⟩⟩
      have s6 := same_upd np6 (o := .tup [v])
      have e6 : (upd H5 p6 (.tup [v])) p6 = some (.tup [v]) := upd_same
      have a6 := a5.same s6
      have gv6 := gv.same s6
      have k46 := k5.same s6
      generalize upd H5 p6 (.tup [v]) = H6 at s6 e6 a6 gv6 k46 ⊢
      have e46 := (k46.tk a4) _ _ e4
      refine cat_at e46 e6 (by have := cut_len (xs := us) (lo := none) (hi := some li); show _ + 1 ≤ 1000; omega) fun H7 p7 s7 e7 => ?_
      have k47 := k46.same s7
      have hb7 := (k47.tk a4) _ _ (s4 _ _ hb3)
      refine ⟨_, rfl, _, rfl, _, _, rfl, rfl, _, rfl, no_part (sl_at hb7 fun H8 p8 s8 e8 => ?_)⟩
      have l1 := cut_len (xs := us) (lo := none) (hi := some li)
      have l2 := cut_len (xs := us) (lo := some (li + 1)) (hi := none)
      refine cat_at (s8 _ _ e7) e8 (by rw [List.length_append]; show _ + 1 + _ ≤ 1000; omega) fun H9 p9 s9 e9 => ?_
      have k39 : Kp h H3 H9 := ((Kp.trans (fun q o _ e => s4 q o e) k47).same s8).same s9
      have r9 := r3.kp k39 a3
      have gn : Gd (13 * B + 201) h H9 (.ref p9) := by
        refine gd_tup e9 (by rw [List.length_append, List.length_append]; show _ + 1 + _ ≤ _; omega) fun x hx => ?_
        rcases List.mem_append.mp hx with hx | hx
        · rcases List.mem_append.mp hx with hx | hx
          · exact ((gu3 x (cut_mem hx)).but k39 a3).mono (by omega)
          · rw [List.mem_singleton] at hx
            subst hx
            exact (((gv6.same s7).same s8).same s9).mono (by omega)
        · exact ((gu3 x (cut_mem hx)).but k39 a3).mono (by omega)
      have a9 := (((a6.same s7).same s8).same s9)
      have k29 : Kp h H200 H9 := fun q o hq e => k39 q o hq (by rw [b3 q hq]; exact e)
      generalize V.ref p9 = v9 at gn
      have r9 := r2.kp k29 a2
      refine ⟨_, rfl, no_part ⟨_, rfl, (at' : Int), rfl, sl_at r9.e fun HA pA sA eA => ?_⟩⟩
      refine ⟨_, rfl, by show 1 ≤ sizeLine; decide, fun pB npB => ?_⟩
      have sB := same_upd npB (o := .tup [v9])
      have eB : (upd HA pB (.tup [v9])) pB = some (.tup [v9]) := upd_same
      generalize upd HA pB (.tup [v9]) = HB at sB eB ⊢
      have lA := cut_len (xs := xs) (lo := none) (hi := some (at' : Int))
      have lC := cut_len (xs := xs) (lo := some ((at' : Int) + 1)) (hi := none)
      refine cat_at (sB _ _ eA) eB (by show _ + 1 ≤ 1000; omega) fun HC pC sC eC => ?_
      have s9C := (sA.trans sB).trans sC
      refine ⟨_, rfl, _, rfl, _, _, rfl, rfl, _, rfl, no_part (sl_at (s9C _ _ r9.e) fun HD pD sD eD => ?_)⟩
      refine cat_at (sD _ _ eC) eD (by rw [List.length_append]; show _ + 1 + _ ≤ 1000; omega) fun HE pE sE eE => ?_
      have s9E := (s9C.trans sD).trans sE
      refine k HE _ (fun q o hq e => s9E _ _ (k29 q o hq e)) (a9.same s9E) (gd_tup eE (by rw [List.length_append, List.length_append]; show _ + 1 + _ ≤ _; omega) fun x hx => ?_)
      rcases List.mem_append.mp hx with hx | hx
      · rcases List.mem_append.mp hx with hx | hx
        · exact ((r9.gd.1 x (cut_mem hx)).same s9E).mono (by omega)
        · rw [List.mem_singleton] at hx
          subst hx
          exact gn.same s9E
      · exact ((r9.gd.1 x (cut_mem hx)).same s9E).mono (by omega)
    · -- one kind
      have w200 : Same H200 H200 := fun _ _ z => z
      refine ⟨_, rfl, a, _, rfl, .inr (SqT.of (w200 _ _ r2.e)), fun p201 np201 => ?_⟩
      obtain ⟨H201, eq201, s201, e201⟩ := newH np201 (o := .lst xs)
      rw [eq201]
      clear eq201
      have w201 : Same H200 H201 := w200.trans s201
      refine ⟨by show 0 ≤ sizeLine; decide, fun p202 np202 => ?_⟩
      obtain ⟨H202, eq202, s202, e202⟩ := newH np202 (o := .tup [])
      rw [eq202]
      clear eq202
      have w202 : Same H200 H202 := w201.trans s202
      refine ⟨by show 1 ≤ sizeLine; decide, fun p203 np203 => ?_⟩
      obtain ⟨H203, eq203, s203, e203⟩ := newH np203 (o := .tup [.ref p202])
      rw [eq203]
      clear eq203
      have w203 : Same H200 H203 := w202.trans s203
      refine ⟨_, rfl, rep_at (w203 _ _ hb) (by omega) (by decide) (by decide) fun H204 p204 s204 e204 => ?_⟩
      have w204 : Same H200 H204 := w203.trans s204
      refine ⟨by show 1 ≤ sizeLine; decide, fun p205 np205 => ?_⟩
      obtain ⟨H205, eq205, s205, e205⟩ := newH np205 (o := .tup [.ref p204])
      rw [eq205]
      clear eq205
      have w205 : Same H200 H205 := w204.trans s205
      have n0 : xs[0]? = some (xs[0]'lpos) := List.getElem?_eq_getElem lpos
      have g0 := r2.gd.1 _ (List.mem_of_getElem? n0)
      generalize xs[0]'lpos = x0 at n0 g0
      refine ⟨_, rfl, a, _, 0, _, rfl, rfl, SqT.of (w205 _ _ r2.e), atI_nat (j := 0) n0, ?_⟩
      refine ⟨_, rfl, by show 1 ≤ sizeLine; decide, fun p206 np206 => ?_⟩
      obtain ⟨H206, eq206, s206, e206⟩ := newH np206 (o := .tup [.ref a])
      rw [eq206]
      clear eq206
      have w206 : Same H200 H206 := w205.trans s206
      refine ⟨by show 0 ≤ sizeLine; decide, fun p207 np207 => ?_⟩
      obtain ⟨H207, eq207, s207, e207⟩ := newH np207 (o := .lst [])
      rw [eq207]
      clear eq207
      have w207 : Same H200 H207 := w206.trans s207
      refine fun p208 np208 => ?_
      obtain ⟨H208, eq208, s208, e208⟩ := newH np208 (o := .dK [])
      rw [eq208]
      clear eq208
      have w208 : Same H200 H208 := w207.trans s208
      refine ⟨by show 11 ≤ sizeLine; decide, fun p209 np209 => ?_⟩
      obtain ⟨H209, eq209, s209, e209⟩ := newH np209 (o := .lst [.ref p201, .non, .int 5, .str "", .ref p203, .ref p205, x0, .ref p206, .ref p207, .bl true, .ref p208])
      rw [eq209]
      clear eq209
      have u209 : Same H209 H209 := fun _ _ z => z
      have u208 : Same H208 H209 := s209.trans u209
      have u207 : Same H207 H209 := s208.trans u208
      have u206 : Same H206 H209 := s207.trans u207
      have u205 : Same H205 H209 := s206.trans u206
      have u204 : Same H204 H209 := s205.trans u205
      have u203 : Same H203 H209 := s204.trans u204
      have u202 : Same H202 H209 := s203.trans u203
      have u201 : Same H201 H209 := s202.trans u202
      have u200 : Same H200 H209 := s201.trans u201
      have all : ∀ v ∈ ([.ref p201, .non, .int 5, .str "", .ref p203, .ref p205, x0, .ref p206, .ref p207, .bl true, .ref p208] : List V), Gd (13 * B + 201) h H209 v := (l_cons (Gd.lst (u201 _ _ e201) (ne_deck a2 w200 np201)) (l_cons (Gd.non) (l_cons (Gd.int _) (l_cons (Gd.str _) (l_cons (gd_tup (u203 _ _ e203) (show 1 ≤ 13 * B + 201 by omega) (l_cons (gd_tup (u202 _ _ e202) (Nat.zero_le _) l_nil) l_nil)) (l_cons (gd_tup (u205 _ _ e205) (show 1 ≤ 13 * B + 201 by omega) (l_cons (gd_tup (u204 _ _ e204) (by rw [rep_len]; show 13 * us.length ≤ _; omega) fun x hx => ((gu x (rep_mem hx)).same u200).mono (by omega)) l_nil)) (l_cons ((g0.same u200).mono (by omega)) (l_cons (gd_tup (u206 _ _ e206) (show 1 ≤ 13 * B + 201 by omega) (l_cons ((r2.gd.2.same u200).mono (by omega)) l_nil)) (l_cons (Gd.lst (u207 _ _ e207) (ne_deck a2 w206 np207)) (l_cons (Gd.bl _) (l_cons (Gd.dk (u208 _ _ e208)) l_nil)))))))))))
      have Lh : p209 ≠ h := ne_deck a2 w208 np209
      have dk1 := a2.same u200
      refine ⟨_, rfl, _, rfl, h, g, 11, rfl, dk1, by decide, by decide, fun HA d bA dkA d0 d1 => ?_⟩
      have eA : HA p209 = some (.lst [.ref p201, .non, .int 5, .str "", .ref p203, .ref p205, x0, .ref p206, .ref p207, .bl true, .ref p208]) := by rw [bA _ Lh]; exact e209
      obtain ⟨v9, hv, hat⟩ := pick_at (n := 11) (xs := [V.ref p201, V.non, V.int 5, V.str "", V.ref p203, V.ref p205, x0, V.ref p206, V.ref p207, V.bl true, V.ref p208]) rfl d0 d1
      have gn := (all v9 hv).but bA.kp dk1
      refine ⟨p209, _, d, _, rfl, rfl, SqL.of eA, hat, ?_⟩
      have k29 : Kp h H200 HA := fun q o hq e => by rw [bA q hq]; exact u200 _ _ e
      exact k HA v9 k29 dkA gn
    · -- one kind
      have w200 : Same H200 H200 := fun _ _ z => z
      refine ⟨_, rfl, b, _, rfl, .inr (SqT.of (w200 _ _ hb)), fun p201 np201 => ?_⟩
      obtain ⟨H201, eq201, s201, e201⟩ := newH np201 (o := .lst us)
      rw [eq201]
      clear eq201
      have w201 : Same H200 H201 := w200.trans s201
      refine ⟨_, rfl, 1, rfl, no_part (sl_at (w201 _ _ hb) fun H202 p202 s202 e202 => ?_)⟩
      have w202 : Same H200 H202 := w201.trans s202
      refine ⟨_, rfl, by show 1 ≤ sizeLine; decide, fun p203 np203 => ?_⟩
      obtain ⟨H203, eq203, s203, e203⟩ := newH np203 (o := .tup [.non])
      rw [eq203]
      clear eq203
      have w203 : Same H200 H203 := w202.trans s203
      refine cat_at (w203 _ _ hb) e203 (by show _ + 1 ≤ 1000; omega) fun H204 p204 s204 e204 => ?_
      have w204 : Same H200 H204 := w203.trans s204
      refine ⟨by show 0 ≤ sizeLine; decide, fun p205 np205 => ?_⟩
      obtain ⟨H205, eq205, s205, e205⟩ := newH np205 (o := .tup [])
      rw [eq205]
      clear eq205
      have w205 : Same H200 H205 := w204.trans s205
      refine ⟨_, rfl, rep_at (w205 _ _ hb) (by omega) (by decide) (by decide) fun H206 p206 s206 e206 => ?_⟩
      have w206 : Same H200 H206 := w205.trans s206
      refine ⟨by show 7 ≤ sizeLine; decide, fun p207 np207 => ?_⟩
      obtain ⟨H207, eq207, s207, e207⟩ := newH np207 (o := .lst [.ref p201, .ref p202, .ref p204, .ref p205, .non, .ref p206, .int 7])
      rw [eq207]
      clear eq207
      have u207 : Same H207 H207 := fun _ _ z => z
      have u206 : Same H206 H207 := s207.trans u207
      have u205 : Same H205 H207 := s206.trans u206
      have u204 : Same H204 H207 := s205.trans u205
      have u203 : Same H203 H207 := s204.trans u204
      have u202 : Same H202 H207 := s203.trans u203
      have u201 : Same H201 H207 := s202.trans u202
      have u200 : Same H200 H207 := s201.trans u201
      have all : ∀ v ∈ ([.ref p201, .ref p202, .ref p204, .ref p205, .non, .ref p206, .int 7] : List V), Gd (13 * B + 201) h H207 v := (l_cons (Gd.lst (u201 _ _ e201) (ne_deck a2 w200 np201)) (l_cons (gd_tup (u202 _ _ e202) (Nat.le_trans cut_len (by omega)) fun x hx => ((gu x (cut_mem hx)).same u200).mono (by omega)) (l_cons (gd_tup (u204 _ _ e204) (by rw [List.length_append]; show _ + 1 ≤ _; omega) fun x hx => by
        rcases List.mem_append.mp hx with hx | hx
        · exact ((gu x hx).same u200).mono (by omega)
        · rw [List.mem_singleton] at hx
          rw [hx]
          exact Gd.non) (l_cons (gd_tup (u205 _ _ e205) (Nat.zero_le _) l_nil) (l_cons (Gd.non) (l_cons (gd_tup (u206 _ _ e206) (by rw [rep_len]; show 12 * us.length ≤ _; omega) fun x hx => ((gu x (rep_mem hx)).same u200).mono (by omega)) (l_cons (Gd.int _) l_nil)))))))
      have Lh : p207 ≠ h := ne_deck a2 w206 np207
      have dk1 := a2.same u200
      refine ⟨_, rfl, h, g, 7, rfl, dk1, by decide, by decide, fun HA d bA dkA d0 d1 => ?_⟩
      have eA : HA p207 = some (.lst [.ref p201, .ref p202, .ref p204, .ref p205, .non, .ref p206, .int 7]) := by rw [bA _ Lh]; exact e207
      obtain ⟨v9, hv, hat⟩ := pick_at (n := 7) (xs := [V.ref p201, V.ref p202, V.ref p204, V.ref p205, V.non, V.ref p206, V.int 7]) rfl d0 d1
      have gn := (all v9 hv).but bA.kp dk1
      refine ⟨p207, _, d, _, rfl, rfl, SqL.of eA, hat, ?_⟩
      have k29 : Kp h H200 HA := fun q o hq e => by rw [bA q hq]; exact u200 _ _ e
      have a9 := dkA
      have r9 := r2.kp k29 a2
      refine ⟨_, rfl, no_part ⟨_, rfl, (at' : Int), rfl, sl_at r9.e fun HA pA sA eA => ?_⟩⟩
      refine ⟨_, rfl, by show 1 ≤ sizeLine; decide, fun pB npB => ?_⟩
      have sB := same_upd npB (o := .tup [v9])
      have eB : (upd HA pB (.tup [v9])) pB = some (.tup [v9]) := upd_same
      generalize upd HA pB (.tup [v9]) = HB at sB eB ⊢
      have lA := cut_len (xs := xs) (lo := none) (hi := some (at' : Int))
      have lC := cut_len (xs := xs) (lo := some ((at' : Int) + 1)) (hi := none)
      refine cat_at (sB _ _ eA) eB (by show _ + 1 ≤ 1000; omega) fun HC pC sC eC => ?_
      have s9C := (sA.trans sB).trans sC
      refine ⟨_, rfl, _, rfl, _, _, rfl, rfl, _, rfl, no_part (sl_at (s9C _ _ r9.e) fun HD pD sD eD => ?_)⟩
      refine cat_at (sD _ _ eC) eD (by rw [List.length_append]; show _ + 1 + _ ≤ 1000; omega) fun HE pE sE eE => ?_
      have s9E := (s9C.trans sD).trans sE
      refine k HE _ (fun q o hq e => s9E _ _ (k29 q o hq e)) (a9.same s9E) (gd_tup eE (by rw [List.length_append, List.length_append]; show _ + 1 + _ ≤ _; omega) fun x hx => ?_)
      rcases List.mem_append.mp hx with hx | hx
      · rcases List.mem_append.mp hx with hx | hx
        · exact ((r9.gd.1 x (cut_mem hx)).same s9E).mono (by omega)
        · rw [List.mem_singleton] at hx
          subst hx
          exact gn.same s9E
      · exact ((r9.gd.1 x (cut_mem hx)).same s9E).mono (by omega)
end

/-! ### texts are data -/
def okS (s : Str) : Prop := PyData.strOk s = true
theorem okS_app {a b : Str} (ha : okS a) (hb : okS b) : okS (a ++ b) := by
  have ha : a.cps.all (fun x => decide (x < 1114112)) = true := ha
  have hb : b.cps.all (fun x => decide (x < 1114112)) = true := hb
  show (a.cps ++ b.cps).all (fun x => decide (x < 1114112)) = true
  rw [Array.all_append, ha, hb]
  rfl
theorem fold_ok {sep : Str} (hs : okS sep) : ∀ (l : List Str) (acc : Array Nat), acc.all (fun x => decide (x < 1114112)) = true → (∀ y ∈ l, okS y) → (l.foldl (fun acc p => acc ++ sep.cps ++ p.cps) acc).all (fun x => decide (x < 1114112)) = true
  | [], _, h, _ => h
  | p :: l, acc, h, hl => by
    rw [List.foldl_cons]
    refine fold_ok hs l _ ?_ fun y hy => hl y (List.mem_cons_of_mem _ hy)
    have h1 : sep.cps.all (fun x => decide (x < 1114112)) = true := hs
    have h2 : p.cps.all (fun x => decide (x < 1114112)) = true := hl p List.mem_cons_self
    rw [Array.all_append, Array.all_append, h, h1, h2]
    rfl
theorem okS_join {sep : Str} {ys : List Str} (hs : okS sep) (h : ∀ y ∈ ys, okS y) : okS (Txt.join sep ys) := by
  show (List.foldl (fun acc p => acc ++ sep.cps ++ p.cps) (ys.headD Str.empty).cps (ys.drop 1)).all (fun x => decide (x < 1114112)) = true
  refine fold_ok hs _ _ ?_ fun y hy => h y (List.mem_of_mem_drop hy)
  cases ys with
  | nil => decide +kernel
  | cons y ys => exact h y List.mem_cons_self
theorem strI_ok {i : Int} (h0 : 0 ≤ i) (h1 : i ≤ 99) : okS (strI i) := by
  have z : (List.range 100).all (fun n => PyData.strOk (strI (n : Int))) = true := by decide +kernel
  have q := List.all_eq_true.mp z i.toNat (List.mem_range.mpr (by omega))
  rw [Int.toNat_of_nonneg h0] at q
  exact q
theorem itT_ok {n : Int} {d : Td} (hn : n ≤ 12) (c : itemB n 3 d = true) : okS (itT d) := by
  rcases item_yes hn c with rfl | ⟨s, k, es, rfl, hs, hk, le, all⟩
  · show PyData.strOk ("-" : Str) = true
    decide +kernel
  · have h4 : okS ("," : Str) := by show PyData.strOk _ = true; decide +kernel
    have h5 : okS ("." : Str) := by show PyData.strOk _ = true; decide +kernel
    have h6 : okS (">" : Str) := by show PyData.strOk _ = true; decide +kernel
    exact okS_app (okS_app (okS_app (okS_app (strI_ok hs.1 hs.2) h5) (strI_ok hk.1 (by omega))) h6) (okS_join h4 fun y hy => by
      obtain ⟨e, he, rfl⟩ := List.mem_map.mp hy
      obtain ⟨i, rfl, i0, i1⟩ := all e he
      exact strI_ok (i := i) i0 (by omega))
theorem txT_ok {n : Int} {ds : List Td} (r : Rows n ds) : okS (txT (.tup ds)) := by
  have h4 : okS (" " : Str) := by show PyData.strOk _ = true; decide +kernel
  have h5 : okS ("" : Str) := by show PyData.strOk _ = true; decide +kernel
  have h6 : okS ("\n" : Str) := by show PyData.strOk _ = true; decide +kernel
  refine okS_join h5 fun y hy => ?_
  obtain ⟨d, hd, rfl⟩ := List.mem_map.mp hy
  obtain ⟨es, rfl, l, c⟩ := r.row d hd
  refine okS_app (okS_join h4 fun y hy => ?_) h6
  obtain ⟨e, he, rfl⟩ := List.mem_map.mp hy
  exact itT_ok r.n12 (List.all_eq_true.mp c e he)
def ansV (d : Td) : List V := if textB d = true then [.str "text", .str (txT d)] else [.str "none", .bl true]
def ansD (d : Td) : PyData := if textB d = true then .tuple [.str "text", .str (txT d)] else .tuple [.str "none", .bool true]
theorem ans_dp {K : PySem.W.Frag} {H : Hp} {p : Addr} {d : Td} (e : H p = some (.tup (ansV d))) : Dp K H (.ref p) (ansD d) := by
  unfold ansV at e
  unfold ansD
  by_cases c : textB d = true
  · rw [if_pos c] at e ⊢
    exact .tup (SqT.of e) (.cons (.str _) (.cons (.str _) .nil))
  · rw [if_neg c] at e ⊢
    exact .tup (SqT.of e) (.cons (.str _) (.cons (.bl _) .nil))
theorem ans_lay (d : Td) : (ansD d).canLay0 = true ∧ (ansD d).depth ≤ 2 := by
  unfold ansD
  by_cases c : textB d = true
  · rw [if_pos c]
    obtain ⟨n, ds, rfl, r⟩ := rows_of c
    have h := txT_ok r
    generalize txT (.tup ds) = s at h
    refine ⟨?_, by show (1 : Nat) ≤ 2; decide⟩
    show (PyData.strOk ("text" : Str) && (PyData.strOk s && true)) = true
    rw [show PyData.strOk s = true from h]
    decide +kernel
  · rw [if_neg c]
    exact ⟨by kernel_rfl, by show (1 : Nat) ≤ 2; decide⟩
theorem ans_sh (d : Td) : SeqAt.shaped (ansD d) = true := (Lay.mk (ans_lay d).1 (ans_lay d).2).sh (by decide)
section
variable {P : Program} {w : World} {K : PySem.W.Frag} {mg : Str → Option Value} {base : Heap} {A : Adr}
def spTold : Sp := fun vs H Q _ => ∃ (x : V) (d : Td) (h : Addr), vs = [x] ∧ Is h H x d ∧ ∀ H' p, Same H H' → H' p = some (.tup (ansV d)) → Q (.ref p) H'
theorem ok_law_told (T : Top K mg A) : FnOk P w K mg base CX0 10 A.a_law_told A.d_law_told P_law_told spTold := by
  refine T.F_law_told.ok sc_law_told (fun vs H Q E h => ?_) (fun cdv A' outer s H vs Q E hr h => ?_)
  · obtain ⟨x, d, h, rfl, _⟩ := h
    rfl
  · obtain ⟨x, d, h, rfl, ix, k⟩ := h
    refine ⟨_, (pss_cons (ps_set (i := 1) sc_law_told.nd rfl (.inl rfl) pe_non)
    (pss_cons (GT.ps_try_g rfl rfl sc_law_told.nd LamX.takes0 (fun W pn xe tk _ => (pss_one (ps_set (i := 1) sc_law_told.nd rfl (.inl rfl) (pe_tup (pa_cons pe_str (pa_cons (pe_call (ok_arrivals_text T) (hr.mono (by decide)) (by rfl) T.g_arrivals_text T.F_arrivals_text.kp T.b_arrivals_text .nil (GX.passT 3 tk) (pa_cons (pv 0) pa_nil)) pa_nil)))))) (.as_ (i := 2) rfl (by decide) T.gc_NoArrivals rfl rfl (fun a oe cls d pn hz hf => by exact (pss_one (ps_set (i := 1) sc_law_told.nd rfl (.inl rfl) (pe_tup (pa_cons pe_str (pa_cons (pe_and (pe_callB (GX.call_isEa (a := a) (pn := pn) hz hf) (by rfl) T.z_isinstance (by decide +kernel) (pa_cons (pv 2) (pa_cons (pe_glob (v := .ref A.c_FabricError) (by rfl) T.gc_FabricError (by rfl)) pa_nil))) (pe_one (pe_not (pe_callB (GX.call_isEa (a := a) (pn := pn) hz hf) (by rfl) T.z_isinstance (by decide +kernel) (pa_cons (pv 2) (pa_cons (pe_glob (v := .ref A.c_NoSaying) (by rfl) T.gc_NoSaying (by rfl)) pa_nil)))))) pa_nil)))))) .nil))
    (pss_one (ps_ret (pv 1))))), ?_⟩
    refine ⟨_, rfl, x, d, h, rfl, ix, fun c H1 s1 => ⟨by show 2 ≤ sizeLine; decide, fun p np => ?_⟩, fun c H1 s1 => ?_⟩
    · refine ⟨_, rfl, k _ p (s1.trans (same_upd np)) ?_⟩
      unfold ansV
      rw [if_pos c]
      exact upd_same
    · intro σ hσ
      obtain ⟨x0, x1, x2, rfl⟩ : ∃ x0 x1 x2, σ = [x0, x1, x2] := by
        match σ, hσ with
        | [x0, x1, x2], _ => exact ⟨x0, x1, x2, rfl⟩
      have xD : ExcC K A.c_NoArrivals := ⟨T.e1_NoArrivals, T.e2_NoArrivals, T.s_NoArrivals, T.e3_NoArrivals, T.e4_NoArrivals, T.en1, T.en2, T.e5_NoArrivals⟩
      refine ⟨true, T.xm_NoArrivals_NoArrivals, fun _ a ha => ?_, fun z => (by cases z)⟩
      refine ⟨_, rfl, A.c_NoArrivals, rfl, xD, .inl rfl, _, _, true, rfl, fun u r => r, T.kt_NoArrivals_FabricError, true, rfl, iteT ?_⟩
      refine ⟨_, rfl, A.c_NoArrivals, rfl, xD, .inl rfl, _, _, false, rfl, fun u r => r, T.kt_NoArrivals_NoSaying, _, rfl, ?_⟩
      refine ⟨by show 2 ≤ sizeLine; decide, fun p np => ?_⟩
      refine ⟨_, rfl, k _ p (s1.trans (same_upd np)) ?_⟩
      unfold ansV
      rw [if_neg (by rw [c]; decide)]
      exact upd_same
end

/-! ### the law -/
def bd (i : Nat) : Nat := if i = 0 then 12 else if i = 1 then 357 else 4842
theorem bd_le (i : Nat) : 12 ≤ bd i ∧ bd i ≤ 4842 ∧ bd i ≤ bd (i + 1) ∧ (i < 2 → bd i ≤ 400 ∧ 13 * bd i + 201 = bd (i + 1)) := by
  unfold bd
  match i with
  | 0 => decide
  | 1 => decide
  | i + 2 => simp
def spLaw (K : PySem.W.Frag) : Sp := fun vs H Q _ => ∃ (a : Addr) (ns : List Int), vs = [.ref a] ∧ SqL K H a (ns.map V.int) ∧ ns.length ≤ 63 ∧ ∀ H', Q (.bl true) H'
section
variable {P : Program} {w : World} {K : PySem.W.Frag} {mg : Str → Option Value} {base : Heap} {A : Adr}
theorem ok_law (T : Top K mg A) : FnOk P w K mg base CX0 14 A.a_law A.d_law P_law (spLaw K) := by
  refine T.F_law.ok sc_law (fun vs H Q E h => ?_) (fun cdv A' outer s H vs Q E hr h => ?_)
  · obtain ⟨a, ns, rfl, _⟩ := h
    rfl
  · obtain ⟨sa, ns, rfl, hS, hn, kq⟩ := h
    refine ⟨_, (pss_cons (ps_set (i := 1) sc_law.nd rfl (.inl rfl) (pe_call (ok_law_deck T) (hr.mono (by decide)) (by rfl) T.g_law_deck T.F_law_deck.kp T.b_law_deck .nil pass0 (pa_cons (pv 0) pa_nil)))
    (pss_cons (ps_set (i := 2) sc_law.nd rfl (.inl rfl) (pe_op op_add pe_int (pe_call (ok_law_draw T) (hr.mono (by decide)) (by rfl) T.g_law_draw T.F_law_draw.kp T.b_law_draw .nil pass0 (pa_cons (pv 1) (pa_cons (pe_ix ix_list (pe_lst (pa_cons pe_int (pa_cons pe_int pa_nil))) (pe_call (ok_law_draw T) (hr.mono (by decide)) (by rfl) T.g_law_draw T.F_law_draw.kp T.b_law_draw .nil pass0 (pa_cons (pv 1) (pa_cons pe_int pa_nil))) (fun _ _ => rfl)) pa_nil)))))
    (pss_cons (ps_for PassesOwn.never rfl (pi_range1 rfl T.z_range (pa_cons pe_int pa_nil)) (pg_name (i := 3) sc_law.nd rfl (.inl rfl)) (pss_cons (ps_set (i := 4) sc_law.nd rfl (.inl rfl) (pe_call (ok_law_arrivals T) (hr.mono (by decide)) (by rfl) T.g_law_arrivals T.F_law_arrivals.kp T.b_law_arrivals .nil pass0 (pa_cons (pv 1) (pa_cons (pv 2) (pa_cons pe_int (pa_cons (pe_op op_add pe_int (pe_call (ok_law_draw T) (hr.mono (by decide)) (by rfl) T.g_law_draw T.F_law_draw.kp T.b_law_draw .nil pass0 (pa_cons (pv 1) (pa_cons pe_int pa_nil)))) pa_nil))))))
    (pss_cons (ps_for PassesOwn.never rfl (pi_range1 rfl T.z_range (pa_cons (pe_call (ok_law_draw T) (hr.mono (by decide)) (by rfl) T.g_law_draw T.F_law_draw.kp T.b_law_draw .nil pass0 (pa_cons (pv 1) (pa_cons pe_int pa_nil))) pa_nil)) (pg_name (i := 5) sc_law.nd rfl (.inl rfl)) (pss_one (ps_if (PW.pt (pw_and (pt_val (pe_callB call_isi (by rfl) T.z_isinstance (by decide +kernel) (pa_cons (pv 4) (pa_cons (pe_bltn (v := .ty "tuple") (by rfl) T.z_tuple (by decide +kernel) rfl) pa_nil)))) (pw_and (pt_cmpR op_gt (pe_callB call_len_seq (by rfl) T.z_len (by decide +kernel) (pa_cons (pv 4) pa_nil)) pe_int (nomark _)) (pw_and1 (pt_val (pe_callB (cr_all rfl) (by rfl) T.z_all (by decide +kernel) (pa_cons (pe_lc (own := [("_law_items_here", 7)]) (by rfl) sc_law.nd (pi_tup (pv 4)) (blkOk_by (own := [("_law_items_here", 7)]) (N := N_law) (sc := defScope s_law) (by decide +kernel)) (fun _ _ _ _ _ => (pg_name (i := 7) sc_law.nd rfl (.inl rfl))) (fun _ _ _ _ _ => pts_nil) (fun _ _ _ _ _ => (pe_callB (show CallR _ _ (rIsi K) from call_isi) (by rfl) T.z_isinstance (by decide +kernel) (pa_cons (pv 7) (pa_cons (pe_bltn (v := .ty "tuple") (by rfl) T.z_tuple (by decide +kernel) rfl) pa_nil))))) pa_nil))))))) (pss_one (ps_set (i := 4) sc_law.nd rfl (.inl rfl) (pe_call (ok_law_spoilt T) (hr.mono (by decide)) (by rfl) T.g_law_spoilt T.F_law_spoilt.kp T.b_law_spoilt .nil pass0 (pa_cons (pv 1) (pa_cons (pv 4) pa_nil))))) pss_nil)))
    (pss_cons (ps_set (i := 6) sc_law.nd rfl (.inl rfl) (pe_tup (pa_cons pe_str (pa_cons pe_bl pa_nil))))
    (Evl.pss_cut (ps_if (pt_val (pe_call (ok_law_are_arrivals T) (hr.mono (by decide)) (by rfl) T.g_law_are_arrivals T.F_law_are_arrivals.kp T.b_law_are_arrivals .nil pass0 (pa_cons (pv 4) pa_nil))) (pss_one (ps_set (i := 6) sc_law.nd rfl (.inl rfl) (pe_tup (pa_cons pe_str (pa_cons (pe_join pe_str (pe_lc (own := [("_law_items_here", 7)]) (by rfl) sc_law.nd (pi_tup (pv 4)) (blkOk_by (own := [("_law_items_here", 7)]) (N := N_law) (sc := defScope s_law) (by decide +kernel)) (fun _ _ _ _ _ => (pg_name (i := 7) sc_law.nd rfl (.inl rfl))) (fun _ _ _ _ _ => pts_nil) (fun _ _ _ _ _ => (pe_op (show OpR _ _ (fun x y H Q => ∃ i j, x = V.str i ∧ y = V.str j ∧ i.length + j.length ≤ sizeLine ∧ Q (.str (i ++ j)) H) from op_add_str) (pe_call (ok_law_beat_text (P := P) (w := w) T) (hr.mono (by decide)) (by rfl) T.g_law_beat_text T.F_law_beat_text.kp T.b_law_beat_text .nil pass0 (pa_cons (pv 7) pa_nil)) pe_str)))) pa_nil))))) pss_nil)
    (pss_one (ps_if (pt_cmpR (op_neD hr.units) (pe_call (ok_law_told T) (hr.mono (by decide)) (by rfl) T.g_law_told T.F_law_told.kp T.b_law_told .nil pass0 (pa_cons (pv 4) pa_nil)) (pv 6) (nomark _)) (pss_one (ps_ret pe_bl)) pss_nil)))))))
    (pss_one (ps_ret (pe_cmpR (op_eqD hr.units) (pe_call (ok_law_told T) (hr.mono (by decide)) (by rfl) T.g_law_told T.F_law_told.kp T.b_law_told .nil pass0 (pa_cons (pe_tup pa_nil) pa_nil)) (pe_tup (pa_cons pe_str (pa_cons pe_str pa_nil))) (nomark _))))))), ?_⟩
    refine ⟨_, rfl, sa, ns, rfl, hS, fun H1 h g s1 _ _ a1 => ?_⟩
    refine ⟨_, rfl, by show 2 ≤ sizeLine; decide, fun l0 nl0 => ?_⟩
    obtain ⟨H2, x2, s2, e2⟩ := newH nl0 (o := .lst [.int 3, .int 12])
    rw [x2]
    clear x2
    have a2 := a1.same s2
    have l0h := ne_deck a1 (fun _ _ e => e) nl0
    refine ⟨_, rfl, h, g, 2, rfl, a2, by decide, by decide, fun H3 d b3 a3 d0 d1 => ?_⟩
    have e3 : H3 l0 = some (.lst [.int 3, .int 12]) := by rw [b3 l0 l0h]; exact e2
    obtain ⟨v, hv, hat⟩ := pick_at (n := 2) (xs := [V.int 3, V.int 12]) rfl d0 d1
    obtain ⟨m, rfl, m0, m1⟩ : ∃ m, v = .int m ∧ 1 ≤ m ∧ m ≤ 12 := by
      rcases List.mem_cons.mp hv with z | hv
      · exact ⟨3, z, by decide, by decide⟩
      · rw [List.mem_singleton] at hv
        exact ⟨12, hv, by decide, by decide⟩
    refine ⟨l0, _, d, _, rfl, rfl, SqL.of e3, hat, h, g, m, rfl, a3, by omega, by omega, fun H4 d4 b4 a4 d40 d41 => ⟨1, d4, rfl, rfl, ?_⟩⟩
    obtain ⟨n, hn2⟩ : ∃ n : Nat, 1 + d4 = (n : Int) := ⟨(1 + d4).toNat, by omega⟩
    show gName 2 (V.int (1 + d4)) _ _ _
    rw [hn2]
    have n1 : 1 ≤ n := by omega
    have n12 : n ≤ 12 := by omega
    clear hn2 d40 d41 hat hv e3 b3 b4 e2 a2 a3
    refine ⟨5, rfl, by decide, by decide, ?_⟩
    refine for_range (lo := 0) (n := (5 : Int).toNat) (fun i σ H' => ∃ y3 y4 y5 y6 : Option V, σ = [some (.ref sa), some (.ref h), some (.int (n : Int)), y3, y4, y5, y6, none] ∧ DeckAt H' h g) ⟨_, _, _, _, rfl, a4⟩ ?_ ?_
    · rintro i σ H5 hi ⟨y3, y4, y5, y6, rfl, a5⟩
      refine ⟨_, rfl, _, rfl, _, rfl, h, g, 4, rfl, a5, by decide, by decide, fun H6 d6 b6 a6 d60 d61 => ⟨1, d6, rfl, rfl, ?_⟩⟩
      obtain ⟨bt, hb2⟩ : ∃ b : Nat, 1 + d6 = (b : Int) := ⟨(1 + d6).toNat, by omega⟩
      refine ⟨h, g, n, bt, by show [V.ref h, V.int (n : Int), V.int 3, V.int (1 + d6)] = _; rw [hb2], a6, n1, n12, by omega, fun H7 v ds k7 a7 iv ld _ alt sh => ?_⟩
      have sh0 : Sh (bd 0) (.tup ds) := .tup (by show ds.length ≤ 12; omega) sh
      clear sh alt ld hb2 k7
      refine ⟨_, rfl, h, g, 3, rfl, a7, by decide, by decide, fun H8 d8 b8 a8 d80 d81 => ⟨d8, rfl, by omega, by omega, ?_⟩⟩
      have iv8 : Is h H8 v (.tup ds) := iv.mv (Mv.of b8.kp) a7.lst
      refine for_range (lo := 0) (n := d8.toNat) (fun j σ H' => ∃ (y5 : Option V) (v : V) (d : Td), σ = [some (.ref sa), some (.ref h), some (.int (n : Int)), some (.int (0 + (i : Int))), some v, y5, y6, none] ∧ DeckAt H' h g ∧ Is h H' v d ∧ Sh (bd j) d) ⟨_, v, .tup ds, rfl, a8, iv8, sh0⟩ ?_ ?_
      · rintro j σ H9 hj ⟨y5, v, d, rfl, a9, iv, sh⟩
        have j2 : j < 2 := by omega
        obtain ⟨b12, _, bn, b400⟩ := bd_le j
        obtain ⟨b400, beq⟩ := b400 j2
        have shn := sh.mono bn
        obtain ⟨t, ty, _, _, e3⟩ := is_ty T iv
        refine ⟨_, rfl, _, _, _, _, _, rfl, .ty "tuple", ty, e3, _, rfl, ?_⟩
        cases c : isT d with
        | false => exact iteF (iteF ⟨_, v, d, rfl, a9, iv, shn⟩)
        | true =>
          obtain ⟨a, xs, es, rfl, rfl, ha, hl⟩ := isT_of iv c
          have lx := hl.len
          have ll := sh.len
          refine iteT ⟨_, rfl, a, xs, rfl, .inr (SqT.of ha), _, _, rfl, rfl, _, rfl, ite2 (fun c1 => ?_) (fun _ => iteF ⟨_, _, _, rfl, a9, iv, shn⟩)⟩
          have c1 : (0 : Int) < (xs.length : Int) := of_decide_eq_true c1
          refine ⟨_, rfl, a, rfl, ⟨_, SqT.of ha⟩, fun D nD => ?_⟩
          refine lc_tup (K := K) (a := a) (xs := xs) (LP H9 D ((es.map isT).map V.bl)) (LP.start nD) (fun i H' _ p => SqT.of (p.1 _ _ ha)) ?_ ?_
          · rintro l y H' hl2 p
            obtain ⟨e, he, ie⟩ := hl.get hl2
            obtain ⟨te, tye, _, _, e3e⟩ := is_ty T (ie.same p.1)
            refine ⟨by kernel_rfl, ?_⟩
            refine ⟨_, rfl, _, _, _, _, _, rfl, .ty "tuple", tye, e3e, ?_⟩
            exact lcPut nD p (fun _ _ e => e) (map_at (map_at he)) (by rw [List.length_map, List.length_map]; omega)
          rintro HA ⟨sA, dA⟩
          rw [take_all (by rw [List.length_map, List.length_map]; exact lx)] at dA
          refine ⟨D, _, rfl, SqL.of dA, ?_⟩
          rw [List.all_map]
          have aA := a9.same sA
          have ivA := iv.same sA
          refine ⟨_, rfl, ?_⟩
          show if es.all isT = true then _ else _
          cases ca : es.all isT with
          | false => exact iteF ⟨_, _, _, rfl, aA, ivA, shn⟩
          | true =>
            refine iteT ⟨_, rfl, _, rfl, h, g, .ref a, es, bd j, rfl, aA, ivA, (by intro z; rw [z] at lx; rw [lx] at c1; exact absurd c1 (by decide)), ca, sh, b12, b400, fun HB v kB aB gB => ?_⟩
            obtain ⟨d, id, sd⟩ := gB
            rw [beq] at sd
            exact ⟨_, v, d, rfl, aB, id, sd⟩
      · rintro σ H9 ⟨y5, v, d, rfl, a9, iv, sh⟩
        have sh := sh.mono (bd_le d8.toNat).2.1
        refine ⟨by show 2 ≤ sizeLine; decide, fun p0 np0 => ?_⟩
        have s0 := same_upd np0 (o := .tup [.str "none", .bl true])
        have e0 : (upd H9 p0 (.tup [.str "none", .bl true])) p0 = some (.tup [.str "none", .bl true]) := upd_same
        have a10 := a9.same s0
        have iv10 := iv.same s0
        generalize upd H9 p0 (.tup [.str "none", .bl true]) = HA at e0 a10 iv10 ⊢
        refine ⟨fun σ' H' => ∃ q : Addr, σ' = [some (.ref sa), some (.ref h), some (.int (n : Int)), some (.int (0 + (i : Int))), some v, y5, some (.ref q), none] ∧ DeckAt H' h g ∧ Is h H' v d ∧ H' q = some (.tup (ansV d)), ?_, ?_⟩
        · refine ⟨_, rfl, v, d, h, rfl, iv10, fun ds ed es he => ?_, fun HB sB => ⟨_, rfl, ?_⟩⟩
          · subst ed
            have := (sh.item he).len
            omega
          have eq : ansV d = if textB d = true then [.str "text", .str (txT d)] else [.str "none", .bl true] := rfl
          cases c : textB d with
          | false =>
            rw [c, if_neg (by decide)] at eq
            exact iteF ⟨p0, rfl, a10.same sB, iv10.same sB, by rw [eq]; exact sB _ _ e0⟩
          | true =>
            rw [c, if_pos rfl] at eq
            obtain ⟨nn, ds, rfl, rw_⟩ := rows_of c
            have ivB := iv10.same sB
            obtain ⟨a, xs, ds', rfl, ed, ha, hl⟩ := isT_of ivB rfl
            cases ed
            have l3 := hl.len
            have few := rw_.few
            have vl : ((ds.map fun r => rowT r ++ "\n").map V.str).length = ds.length := by rw [List.length_map, List.length_map]
            refine iteT ⟨⟨_, rfl⟩, _, rfl, a, rfl, ⟨_, SqT.of ha⟩, fun D nD => ?_⟩
            refine lc_tup (K := K) (a := a) (xs := xs) (LP HB D ((ds.map fun r => rowT r ++ "\n").map V.str)) (LP.start nD) (fun i H' _ p => SqT.of (p.1 _ _ ha)) ?_ ?_
            · rintro l y H' hl2 p
              obtain ⟨e, he, ie⟩ := hl.get hl2
              obtain ⟨es, rfl, le, ce⟩ := rw_.row e (List.mem_of_getElem? he)
              have h1 := rowT_len rw_.n12 ce le
              have h4 : ("\n" : Str).length = 1 := by decide +kernel
              refine ⟨by kernel_rfl, ?_⟩
              refine ⟨_, rfl, y, es, h, nn, rfl, ie.same p.1, rw_.n12, le, ce, fun H2 s2 => ⟨_, _, rfl, rfl, Nat.le_trans (show (rowT (.tup es)).length + ("\n" : Str).length ≤ 1000 by omega) (by decide), ?_⟩⟩
              exact lcPut nD p s2 (map_at (map_at he)) (by rw [vl]; omega)
            rintro HC ⟨sC, dC⟩
            rw [take_all (by rw [vl]; exact l3)] at dC
            refine ⟨"", D, ds.map fun r => rowT r ++ "\n", rfl, rfl, .inl (SqL.of dC), (txT_len rw_).2, ?_⟩
            refine ⟨by show 2 ≤ sizeLine; decide, fun q nq => ?_⟩
            have s9 := sC.trans (same_upd nq (o := .tup [.str "text", .str (txT (.tup ds))]))
            exact ⟨q, rfl, (a10.same sB).same s9, ivB.same s9, by rw [eq]; exact upd_same⟩
        · rintro σ' HB ⟨q, rfl, aB, ivB, eq⟩
          refine ⟨_, rfl, v, d, h, rfl, ivB, fun HC p sC eC => ⟨_, rfl, ansD d, ansD d, ans_dp eC, ans_dp (sC _ _ eq), ans_sh d, ans_sh d, ?_⟩⟩
          rw [SeqAt.eqv_refl _ (ans_lay d).1]
          exact ⟨false, rfl, iteF ⟨_, _, _, _, rfl, aB.same sC⟩⟩
    · rintro σ H5 ⟨y3, y4, y5, y6, rfl, a5⟩
      refine ⟨by show 0 ≤ sizeLine; decide, fun p0 np0 => ?_⟩
      refine ⟨.ref p0, .tup [], h, rfl, .tup upd_same .nil, fun H6 p s6 e6 => ⟨by show 2 ≤ sizeLine; decide, fun u nu => ?_⟩⟩
      have s7 := same_upd nu (o := .tup [.str "text", .str ""])
      have e7 : (upd H6 u (.tup [.str "text", .str ""])) u = some (.tup (ansV (.tup []))) := upd_same
      refine ⟨ansD (.tup []), ansD (.tup []), ans_dp (s7 _ _ e6), ans_dp e7, ans_sh _, ans_sh _, ?_⟩
      rw [SeqAt.eqv_refl _ (ans_lay _).1]
      exact kq _
end

theorem end_mk {l : PySem.W.OpenLaw} {w : World} {K : PySem.W.Frag} {mg : Str → Option Value} {fa f_law : Addr} {kV dc pm cd ct : Value} {an : Option Addr} (E : ∃ A : Adr, Top K mg A ∧ A.d_law = PySem.W.fnOf "law" "law" (defArgs s_law) (defBody s_law) (defScope s_law) .none kV dc pm an cd ct ∧ A.a_law = f_law) (hfa : mg "law" = some (.ref fa)) :
    ∃ fd : FuncData, (∀ (s : Shared) (v : Value), BindsTo s fd ⟨[v], []⟩ [("_law_script", v)]) ∧ ∀ base : Heap, K.In base → base.Ns mainGlobals mg → FnOk l.prog w K mg base CX0 14 fa fd ["_law_script"] (spLaw K) := by
  obtain ⟨A, T, ed, ea⟩ := E
  have e := hfa.symm.trans T.g_law
  cases e
  exact ⟨A.d_law, fun s v => by rw [ed]; exact .of_eq rfl, fun base _ _ => ok_law T⟩
theorem top_end {l : PySem.W.OpenLaw} {w : World} {K : PySem.W.Frag} {h : Heap} {mg : Str → Option Value} {fa : Addr} (X : K.In h) (G : h.Ns mainGlobals mg) (hfa : mg "law" = some (.ref fa))
    {f_is_integer : Addr} {od_is_integer an_is_integer : Option Addr} {sl_is_integer : Array (Option Value)} {oc_is_integer kV_is_integer dc_is_integer pm_is_integer cd_is_integer ct_is_integer : Value}
    {f_is_integer_from : Addr} {od_is_integer_from an_is_integer_from : Option Addr} {sl_is_integer_from : Array (Option Value)} {oc_is_integer_from kV_is_integer_from dc_is_integer_from pm_is_integer_from cd_is_integer_from ct_is_integer_from : Value}
    {f_is_number_below : Addr} {od_is_number_below an_is_number_below : Option Addr} {sl_is_number_below : Array (Option Value)} {oc_is_number_below kV_is_number_below dc_is_number_below pm_is_number_below cd_is_number_below ct_is_number_below : Value}
    {f_is_tuple_of : Addr} {od_is_tuple_of an_is_tuple_of : Option Addr} {sl_is_tuple_of : Array (Option Value)} {oc_is_tuple_of kV_is_tuple_of dc_is_tuple_of pm_is_tuple_of cd_is_tuple_of ct_is_tuple_of : Value}
    {f_is_lot_below : Addr} {od_is_lot_below an_is_lot_below : Option Addr} {sl_is_lot_below : Array (Option Value)} {oc_is_lot_below kV_is_lot_below dc_is_lot_below pm_is_lot_below cd_is_lot_below ct_is_lot_below : Value}
    {f_are_outs : Addr} {od_are_outs an_are_outs : Option Addr} {sl_are_outs : Array (Option Value)} {oc_are_outs kV_are_outs dc_are_outs pm_are_outs cd_are_outs ct_are_outs : Value}
    {f_is_arrival : Addr} {od_is_arrival an_is_arrival : Option Addr} {sl_is_arrival : Array (Option Value)} {oc_is_arrival kV_is_arrival dc_is_arrival pm_is_arrival cd_is_arrival ct_is_arrival : Value}
    {f_first_wrong_item : Addr} {od_first_wrong_item an_first_wrong_item : Option Addr} {sl_first_wrong_item : Array (Option Value)} {oc_first_wrong_item kV_first_wrong_item dc_first_wrong_item pm_first_wrong_item cd_first_wrong_item ct_first_wrong_item : Value}
    {f_arrivals_fault : Addr} {od_arrivals_fault an_arrivals_fault : Option Addr} {sl_arrivals_fault : Array (Option Value)} {oc_arrivals_fault kV_arrivals_fault dc_arrivals_fault pm_arrivals_fault cd_arrivals_fault ct_arrivals_fault : Value}
    {f_are_texted : Addr} {od_are_texted an_are_texted : Option Addr} {sl_are_texted : Array (Option Value)} {oc_are_texted kV_are_texted dc_are_texted pm_are_texted cd_are_texted ct_are_texted : Value}
    {f_item_text : Addr} {od_item_text an_item_text : Option Addr} {sl_item_text : Array (Option Value)} {oc_item_text kV_item_text dc_item_text pm_item_text cd_item_text ct_item_text : Value}
    {f_coming_text : Addr} {od_coming_text an_coming_text : Option Addr} {sl_coming_text : Array (Option Value)} {oc_coming_text kV_coming_text dc_coming_text pm_coming_text cd_coming_text ct_coming_text : Value}
    {f_arrivals_text : Addr} {od_arrivals_text an_arrivals_text : Option Addr} {sl_arrivals_text : Array (Option Value)} {oc_arrivals_text kV_arrivals_text dc_arrivals_text pm_arrivals_text cd_arrivals_text ct_arrivals_text : Value}
    {f_law_deck : Addr} {od_law_deck an_law_deck : Option Addr} {sl_law_deck : Array (Option Value)} {oc_law_deck kV_law_deck dc_law_deck pm_law_deck cd_law_deck ct_law_deck : Value}
    {f_law_mixed : Addr} {od_law_mixed an_law_mixed : Option Addr} {sl_law_mixed : Array (Option Value)} {oc_law_mixed kV_law_mixed dc_law_mixed pm_law_mixed cd_law_mixed ct_law_mixed : Value}
    {f_law_draw : Addr} {od_law_draw an_law_draw : Option Addr} {sl_law_draw : Array (Option Value)} {oc_law_draw kV_law_draw dc_law_draw pm_law_draw cd_law_draw ct_law_draw : Value}
    {f_law_outs : Addr} {od_law_outs an_law_outs : Option Addr} {sl_law_outs : Array (Option Value)} {oc_law_outs kV_law_outs dc_law_outs pm_law_outs cd_law_outs ct_law_outs : Value}
    {f_law_items : Addr} {od_law_items an_law_items : Option Addr} {sl_law_items : Array (Option Value)} {oc_law_items kV_law_items dc_law_items pm_law_items cd_law_items ct_law_items : Value}
    {f_law_arrivals : Addr} {od_law_arrivals an_law_arrivals : Option Addr} {sl_law_arrivals : Array (Option Value)} {oc_law_arrivals kV_law_arrivals dc_law_arrivals pm_law_arrivals cd_law_arrivals ct_law_arrivals : Value}
    {f_law_arrival_text : Addr} {od_law_arrival_text an_law_arrival_text : Option Addr} {sl_law_arrival_text : Array (Option Value)} {oc_law_arrival_text kV_law_arrival_text dc_law_arrival_text pm_law_arrival_text cd_law_arrival_text ct_law_arrival_text : Value}
    {f_law_beat_text : Addr} {od_law_beat_text an_law_beat_text : Option Addr} {sl_law_beat_text : Array (Option Value)} {oc_law_beat_text kV_law_beat_text dc_law_beat_text pm_law_beat_text cd_law_beat_text ct_law_beat_text : Value}
    {f_law_is_within : Addr} {od_law_is_within an_law_is_within : Option Addr} {sl_law_is_within : Array (Option Value)} {oc_law_is_within kV_law_is_within dc_law_is_within pm_law_is_within cd_law_is_within ct_law_is_within : Value}
    {f_law_is_item : Addr} {od_law_is_item an_law_is_item : Option Addr} {sl_law_is_item : Array (Option Value)} {oc_law_is_item kV_law_is_item dc_law_is_item pm_law_is_item cd_law_is_item ct_law_is_item : Value}
    {f_law_are_arrivals : Addr} {od_law_are_arrivals an_law_are_arrivals : Option Addr} {sl_law_are_arrivals : Array (Option Value)} {oc_law_are_arrivals kV_law_are_arrivals dc_law_are_arrivals pm_law_are_arrivals cd_law_are_arrivals ct_law_are_arrivals : Value}
    {f_law_odd_item : Addr} {od_law_odd_item an_law_odd_item : Option Addr} {sl_law_odd_item : Array (Option Value)} {oc_law_odd_item kV_law_odd_item dc_law_odd_item pm_law_odd_item cd_law_odd_item ct_law_odd_item : Value}
    {f_law_spoilt : Addr} {od_law_spoilt an_law_spoilt : Option Addr} {sl_law_spoilt : Array (Option Value)} {oc_law_spoilt kV_law_spoilt dc_law_spoilt pm_law_spoilt cd_law_spoilt ct_law_spoilt : Value}
    {f_law_told : Addr} {od_law_told an_law_told : Option Addr} {sl_law_told : Array (Option Value)} {oc_law_told kV_law_told dc_law_told pm_law_told cd_law_told ct_law_told : Value}
    {f_law : Addr} {od_law an_law : Option Addr} {sl_law : Array (Option Value)} {oc_law kV_law dc_law pm_law cd_law ct_law : Value}
    {c_FabricError : Addr}
    {c_NoArrivals : Addr}
    {c_NoSaying : Addr}
    {t_MOST_LINES : Tok}
    {t_MOST_COPIES : Tok}
    {t_MOST_BEATS : Tok}
    {t_STREAMS : Tok}
    {t_KINDS : Tok}
    (ac_FabricError : PySem.W.nsIn K mainGlobals "FabricError" = some (some (.ref c_FabricError)))
    (ac_NoArrivals : PySem.W.nsIn K mainGlobals "NoArrivals" = some (some (.ref c_NoArrivals)))
    (ac_NoSaying : PySem.W.nsIn K mainGlobals "NoSaying" = some (some (.ref c_NoSaying)))
    (a_is_integer : PySem.W.nsIn K mainGlobals "is_integer" = some (some (.ref f_is_integer)))
    (l_is_integer : K.lookup f_is_integer = some ⟨oc_is_integer, od_is_integer, .func (PySem.W.fnOf "is_integer" "is_integer" (defArgs s_is_integer) (defBody s_is_integer) (defScope s_is_integer) .none kV_is_integer dc_is_integer pm_is_integer an_is_integer cd_is_integer ct_is_integer), sl_is_integer⟩)
    (q_is_integer : PySem.W.codeIn K cd_is_integer "is_integer" = true)
    (p_is_integer : PySem.W.keepIn K (.ref f_is_integer) = true)
    (a_is_integer_from : PySem.W.nsIn K mainGlobals "is_integer_from" = some (some (.ref f_is_integer_from)))
    (l_is_integer_from : K.lookup f_is_integer_from = some ⟨oc_is_integer_from, od_is_integer_from, .func (PySem.W.fnOf "is_integer_from" "is_integer_from" (defArgs s_is_integer_from) (defBody s_is_integer_from) (defScope s_is_integer_from) .none kV_is_integer_from dc_is_integer_from pm_is_integer_from an_is_integer_from cd_is_integer_from ct_is_integer_from), sl_is_integer_from⟩)
    (q_is_integer_from : PySem.W.codeIn K cd_is_integer_from "is_integer_from" = true)
    (p_is_integer_from : PySem.W.keepIn K (.ref f_is_integer_from) = true)
    (a_is_number_below : PySem.W.nsIn K mainGlobals "is_number_below" = some (some (.ref f_is_number_below)))
    (l_is_number_below : K.lookup f_is_number_below = some ⟨oc_is_number_below, od_is_number_below, .func (PySem.W.fnOf "is_number_below" "is_number_below" (defArgs s_is_number_below) (defBody s_is_number_below) (defScope s_is_number_below) .none kV_is_number_below dc_is_number_below pm_is_number_below an_is_number_below cd_is_number_below ct_is_number_below), sl_is_number_below⟩)
    (q_is_number_below : PySem.W.codeIn K cd_is_number_below "is_number_below" = true)
    (p_is_number_below : PySem.W.keepIn K (.ref f_is_number_below) = true)
    (a_is_tuple_of : PySem.W.nsIn K mainGlobals "is_tuple_of" = some (some (.ref f_is_tuple_of)))
    (l_is_tuple_of : K.lookup f_is_tuple_of = some ⟨oc_is_tuple_of, od_is_tuple_of, .func (PySem.W.fnOf "is_tuple_of" "is_tuple_of" (defArgs s_is_tuple_of) (defBody s_is_tuple_of) (defScope s_is_tuple_of) .none kV_is_tuple_of dc_is_tuple_of pm_is_tuple_of an_is_tuple_of cd_is_tuple_of ct_is_tuple_of), sl_is_tuple_of⟩)
    (q_is_tuple_of : PySem.W.codeIn K cd_is_tuple_of "is_tuple_of" = true)
    (p_is_tuple_of : PySem.W.keepIn K (.ref f_is_tuple_of) = true)
    (a_is_lot_below : PySem.W.nsIn K mainGlobals "is_lot_below" = some (some (.ref f_is_lot_below)))
    (l_is_lot_below : K.lookup f_is_lot_below = some ⟨oc_is_lot_below, od_is_lot_below, .func (PySem.W.fnOf "is_lot_below" "is_lot_below" (defArgs s_is_lot_below) (defBody s_is_lot_below) (defScope s_is_lot_below) .none kV_is_lot_below dc_is_lot_below pm_is_lot_below an_is_lot_below cd_is_lot_below ct_is_lot_below), sl_is_lot_below⟩)
    (q_is_lot_below : PySem.W.codeIn K cd_is_lot_below "is_lot_below" = true)
    (p_is_lot_below : PySem.W.keepIn K (.ref f_is_lot_below) = true)
    (a_are_outs : PySem.W.nsIn K mainGlobals "are_outs" = some (some (.ref f_are_outs)))
    (l_are_outs : K.lookup f_are_outs = some ⟨oc_are_outs, od_are_outs, .func (PySem.W.fnOf "are_outs" "are_outs" (defArgs s_are_outs) (defBody s_are_outs) (defScope s_are_outs) .none kV_are_outs dc_are_outs pm_are_outs an_are_outs cd_are_outs ct_are_outs), sl_are_outs⟩)
    (q_are_outs : PySem.W.codeIn K cd_are_outs "are_outs" = true)
    (p_are_outs : PySem.W.keepIn K (.ref f_are_outs) = true)
    (a_is_arrival : PySem.W.nsIn K mainGlobals "is_arrival" = some (some (.ref f_is_arrival)))
    (l_is_arrival : K.lookup f_is_arrival = some ⟨oc_is_arrival, od_is_arrival, .func (PySem.W.fnOf "is_arrival" "is_arrival" (defArgs s_is_arrival) (defBody s_is_arrival) (defScope s_is_arrival) .none kV_is_arrival dc_is_arrival pm_is_arrival an_is_arrival cd_is_arrival ct_is_arrival), sl_is_arrival⟩)
    (q_is_arrival : PySem.W.codeIn K cd_is_arrival "is_arrival" = true)
    (p_is_arrival : PySem.W.keepIn K (.ref f_is_arrival) = true)
    (a_first_wrong_item : PySem.W.nsIn K mainGlobals "first_wrong_item" = some (some (.ref f_first_wrong_item)))
    (l_first_wrong_item : K.lookup f_first_wrong_item = some ⟨oc_first_wrong_item, od_first_wrong_item, .func (PySem.W.fnOf "first_wrong_item" "first_wrong_item" (defArgs s_first_wrong_item) (defBody s_first_wrong_item) (defScope s_first_wrong_item) .none kV_first_wrong_item dc_first_wrong_item pm_first_wrong_item an_first_wrong_item cd_first_wrong_item ct_first_wrong_item), sl_first_wrong_item⟩)
    (q_first_wrong_item : PySem.W.codeIn K cd_first_wrong_item "first_wrong_item" = true)
    (p_first_wrong_item : PySem.W.keepIn K (.ref f_first_wrong_item) = true)
    (a_arrivals_fault : PySem.W.nsIn K mainGlobals "arrivals_fault" = some (some (.ref f_arrivals_fault)))
    (l_arrivals_fault : K.lookup f_arrivals_fault = some ⟨oc_arrivals_fault, od_arrivals_fault, .func (PySem.W.fnOf "arrivals_fault" "arrivals_fault" (defArgs s_arrivals_fault) (defBody s_arrivals_fault) (defScope s_arrivals_fault) .none kV_arrivals_fault dc_arrivals_fault pm_arrivals_fault an_arrivals_fault cd_arrivals_fault ct_arrivals_fault), sl_arrivals_fault⟩)
    (q_arrivals_fault : PySem.W.codeIn K cd_arrivals_fault "arrivals_fault" = true)
    (p_arrivals_fault : PySem.W.keepIn K (.ref f_arrivals_fault) = true)
    (a_are_texted : PySem.W.nsIn K mainGlobals "are_texted" = some (some (.ref f_are_texted)))
    (l_are_texted : K.lookup f_are_texted = some ⟨oc_are_texted, od_are_texted, .func (PySem.W.fnOf "are_texted" "are_texted" (defArgs s_are_texted) (defBody s_are_texted) (defScope s_are_texted) .none kV_are_texted dc_are_texted pm_are_texted an_are_texted cd_are_texted ct_are_texted), sl_are_texted⟩)
    (q_are_texted : PySem.W.codeIn K cd_are_texted "are_texted" = true)
    (p_are_texted : PySem.W.keepIn K (.ref f_are_texted) = true)
    (a_item_text : PySem.W.nsIn K mainGlobals "item_text" = some (some (.ref f_item_text)))
    (l_item_text : K.lookup f_item_text = some ⟨oc_item_text, od_item_text, .func (PySem.W.fnOf "item_text" "item_text" (defArgs s_item_text) (defBody s_item_text) (defScope s_item_text) .none kV_item_text dc_item_text pm_item_text an_item_text cd_item_text ct_item_text), sl_item_text⟩)
    (q_item_text : PySem.W.codeIn K cd_item_text "item_text" = true)
    (p_item_text : PySem.W.keepIn K (.ref f_item_text) = true)
    (a_coming_text : PySem.W.nsIn K mainGlobals "coming_text" = some (some (.ref f_coming_text)))
    (l_coming_text : K.lookup f_coming_text = some ⟨oc_coming_text, od_coming_text, .func (PySem.W.fnOf "coming_text" "coming_text" (defArgs s_coming_text) (defBody s_coming_text) (defScope s_coming_text) .none kV_coming_text dc_coming_text pm_coming_text an_coming_text cd_coming_text ct_coming_text), sl_coming_text⟩)
    (q_coming_text : PySem.W.codeIn K cd_coming_text "coming_text" = true)
    (p_coming_text : PySem.W.keepIn K (.ref f_coming_text) = true)
    (a_arrivals_text : PySem.W.nsIn K mainGlobals "arrivals_text" = some (some (.ref f_arrivals_text)))
    (l_arrivals_text : K.lookup f_arrivals_text = some ⟨oc_arrivals_text, od_arrivals_text, .func (PySem.W.fnOf "arrivals_text" "arrivals_text" (defArgs s_arrivals_text) (defBody s_arrivals_text) (defScope s_arrivals_text) .none kV_arrivals_text dc_arrivals_text pm_arrivals_text an_arrivals_text cd_arrivals_text ct_arrivals_text), sl_arrivals_text⟩)
    (q_arrivals_text : PySem.W.codeIn K cd_arrivals_text "arrivals_text" = true)
    (p_arrivals_text : PySem.W.keepIn K (.ref f_arrivals_text) = true)
    (a_law_deck : PySem.W.nsIn K mainGlobals "_law_deck" = some (some (.ref f_law_deck)))
    (l_law_deck : K.lookup f_law_deck = some ⟨oc_law_deck, od_law_deck, .func (PySem.W.fnOf "_law_deck" "_law_deck" (defArgs s_law_deck) (defBody s_law_deck) (defScope s_law_deck) .none kV_law_deck dc_law_deck pm_law_deck an_law_deck cd_law_deck ct_law_deck), sl_law_deck⟩)
    (q_law_deck : PySem.W.codeIn K cd_law_deck "_law_deck" = true)
    (p_law_deck : PySem.W.keepIn K (.ref f_law_deck) = true)
    (a_law_mixed : PySem.W.nsIn K mainGlobals "_law_mixed" = some (some (.ref f_law_mixed)))
    (l_law_mixed : K.lookup f_law_mixed = some ⟨oc_law_mixed, od_law_mixed, .func (PySem.W.fnOf "_law_mixed" "_law_mixed" (defArgs s_law_mixed) (defBody s_law_mixed) (defScope s_law_mixed) .none kV_law_mixed dc_law_mixed pm_law_mixed an_law_mixed cd_law_mixed ct_law_mixed), sl_law_mixed⟩)
    (q_law_mixed : PySem.W.codeIn K cd_law_mixed "_law_mixed" = true)
    (p_law_mixed : PySem.W.keepIn K (.ref f_law_mixed) = true)
    (a_law_draw : PySem.W.nsIn K mainGlobals "_law_draw" = some (some (.ref f_law_draw)))
    (l_law_draw : K.lookup f_law_draw = some ⟨oc_law_draw, od_law_draw, .func (PySem.W.fnOf "_law_draw" "_law_draw" (defArgs s_law_draw) (defBody s_law_draw) (defScope s_law_draw) .none kV_law_draw dc_law_draw pm_law_draw an_law_draw cd_law_draw ct_law_draw), sl_law_draw⟩)
    (q_law_draw : PySem.W.codeIn K cd_law_draw "_law_draw" = true)
    (p_law_draw : PySem.W.keepIn K (.ref f_law_draw) = true)
    (a_law_outs : PySem.W.nsIn K mainGlobals "_law_outs" = some (some (.ref f_law_outs)))
    (l_law_outs : K.lookup f_law_outs = some ⟨oc_law_outs, od_law_outs, .func (PySem.W.fnOf "_law_outs" "_law_outs" (defArgs s_law_outs) (defBody s_law_outs) (defScope s_law_outs) .none kV_law_outs dc_law_outs pm_law_outs an_law_outs cd_law_outs ct_law_outs), sl_law_outs⟩)
    (q_law_outs : PySem.W.codeIn K cd_law_outs "_law_outs" = true)
    (p_law_outs : PySem.W.keepIn K (.ref f_law_outs) = true)
    (a_law_items : PySem.W.nsIn K mainGlobals "_law_items" = some (some (.ref f_law_items)))
    (l_law_items : K.lookup f_law_items = some ⟨oc_law_items, od_law_items, .func (PySem.W.fnOf "_law_items" "_law_items" (defArgs s_law_items) (defBody s_law_items) (defScope s_law_items) .none kV_law_items dc_law_items pm_law_items an_law_items cd_law_items ct_law_items), sl_law_items⟩)
    (q_law_items : PySem.W.codeIn K cd_law_items "_law_items" = true)
    (p_law_items : PySem.W.keepIn K (.ref f_law_items) = true)
    (a_law_arrivals : PySem.W.nsIn K mainGlobals "_law_arrivals" = some (some (.ref f_law_arrivals)))
    (l_law_arrivals : K.lookup f_law_arrivals = some ⟨oc_law_arrivals, od_law_arrivals, .func (PySem.W.fnOf "_law_arrivals" "_law_arrivals" (defArgs s_law_arrivals) (defBody s_law_arrivals) (defScope s_law_arrivals) .none kV_law_arrivals dc_law_arrivals pm_law_arrivals an_law_arrivals cd_law_arrivals ct_law_arrivals), sl_law_arrivals⟩)
    (q_law_arrivals : PySem.W.codeIn K cd_law_arrivals "_law_arrivals" = true)
    (p_law_arrivals : PySem.W.keepIn K (.ref f_law_arrivals) = true)
    (a_law_arrival_text : PySem.W.nsIn K mainGlobals "_law_arrival_text" = some (some (.ref f_law_arrival_text)))
    (l_law_arrival_text : K.lookup f_law_arrival_text = some ⟨oc_law_arrival_text, od_law_arrival_text, .func (PySem.W.fnOf "_law_arrival_text" "_law_arrival_text" (defArgs s_law_arrival_text) (defBody s_law_arrival_text) (defScope s_law_arrival_text) .none kV_law_arrival_text dc_law_arrival_text pm_law_arrival_text an_law_arrival_text cd_law_arrival_text ct_law_arrival_text), sl_law_arrival_text⟩)
    (q_law_arrival_text : PySem.W.codeIn K cd_law_arrival_text "_law_arrival_text" = true)
    (p_law_arrival_text : PySem.W.keepIn K (.ref f_law_arrival_text) = true)
    (a_law_beat_text : PySem.W.nsIn K mainGlobals "_law_beat_text" = some (some (.ref f_law_beat_text)))
    (l_law_beat_text : K.lookup f_law_beat_text = some ⟨oc_law_beat_text, od_law_beat_text, .func (PySem.W.fnOf "_law_beat_text" "_law_beat_text" (defArgs s_law_beat_text) (defBody s_law_beat_text) (defScope s_law_beat_text) .none kV_law_beat_text dc_law_beat_text pm_law_beat_text an_law_beat_text cd_law_beat_text ct_law_beat_text), sl_law_beat_text⟩)
    (q_law_beat_text : PySem.W.codeIn K cd_law_beat_text "_law_beat_text" = true)
    (p_law_beat_text : PySem.W.keepIn K (.ref f_law_beat_text) = true)
    (a_law_is_within : PySem.W.nsIn K mainGlobals "_law_is_within" = some (some (.ref f_law_is_within)))
    (l_law_is_within : K.lookup f_law_is_within = some ⟨oc_law_is_within, od_law_is_within, .func (PySem.W.fnOf "_law_is_within" "_law_is_within" (defArgs s_law_is_within) (defBody s_law_is_within) (defScope s_law_is_within) .none kV_law_is_within dc_law_is_within pm_law_is_within an_law_is_within cd_law_is_within ct_law_is_within), sl_law_is_within⟩)
    (q_law_is_within : PySem.W.codeIn K cd_law_is_within "_law_is_within" = true)
    (p_law_is_within : PySem.W.keepIn K (.ref f_law_is_within) = true)
    (a_law_is_item : PySem.W.nsIn K mainGlobals "_law_is_item" = some (some (.ref f_law_is_item)))
    (l_law_is_item : K.lookup f_law_is_item = some ⟨oc_law_is_item, od_law_is_item, .func (PySem.W.fnOf "_law_is_item" "_law_is_item" (defArgs s_law_is_item) (defBody s_law_is_item) (defScope s_law_is_item) .none kV_law_is_item dc_law_is_item pm_law_is_item an_law_is_item cd_law_is_item ct_law_is_item), sl_law_is_item⟩)
    (q_law_is_item : PySem.W.codeIn K cd_law_is_item "_law_is_item" = true)
    (p_law_is_item : PySem.W.keepIn K (.ref f_law_is_item) = true)
    (a_law_are_arrivals : PySem.W.nsIn K mainGlobals "_law_are_arrivals" = some (some (.ref f_law_are_arrivals)))
    (l_law_are_arrivals : K.lookup f_law_are_arrivals = some ⟨oc_law_are_arrivals, od_law_are_arrivals, .func (PySem.W.fnOf "_law_are_arrivals" "_law_are_arrivals" (defArgs s_law_are_arrivals) (defBody s_law_are_arrivals) (defScope s_law_are_arrivals) .none kV_law_are_arrivals dc_law_are_arrivals pm_law_are_arrivals an_law_are_arrivals cd_law_are_arrivals ct_law_are_arrivals), sl_law_are_arrivals⟩)
    (q_law_are_arrivals : PySem.W.codeIn K cd_law_are_arrivals "_law_are_arrivals" = true)
    (p_law_are_arrivals : PySem.W.keepIn K (.ref f_law_are_arrivals) = true)
    (a_law_odd_item : PySem.W.nsIn K mainGlobals "_law_odd_item" = some (some (.ref f_law_odd_item)))
    (l_law_odd_item : K.lookup f_law_odd_item = some ⟨oc_law_odd_item, od_law_odd_item, .func (PySem.W.fnOf "_law_odd_item" "_law_odd_item" (defArgs s_law_odd_item) (defBody s_law_odd_item) (defScope s_law_odd_item) .none kV_law_odd_item dc_law_odd_item pm_law_odd_item an_law_odd_item cd_law_odd_item ct_law_odd_item), sl_law_odd_item⟩)
    (q_law_odd_item : PySem.W.codeIn K cd_law_odd_item "_law_odd_item" = true)
    (p_law_odd_item : PySem.W.keepIn K (.ref f_law_odd_item) = true)
    (a_law_spoilt : PySem.W.nsIn K mainGlobals "_law_spoilt" = some (some (.ref f_law_spoilt)))
    (l_law_spoilt : K.lookup f_law_spoilt = some ⟨oc_law_spoilt, od_law_spoilt, .func (PySem.W.fnOf "_law_spoilt" "_law_spoilt" (defArgs s_law_spoilt) (defBody s_law_spoilt) (defScope s_law_spoilt) .none kV_law_spoilt dc_law_spoilt pm_law_spoilt an_law_spoilt cd_law_spoilt ct_law_spoilt), sl_law_spoilt⟩)
    (q_law_spoilt : PySem.W.codeIn K cd_law_spoilt "_law_spoilt" = true)
    (p_law_spoilt : PySem.W.keepIn K (.ref f_law_spoilt) = true)
    (a_law_told : PySem.W.nsIn K mainGlobals "_law_told" = some (some (.ref f_law_told)))
    (l_law_told : K.lookup f_law_told = some ⟨oc_law_told, od_law_told, .func (PySem.W.fnOf "_law_told" "_law_told" (defArgs s_law_told) (defBody s_law_told) (defScope s_law_told) .none kV_law_told dc_law_told pm_law_told an_law_told cd_law_told ct_law_told), sl_law_told⟩)
    (q_law_told : PySem.W.codeIn K cd_law_told "_law_told" = true)
    (p_law_told : PySem.W.keepIn K (.ref f_law_told) = true)
    (a_law : PySem.W.nsIn K mainGlobals "law" = some (some (.ref f_law)))
    (l_law : K.lookup f_law = some ⟨oc_law, od_law, .func (PySem.W.fnOf "law" "law" (defArgs s_law) (defBody s_law) (defScope s_law) .none kV_law dc_law pm_law an_law cd_law ct_law), sl_law⟩)
    (q_law : PySem.W.codeIn K cd_law "law" = true)
    (p_law : PySem.W.keepIn K (.ref f_law) = true)
    (x_NoArrivals : PySem.W.excIn K c_NoArrivals [.type "ValueError", .type "Exception", .type "BaseException", .type "object"] "ValueError.__new__" = true)
    (kp_NoArrivals : PySem.W.keepIn K (.ref c_NoArrivals) = true)
    (s_NoArrivals : PySem.W.subIn K (.ref c_NoArrivals) (.type "BaseException") = some true)
    (t_NoArrivals : PySem.W.typeIn K (.ref c_NoArrivals) = some (.type "type"))
    (e1_NoArrivals : PySem.W.findIn K (.ref c_NoArrivals) "__getattribute__" = some (some (.builtin "BaseException.__getattribute__")))
    (e2_NoArrivals : PySem.W.findIn K (.ref c_NoArrivals) "__getattr__" = some none)
    (e3_NoArrivals : PySem.W.hasDictIn K c_NoArrivals = true)
    (e4_NoArrivals : PySem.W.findIn K (.ref c_NoArrivals) "__class__" = some (some (.builtin "object.__class__")))
    (e5_NoArrivals : PySem.W.mroIn K c_NoArrivals (.type "object") = some true)
    (en1 : PySem.W.specialIn K (.builtin "object.__class__") "__get__" = some (some (.builtin "getset_descriptor.__get__")))
    (en2 : PySem.W.takesIn K (.builtin "object.__class__") = some true)
    (s_NoSaying : PySem.W.subIn K (.ref c_NoSaying) (.type "BaseException") = some true)
    (t_NoSaying : PySem.W.typeIn K (.ref c_NoSaying) = some (.type "type"))
    (e3_NoSaying : PySem.W.hasDictIn K c_NoSaying = true)
    (su_NoSaying_NoSaying : PySem.W.subIn K (.ref c_NoSaying) (.ref c_NoSaying) = some true)
    (s_FabricError : PySem.W.subIn K (.ref c_FabricError) (.type "BaseException") = some true)
    (t_FabricError : PySem.W.typeIn K (.ref c_FabricError) = some (.type "type"))
    (e3_FabricError : PySem.W.hasDictIn K c_FabricError = true)
    (su_FabricError_FabricError : PySem.W.subIn K (.ref c_FabricError) (.ref c_FabricError) = some true)
    (su_NoArrivals_NoArrivals : PySem.W.subIn K (.ref c_NoArrivals) (.ref c_NoArrivals) = some true)
    (su_NoArrivals_NoSaying : PySem.W.subIn K (.ref c_NoArrivals) (.ref c_NoSaying) = some false)
    (su_NoArrivals_FabricError : PySem.W.subIn K (.ref c_NoArrivals) (.ref c_FabricError) = some true)
    (k_MOST_LINES : PySem.W.nsIn K mainGlobals "MOST_LINES" = some (some (.int 12 t_MOST_LINES)))
    (k_MOST_COPIES : PySem.W.nsIn K mainGlobals "MOST_COPIES" = some (some (.int 3 t_MOST_COPIES)))
    (k_MOST_BEATS : PySem.W.nsIn K mainGlobals "MOST_BEATS" = some (some (.int 200 t_MOST_BEATS)))
    (k_STREAMS : PySem.W.nsIn K mainGlobals "STREAMS" = some (some (.int 100 t_STREAMS)))
    (k_KINDS : PySem.W.nsIn K mainGlobals "KINDS" = some (some (.int 8 t_KINDS)))
    (z_abs : PySem.W.nsIn K mainGlobals "abs" = some none)
    (z_all : PySem.W.nsIn K mainGlobals "all" = some none)
    (z_bool : PySem.W.nsIn K mainGlobals "bool" = some none)
    (z_enumerate : PySem.W.nsIn K mainGlobals "enumerate" = some none)
    (z_int : PySem.W.nsIn K mainGlobals "int" = some none)
    (z_isinstance : PySem.W.nsIn K mainGlobals "isinstance" = some none)
    (z_len : PySem.W.nsIn K mainGlobals "len" = some none)
    (z_list : PySem.W.nsIn K mainGlobals "list" = some none)
    (z_range : PySem.W.nsIn K mainGlobals "range" = some none)
    (z_sorted : PySem.W.nsIn K mainGlobals "sorted" = some none)
    (z_str : PySem.W.nsIn K mainGlobals "str" = some none)
    (z_tuple : PySem.W.nsIn K mainGlobals "tuple" = some none)
    : ∃ fd : FuncData, (∀ (s : Shared) (v : Value), BindsTo s fd ⟨[v], []⟩ [("_law_script", v)]) ∧ ∀ base : Heap, K.In base → base.Ns mainGlobals mg → FnOk l.prog w K mg base CX0 14 fa fd ["_law_script"] (spLaw K) :=
  end_mk (top_mk (l := l) (w := w) X G ac_FabricError ac_NoArrivals ac_NoSaying a_is_integer l_is_integer q_is_integer p_is_integer a_is_integer_from l_is_integer_from q_is_integer_from p_is_integer_from a_is_number_below l_is_number_below q_is_number_below p_is_number_below a_is_tuple_of l_is_tuple_of q_is_tuple_of p_is_tuple_of a_is_lot_below l_is_lot_below q_is_lot_below p_is_lot_below a_are_outs l_are_outs q_are_outs p_are_outs a_is_arrival l_is_arrival q_is_arrival p_is_arrival a_first_wrong_item l_first_wrong_item q_first_wrong_item p_first_wrong_item a_arrivals_fault l_arrivals_fault q_arrivals_fault p_arrivals_fault a_are_texted l_are_texted q_are_texted p_are_texted a_item_text l_item_text q_item_text p_item_text a_coming_text l_coming_text q_coming_text p_coming_text a_arrivals_text l_arrivals_text q_arrivals_text p_arrivals_text a_law_deck l_law_deck q_law_deck p_law_deck a_law_mixed l_law_mixed q_law_mixed p_law_mixed a_law_draw l_law_draw q_law_draw p_law_draw a_law_outs l_law_outs q_law_outs p_law_outs a_law_items l_law_items q_law_items p_law_items a_law_arrivals l_law_arrivals q_law_arrivals p_law_arrivals a_law_arrival_text l_law_arrival_text q_law_arrival_text p_law_arrival_text a_law_beat_text l_law_beat_text q_law_beat_text p_law_beat_text a_law_is_within l_law_is_within q_law_is_within p_law_is_within a_law_is_item l_law_is_item q_law_is_item p_law_is_item a_law_are_arrivals l_law_are_arrivals q_law_are_arrivals p_law_are_arrivals a_law_odd_item l_law_odd_item q_law_odd_item p_law_odd_item a_law_spoilt l_law_spoilt q_law_spoilt p_law_spoilt a_law_told l_law_told q_law_told p_law_told a_law l_law q_law p_law x_NoArrivals kp_NoArrivals s_NoArrivals t_NoArrivals e1_NoArrivals e2_NoArrivals e3_NoArrivals e4_NoArrivals e5_NoArrivals en1 en2 s_NoSaying t_NoSaying e3_NoSaying su_NoSaying_NoSaying s_FabricError t_FabricError e3_FabricError su_FabricError_FabricError su_NoArrivals_NoArrivals su_NoArrivals_NoSaying su_NoArrivals_FabricError k_MOST_LINES k_MOST_COPIES k_MOST_BEATS k_STREAMS k_KINDS z_abs z_all z_bool z_enumerate z_int z_isinstance z_len z_list z_range z_sorted z_str z_tuple) hfa

end KX
open PySem PySem.W PyProof.Rows in
set_option maxRecDepth 100000 in
set_option maxHeartbeats 0 in
theorem PySem.Challenge.cw_exactbeats_k81_arrivals_judged_as_texts_holds : PySem.Challenge.rw_exactbeats_k81_arrivals_judged_as_texts.Holds := by
  w_on; o_law; k_head; (case hw => w_witness2)
  k_fill
  refine L2.walk_of (l := PySem.Challenge.rw_exactbeats_k81_arrivals_judged_as_texts) (n := 63) (k := 14) (x := "_law_script") (CX := fun _ => L2.CX0) (sp := fun w => KX.spLaw _) rfl (by decide) rfl ⟨rfl, by decide, by decide⟩ (fun w h Y => PySem.W.kIn_of Y) ?F (fun _ _ a ns hl _ hS => ⟨a, ns, rfl, hS, hl, fun _ => rfl⟩) (fun _ _ _ _ _ h => h)
  case F =>
    intro w mg fa h KX_ G hmg
    refine' KX.top_end KX_ G hmg ?ac_FabricError ?ac_NoArrivals ?ac_NoSaying ?a_is_integer ?l_is_integer ?q_is_integer ?p_is_integer ?a_is_integer_from ?l_is_integer_from ?q_is_integer_from ?p_is_integer_from ?a_is_number_below ?l_is_number_below ?q_is_number_below ?p_is_number_below ?a_is_tuple_of ?l_is_tuple_of ?q_is_tuple_of ?p_is_tuple_of ?a_is_lot_below ?l_is_lot_below ?q_is_lot_below ?p_is_lot_below ?a_are_outs ?l_are_outs ?q_are_outs ?p_are_outs ?a_is_arrival ?l_is_arrival ?q_is_arrival ?p_is_arrival ?a_first_wrong_item ?l_first_wrong_item ?q_first_wrong_item ?p_first_wrong_item ?a_arrivals_fault ?l_arrivals_fault ?q_arrivals_fault ?p_arrivals_fault ?a_are_texted ?l_are_texted ?q_are_texted ?p_are_texted ?a_item_text ?l_item_text ?q_item_text ?p_item_text ?a_coming_text ?l_coming_text ?q_coming_text ?p_coming_text ?a_arrivals_text ?l_arrivals_text ?q_arrivals_text ?p_arrivals_text ?a_law_deck ?l_law_deck ?q_law_deck ?p_law_deck ?a_law_mixed ?l_law_mixed ?q_law_mixed ?p_law_mixed ?a_law_draw ?l_law_draw ?q_law_draw ?p_law_draw ?a_law_outs ?l_law_outs ?q_law_outs ?p_law_outs ?a_law_items ?l_law_items ?q_law_items ?p_law_items ?a_law_arrivals ?l_law_arrivals ?q_law_arrivals ?p_law_arrivals ?a_law_arrival_text ?l_law_arrival_text ?q_law_arrival_text ?p_law_arrival_text ?a_law_beat_text ?l_law_beat_text ?q_law_beat_text ?p_law_beat_text ?a_law_is_within ?l_law_is_within ?q_law_is_within ?p_law_is_within ?a_law_is_item ?l_law_is_item ?q_law_is_item ?p_law_is_item ?a_law_are_arrivals ?l_law_are_arrivals ?q_law_are_arrivals ?p_law_are_arrivals ?a_law_odd_item ?l_law_odd_item ?q_law_odd_item ?p_law_odd_item ?a_law_spoilt ?l_law_spoilt ?q_law_spoilt ?p_law_spoilt ?a_law_told ?l_law_told ?q_law_told ?p_law_told ?a_law ?l_law ?q_law ?p_law ?x_NoArrivals ?kp_NoArrivals ?s_NoArrivals ?t_NoArrivals ?e1_NoArrivals ?e2_NoArrivals ?e3_NoArrivals ?e4_NoArrivals ?e5_NoArrivals ?en1 ?en2 ?s_NoSaying ?t_NoSaying ?e3_NoSaying ?su_NoSaying_NoSaying ?s_FabricError ?t_FabricError ?e3_FabricError ?su_FabricError_FabricError ?su_NoArrivals_NoArrivals ?su_NoArrivals_NoSaying ?su_NoArrivals_FabricError ?k_MOST_LINES ?k_MOST_COPIES ?k_MOST_BEATS ?k_STREAMS ?k_KINDS ?z_abs ?z_all ?z_bool ?z_enumerate ?z_int ?z_isinstance ?z_len ?z_list ?z_range ?z_sorted ?z_str ?z_tuple
    (case ac_FabricError => k_is)
    (case ac_NoArrivals => k_is)
    (case ac_NoSaying => k_is)
    (case a_is_integer => k_is)
    (case l_is_integer => k_is)
    (case q_is_integer => k_is)
    (case p_is_integer => k_is)
    (case a_is_integer_from => k_is)
    (case l_is_integer_from => k_is)
    (case q_is_integer_from => k_is)
    (case p_is_integer_from => k_is)
    (case a_is_number_below => k_is)
    (case l_is_number_below => k_is)
    (case q_is_number_below => k_is)
    (case p_is_number_below => k_is)
    (case a_is_tuple_of => k_is)
    (case l_is_tuple_of => k_is)
    (case q_is_tuple_of => k_is)
    (case p_is_tuple_of => k_is)
    (case a_is_lot_below => k_is)
    (case l_is_lot_below => k_is)
    (case q_is_lot_below => k_is)
    (case p_is_lot_below => k_is)
    (case a_are_outs => k_is)
    (case l_are_outs => k_is)
    (case q_are_outs => k_is)
    (case p_are_outs => k_is)
    (case a_is_arrival => k_is)
    (case l_is_arrival => k_is)
    (case q_is_arrival => k_is)
    (case p_is_arrival => k_is)
    (case a_first_wrong_item => k_is)
    (case l_first_wrong_item => k_is)
    (case q_first_wrong_item => k_is)
    (case p_first_wrong_item => k_is)
    (case a_arrivals_fault => k_is)
    (case l_arrivals_fault => k_is)
    (case q_arrivals_fault => k_is)
    (case p_arrivals_fault => k_is)
    (case a_are_texted => k_is)
    (case l_are_texted => k_is)
    (case q_are_texted => k_is)
    (case p_are_texted => k_is)
    (case a_item_text => k_is)
    (case l_item_text => k_is)
    (case q_item_text => k_is)
    (case p_item_text => k_is)
    (case a_coming_text => k_is)
    (case l_coming_text => k_is)
    (case q_coming_text => k_is)
    (case p_coming_text => k_is)
    (case a_arrivals_text => k_is)
    (case l_arrivals_text => k_is)
    (case q_arrivals_text => k_is)
    (case p_arrivals_text => k_is)
    (case a_law_deck => k_is)
    (case l_law_deck => k_is)
    (case q_law_deck => k_is)
    (case p_law_deck => k_is)
    (case a_law_mixed => k_is)
    (case l_law_mixed => k_is)
    (case q_law_mixed => k_is)
    (case p_law_mixed => k_is)
    (case a_law_draw => k_is)
    (case l_law_draw => k_is)
    (case q_law_draw => k_is)
    (case p_law_draw => k_is)
    (case a_law_outs => k_is)
    (case l_law_outs => k_is)
    (case q_law_outs => k_is)
    (case p_law_outs => k_is)
    (case a_law_items => k_is)
    (case l_law_items => k_is)
    (case q_law_items => k_is)
    (case p_law_items => k_is)
    (case a_law_arrivals => k_is)
    (case l_law_arrivals => k_is)
    (case q_law_arrivals => k_is)
    (case p_law_arrivals => k_is)
    (case a_law_arrival_text => k_is)
    (case l_law_arrival_text => k_is)
    (case q_law_arrival_text => k_is)
    (case p_law_arrival_text => k_is)
    (case a_law_beat_text => k_is)
    (case l_law_beat_text => k_is)
    (case q_law_beat_text => k_is)
    (case p_law_beat_text => k_is)
    (case a_law_is_within => k_is)
    (case l_law_is_within => k_is)
    (case q_law_is_within => k_is)
    (case p_law_is_within => k_is)
    (case a_law_is_item => k_is)
    (case l_law_is_item => k_is)
    (case q_law_is_item => k_is)
    (case p_law_is_item => k_is)
    (case a_law_are_arrivals => k_is)
    (case l_law_are_arrivals => k_is)
    (case q_law_are_arrivals => k_is)
    (case p_law_are_arrivals => k_is)
    (case a_law_odd_item => k_is)
    (case l_law_odd_item => k_is)
    (case q_law_odd_item => k_is)
    (case p_law_odd_item => k_is)
    (case a_law_spoilt => k_is)
    (case l_law_spoilt => k_is)
    (case q_law_spoilt => k_is)
    (case p_law_spoilt => k_is)
    (case a_law_told => k_is)
    (case l_law_told => k_is)
    (case q_law_told => k_is)
    (case p_law_told => k_is)
    (case a_law => k_is)
    (case l_law => k_is)
    (case q_law => k_is)
    (case p_law => k_is)
    (case x_NoArrivals => k_exc)
    (case kp_NoArrivals => k_is)
    (case s_NoArrivals => k_is)
    (case t_NoArrivals => k_is)
    (case e1_NoArrivals => k_is)
    (case e2_NoArrivals => k_is)
    (case e3_NoArrivals => k_is)
    (case e4_NoArrivals => k_is)
    (case e5_NoArrivals => k_is)
    (case en1 => k_is)
    (case en2 => k_is)
    (case s_NoSaying => k_is)
    (case t_NoSaying => k_is)
    (case e3_NoSaying => k_is)
    (case su_NoSaying_NoSaying => k_is)
    (case s_FabricError => k_is)
    (case t_FabricError => k_is)
    (case e3_FabricError => k_is)
    (case su_FabricError_FabricError => k_is)
    (case su_NoArrivals_NoArrivals => k_is)
    (case su_NoArrivals_NoSaying => k_is)
    (case su_NoArrivals_FabricError => k_is)
    (case k_MOST_LINES => k_is)
    (case k_MOST_COPIES => k_is)
    (case k_MOST_BEATS => k_is)
    (case k_STREAMS => k_is)
    (case k_KINDS => k_is)
    (case z_abs => k_is)
    (case z_all => k_is)
    (case z_bool => k_is)
    (case z_enumerate => k_is)
    (case z_int => k_is)
    (case z_isinstance => k_is)
    (case z_len => k_is)
    (case z_list => k_is)
    (case z_range => k_is)
    (case z_sorted => k_is)
    (case z_str => k_is)
    (case z_tuple => k_is)
