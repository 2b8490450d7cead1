import PyProof.Rows.All
import Wide.All
import OpenK.AllK
import Wide.FinOn
import HandS.ForMost
import HandS.IsInst
import HandS.More
import HandS.SetFor
import HandS.Evl
import HandS.Walk
import PyProof.Rows.CountFlat
import HandS.ForExc
import HandS.TryMany
import HandS.Small
import HandS.Style
import HandS.Lambda
import HandS.EndTab
import HandS.ExcIs
import KE.KNestM
import HandS.Zip
import HandS.TupAny
import HandS.Strs
import HandS.SortInts
import HandS.ExcInit
import HandS.ExcField
import KE.KExcIs
import KE.GoesMore
import PyProof.EnumMake
import PyProof.Draws
import PyProof.ReprRoads
import PyProof.CallFns
import PyProof.ReprLen
import PyProof.InstEq
import HandS.TupMul
import PySem.Challenge.RW_exactbeats_k01_cells_judged_and_alike
set_option Elab.async false
set_option linter.all false
set_option maxRecDepth 100000
set_option maxHeartbeats 4000000
/-! Rules that the layer lacks: an own exception made without arguments; what a lambda's call may raise. -/
namespace GX
open PySem PySem.Spec PyProof.Rows L2
section
variable {X : Cx}
/-- X(): an own exception class without an __init__ of its own, no argument -/
theorem pmk_own0 {C : Addr} {bmB : List Value} {B newId initId : String} {x : Str} {p pos : Pos} (FB : ExcBaseFacts B newId initId bmB) (hx : PySem.W.excIn X.K C bmB newId = true) (hm : X.mg x = some (.ref C)) (hk : PySem.W.keepIn X.K (.ref C) = true)
    (hR : Raises X (.ref C)) (hg : Gl X x) (hdb : (x == ("__debug__" : Str)) = false := by decide) : PMk X (.Call (.Name x p) [] [] pos) (fun _ H Q => Q (.ref C) none H) := by
  intro pins s σ H Q I h
  refine wpAny_Call_Name_kw (ld_glob I hg hm (PySem.W.callWith_K0 I.kIn hk ?_) hdb)
  obtain ⟨bm, N, nm, qn, bs, hdct, sn, sub, ab, col, dd, k0, k1, k2, k3, k5, mN, e1, e2, e3, tail⟩ := exc_obj I.kIn hx
  refine wpAny_call_exc_subT (rest := [] ++ []) FB tail e1 e2 e3 (fun h' e made => ?_)
  refine mk_of I made hR h ?_
  -- the new address is tracked by nothing
  cases q : H e with
  | none => rfl
  | some o =>
    have z := made.new
    obtain ⟨b, hb⟩ := objOk_get (I.hok e o q)
    rw [hb] at z
    cases z
/-- raising calls within a def's own body (or a lambda's) -/
theorem passX {E : XK} (h1 : X.stack = X.env :: X.outer) (h2 : X.env.frame = some X.env.locals) (h3 : X.ex = []) {E₁ : Value → Shared → Prop}
    (h4 : X.xe = fun e s' => wpAny (model X.prog X.w) X.A (leaving X.env e) (fun _ s'' => L2.CX X.prog X.w X.outer X.H_0 X.s_0 E e s'') E₁ s') : Passes (L2.CX X.prog X.w) X E :=
  passes_call (takes_of h1 h2 h3 h4) fun _ _ _ _ h => h
theorem takes_len {W : WX} (h : Takes X W) : Takes X (fun cls d σ H => σ.length = X.N.length → W cls d σ H) := fun u s' z => by
  obtain ⟨a, B, sI, pins, σ, H, cls, d, e1, I, r1, r2, r3, r4, r5, r6, r7⟩ := z
  exact h u s' ⟨a, B, sI, pins, σ, H, cls, d, e1, I, r1, r2, r3, r4, r5, r6, r7 I.len⟩
theorem call_isEg {a : Addr} {cls : Value} {d : Option Addr} {oe : Obj} {pn : List (Addr × Obj)} (hz : Zc cls d oe) (hf : ∃ vs, oe.data = Data.fields vs) :
    CallR (X.suite a ((a, oe) :: pn)) (.builtin "isinstance") (fun xs H Q => ∃ D, cls = .ref D ∧ d = none ∧ ExcC X.K D ∧ rIsE X.K D a xs H Q) := by
  intro pins s σ H xs us Q I r h
  obtain ⟨D, rfl, rfl, hE, h⟩ := h
  exact call_isE hE hz hf pins s σ H xs us Q I r h
/-- isinstance(e, c), e the error that the suite holds, with fields or without -/
theorem call_isEa {a : Addr} {cls : Value} {d : Option Addr} {oe : Obj} {pn : List (Addr × Obj)} (hz : Zc cls d oe) (hf : ∃ vs, oe.data = Data.fields vs) :
    CallR (X.suite a ((a, oe) :: pn)) (.builtin "isinstance") (fun xs H Q => ∃ D, cls = .ref D ∧ ExcC X.K D ∧ (d = none ∨ ∃ dd fs, d = some dd ∧ H dd = some (.xd fs)) ∧ rIsE X.K D a xs H Q) := by
  intro pins s σ H xs us Q I r h
  obtain ⟨D, rfl, C, hd, c, cv, b, rfl, hcv, e, q⟩ := h
  obtain ⟨u, u2, rfl, ru, ru2⟩ := r.two
  cases (show u = Value.ref a from ru)
  cases hcv _ ru2
  obtain ⟨there, _⟩ := I.pin (a, oe) (List.mem_append.mpr (.inl List.mem_cons_self))
  obtain ⟨vs, hv⟩ := hf
  have nc : PySem.W.notCls oe = true := by
    unfold PySem.W.notCls
    rw [hv]
  have od : ∃ od, PySem.W.InstAt s.heap a oe D od := by
    rcases hd with e1 | ⟨dd, fs, e1, e2⟩
    · subst e1
      exact ⟨none, there, hz.1, nc, by rw [hz.2]; trivial⟩
    · subst e1
      obtain ⟨mA, hns, _⟩ : ObjOk X.prog X.w H s.heap dd (.xd fs) := I.hok dd _ e2
      obtain ⟨od, ho, _⟩ := lookIn_ns hns
      exact ⟨some od, there, hz.1, nc, by rw [hz.2]; exact ho⟩
  obtain ⟨od, J⟩ := od
  have isC : (PySem.W.clsIn X.K D).isSome = true := by
    obtain ⟨cd, hc, _⟩ := PySem.W.any_some C.hd
    rw [hc] <;> rfl
  exact PySem.W.kia_one (PySem.W.kitx_exc isC C.hg C.hk C.hs C.ha C.hn C.ht C.hm) I.kIn J e (fun z => nomatch z) fun tk => ⟨.bl b, H, I.kept (t' := tk) fun _ _ z => z, rfl, q⟩
theorem exm_kit {K : PySem.W.Frag} {t c : Value} {b : Bool} (h : PySem.W.exmOne K t c = some b) : PySem.W.kitCls K t c = some b := by
  unfold PySem.W.exmOne at h
  split at h
  · exact h
  · cases h
theorem kit_yes {K : PySem.W.Frag} {t c : Value} (h : PySem.W.exmOne K t c = some true) : PySem.W.kitOne K t c = some true := by
  unfold PySem.W.kitOne
  split
  · rfl
  · exact exm_kit h
theorem kit_no {K : PySem.W.Frag} {D C : Addr} (h : PySem.W.exmOne K (.ref D) (.ref C) = some false) (self : PySem.W.subIn K (.ref C) (.ref C) = some true) (no : PySem.W.subIn K (.ref D) (.ref C) = some false) : PySem.W.kitOne K (.ref D) (.ref C) = some false := by
  unfold PySem.W.kitOne
  split
  · rename_i e
    have e2 : (Value.ref D) = .ref C := eq_of_beq e
    rw [e2, self] at no
    cases no
  · exact exm_kit h
theorem kit_bi {K : PySem.W.Frag} {D : Addr} {T : String} {b : Bool} (m : PySem.W.kitMeta T = true) (h : PySem.W.subIn K (.ref D) (.type T) = some b) : PySem.W.kitOne K (.ref D) (.type T) = some b := by
  unfold PySem.W.kitOne
  split
  · rename_i e
    have e2 : (Value.ref D) = .type T := eq_of_beq e
    cases e2
  · show (if PySem.W.kitMeta T = true then PySem.W.subIn K (.ref D) (.type T) else none) = some b
    rw [if_pos m]
    exact h
/-- a def of the text whose code is known -/
structure FunC (K : PySem.W.Frag) (x qual : Str) (st : Stmt) (f : Addr) (fd : FuncData) (c : Addr) : Prop where
  ex : ∃ oc od kV doc pm an ct osl, fd = PySem.W.fnOf x qual (defArgs st) (defBody st) (defScope st) .none kV doc pm an (.ref c) ct ∧ K.lookup f = some ⟨oc, od, .func fd, osl⟩ ∧ PySem.W.codeIn K (.ref c) qual = true
theorem FunC.ok {P : Program} {w : World} {K : PySem.W.Frag} {mg : Str → Option Value} {base : Heap} {x qual : Str} {st : Stmt} {f c : Addr} {fd : FuncData} {N ps : List Str} {k : Nat} {sp : Sp} (F : FunC K x qual st f fd c) (S : FnScope N ps (defScope st))
    (len : ∀ vs H Q E, sp vs H Q E → vs.length = ps.length)
    (hb : ∀ (A : Around) (outer : List Env) (s : Shared) (H : Hp) (vs : List V) (Q : VK) (E : XK), Room k (A.deeper (envOfC qual (defScope st) s.heap.objs.size f (.ref c))) → sp vs H Q E →
      ∃ t, PSs (cxOf L2.CX0 P w K mg base N qual (defScope st) f (.ref c) A outer s H E).nox (defBody st) t ∧ t { nx := fun _ H' => Q .non H', rt := Q } (L2.start N vs) H) : FnOk P w K mg base L2.CX0 (k + 1) f fd ps sp := by
  obtain ⟨oc, od, kV, doc, pm, an, ct, osl, rfl, lk, hcd⟩ := F.ex
  refine fn_of lk hcd S len fun A outer s H vs Q E hr h => ?_
  obtain ⟨t, h1, h2⟩ := hb A outer s H vs Q E hr h
  exact ⟨t, h1.nox, h2⟩
def tTru (K : PySem.W.Frag) (ta : TE) : L2.St → Hp → (Bool → Hp → Prop) → Prop := fun σ H Q => ta σ H fun x H' => ∃ k, TruV K x H' k ∧ Q k H'
def WL (n : Nat) (W : WX) : WX := fun cls d σ H => σ.length = n → W cls d σ H
def EE (n : Nat) (W : WX) : XK := fun cls d H => ∀ σ : L2.St, σ.length = n → W cls d σ H
/-- raising calls within a try's body -/
theorem passT (n : Nat) {W : WX} (tk : Takes X W) (hn : X.N.length = n := by rfl) : Passes (L2.CX X.prog X.w) X (EE n W) := passes_call (takes_len tk) fun cls d σ H h hl => h σ (hl.trans hn)
/-- f(lambda: e) -/
theorem pe_lam {T : List (Addr × Str)} {TT : (XK → Hp → VK → Prop) → Hp → VK → Prop} {x a : Str} {g c P : Addr} {fd : FuncData} {k : Nat} {st : Stmt} {Ng : List Str} {params : Arguments} {body : Expr} {scope : Scope} {t : XK → TE} {p lpos pos : Pos}
    (F : Fun X.K x x st g fd) (Sg : FnScope Ng [a] (defScope st)) (hg : Gl X x) (hm : X.mg x = some (.ref g)) (hb : Binds X.K fd [a] []) (hNg : Ng[0]? = some a) (hva : Vis (defScope st) a)
    (hG : ∀ cdv, LamX.GivesTo X Ng x (defScope st) g cdv (defBody st) a (X.env.qual ++ "<lambda>") TT) (TB : LamX.TabB X.base X.mg c P) (hcode : X.env.code = .ref c) (hmT : (P, X.env.qual ++ "<lambda>") ∈ T)
    (hu : ∀ p ∈ T, p.1 = P → p.2 = X.env.qual ++ "<lambda>") (hr : Room (k + 2) X.A) (L : LamX.LamS X.env.scope scope) (hdef : defaultsOf params X.env = ([], []))
    (hbind : ∀ (q : Str) (cl : List (Str × Addr)) (pm cv ctv : Value), bindArgs (PySem.W.kla_fn "<lambda>" q params body scope cl pm cv ctv) ⟨[], []⟩ = pure [])
    (hbody : ∀ (A : Around) (outer : List Env) (s : Shared) (H : Hp) (E : XK) (f c' : Addr), Room k (A.deeper (LamX.lamEnv X scope s.heap.objs.size f c')) → PE (LamX.lamCx X A outer s H E scope f c') body (t E))
    (h1 : (x == ("__debug__" : Str)) = false := by decide) (h2 : (a == ("__debug__" : Str)) = false := by decide) (h3 : (a == ("__classdict__" : Str)) = false := by decide) :
    PE X (.Call (.Name x p) [.Lambda params body scope lpos] [] pos) (LamX.tLam T TT t) := by
  obtain ⟨oc, od, kV, doc, pm, an, cdv, ct, osl, rfl, lk, hcd⟩ := F.ex
  exact LamX.pe_lamcall hg hm F.kp lk hcd hb Sg hNg hva (hG cdv) TB hcode hmT hu hr L hdef hbind hbody h1 h2 h3
end
end GX
namespace KX
open PySem PySem.Spec PyProof.Rows L2
section
variable {X : Cx}
/-- xs.count(True), xs a list of bools -/
def rCntB (K : PySem.W.Frag) : V → List V → Hp → VK → Prop := fun x xs H Q => ∃ (p : Addr) (bs : List Bool) (k : Bool), x = .ref p ∧ xs = [.bl k] ∧ SqL K H p (bs.map V.bl) ∧ Q (.int (bs.countP (fun b => b == k) : Nat)) H
theorem bools_of : ∀ {bs : List Bool} {its : List Value}, Vals (bs.map V.bl) its → its = bs.map Value.bool
  | [], _, .nil => rfl
  | b :: bs, _, .cons r t => by
    cases (show _ = Value.bool b from r)
    rw [bools_of t]
    rfl
theorem mt_count_bl : MtR X "list.count" (rCntB X.K) := by
  intro pins s σ H x xs v us Q I rx rxs h
  obtain ⟨p, bs, k, rfl, rfl, hs, q⟩ := h
  cases rx
  obtain ⟨u, rfl, ru⟩ := rxs.one
  cases (show u = Value.bool k from ru)
  obtain ⟨its, rv, ⟨⟨cls, dd, data, sl⟩, n, ho, hc, hdn, hd⟩, hlen⟩ := I.list hs
  simp only at hc hd
  subst hc hd
  have hi := bools_of rv
  refine call_meets PySem.F.slot_list_count ⟨_, ho, rfl⟩ PySem.F.entry_list_count (PySem.F.args_list_count_2 _ _)
    (SeqAt.list_countAt p its.toArray n dd sl (.bool k) (isBoolOf k)) ⟨ho, fun y hy => ?_, ?_⟩
  · have hy' : y ∈ its := by simpa using hy
    rw [hi] at hy'
    obtain ⟨b, _, rfl⟩ := List.mem_map.mp hy'
    exact PySem.SeqAt.EqAt.bool_bool b k
  · have ec : its.toArray.toList.countP (isBoolOf k) = bs.countP (fun b => b == k) := by
      show its.countP (isBoolOf k) = _
      rw [hi, List.countP_map]
      rfl
    refine ⟨.int (bs.countP (fun b => b == k) : Nat), H, I.tok _, ⟨s.toks, ?_⟩, q⟩
    show Value.int ((its.toArray.toList.countP (isBoolOf k) : Nat) : Int) s.toks = _
    rw [ec]
end
end KX

/-! try: .. with any number of clauses, each naming one class, with `as` or without. -/
namespace GT
open PySem PySem.Spec PyProof.Rows L2
abbrev Suite := Addr → Value → Option Addr → TS
/-- what holds behind a suite: the clause's name is gone -/
def asEnds (D : Ends) : Option Nat → Ends
  | none => D
  | some i => { nx := fun σ' H' => D.nx (σ'.set i none) H', rt := D.rt, bk := fun σ' H' => D.bk (σ'.set i none) H', ct := fun σ' H' => D.ct (σ'.set i none) H' }
def asSt (σ : L2.St) (a : Addr) : Option Nat → L2.St
  | none => σ
  | some i => σ.set i (some (.ref a))
inductive Hds (X : Cx) : List ExceptHandler → List (Value × Option Nat × Suite) → Prop
  | nil : Hds X [] []
  | only {x : Str} {c : Value} {ts : Suite} {b₀ : Stmt} {suite : List Stmt} {np pos' : Pos} {hds : List ExceptHandler} {l : List (Value × Option Nat × Suite)} (hc : Gl X x) (hd : (x == ("__debug__" : Str)) = false) (hm : X.mg x = some c)
      (hs : ∀ (a : Addr) (oe : Obj) (cls : Value) (d : Option Addr) (pn : List (Addr × Obj)), Zc cls d oe → (∃ vs, oe.data = .fields vs) → PSs (X.suite a ((a, oe) :: pn)) (b₀ :: suite) (ts a cls d)) (rest : Hds X hds l) :
      Hds X (.ExceptHandler (some (.Name x np)) none (b₀ :: suite) pos' :: hds) ((c, none, ts) :: l)
  | as_ {x n : Str} {c : Value} {i : Nat} {ts : Suite} {b₀ : Stmt} {suite : List Stmt} {np pos' : Pos} {hds : List ExceptHandler} {l : List (Value × Option Nat × Suite)} (hc : Gl X x) (hd : (x == ("__debug__" : Str)) = false) (hm : X.mg x = some c)
      (hi : X.N[i]? = some n) (hn : X.env.kindOf n = some .local)
      (hs : ∀ (a : Addr) (oe : Obj) (cls : Value) (d : Option Addr) (pn : List (Addr × Obj)), Zc cls d oe → (∃ vs, oe.data = .fields vs) → PSs (X.suite a ((a, oe) :: pn)) (b₀ :: suite) (ts a cls d)) (rest : Hds X hds l) :
      Hds X (.ExceptHandler (some (.Name x np)) (some n) (b₀ :: suite) pos' :: hds) ((c, some i, ts) :: l)
def wHds (K : PySem.W.Frag) (Wout : WX) (D : Ends) : List (Value × Option Nat × Suite) → WX
  | [] => Wout
  | (c, oi, ts) :: l => fun cls d σ H => ∃ b, PySem.W.exmOne K cls c = some b ∧ (b = true → ∀ a, H a = none → ts a cls d (asEnds D oi) (asSt σ a oi) H) ∧ (b = false → wHds K Wout D l cls d σ H)
theorem ends_as {X : Cx} {pins : List (Addr × Obj)} {D : Ends} {f : Flow} {s : Shared} {a : Addr} {q : Addr × Obj} {pn' : List (Addr × Obj)} (ok : X.Ok) (h : SP (X.suite a (q :: (X.pn ++ pins))) pn' (asEnds D none) f s) : SP X pins D f s := by
  cases f with
  | ret u =>
    obtain ⟨v, σ', H', J, rv, k⟩ := h
    exact ⟨v, σ', H', J.unsuite ok, rv, k⟩
  | next =>
    obtain ⟨σ', H', J, k⟩ := h
    exact ⟨σ', H', J.unsuite ok, k⟩
  | brk =>
    obtain ⟨σ', H', J, k⟩ := h
    exact ⟨σ', H', J.unsuite ok, k⟩
  | cont =>
    obtain ⟨σ', H', J, k⟩ := h
    exact ⟨σ', H', J.unsuite ok, k⟩
section
variable {X : Cx}
structure Land (X : Cx) (pins : List (Addr × Obj)) (σ : L2.St) (B : Heap) (a : Addr) (cls : Value) (d : Option Addr) (sI : Shared) (H : Hp) (s : Shared) : Prop where
  I : Inv X pins σ H s
  fl : HandSPX.FlyingZ B X.stack a (Zc cls d) s.heap
  up : sI.heap.UpToSlots s.heap
  os : s.os = sI.os
  bare : AllBare s.gens
theorem not_env {pins : List (Addr × Obj)} {σ : L2.St} {H : Hp} {s : Shared} {a : Addr} {oe : Obj} {vs : Array Value} (I : Inv X pins σ H s) (e1 : s.heap.get? a = some oe) (e2 : oe.data = .fields vs) : a ≠ X.env.locals := fun z => by
  obtain ⟨m, ⟨o, es, ep, h1, h2, _⟩, _⟩ := I.loc
  rw [← z, e1] at h1
  cases h1
  rw [e2] at h2
  cases h2
theorem not_frs {B h : Heap} : ∀ {l : List Env} {a : Addr} {oe : Obj} {vs : Array Value}, h.FunFrames B l → h.get? a = some oe → oe.data = .fields vs → a ∉ frs l
  | [], _, _, _, _, _, _ => fun z => by cases z
  | env :: l, a, oe, vs, ff, e1, e2 => fun z => by
    rw [Heap.FunFrames.eq_2] at ff
    obtain ⟨_, ⟨L, o, f1, _, f3, f4⟩, f5⟩ := ff
    have z2 : a ∈ (env.frame.toList ++ frs l) := by
      unfold frs at z ⊢
      rw [List.filterMap_cons] at z
      rw [f1] at z ⊢
      exact z
    rw [f1] at z2
    rcases List.mem_cons.mp (show a ∈ L :: frs l from z2) with e | e
    · rw [e, f3] at e1
      cases e1
      exact f4 vs e2
    · exact not_frs f5 e1 e2 e
/-- an exception that landed: the clauses, one behind another -/
theorem handle {Wout : WX} {D : Ends} {pins : List (Addr × Obj)} {B : Heap} {a : Addr} {cls : Value} {d : Option Addr} {sI : Shared} {H : Hp} {σ : L2.St} (ok : X.Ok) (hs : X.stack = X.env :: X.outer) (hf : X.env.frame = some X.env.locals) (hN : X.N.Nodup) (tk : Takes X Wout)
    (ha : H a = none) (keep : ∀ (b : Addr) (o : Obj), sI.heap.get? b = some o → b ∉ frs X.stack → B.get? b = some o) (II : Inv X pins σ H sI) :
    ∀ {hds : List ExceptHandler} {l : List (Value × Option Nat × Suite)}, Hds X hds l → wHds X.K Wout D l cls d σ H → ∀ s : Shared, Land X pins σ B a cls d sI H s →
      wpAny (model X.prog X.w) X.A (handleBy (.ref a) X.env hds) (SP X pins D) X.xe s := by
  intro hds l hd
  have enter : ∀ {s : Shared}, Land X pins σ B a cls d sI H s → ∃ oe vs, s.heap.get? a = some oe ∧ Zc cls d oe ∧ oe.data = .fields vs ∧ ∀ {σ' : L2.St} {s' : Shared}, Inv X pins σ' H s' → s'.heap.get? a = some oe → Inv (X.suite a ((a, oe) :: (X.pn ++ pins))) [] σ' H s' := fun {s} L => by
    obtain ⟨oe, vs, e1, z, e2⟩ := L.fl.there
    have ff := L.fl.2.2.1
    rw [hs, Heap.FunFrames.eq_2] at ff
    exact ⟨oe, vs, e1, z, e2, fun I' e => I'.suite e e2 ha (not_env L.I e1 e2) (not_frs ff.2.2 e1 e2)⟩
  have look : ∀ {s : Shared} {c : Value} {b : Bool}, Land X pins σ B a cls d sI H s → PySem.W.exmOne X.K cls c = some b → PySem.W.Looks (model X.prog X.w) s.heap (excMatches (.ref a) c) b := fun {s c b} L eb => by
    obtain ⟨oe, vs, e1, z, e2, _⟩ := enter L
    exact PySem.W.exm_one L.I.kIn (fun A' Q' E' s' sub q => wpAny_typeOf_ref (sub _ _ e1) (by rw [z.1]; exact q)) eb
  have again : ∀ {s : Shared} {h' : Heap}, Land X pins σ B a cls d sI H s → HandSPX.FlyingZ B X.stack a (Zc cls d) h' → s.heap.UpToSlots h' → Land X pins σ B a cls d sI H { heap := h', gens := s.gens, drawn := s.drawn, toks := s.toks, os := s.os } := fun {s h'} L fl up =>
    ⟨II.landed keep fl.1 (L.up.trans up) L.os L.bare, fl, L.up.trans up, L.os, L.bare⟩
  induction hd with
  | nil =>
    intro hw s L
    refine wpAny_handleBy_nil ?_
    obtain ⟨st, bn, ff, oe, vs, T, oT, ts, e1, z, e2, e3, _⟩ := id L.fl
    unfold PySem.passOn
    refine wpAny_bind (wpAny_field e1 e2 e3 ?_)
    show wpAny _ _ (if (Value.ref T == Value.none) = true then _ else _) _ _ _
    rw [if_neg (fun h => by cases (eq_of_beq h))]
    refine wpAny_bind ?_
    rw [hf]
    exact HandSPX.setFlight_upZ L.fl fun h' held up2 => wpAny_throw (tk _ _ ⟨a, B, sI, pins, σ, H, cls, d, rfl, II, keep, L.up.trans up2, .inr (.inr held), ha, L.os, L.bare, hw⟩)
  | only hc hdb hm hsu rest ih =>
    intro hw s L
    obtain ⟨b, eb, hw1, hw2⟩ := hw
    obtain ⟨oe, vs, e1, z, e2, su⟩ := enter L
    refine wpAny_handleBy_cons ?_ (by intro h; cases h)
    refine codeAny_handlers_test (ld_glob (su L.I e1) hc hm ?_ hdb)
    refine look L eb _ _ _ _ (fun _ _ e => e) ?_
    cases b with
    | false => exact ih (hw2 rfl) s L
    | true =>
      refine codeAny_handlers_suite (HandSPX.lands_againZ L.fl fun h' fl' up' => ?_)
      have L' := again L fl' up'
      obtain ⟨oe', vs', e1', z', e2', su'⟩ := enter L'
      exact wpAny_mono ((hsu a oe' cls d (X.pn ++ pins) z' ⟨_, e2'⟩).run [] _ σ H D (su' L'.I e1') (hw1 rfl a ha)) (fun f s₂ q => ends_as ok q) fun _ _ q => q.elim
  | @as_ x n c i ts b₀ suite np pos' hds' l' hc hdb hm hi hn hsu rest ih =>
    intro hw s L
    obtain ⟨b, eb, hw1, hw2⟩ := hw
    obtain ⟨oe, vs, e1, z, e2, su⟩ := enter L
    refine wpAny_handleBy_cons ?_ (by intro h; cases h)
    refine codeAny_handlers_test (ld_glob (su L.I e1) hc hm ?_ hdb)
    refine look L eb _ _ _ _ (fun _ _ e => e) ?_
    cases b with
    | false => exact ih (hw2 rfl) s L
    | true =>
      refine codeAny_handlers_suite_as (HandSPX.lands_againZ L.fl fun h' fl' up' => ?_)
      have L' := again L fl' up'
      obtain ⟨oe', vs', e1', z', e2', su'⟩ := enter L'
      refine store_ok2 L'.I hN hi (.inl hn) (show RelV (.ref a) (.ref a) from rfl) (fun s'' J sb => ?_) (.inr hn)
      have e3 : s''.heap.get? a = some oe' := by
        obtain ⟨a2, sb, hor⟩ := sb
        have ne : a ≠ a2 := by
          rcases hor with e | e
          · rw [e]
            exact not_env L'.I e1' e2'
          · intro e3
            obtain ⟨v, o, c1, c2⟩ := L'.I.cell _ _ e
            rw [← e3] at c1
            have c3 : some oe' = some o := e1'.symm.trans c1
            cases c3
            rw [e2'] at c2
            cases c2
        rw [sb.2 a ne]
        exact e1'
      refine wpAny_mono ((hsu a oe' cls d (X.pn ++ pins) z' ⟨_, e2'⟩).run [] _ (σ.set i (some (.ref a))) H (asEnds D (some i)) (su' J e3) (hw1 rfl a ha)) (fun f s₂ q => ?_) fun _ _ q => q.elim
      cases f with
      | ret u =>
        obtain ⟨v, σ', H', J', rv, k⟩ := q
        exact gone_ok (J'.unsuite ok) hN hi hn fun s3 J3 => ⟨v, _, H', J3, rv, k⟩
      | next =>
        obtain ⟨σ', H', J', k⟩ := q
        exact gone_ok (J'.unsuite ok) hN hi hn fun s3 J3 => ⟨_, H', J3, k⟩
      | brk =>
        obtain ⟨σ', H', J', k⟩ := q
        exact gone_ok (J'.unsuite ok) hN hi hn fun s3 J3 => ⟨_, H', J3, k⟩
      | cont =>
        obtain ⟨σ', H', J', k⟩ := q
        exact gone_ok (J'.unsuite ok) hN hi hn fun s3 J3 => ⟨_, H', J3, k⟩
/-- try: body except A as x: .. except B: .. -/
theorem ps_try_g {body : List Stmt} {h₀ : ExceptHandler} {hds : List ExceptHandler} {l : List (Value × Option Nat × Suite)} {pos : Pos} {tb : WX → TS} {Wout : WX} (hs : X.stack = X.env :: X.outer) (hf : X.env.frame = some X.env.locals) (hN : X.N.Nodup) (tk : Takes X Wout)
    (hb : ∀ (W : WX) (pn : List (Addr × Obj)) (xe : Value → Shared → Prop), Takes (X.tr pn xe) W → PassesOwn (model X.prog X.w) X.A X.env xe → PSs (X.tr pn xe) body (tb W)) (hh : Hds X (h₀ :: hds) l) :
    PS X (.Try body (h₀ :: hds) [] [] pos) (fun D σ H => tb (wHds X.K Wout D l) D σ H) := by
  refine ⟨fun pins s σ H D I h => ?_⟩
  have ok := I.ok
  refine wpAny_Try_except ?_
  have fr : X.A.frames = some (X.env :: X.outer) := by
    rw [ok.frames, hs]
  have tkW : Takes (X.tr (X.pn ++ pins) (fun e s₁ => wpAny (model X.prog X.w) X.A (noteFrame e X.env) (fun _ s₂ => wpAny (model X.prog X.w) X.A (setFlight e none) (fun _ s₃ => wpAny (model X.prog X.w) X.A (handleBy e X.env (h₀ :: hds)) (SP X pins D) X.xe s₃) X.xe s₂) X.xe s₁)) (wHds X.K Wout D l) := fun u s' z => by
    obtain ⟨a, B, sI, pn', σ', H', cls, d, rfl, I', keep, up, sky, ha, os, bare, hw⟩ := z
    have II : Inv X pins σ' H' sI := I'.ofTry ok
    have sky' : Sky B (X.env :: X.outer) a (Zc cls d) X.env.locals s'.heap := by
      rw [← hs]
      exact sky
    refine Sky.land Zc.steady fr hf sky' fun h' fl up2 => ?_
    rw [← hs] at fl
    exact handle ok hs hf hN tk ha keep II hh hw _ ⟨II.landed keep fl.1 (up.trans up2) os bare, fl, up.trans up2, os, bare⟩
  refine wpAny_mono ((hb _ (X.pn ++ pins) _ tkW PassesOwn.looking).run [] s σ H D (I.toTry _) h) (fun f s1 q => ?_) fun e s1 q => q
  cases f with
  | ret u =>
    obtain ⟨v, σ', H', J, rv, k⟩ := q
    exact ⟨v, σ', H', J.ofTry ok, rv, k⟩
  | next =>
    obtain ⟨σ', H', J, k⟩ := q
    exact (pss_nil (X := X)).run pins s1 σ' H' D (J.ofTry ok) k
  | brk =>
    obtain ⟨σ', H', J, k⟩ := q
    exact ⟨σ', H', J.ofTry ok, k⟩
  | cont =>
    obtain ⟨σ', H', J, k⟩ := q
    exact ⟨σ', H', J.ofTry ok, k⟩
end
end GT

/-! set(xs), xs a list of ints. -/
namespace GX
open PySem PySem.Spec PyProof.Rows PySem.Calls L2 Builtin
section
variable {P : Program} {w : World} {A : Around} {E : Value → Shared → Prop} {s : Shared}
abbrev bareSet (w : World) : Obj := { cls := .type "set", dict := none, data := .set #[] 0 (.fresh 0 0 (!w.params.followText "set-order")) }
set_option maxHeartbeats 8000000 in
theorem set_of_ints {l : Addr} {items : Array Value} (ns : List Int) {Q : Value → Shared → Prop} (calm : A.handled = none) (isl : s.heap.IsList l items) (are : IntsAre items.toList ns) (few : ns.length + 1 < scanBound)
    (k : ∀ (h' : Heap) (tk c : Nat), SetR w h' s.heap.objs.size (fun j => decide (j ∈ ns)) c → c ≤ ns.length → (∀ b o, s.heap.get? b = some o → h'.get? b = some o) → Q (.ref s.heap.objs.size) { s with heap := h', toks := tk }) :
    wpAny (model P w) A (call (.type "set") [.ref l]) Q E s := by
  have many : items.size = ns.length := by simpa using are.length
  obtain ⟨mc, mtl, hmro⟩ := F.called_set.mro
  have a1 := F.called_set.made
  have a2 := F.called_set.sub
  have a3 := F.called_set.notType
  have a4 := F.called_set.canCreate
  have a5 := F.typeCall_set_1 (.ref l)
  refine wpAny_call (codeAny_of_tree (show wpAny _ _ (callAny (.type "set") _) _ _ _ from wpAny_pure ⟨Code.quiet_builtin _ (by decide +kernel), codeAny_builtin F.entry_type_call ?_⟩))
  rw [Around.under_plain (weight_type_call_type "set" [.ref l] []) rfl]
  repeat (any_goals (first | assumption | wp_step))
  refine codeAny_mono (code_set_led1 (.ref l) (E := E) (Q₁ := fun obj s₁ => obj = .ref s.heap.objs.size ∧ s₁ = { s with heap := s.heap.push (bareSet w) }) ⟨rfl, rfl⟩) fun r s₁ made => ?_
  match r, made with
  | .error e, made => exact made
  | .ok .next, made => exact made.elim
  | .ok .brk, made => exact made.elim
  | .ok .cont, made => exact made.elim
  | .ok (.ret obj), made =>
    obtain ⟨rfl, rfl⟩ := made
    have at_ : (s.heap.push (bareSet w)).get? s.heap.objs.size = some (bareSet w) := Heap.get?_push_size _ rfl
    have ty : Shared.TypeIs { s with heap := s.heap.push (bareSet w) } (.ref s.heap.objs.size) "set" := ⟨_, at_, rfl⟩
    have b1 := F.called_set.init.lookup
    have b2 := F.called_set.init.bind (.ref s.heap.objs.size)
    repeat (any_goals (first | assumption | wp_step))
    refine codeAny_mono (codeAny_call_builtin (R := wants (fun r s₂ => r = .none ∧ ∃ h' tk c, s₂ = { s with heap := h', toks := tk } ∧ SetR w h' s.heap.objs.size (fun j => decide (j ∈ ns)) c ∧ c ≤ ns.length ∧ (∀ b o, s.heap.get? b = some o → h'.get? b = some o)) E)
      F.called_set.init.plain F.entry_set_init (check_set_init_1 ty ?_)) fun r₂ s₂ done => ?_
    · obtain ⟨ol, gl, cl, nl, dl⟩ := isl
      obtain ⟨ocls, odict, odata, oslots⟩ := ol
      simp only at cl dl
      subst cl; subst dl
      have gl' : (s.heap.push (bareSet w)).get? l = some { cls := .type "list", dict := odict, data := .seq items nl, slots := oslots } := Heap.get?_push_of_some _ gl
      have c1 := PySem.F.sub_list_set
      have c2 := PySem.F.sub_list_frozenset
      have c3 : (Value.type "list" == Value.type "dict") = false := by decide
      have isl' : (s.heap.push (bareSet w)).IsList l items := ⟨_, gl', rfl, nl, rfl⟩
      unfold Builtin.«set.__init__» noKeywords Builtin.Frozenset.updateFrom
      generalize hPI : pyIter = PI
      wp_walk
      subst hPI
      refine wpAny_pyIter_list isl' (wpAny_bind (wpAny_runValue ?_))
      have lt := Heap.lt_size gl
      have sz : (s.heap.push (bareSet w)).objs.size = s.heap.objs.size + 1 := Heap.size_push ..
      have apart : l ≠ (s.heap.push (bareSet w)).objs.size := by rw [sz]; exact Nat.ne_of_lt (Nat.lt_succ_of_lt lt)
      have quiet : A.in1.in1.in1.handled = none := by simp [calm]
      have each : ∀ (i : Nat) (v : Value), items[i]? = some v → ∃ z t, ns[i]? = some z ∧ v = .int z t := fun i v hv => by
        have lt' : i < ns.length := many ▸ (Array.getElem?_eq_some_iff.mp hv).1
        obtain ⟨t, e⟩ := IntsAre.int_at are i v (by rw [Array.getElem?_toList]; exact hv)
        exact ⟨ns[i], t, List.getElem?_eq_getElem lt', by rw [e, List.getD_eq_getElem?_getD, List.getElem?_eq_getElem lt'] <;> rfl⟩
      refine set_update_ints ((Walks.list quiet _ l apart items).toS) s.heap.objs.size (by simp only [List.mem_cons, List.not_mem_nil, or_false, not_or]; rw [sz]; exact ⟨Nat.ne_of_lt (Nat.lt_succ_self _), Nat.ne_of_gt lt⟩) ns many few each (items.size - 0) 0 _ (by omega) (Nat.zero_le _)
        ⟨⟨_, Heap.get?_push_size _ rfl, rfl, rfl⟩, isl'.push _⟩ ⟨0, Nat.le_refl 0, setR_new_at (Heap.get?_push_of_some _ at_)⟩ fun s' c' moved le is => ?_
      obtain ⟨h', g2, d', tk', os'⟩ := s'
      cases (show g2 = s.gens from moved.gens)
      cases (show d' = s.drawn from moved.drawn)
      cases (show os' = s.os from moved.os)
      show wpAny _ _ _ _ _ _
      refine wpAny_pure (show wpAny _ _ (ret Value.none) _ _ _ from wpAny_pure ⟨rfl, h', tk', c', rfl, is, many ▸ le, fun b o e => ?_⟩)
      have lb := Heap.lt_size e
      exact moved.heap b o (by simp only [List.mem_cons, List.not_mem_nil, or_false, not_or]; rw [sz]; exact ⟨Nat.ne_of_lt lb, Nat.ne_of_lt (Nat.lt_succ_of_lt lb)⟩) (Heap.get?_push_of_some _ (Heap.get?_push_of_some _ e))
    · match r₂, done with
      | .error e, done => exact done
      | .ok .next, done => exact done.elim
      | .ok .brk, done => exact done.elim
      | .ok .cont, done => exact done.elim
      | .ok (.ret r), done =>
        obtain ⟨rfl, h', tk, c', rfl, is, le, kept⟩ := done
        repeat (any_goals (first | assumption | wp_step))
        exact k _ _ _ is le kept
end
section
variable {X : Cx}
/-- set(xs), xs a list of ints -/
def rSetI (K : PySem.W.Frag) (w : World) : List V → Hp → VK → Prop := fun xs H Q => ∃ (l : Addr) (ns : List Int), xs = [.ref l] ∧ SqL K H l (ns.map V.int) ∧ ns.length ≤ 4000 ∧ ∀ (p : Addr) (c : Nat), H p = none → c ≤ ns.length → Q (.ref p) (upd H p (SetO w p (fun j => decide (j ∈ ns)) c))
theorem cr_setI (hc : X.calm = true) : CallR X (.type "set") (rSetI X.K X.w) := by
  intro pins s σ H xs us Q I r h
  obtain ⟨l, ns, rfl, hl, few, q⟩ := h
  obtain ⟨u, rfl, ru⟩ := vals1 r
  cases (show u = Value.ref l from ru)
  obtain ⟨its, rv, pl, _⟩ := I.list hl
  have sz : its.toArray.size = ns.length := by rw [List.size_toArray, ← rv.length, List.length_map]
  refine set_of_ints ns (I.ok.hd hc) pl.isList (by simpa using rv.ints) (by unfold scanBound; omega) fun h' tk c is le kept => ?_
  exact ⟨.ref _, _, I.laid (t' := tk) kept (Nat.le_refl _) (setO_new is), rfl, q _ c (I.hok.fresh (Nat.le_refl _)) le⟩
end
end GX

/-! enumerate(t), t a tuple. -/
namespace GE
open PySem PySem.Spec PyProof.Rows L2 Builtin
/-- a tuple's items with their places, a new pair at each turn -/
def Etp (K : PySem.W.Frag) (t : Addr) : It where
  go i H := ∃ xs x, SqT K H t xs ∧ xs[i]? = some x
  yld i H v H' := ∃ (p : Addr) (x : V), v = .ref p ∧ H p = none ∧ H' = upd H p (.tup [.int ((i : Nat) : Int), x]) ∧ ∀ xs, SqT K H t xs → xs[i]? = some x
  stop i H := ∃ xs, SqT K H t xs ∧ xs.length ≤ i
abbrev tIt (t : Addr) : Obj := { cls := .type "tuple_iterator", data := .fields #[.ref t, .int 0 0] }
abbrev eOb (i : Addr) : Obj := { cls := .type "enumerate", data := .fields #[.none, .bool false, .ref i, rawInt 0, .none, .none] }
set_option maxHeartbeats 8000000 in
theorem made (t : Addr) (vs : Array Value) : Meets (Builtin.«enumerate.__new__» ⟨[.type "enumerate", .ref t], []⟩)
    (fun _ R s => s.heap.IsTuple t vs ∧ R (.ok (.ret (.ref (s.heap.push (tIt t)).objs.size))) { s with heap := (s.heap.push (tIt t)).push (eOb s.heap.objs.size) }) := by
  refine Meets.of_wp fun prog w A R s both => ?_
  obtain ⟨h0, gs, dr, tk, os⟩ := s
  obtain ⟨isT, back⟩ := both
  have z1 := PySem.sub_enumerate
  have z2 : ∀ {B : Around} {F : Value → Shared → Prop} {G : Value → Shared → Prop}, G (.ref h0.objs.size) ⟨h0.push (tIt t), gs, dr, tk, os⟩ → wpAny (model prog w) B (pyIter (.ref t)) G F ⟨h0, gs, dr, tk, os⟩ := fun g => wpAny_pyIter_tuple isT g
  wp_walk using z2
  refine wpAny_stack_any fun st => ?_
  refine wpAny_pure ?_
  split
  · rename_i c _ _ _ _ _
    cases (c == Value.type "enumerate") <;> (wp_walk using z2; exact ⟨_, rfl, back⟩)
  · wp_walk using z2
    exact ⟨_, rfl, back⟩
section
variable {P : Program} {w : World} {A : Around} {E : Value → Shared → Prop} {s : Shared}
theorem begins {t : Addr} {vs : Array Value} {Q : Value → Shared → Prop} (isT : s.heap.IsTuple t vs)
    (k : ∀ h1, IsEnum h1 (s.heap.objs.size + 1) s.heap.objs.size 0 .none → h1.IsTupleIter s.heap.objs.size t 0 → h1.objs.size = s.heap.objs.size + 2 → (∀ b o, s.heap.get? b = some o → h1.get? b = some o) → Q (.ref (s.heap.objs.size + 1)) { s with heap := h1 }) :
    wpAny (model P w) A (call (.type "enumerate") [.ref t]) Q E s := by
  refine callType_new F.called_enumerate (by decide) (F.typeCall_enumerate_1 _) (F.newCall_enumerate_1 _) (fun y => F.args_object_init_2 y _) F.entry_enumerate_new (made t vs) ⟨isT, ?_⟩
  have sz : (s.heap.push (tIt t)).objs.size = s.heap.objs.size + 1 := Heap.size_push ..
  have at_ : IsEnum ((s.heap.push (tIt t)).push (eOb s.heap.objs.size)) (s.heap.objs.size + 1) s.heap.objs.size 0 .none := by
    have z := Heap.get?_push_size (s.heap.push (tIt t)) (o := eOb s.heap.objs.size) rfl
    rw [sz] at z
    exact z
  show _ ∧ _
  rw [sz]
  exact ⟨⟨_, at_, rfl⟩, k _ at_ ⟨_, Heap.get?_push_of_some _ (Heap.get?_push_size _ rfl), rfl, rfl⟩ (by rw [Heap.size_push, sz]) fun b o x => Heap.get?_push_of_some _ (Heap.get?_push_of_some _ x)⟩
end
theorem turn {P : Program} {w : World} {K : PySem.W.Frag} {elts : List Expr} {kk : Nat} {tpos : Pos} (t e i : Addr) :
    Turn P w K (.Tuple elts kk tpos) (Etp K t) [e, i] e (fun n h => (∃ old, IsEnum h e i ((n : Nat) : Int) old) ∧ h.IsTupleIter i t n ∧ e ≠ i) := by
  have two : ∀ {b : Addr}, b ∈ [e, i] → b = e ∨ b = i := fun hb => by simpa using hb
  constructor
  case mem => simp
  case obj =>
    rintro n h ⟨⟨old, h1⟩, ⟨o, h2, h3, h4⟩, _⟩ b hb
    rcases two hb with q | q <;> subst q
    · exact ⟨_, h1, fun v z => nomatch z⟩
    · exact ⟨o, h2, fun v z => by rw [h4] at z; cases z⟩
  case keep =>
    rintro n h h' ⟨⟨old, h1⟩, h2, h3⟩ k
    exact ⟨⟨old, k e (by simp) _ h1⟩, h2.at fun o q => k i (by simp) o q, h3⟩
  case item =>
    intro X eP ew eK calm n pins s σ H Er I free st go
    subst eP ew eK
    obtain ⟨⟨old, h1⟩, h2, apart⟩ := st
    obtain ⟨xs, x, hq, hx⟩ := go
    obtain ⟨vs, rv, isT, _⟩ := I.tuple hq
    obtain ⟨u, hu, ru⟩ := rv.get hx
    have le : e < s.heap.objs.size := Heap.lt_size h1
    have li : i < s.heap.objs.size := by
      obtain ⟨_, q, _⟩ := h2
      exact Heap.lt_size q
    have ti : t ≠ i := fun z => by
      subst z
      obtain ⟨o1, q1, c1, _⟩ := h2
      obtain ⟨o2, q2, c2, _⟩ := isT
      rw [q1] at q2
      cases q2
      rw [c1] at c2
      exact absurd (Value.type.inj c2) (by decide)
    have te : t ≠ e := fun z => by
      subst z
      obtain ⟨o2, q2, c2, _⟩ := isT
      rw [h1] at q2
      cases q2
      exact absurd (Value.type.inj c2) (by decide)
    have quiet : X.A.in1.handled = none := by
      have z := I.ok.hd calm
      simp [z]
    have lt : n < vs.toArray.size := by
      have z := (List.getElem?_eq_some_iff.mp hu).1
      simpa using z
    refine wpAny_pyNext_enum_itemD (Draws.tuple quiet i t ti vs.toArray) h1 ⟨h2, isT⟩ lt apart (by simp [apart, te.symm]) fun y h' tk py out st' tup size keep => ?_
    have ey : y = u := by
      have z : vs.toArray[n]? = some y := py
      rw [List.getElem?_toArray, hu] at z
      exact (Option.some.inj z).symm
    subst ey
    refine ⟨_, rfl, wpAny_letOwnedTupleGo_enum (s := { s with heap := h', toks := tk + 1 }) out fun h'' again sb => ?_⟩
    have tup2 : h''.get? s.heap.objs.size = some { cls := .type "tuple", data := .seq #[.int n tk, y] } := (sb.2 _ (Nat.ne_of_gt le)).trans tup
    have fresh : ObjOk X.prog X.w (upd H s.heap.objs.size (.tup [.int ((n : Nat) : Int), x])) h'' s.heap.objs.size (.tup [.int ((n : Nat) : Int), x]) :=
      ⟨by show 2 ≤ sizeLine; decide, [.int n tk, y], .cons ⟨_, rfl⟩ (.cons ru .nil), ⟨_, tup2, rfl, _, rfl⟩⟩
    have J : Inv X pins σ (upd H s.heap.objs.size (.tup [.int ((n : Nat) : Int), x])) { s with heap := h'', toks := tk + 1 } :=
      I.turnedNew (t' := tk + 1) (ch := [e, i]) (fun b ob hb q => (sb.2 b (fun z => hb (by simp [z]))).trans (keep b ob (fun z => hb (by simp [z])) (fun z => hb (by simp [z])) q)) free (Nat.le_refl _) fresh
    refine ⟨.ref s.heap.objs.size, _, J, rfl, ⟨_, x, rfl, I.hok.fresh (Nat.le_refl _), rfl, fun ys hy => by rw [I.tuple_inj hy hq]; exact hx⟩, ⟨⟨y, ?_⟩, st'.1.at fun o q => (sb.2 i (Ne.symm apart)).trans q, apart⟩, fun b hb => ?_⟩
    · rw [show ((n + 1 : Nat) : Int) = (n : Int) + 1 by omega]
      exact again
    · have lb : b < s.heap.objs.size := by
        rcases two hb with z | z <;> subst z
        · exact le
        · exact li
      rw [upd_ne (Nat.ne_of_lt lb)]
      exact (free b hb).1
  case done =>
    intro X eP ew eK calm n pins s σ H Er I free st stop
    subst eP ew eK
    obtain ⟨⟨old, h1⟩, h2, apart⟩ := st
    obtain ⟨xs, hq, hl⟩ := stop
    obtain ⟨vs, rv, isT, _⟩ := I.tuple hq
    have long := rv.length
    have quiet : X.A.in1.handled = none := by
      have z := I.ok.hd calm
      simp [z]
    have hT : s.TypeIs (.ref e) "enumerate" := ⟨_, h1, rfl⟩
    obtain ⟨f0, f1, f2, f3, f4, f5⟩ := free i (by simp)
    unfold pyNext
    refine wpAny_bind (wpAny_attempt (wpAny_callSpecial?_slot (name := Str.ofString "__next__") hT F.slot_enumerate_next (wpAny_call_entry F.slot_enumerate_next hT F.entry_enumerate_next ?_ (F.args_enumerate_next_1 _))))
    show wpAny _ _ (field (.ref e) 2 >>= _) _ _ _
    refine wpAny_bind (wpAny_field h1 rfl (x := .ref i) rfl (wpAny_bind ?_))
    refine wpAny_nextOf_tuple_end quiet h2 isT (by simp; omega) fun h' ex eb isx => ?_
    obtain ⟨o, ho, hc⟩ := isx
    refine wpAny_bind (wpAny_isInstance (T := "StopIteration") (b := true) ⟨o, ho, hc⟩ isSubtype_stop (wpAny_pure ?_))
    exact ⟨rfl, I.turned (t' := s.toks) (fun b o hb q => eb b o hb q) f0 f1 f3 f4 f5⟩
  case self =>
    rintro A n s Q Er ⟨⟨_, h1⟩, _⟩ q
    exact wpAny_pyIter_enum h1 q
/-- enumerate of a list or a tuple -/
def iEnA (K : PySem.W.Frag) (ta : TA) : TI := fun σ H R => ta σ H fun vs H1 => ∃ a xs, vs = [.ref a] ∧ ((SqL K H1 a xs ∧ R (Ite K a) H1) ∨ (SqT K H1 a xs ∧ R (Etp K a) H1))
theorem pi_enumA {X : Cx} {e : Expr} {ta : TA} {p pos tpos : Pos} {elts : List Expr} {kk : Nat} (hg : Gl X "enumerate") (hm : X.mg "enumerate" = none) (ha : PA X [e] ta) (hs : starEach [e] X.env = [(false, eval e X.env)] := by rfl) :
    PI X (.Tuple elts kk tpos) (.Call (.Name "enumerate" p) [e] [] pos) (iEnA X.K ta) := by
  constructor
  intro pins s σ H R I h
  refine Call_ (ld_blt I hg hm boot_enumerate (PyProof.Rows.callWith_type1 (thn (ha.run pos pins s σ H _ I h) fun us s1 got => ?_) hs rfl))
  obtain ⟨_, H1, I1, r1, a, xs, rfl, q⟩ := got
  have fp : ∀ b ∈ [s1.heap.objs.size + 1, s1.heap.objs.size], FpOk X pins H1 b := fun b hb => by
    have le : s1.heap.objs.size ≤ b := by
      rcases (show b = s1.heap.objs.size + 1 ∨ b = s1.heap.objs.size by simpa using hb) with z | z <;> omega
    exact I1.fpOk le (I1.hok.fresh le)
  cases r1 with
  | cons r rr =>
    cases rr
    cases r
    rcases q with ⟨hq, q⟩ | ⟨hq, q⟩
    · obtain ⟨vs, rv, isL, _⟩ := I1.list hq
      refine call_enumerate_list isL.isList fun h' at_ it size keep => wpAny_pyIter_enum at_ ?_
      exact ⟨_, _, _, _, H1, rfl, I1.kept (t' := s1.toks) keep, turn_enum a (s1.heap.objs.size + 1) s1.heap.objs.size, ⟨⟨.none, at_⟩, it, Nat.succ_ne_self _⟩, fp, q⟩
    · obtain ⟨vs, rv, isT, _⟩ := I1.tuple hq
      refine begins isT fun h' at_ it size keep => wpAny_pyIter_enum at_ ?_
      exact ⟨_, _, _, _, H1, rfl, I1.kept (t' := s1.toks) keep, turn a (s1.heap.objs.size + 1) s1.heap.objs.size, ⟨⟨.none, at_⟩, it, Nat.succ_ne_self _⟩, fp, q⟩
theorem walk {K : PySem.W.Frag} {a : Addr} {xs : List V} : Walk (Etp K a) xs.length (fun H => SqT K H a xs) (YPair (fun i => some (.int (i : Nat))) (fun i => xs[i]?)) := by
  constructor
  · exact fun i _ hi q => ⟨xs, xs[i], q, by simp [hi]⟩
  · exact fun _ q => ⟨xs, q, Nat.le_refl _⟩
  · rintro i H v H' _ q ⟨p, x, h1, h2, h3, h4⟩
    exact ⟨p, .int (i : Nat), x, h1, h2, h3, rfl, h4 xs q⟩
/-- zip of two tuples -/
theorem walk_zipT {K : PySem.W.Frag} {a b : Addr} {xs ys : List V} {n : Nat} (hn : n = min xs.length ys.length) : Walk (RZ.ItzT K a b) n (fun H => SqT K H a xs ∧ SqT K H b ys) (YPair (fun i => xs[i]?) (fun i => ys[i]?)) := by
  subst hn
  constructor
  · intro i _ hi q
    exact ⟨xs, ys, xs[i]'(by omega), ys[i]'(by omega), q.1, q.2, List.getElem?_eq_getElem _, List.getElem?_eq_getElem _⟩
  · exact fun _ q => ⟨xs, ys, q.1, q.2, by omega⟩
  · rintro i H v H' _ q ⟨p, x, y, h1, h2, h3, h4, h5⟩
    exact ⟨p, x, y, h1, h2, h3, h4 xs q.1, h5 ys q.2⟩
end GE

/-! Defs that ask repr: the promise of a def where no repr is under way (the guards of what runs around it are known to be none). -/
namespace GX
open PySem PySem.Spec PyProof.Rows L2
/-- no repr is under way -/
abbrev Free (A : Around) : Prop := A.guards = some []
structure FnG (P : Program) (w : World) (K : PySem.W.Frag) (mg : Str → Option Value) (base : Heap) (CX : CXT) (k : Nat) (f : Addr) (fd : FuncData) (ps : List Str) (sp : Sp) : Prop where
  many : ∀ vs H Q E, sp vs H Q E → vs.length = ps.length
  goes : ∀ (A : Around) (out : List Env) (s : Shared) (H : Hp) (ar : Args) (us : List Value) (vs : List V) (Q : VK) (E : XK), Free A → Room k A → Env0 P w K mg base A out s H → BindsTo s fd ar (ps.zip us) → Vals vs us → sp vs H Q E →
    codeAny (model P w) A (.call (.ref f) ar) (CR CX out P w H s Q E) s
theorem FnG.of {P : Program} {w : World} {K : PySem.W.Frag} {mg : Str → Option Value} {base : Heap} {CX : CXT} {k : Nat} {f : Addr} {fd : FuncData} {ps : List Str} {sp : Sp} (F : FnOk P w K mg base CX k f fd ps sp) : FnG P w K mg base CX k f fd ps sp :=
  ⟨F.len, fun A out s H ar us vs Q E _ => F.run A out s H ar us vs Q E⟩
section
variable {P : Program} {w : World} {K : PySem.W.Frag} {mg : Str → Option Value} {base : Heap}
/-- the body of a def, run where no repr is under way -/
theorem bodyG {x qual : Str} {st : Stmt} {f : Addr} {fd : FuncData} {N ps : List Str} {k : Nat} {sp : Sp} (F : Fun K x qual st f fd) (S : FnScope N ps (defScope st)) (many : ∀ vs H Q E, sp vs H Q E → vs.length = ps.length)
    (hb : ∀ (cdv : Value) (A : Around) (out : List Env) (s : Shared) (H : Hp) (vs : List V) (Q : VK) (E : XK), Free A → Room k (A.deeper (envOfC qual (defScope st) s.heap.objs.size f cdv)) → sp vs H Q E →
      ∃ t, PSs (cxOf CX0 P w K mg base N qual (defScope st) f cdv A out s H E).nox (defBody st) t ∧ t { nx := fun _ H' => Q .non H', rt := Q } (start N vs) H) : FnG P w K mg base CX0 (k + 1) f fd ps sp := by
  obtain ⟨oc, od, kV, doc, pm, an, cdv, ct, osl, rfl, lk, hcd⟩ := F.ex
  constructor
  · exact many
  intro A out s H ar us vs Q E free room e0 binds rel prom
  have long := many _ _ _ _ prom
  have inK : K.In s.heap := e0.mod.kin.keeps fun b o e => (e0.bs b o e).1
  have open_ : s.heap.NoLimit := e0.mod.nolimit.keeps fun b o e => (e0.bs b o e).1
  refine codeAny_call_function room.depth (inK _ _ lk) rfl S.co S.gen rfl (PySem.W.codeRec_of inK hcd) (binds _ _ _ _ ?_)
  refine wpAny_newFunctionEnv_cells S.kind (fun y hy => ?_) fun env he s1 laid => ?_
  · have hp : y.1 ∈ ps := (List.of_mem_zip hy).1
    exact (S.par _ hp).imp id fun q => ⟨q, PySem.W.cellsFrom_some _ _ _ (.inl q)⟩
  · subst he
    refine ⟨open_.keeps laid.toInCall.keep, codeAny_func ?_⟩
    obtain ⟨t, ht, goal⟩ := hb cdv A out s H vs Q E free (room.deeper _) prom
    have start_ := inv_start (CX := CX0) (E := E) S room.hd e0 long rel laid
    refine wpAny_mono (ht.nox.run [] s1 (start N vs) H _ start_ goal) (fun fl s' after => ?_) fun _ _ z => z
    cases fl with
    | ret u =>
      obtain ⟨v, σ', H', J, rv, q⟩ := after
      exact ⟨v, H', J.os, J.bare, J.base, J.hok, rv, q⟩
    | next =>
      obtain ⟨σ', H', J, q⟩ := after
      exact ⟨.non, H', J.os, J.bare, J.base, J.hok, rfl, q⟩
    | brk => exact after.elim fun _ z => z.elim fun _ z => z.2.elim
    | cont => exact after.elim fun _ z => z.elim fun _ z => z.2.elim
end
section
variable {X : Cx} {CX : CXT} {k : Nat} {f : Addr} {fd : FuncData} {ps : List Str} {sp : Sp} {ds : List Value} {dvs : List V} {E : XK} {x : Str} {p pos : Pos} {e : Expr} {es : List Expr} {t : TA}
theorem goesG {pins : List (Addr × Obj)} {σ : L2.St} {H : Hp} {s : Shared} {Q : VK} {us : List Value} {vs : List V} (F : FnG X.prog X.w X.K X.mg X.base CX k f fd ps sp) (free : Free X.A) (room : Room k X.A) (hb : Binds X.K fd ps ds) (hd : Vals dvs ds) (hx : Passes CX X E)
    (I : Inv X pins σ H s) (r : Vals vs us) (h : sp (vs ++ dvs) H Q E) : wpAny (model X.prog X.w) X.A (call (.ref f) us) (EP X pins σ Q) X.xe s := by
  have both := r.append hd
  have hl : (us ++ ds).length = ps.length := both.length.symm.trans (F.many _ _ _ _ h)
  have ran := F.goes X.A X.stack s H ⟨us, []⟩ (us ++ ds) (vs ++ dvs) Q E free room I.env0 (hb s us I.kIn hl) both h
  refine wpAny_call (codeAny_mono ran fun r s' told => ?_)
  match r, told with
  | .error e, told => exact hx pins σ H s e s' I told
  | .ok (.ret u), told => exact I.after told
  | .ok .next, told => exact told.elim
  | .ok .brk, told => exact told.elim
  | .ok .cont, told => exact told.elim
theorem pe_callG (F : FnG X.prog X.w X.K X.mg X.base CX k f fd ps sp) (free : Free X.A) (room : Room k X.A) (hg : Gl X x) (hm : X.mg x = some (.ref f)) (hk : PySem.W.keepIn X.K (.ref f) = true) (hb : Binds X.K fd ps ds) (hd : Vals dvs ds) (hx : Passes CX X E)
    (ha : PA X (e :: es) t) (hdb : (x == ("__debug__" : Str)) = false := by decide) (he : starEach (e :: es) X.env = (false, eval e X.env) :: starEach es X.env := by rfl) (hpl : (backTo pos (starEach es X.env)).any (·.1) = false := by rfl) :
    PE X (.Call (.Name x p) (e :: es) [] pos) (tCall sp dvs E t) := ⟨fun pins s σ H Q I h => wpAny_Call_Name_kw (ld_glob I hg hm (PySem.W.callWith_K (h₀ := X.base) I.ok.mod.kin hk
      (thn (ha.run pos pins s σ H _ I h) fun us s1 ⟨vs, H1, I1, r, q⟩ => ⟨I1.kIn, goesG F free room hb hd hx I1 r q⟩) he hpl) hdb)⟩
end
end GX
namespace GX
open PySem PySem.Spec PyProof.Rows L2
/-- THE END: the law's def is called where no repr is under way -/
theorem lawG {P : Program} {w : World} {K : PySem.W.Frag} {mg mb : Str → Option Value} {CX : CXT} {k : Nat} {fa a : Addr} {fd : FuncData} {x : Str} {sp : Sp} {s₁ : Shared} {vs : List Value} {ns : List Int}
    (inK : K.In s₁.heap) (glob : s₁.heap.Ns mainGlobals mg) (bns : s₁.heap.Ns builtinsNs mb) (boot : ∀ x : Str, x ≠ "__name__" → mb x = bootBuiltins x) (lim : s₁.heap.NoLimit) (nog : s₁.gens = #[])
    (scr : s₁.heap.get? a = some { cls := .type "list", data := .seq vs.toArray }) (hints : IntsAre vs ns) (few : ns.length ≤ sizeLine) (room : Room k callerA)
    (F : ∀ base : Heap, K.In base → base.Ns mainGlobals mg → FnG P w K mg base CX k fa fd [x] sp) (bind1 : ∀ (s : Shared) (u : Value), BindsTo s fd ⟨[u], []⟩ [(x, u)])
    (prom : ∀ H : Hp, Only H → SqL K H a (ns.map V.int) → sp [.ref a] H (fun v _ => v = .bl true) fun _ _ _ => False) (quiet : ∀ H e s', CX [] H s₁ (fun _ _ _ => False) e s' → False) :
    codeAny (model P w) callerA (.call (.ref fa) ⟨[.ref a], []⟩) (fun r s' => r = .ok (.ret (.bool true)) ∧ OldK s₁.heap s'.heap ∧ s'.os = s₁.os ∧ AllBare s'.gens) s₁ := by
  have rel := vals_ints hints
  have cnt := hints.length
  -- H: an abstract heap of the script at most
  suffices main : ∀ H : Hp, Only H → SqL K H a (ns.map V.int) → HOk P w H s₁.heap → (∀ b u, H b = some u → b = a ∧ K.lookup a = none) →
      codeAny (model P w) callerA (.call (.ref fa) ⟨[.ref a], []⟩) (fun r s' => r = .ok (.ret (.bool true)) ∧ OldK s₁.heap s'.heap ∧ s'.os = s₁.os ∧ AllBare s'.gens) s₁ by
    cases hk : K.lookup a with
    | some o =>
      have same : o = { cls := .type "list", data := .seq vs.toArray } := Option.some.inj ((inK a o hk).symm.trans scr)
      rw [same] at hk
      have sq : SqL K (fun _ => none) a (ns.map V.int) := .inr ⟨_, vs.toArray, _, hk, rfl, rfl, rfl, by rw [List.size_toArray, cnt]; exact few, by simpa using rel⟩
      exact main (fun _ => none) (fun _ => .inl rfl) sq (fun b u z => by cases (show (none : Option HO) = some u from z)) fun b u z => by cases (show (none : Option HO) = some u from z)
    | none =>
      let Hs : Hp := fun b => if b = a then some (.frz { cls := .type "list", data := .seq vs.toArray } (.lst (ns.map V.int))) else none
      have at_ : Hs a = some (.frz { cls := .type "list", data := .seq vs.toArray } (.lst (ns.map V.int))) := if_pos rfl
      have off : ∀ b, b ≠ a → Hs b = none := fun b hb => if_neg hb
      have only : ∀ b u, Hs b = some u → b = a ∧ u = .frz { cls := .type "list", data := .seq vs.toArray } (.lst (ns.map V.int)) := fun b u z => by
        by_cases hb : b = a
        · rw [hb, at_] at z
          exact ⟨hb, (Option.some.inj z).symm⟩
        · rw [off b hb] at z
          cases z
      refine main Hs (fun b => ?_) (.inl (.inr ⟨_, at_⟩)) (fun b u z => ?_) fun b u z => ⟨(only b u z).1, hk⟩
      · by_cases hb : b = a
        · rw [hb]
          exact .inr ⟨_, _, at_⟩
        · exact .inl (off b hb)
      · obtain ⟨e1, e2⟩ := only b u z
        rw [e1, e2]
        exact ⟨scr, by rw [List.length_map]; exact few, vs, _, rel, scr⟩
  intro H oh sq okH mine
  -- what H does not track is the base
  have free_ : ∀ {b : Addr} {o : Obj}, s₁.heap.get? b = some o → H b = none → (hidT s₁.heap H).get? b = some o := fun e n => hidT_get e n
  have dictFree : ∀ {b : Addr} {o : Obj} {es : Array DictEntry} {ep : Nat}, s₁.heap.get? b = some o → o.data = .dict es ep → H b = none := fun {b o es ep} e d => by
    cases q : H b with
    | none => rfl
    | some u =>
      rw [(mine b u q).1, scr] at e
      cases e
      cases (show Data.seq vs.toArray _ = Data.dict es ep from d)
  have nsBase : ∀ {b : Addr} {m : Str → Option Value}, s₁.heap.Ns b m → (hidT s₁.heap H).Ns b m := fun n => by
    obtain ⟨o, es, ep, e, d, r⟩ := n
    exact ⟨o, es, ep, free_ e (dictFree e d), d, r⟩
  have kBase : K.In (hidT s₁.heap H) := fun b o e => free_ (inK b o e) (by
    cases q : H b with
    | none => rfl
    | some u =>
      obtain ⟨z1, z2⟩ := mine b u q
      rw [z1, z2] at e
      cases e)
  have limBase : (hidT s₁.heap H).NoLimit := by
    obtain ⟨mc, l1, l2⟩ := lim
    exact ⟨mc, nsBase l1, l2⟩
  have env0 : Env0 P w K mg (hidT s₁.heap H) callerA [] s₁ H := ⟨rfl, ⟨kBase, nsBase glob, ⟨mb, nsBase bns, boot⟩, limBase⟩, fun b o e => of_hidT e, Nat.le_of_eq (hidT_size _ _), trivial, (fun b z => by cases z), okH, .of_eq nog⟩
  have ran := (F _ kBase (nsBase glob)).goes callerA [] s₁ H ⟨[.ref a], []⟩ [.ref a] [.ref a] (fun v _ => v = .bl true) (fun _ _ _ => False) rfl room env0 (bind1 s₁ (.ref a)) (.cons rfl .nil) (prom H oh sq)
  refine codeAny_mono ran fun r s' told => ?_
  match r, told with
  | .error e, told => exact (quiet H e s' told).elim
  | .ok .next, told => exact told.elim
  | .ok .brk, told => exact told.elim
  | .ok .cont, told => exact told.elim
  | .ok (.ret u), told =>
    obtain ⟨v, H', os, bare, un, okH', rv, ev⟩ := told
    have ev : v = .bl true := ev
    subst ev
    have eu : u = Value.bool true := rv
    subst eu
    refine ⟨rfl, OldK.of_keep fun b o e => ?_, os, bare⟩
    cases q : H b with
    | none => exact un.keep b o e q (fun z => by cases z) (by simp)
    | some u =>
      rcases oh b with z | ⟨ob, xs, z⟩
      · rw [q] at z
        cases z
      · have here := (okH b _ z).1
        have there := (okH' b _ (un.frzs b ob _ z)).1
        rw [e] at here
        cases here
        exact there
theorem walkG {l : PySem.W.OpenLaw} {n k : Nat} {q : Program} {loose : List Str} {XP : (Str → Option Value) → Heap → Prop} {YP : World → Heap → Prop} {d : DefRec} {K : Params → PySem.W.Frag} {sp : World → Sp} {x : Str}
    (hn : l.most = some n) (hn2 : n ≤ sizeLine) (hdf : d.params.defaults = []) (room : Room k callerA) (hY : ∀ (w : World) (h : Heap), YP w h → (K w.params).In h)
    (F : ∀ (w : World) (mg : Str → Option Value) (fa : Addr) (h : Heap), (K w.params).In h → h.Ns mainGlobals mg → mg d.name = some (.ref fa) →
      ∃ fd : FuncData, (∀ (s : Shared) (u : Value), BindsTo s fd ⟨[u], []⟩ [(x, u)]) ∧ ∀ base : Heap, (K w.params).In base → base.Ns mainGlobals mg → FnG l.prog w (K w.params) mg base CX0 k fa fd [x] (sp w))
    (hsp : ∀ (w : World) (H : Hp) (a : Addr) (ns : List Int), ns.length ≤ n → Only H → SqL (K w.params) H a (ns.map V.int) → sp w [.ref a] H (fun v _ => v = .bl true) fun _ _ _ => False) :
    PySem.W.WalkO q loose XP YP l.row.toRowW d [] (fun f vs => PySem.call f vs) :=
  Att.attach_call hn hdf fun w s₀ s₁ mg mb fa o pm cd doc a vs ns G Y ho hd hcd hmg hobj hints hlen hg => by
    have kx := hY w _ Y
    obtain ⟨fd, hb, hF⟩ := F w mg fa _ kx G.T.g hmg
    exact lawG kx G.T.g G.T.b G.T.builtins G.T.nolimit hg hobj hints (Nat.le_trans hlen hn2) room hF hb (fun H h1 h2 => hsp w H a ns hlen h1 h2) fun _ _ _ z => z
end GX
namespace GX
open PySem PySem.Spec PyProof.Rows L2
/-- repr of data without dicts: its text, where that is not too long -/
def rRepD (K : PySem.W.Frag) : List V → Hp → VK → Prop := fun xs H Q => ∃ (x : V) (d : PyData), xs = [x] ∧ Dp K H x d ∧ d.showable = true ∧ d.hasDict = false ∧ d.depth ≤ 60 ∧ d.leavesShort 21 = true ∧ d.weight ≤ 700000 ∧ Q (.str d.shown) H
theorem shown_fits {d : PyData} (h : d.leavesShort 21 = true) (w : d.weight ≤ 700000) : d.shown.length ≤ sizeLine := by
  have q := PyData.shown_le 21 (by decide) d h
  exact Nat.le_trans (Nat.le_trans q (by omega : (21 + 2) * d.weight + 21 ≤ 16100021)) (by decide)
theorem call_repD {X : Cx} (free : Free X.A) (hu : X.A.units + 64 < cLine) : CallR X (.builtin "repr") (rRepD X.K) := by
  intro pins s σ H xs us Q I r h
  obtain ⟨x, d, rfl, hD, hs, hd, hp, hl, hw, q⟩ := h
  have fits := shown_fits hl hw
  obtain ⟨u, rfl, rx⟩ := vals1 r
  obtain ⟨as, hr⟩ := Dp.reads I d x u hD rx
  cases hD with
  | non =>
    cases (show u = Value.none from rx)
    exact PySem.P.repr_of_none ⟨.str (PyData.none).shown, H, I.tok _, ⟨_, rfl⟩, q⟩
  | bl b =>
    cases (show u = Value.bool b from rx)
    exact PySem.P.repr_of_bool ⟨.str (PyData.bool b).shown, H, I.tok _, ⟨_, rfl⟩, q⟩
  | int i =>
    obtain ⟨t, e⟩ := (show ∃ t, u = Value.int i t from rx)
    cases e
    exact PySem.P.repr_of_int (of_decide_eq_true hs) ⟨.str (PyData.int i).shown, H, I.tok _, ⟨_, rfl⟩, q⟩
  | str y =>
    obtain ⟨t, e⟩ := (show ∃ t, u = Value.str y t from rx)
    cases e
    exact PySem.P.repr_of_str ⟨.str (PyData.str y).shown, H, I.tok _, ⟨_, rfl⟩, q⟩ fits
  | @lst a xs ds ha hds =>
    cases (show u = Value.ref a from rx)
    exact repr_of_reads' hr hs (PyData.noDict_hsm hd) free (by omega) (fun _ _ e => e) (fun h' v tk hk => ⟨.str (PyData.list ds).shown, H, I.kept (t' := tk) hk, ⟨v, rfl⟩, q⟩) fits
  | @tup a xs ds ha hds =>
    cases (show u = Value.ref a from rx)
    exact repr_of_reads' hr hs (PyData.noDict_hsm hd) free (by omega) (fun _ _ e => e) (fun h' v tk hk => ⟨.str (PyData.tuple ds).shown, H, I.kept (t' := tk) hk, ⟨v, rfl⟩, q⟩) fits
end GX

/-! x != y of instances of one class that has an __eq__ of its own and no __ne__. -/
namespace GO
open PySem PySem.Spec PyProof.Rows L2 Builtin
/-- what is asked of the class at C, its __eq__ at g -/
structure EqO (K : PySem.W.Frag) (C g : Addr) : Prop where
  top : PySem.W.mroIn K C (.type "object") = some true
  ne : PySem.W.findIn K (.ref C) "__ne__" = some (some (.builtin "object.__ne__"))
  eq : PySem.W.findIn K (.ref C) "__eq__" = some (some (.ref g))
  fn : PySem.W.isFn K (.ref g) = true
section
variable {P : Program} {w : World} {A : Around} {E : Value → Shared → Prop} {s : Shared} {K : PySem.W.Frag} {x y C D g : Addr} {ox oy : Obj} {od od' : Option Obj}
theorem bound {M : Model} {more : List Value} {Q : Option Value → Shared → Prop} (X : K.In s.heap) (I : PySem.W.InstAt s.heap x ox C od) (c : EqO K C g)
    (h : wpAny M A (call (.builtin "object.__ne__") (.ref x :: more)) (fun v => Q (some v)) E s) : wpAny M A (callSpecialIfBound? (.ref x) "__ne__" more) Q E s := by
  have last : wpAny M A (call (.builtin "object.__ne__") ([.ref x] ++ more) >>= fun v => pure (some v)) Q E s := wpAny_bind (wpAny_mono h (fun _ _ z => wpAny_pure z) fun _ _ z => z)
  simp only [callSpecialIfBound?, bindSpecialIfBound?]
  refine wpAny_holding (wpAny_bind ?_)
  refine wpAny_bind (wpAny_bind (I.type.here ((PySem.W.looks_findIn X c.ne).here ?_)))
  refine wpAny_bind (wpAny_askSetting (wpAny_ite ?_))
  split
  · exact wpAny_bind (wpAny_of_eq (F.cmp_object.ne.bind _) (wpAny_pure (by exact last)))
  · refine wpAny_tryCatch ?_
    exact wpAny_bind (wpAny_of_eq (F.cmp_object.ne.bind _) (wpAny_pure (by exact last)))
theorem entry {Q : Fin → Shared → Prop} (X : K.In s.heap) (I : PySem.W.InstAt s.heap x ox C od) (c : EqO K C g) (hu : A.units < cLine)
    (h : wpAny (model P w) A (call (.ref g) [.ref x, .ref y]) (fun v s' => ∃ b, v = .bool b ∧ Q (.done (.ret (.bool (!b)))) s') E s) :
    wpAny (model P w) A (Builtin.«object.__ne__» ⟨[.ref x, .ref y], []⟩) Q E s := by
  obtain ⟨h0, gs, dr, tk, os⟩ := s
  unfold Builtin.«object.__ne__»
  repeat (first
    | with_reducible refine wpAny_cRoomFor hu ?_
    | (refine wpAny_bind (m := callSpecialIfBound? (.ref x) (Str.ofString "__eq__") [.ref y]) (PySem.W.ifBound_K X I c.eq c.fn (wpAny_mono h (fun r s' got => by
        obtain ⟨b, rfl, q⟩ := got
        repeat (first | exact q | exact wpAny_pure q | exact wpAny_truthy_bool q | (refine wpAny_bind (m := truthy (.bool _)) (wpAny_truthy_bool ?_)) | wp_step)) fun _ _ z => z)))
    | wp_step)
theorem tried {Q : Option Value → Shared → Prop} (X : K.In s.heap) (I : PySem.W.InstAt s.heap x ox C od) (c : EqO K C g) (hu : A.units + 1 < cLine)
    (h : wpAny (model P w) A.in1 (call (.ref g) [.ref x, .ref y]) (fun v s' => ∃ b, v = .bool b ∧ Q (some (.bool (!b))) s') E s) : wpAny (model P w) A (tryCompare (.ref x) "__ne__" (.ref y)) Q E s := by
  unfold tryCompare
  refine wpAny_bind (bound X I c (wpAny_call (codeAny_call_builtin F.cmp_object.ne.plain F.cmpEntry_ne (PySem.W.check_slot F.cmpKind_ne F.cmpSplit_ne (I.type.andThen (PySem.W.looks_mroIn X c.top)) (F.cmpArgs_ne _ _) ?_))))
  refine entry X I c hu (wpAny_mono h (fun v s' got => ?_) fun _ _ z => z)
  obtain ⟨b, rfl, q⟩ := got
  first | exact ⟨b, rfl, wpAny_pure q⟩ | exact ⟨b, rfl, wpAny_pure (wpAny_pure q)⟩ | exact ⟨b, rfl, q⟩
theorem rich {Q : Value → Shared → Prop} (X : K.In s.heap) (I : PySem.W.InstAt s.heap x ox C od) (J : PySem.W.InstAt s.heap y oy C od') (c : EqO K C g) (hu : A.units + 1 < cLine)
    (h : wpAny (model P w) A.in1 (call (.ref g) [.ref x, .ref y]) (fun v s' => ∃ b, v = .bool b ∧ Q (.bool (!b)) s') E s) : wpAny (model P w) A (richCompare .NotEq (.ref x) (.ref y)) Q E s := by
  have one : wpAny (model P w) A (tryCompare (.ref x) "__ne__" (.ref y)) (fun r s' => ∃ b, r = some (.bool b) ∧ Q (.bool b) s') E s :=
    tried X I c hu (wpAny_mono h (fun v s' got => by obtain ⟨b, e, q⟩ := got; exact ⟨b, e, !b, rfl, q⟩) fun _ _ z => z)
  simp only [richCompare, cmpInfo_NotEq, oneThing_ref]
  refine wpAny_holding (wpAny_bind (wpAny_cRoomFor (Nat.lt_of_succ_lt hu) ?_))
  refine wpAny_bind (I.type.here (wpAny_bind (J.type.here ?_)))
  split
  · rename_i z
    exact absurd z (by simp)
  · refine wpAny_bind (wpAny_pure ?_)
    simp only [Bool.false_eq_true, if_false]
    refine wpAny_bind (wpAny_mono one (fun r s' got => ?_) fun _ _ z => z)
    obtain ⟨b, rfl, q⟩ := got
    exact wpAny_pure q
end
section
variable {X : Cx} {C g : Addr} {k : Nat} {fd : FuncData} {ps : List Str} {sp : Sp}
def rNeO (C : Addr) (sp : Sp) : V → V → Hp → VK → Prop := fun x y H Q => ∃ a b dx dy fs gs, x = .ref a ∧ y = .ref b ∧ H a = some (.ins C dx fs) ∧ H b = some (.ins C dy gs) ∧ sp [x, y] H (fun v H' => ∃ j, v = .bl j ∧ Q (.bl (!j)) H') (fun _ _ _ => False)
theorem op_neO (c : EqO X.K C g) (F : FnOk X.prog X.w X.K X.mg X.base L2.CX0 k g fd ps sp) (hb : Binds X.K fd ps []) (hr : Room (k + 2) X.A) : OpR X (compareOp .NotEq) (rNeO C sp) := by
  intro pins s σ H x y u v Q I rx ry h
  obtain ⟨a, b, dx, dy, fs, gs, rfl, rfl, ha, hb', q⟩ := h
  cases (show u = Value.ref a from rx)
  cases (show v = Value.ref b from ry)
  obtain ⟨mA, O, _⟩ := ins_get I.hok ha
  obtain ⟨od, J, _⟩ := O.look
  obtain ⟨mB, O', _⟩ := ins_get I.hok hb'
  obtain ⟨od', J', _⟩ := O'.look
  have hr1 : Room k X.A.in1 := (show Room (k + 1) X.A.in1 from Room.in1 hr).mono (Nat.le_succ k)
  show wpAny _ _ (richCompare .NotEq (.ref a) (.ref b)) _ _ _
  refine rich I.kIn J J' c ?_ ?_
  · exact Nat.lt_of_le_of_lt (Nat.add_le_add_left (by decide) _) hr.units
  · have ran := F.raw hb .nil X.A.in1 X.stack s H [.ref a, .ref b] [.ref a, .ref b] _ _ hr1 I.env0.in1 (.cons rfl (.cons rfl .nil)) (by exact q)
    refine wpAny_call (codeAny_mono ran fun r s' told => ?_)
    match r, told with
    | .error e, told => exact (show False from told).elim
    | .ok (.ret u), told =>
      obtain ⟨z, H', I', rz, j, ej, qz⟩ := I.after told
      subst ej
      cases (show u = Value.bool j from rz)
      exact ⟨j, rfl, .bl (!j), H', I', rfl, qz⟩
    | .ok .next, told => exact told.elim
    | .ok .brk, told => exact told.elim
    | .ok .cont, told => exact told.elim
end
end GO

/-! x == y, x an instance of a class that has an __eq__ of its own, y anything whose type is known. -/
namespace GP
open PySem PySem.Spec PyProof.Rows L2 Builtin
section
variable {X : Cx} {C g : Addr} {k : Nat} {fd : FuncData} {ps : List Str} {sp : Sp}
def rEqO (K : PySem.W.Frag) (C : Addr) (sp : Sp) : V → V → Hp → VK → Prop := fun x y H Q => ∃ a dx fs t, x = .ref a ∧ H a = some (.ins C dx fs) ∧ TyX K H y t ∧ PySem.W.notFirst K C t = true ∧ sp [x, y] H (fun v H' => ∃ j, v = .bl j ∧ Q (.bl j) H') (fun _ _ _ => False)
theorem op_eqO (hs : PySem.W.findIn X.K (.ref C) "__eq__" = some (some (.ref g))) (hf : PySem.W.isFn X.K (.ref g) = true) (F : FnOk X.prog X.w X.K X.mg X.base L2.CX0 k g fd ps sp) (hb : Binds X.K fd ps []) (hr : Room k X.A) : OpR X (compareOp .Eq) (rEqO X.K C sp) := by
  intro pins s σ H x y u v Q I rx ry h
  obtain ⟨a, dx, fs, t, rfl, ha, ty, nf, q⟩ := h
  cases (show u = Value.ref a from rx)
  obtain ⟨mA, O, _⟩ := ins_get I.hok ha
  obtain ⟨od, J, _⟩ := O.look
  obtain ⟨m, hF⟩ := I.fr
  obtain ⟨Pz, Z, pz, _⟩ := kit_of I ry ty
  show wpAny _ _ (richCompare .Eq (.ref a) v) _ _ _
  refine PySem.W.cmp_K (op := .Eq) (tb := t) (Nat.lt_of_le_of_lt (Nat.le_add_right _ _) hr.units) hF I.ok.mod.kin J (Z.ty _ _ I.kIn pz) nf hs hf ?_
  have ran := F.raw hb .nil X.A X.stack s H [.ref a, v] [.ref a, y] _ _ hr I.env0 (.cons rfl (.cons ry .nil)) (by exact q)
  refine wpAny_call (codeAny_mono ran fun r s' told => ?_)
  match r, told with
  | .error e, told => exact (show False from told).elim
  | .ok (.ret u), told =>
    obtain ⟨z, H', I', rz, j, ej, qz⟩ := I.after told
    subst ej
    cases (show u = Value.bool j from rz)
    exact ⟨.bl j, H', I', rfl, qz⟩
  | .ok .next, told => exact told.elim
  | .ok .brk, told => exact told.elim
  | .ok .cont, told => exact told.elim
end
def noRef (T : String) : Bool := match PySem.fastBuiltinMro T with
  | some l => l.all fun v => match v with | .type _ => true | _ => false
  | none => false
theorem sub_ref {K : PySem.W.Frag} {T : String} {C : Addr} (h : noRef T = true) : PySem.W.subIn K (.type T) (.ref C) = some false := by
  unfold noRef at h
  show (PySem.fastBuiltinMro T).map (·.contains (Value.ref C)) = some false
  cases e : PySem.fastBuiltinMro T with
  | none =>
    rw [e] at h
    cases h
  | some l =>
    rw [e] at h
    simp only [Option.map_some]
    congr 1
    rw [List.all_eq_true] at h
    rw [← Bool.not_eq_true]
    intro z
    have hm := List.contains_iff_mem.mp z
    have := h _ hm
    cases this
theorem kit_rev {K : PySem.W.Frag} {T : String} {C : Addr} (cl : Cls K C) (tt : PySem.W.typeIn K (.ref C) = some (.type "type")) (h : noRef T = true) : PySem.W.kitOne K (.type T) (.ref C) = some false := by
  obtain ⟨cd, hc, _⟩ := PySem.W.any_some cl.hd
  unfold PySem.W.kitOne
  rw [if_neg (by intro z; cases eq_of_beq z)]
  show (if ((PySem.W.clsIn K C).isSome && PySem.W.typeIn K (.ref C) == some (.type "type")) = true then PySem.W.subIn K (.type T) (.ref C) else none) = some false
  rw [if_pos (by rw [hc, tt] <;> rfl)]
  exact sub_ref h
theorem first_rev {K : PySem.W.Frag} {T : String} {C : Addr} (h : noRef T = true) : PySem.W.notFirst K C (.type T) = true := by
  unfold PySem.W.notFirst
  rw [sub_ref h]
  simp
theorem first_self {K : PySem.W.Frag} {C : Addr} : PySem.W.notFirst K C (.ref C) = true := by
  unfold PySem.W.notFirst
  simp
end GP

namespace KX
open PySem L2
/-! ### the text by places -/
def top (i : Nat) : Stmt := PySem.Challenge.pw_exactbeats_k01_cells_judged_and_alike.main.body.getD i (.Pass ⟨0, 0, 0, 0⟩)
abbrev s_BadCell___init__ : Stmt := inClass (top 2) 0
abbrev N_BadCell___init__ : List Str := ["self", "part"]
abbrev P_BadCell___init__ : List Str := ["self", "part"]
theorem sc_BadCell___init__ : FnScope N_BadCell___init__ P_BadCell___init__ (defScope s_BadCell___init__) := ⟨rfl, rfl, rfl, by decide +kernel, rfl, by decide +kernel, by decide +kernel⟩
abbrev s_is_integer : Stmt := top 4
abbrev N_is_integer : List Str := ["thing"]
abbrev P_is_integer : List Str := ["thing"]
theorem sc_is_integer : FnScope N_is_integer P_is_integer (defScope s_is_integer) := ⟨rfl, rfl, rfl, by decide +kernel, rfl, by decide +kernel, by decide +kernel⟩
abbrev s_is_integer_from : Stmt := top 5
abbrev N_is_integer_from : List Str := ["least", "greatest", "thing"]
abbrev P_is_integer_from : List Str := ["least", "greatest", "thing"]
theorem sc_is_integer_from : FnScope N_is_integer_from P_is_integer_from (defScope s_is_integer_from) := ⟨rfl, rfl, rfl, by decide +kernel, rfl, by decide +kernel, by decide +kernel⟩
abbrev s_is_number_below : Stmt := top 6
abbrev N_is_number_below : List Str := ["bound", "thing"]
abbrev P_is_number_below : List Str := ["bound", "thing"]
theorem sc_is_number_below : FnScope N_is_number_below P_is_number_below (defScope s_is_number_below) := ⟨rfl, rfl, rfl, by decide +kernel, rfl, by decide +kernel, by decide +kernel⟩
abbrev s_is_lot_below : Stmt := top 7
abbrev N_is_lot_below : List Str := ["bound", "thing", "last", "item"]
abbrev P_is_lot_below : List Str := ["bound", "thing"]
theorem sc_is_lot_below : FnScope N_is_lot_below P_is_lot_below (defScope s_is_lot_below) := ⟨rfl, rfl, rfl, by decide +kernel, rfl, by decide +kernel, by decide +kernel⟩
abbrev s_is_cell_number : Stmt := top 14
abbrev N_is_cell_number : List Str := ["thing"]
abbrev P_is_cell_number : List Str := ["thing"]
theorem sc_is_cell_number : FnScope N_is_cell_number P_is_cell_number (defScope s_is_cell_number) := ⟨rfl, rfl, rfl, by decide +kernel, rfl, by decide +kernel, by decide +kernel⟩
abbrev s_are_outs : Stmt := top 15
abbrev N_are_outs : List Str := ["lines", "most", "thing"]
abbrev P_are_outs : List Str := ["lines", "most", "thing"]
theorem sc_are_outs : FnScope N_are_outs P_are_outs (defScope s_are_outs) := ⟨rfl, rfl, rfl, by decide +kernel, rfl, by decide +kernel, by decide +kernel⟩
abbrev s_Cell___init__ : Stmt := inClass (top 16) 0
abbrev N_Cell___init__ : List Str := ["self", "number", "line", "stream", "kind", "outs"]
abbrev P_Cell___init__ : List Str := ["self", "number", "line", "stream", "kind", "outs"]
theorem sc_Cell___init__ : FnScope N_Cell___init__ P_Cell___init__ (defScope s_Cell___init__) := ⟨rfl, rfl, rfl, by decide +kernel, rfl, by decide +kernel, by decide +kernel⟩
abbrev s_Cell___eq__ : Stmt := inClass (top 16) 1
abbrev N_Cell___eq__ : List Str := ["self", "other"]
abbrev P_Cell___eq__ : List Str := ["self", "other"]
theorem sc_Cell___eq__ : FnScope N_Cell___eq__ P_Cell___eq__ (defScope s_Cell___eq__) := ⟨rfl, rfl, rfl, by decide +kernel, rfl, by decide +kernel, by decide +kernel⟩
abbrev s_copies : Stmt := top 17
abbrev N_copies : List Str := ["cell", "output"]
abbrev P_copies : List Str := ["cell"]
theorem sc_copies : FnScope N_copies P_copies (defScope s_copies) := ⟨rfl, rfl, rfl, by decide +kernel, rfl, by decide +kernel, by decide +kernel⟩
abbrev s_law_hand : Stmt := top 19
abbrev N_law_hand : List Str := ["_law_script", "_law_given", "_law_cell"]
abbrev P_law_hand : List Str := ["_law_script"]
theorem sc_law_hand : FnScope N_law_hand P_law_hand (defScope s_law_hand) := ⟨rfl, rfl, rfl, by decide +kernel, rfl, by decide +kernel, by decide +kernel⟩
abbrev s_law_draw : Stmt := top 20
abbrev N_law_draw : List Str := ["_law_hand_here", "_law_many", "_law_cell", "_law_digit", "_law_number"]
abbrev P_law_draw : List Str := ["_law_hand_here", "_law_many"]
theorem sc_law_draw : FnScope N_law_draw P_law_draw (defScope s_law_draw) := ⟨rfl, rfl, rfl, by decide +kernel, rfl, by decide +kernel, by decide +kernel⟩
abbrev s_law_any : Stmt := top 21
abbrev N_law_any : List Str := ["_law_hand_here", "_law_some"]
abbrev P_law_any : List Str := ["_law_hand_here", "_law_some"]
theorem sc_law_any : FnScope N_law_any P_law_any (defScope s_law_any) := ⟨rfl, rfl, rfl, by decide +kernel, rfl, by decide +kernel, by decide +kernel⟩
abbrev s_law_is_int : Stmt := top 22
abbrev N_law_is_int : List Str := ["_law_thing", "_law_least", "_law_most"]
abbrev P_law_is_int : List Str := ["_law_thing", "_law_least", "_law_most"]
theorem sc_law_is_int : FnScope N_law_is_int P_law_is_int (defScope s_law_is_int) := ⟨rfl, rfl, rfl, by decide +kernel, rfl, by decide +kernel, by decide +kernel⟩
abbrev s_law_deep : Stmt := top 23
abbrev N_law_deep : List Str := ["_law_hand_here", "_law_thing", "_law_turn"]
abbrev P_law_deep : List Str := ["_law_hand_here"]
theorem sc_law_deep : FnScope N_law_deep P_law_deep (defScope s_law_deep) := ⟨rfl, rfl, rfl, by decide +kernel, rfl, by decide +kernel, by decide +kernel⟩
abbrev s_law_odd : Stmt := top 24
abbrev N_law_odd : List Str := ["_law_hand_here", "_law_other", "_law_some"]
abbrev P_law_odd : List Str := ["_law_hand_here", "_law_other"]
theorem sc_law_odd : FnScope N_law_odd P_law_odd (defScope s_law_odd) := ⟨rfl, rfl, rfl, by decide +kernel, rfl, by decide +kernel, by decide +kernel⟩
abbrev s_law_is_lot : Stmt := top 25
abbrev N_law_is_lot : List Str := ["_law_thing", "_law_many", "_law_one", "_law_other", "_law_item"]
abbrev P_law_is_lot : List Str := ["_law_thing", "_law_many"]
theorem sc_law_is_lot : FnScope N_law_is_lot P_law_is_lot (defScope s_law_is_lot) := ⟨rfl, rfl, rfl, by decide +kernel, rfl, by decide +kernel, by decide +kernel⟩
abbrev s_law_first : Stmt := top 26
abbrev N_law_first : List Str := ["_law_pairs", "_law_word", "_law_is_right"]
abbrev P_law_first : List Str := ["_law_pairs"]
theorem sc_law_first : FnScope N_law_first P_law_first (defScope s_law_first) := ⟨rfl, rfl, rfl, by decide +kernel, rfl, by decide +kernel, by decide +kernel⟩
abbrev s_law_outs : Stmt := top 27
abbrev N_law_outs : List Str := ["_law_hand_here", "_law_lines", "_law_most", "_law_turn"]
abbrev P_law_outs : List Str := ["_law_hand_here", "_law_lines", "_law_most"]
theorem sc_law_outs : FnScope N_law_outs P_law_outs (defScope s_law_outs) := ⟨rfl, rfl, rfl, by decide +kernel, rfl, by decide +kernel, by decide +kernel⟩
abbrev s_law_parts : Stmt := top 28
abbrev N_law_parts : List Str := ["_law_hand_here", "_law_number"]
abbrev P_law_parts : List Str := ["_law_hand_here"]
theorem sc_law_parts : FnScope N_law_parts P_law_parts (defScope s_law_parts) := ⟨rfl, rfl, rfl, by decide +kernel, rfl, by decide +kernel, by decide +kernel⟩
abbrev s_law_bent : Stmt := top 29
abbrev N_law_bent : List Str := ["_law_hand_here", "_law_parts_here", "_law_other", "_law_at", "_law_some", "_law_thing"]
abbrev P_law_bent : List Str := ["_law_hand_here", "_law_parts_here", "_law_other"]
theorem sc_law_bent : FnScope N_law_bent P_law_bent (defScope s_law_bent) := ⟨rfl, rfl, rfl, by decide +kernel, rfl, by decide +kernel, by decide +kernel⟩
abbrev s_law_bad : Stmt := top 30
abbrev N_law_bad : List Str := ["_law_parts_here", "_law_number", "_law_line", "_law_stream", "_law_kind", "_law_outs_here", "_law_pairs"]
abbrev P_law_bad : List Str := ["_law_parts_here"]
theorem sc_law_bad : FnScope N_law_bad P_law_bad (defScope s_law_bad) := ⟨rfl, rfl, rfl, by decide +kernel, rfl, by decide +kernel, by decide +kernel⟩
abbrev s_law_made : Stmt := top 31
abbrev N_law_made : List Str := ["_law_parts_here", "_law_found", "_law_cell", "e"]
abbrev P_law_made : List Str := ["_law_parts_here"]
theorem sc_law_made : FnScope N_law_made P_law_made (defScope s_law_made) := ⟨rfl, rfl, rfl, by decide +kernel, rfl, by decide +kernel, by decide +kernel⟩
abbrev s_law : Stmt := top 32
abbrev N_law : List Str := ["_law_script", "_law_hand_here", "_law_turn", "_law_parts_here", "_law_one", "_law_bent_here", "_law_due", "_law_output"]
abbrev P_law : List Str := ["_law_script"]
theorem sc_law : FnScope N_law P_law (defScope s_law) := ⟨rfl, rfl, rfl, by decide +kernel, rfl, by decide +kernel, by decide +kernel⟩
/-! ### what the top has left -/
structure Adr where
  a_BadCell___init__ : Addr
  d_BadCell___init__ : FuncData
  a_is_integer : Addr
  d_is_integer : FuncData
  a_is_integer_from : Addr
  d_is_integer_from : FuncData
  a_is_number_below : Addr
  d_is_number_below : FuncData
  a_is_lot_below : Addr
  d_is_lot_below : FuncData
  a_is_cell_number : Addr
  d_is_cell_number : FuncData
  a_are_outs : Addr
  d_are_outs : FuncData
  a_Cell___init__ : Addr
  d_Cell___init__ : FuncData
  a_Cell___eq__ : Addr
  d_Cell___eq__ : FuncData
  a_copies : Addr
  d_copies : FuncData
  a_law_hand : Addr
  d_law_hand : FuncData
  a_law_draw : Addr
  d_law_draw : FuncData
  a_law_any : Addr
  d_law_any : FuncData
  a_law_is_int : Addr
  d_law_is_int : FuncData
  a_law_deep : Addr
  d_law_deep : FuncData
  a_law_odd : Addr
  d_law_odd : FuncData
  a_law_is_lot : Addr
  d_law_is_lot : FuncData
  a_law_first : Addr
  d_law_first : FuncData
  a_law_outs : Addr
  d_law_outs : FuncData
  a_law_parts : Addr
  d_law_parts : FuncData
  a_law_bent : Addr
  d_law_bent : FuncData
  a_law_bad : Addr
  d_law_bad : FuncData
  a_law_made : Addr
  d_law_made : FuncData
  a_law : Addr
  d_law : FuncData
  c_Cell : Addr
  c_FabricError : Addr
  c_BadCell : Addr
structure Top (K : PySem.W.Frag) (mg : Str → Option Value) (A : Adr) : Prop where
  F_BadCell___init__ : Fun K "__init__" "BadCell.__init__" s_BadCell___init__ A.a_BadCell___init__ A.d_BadCell___init__
  b_BadCell___init__ : Binds K A.d_BadCell___init__ P_BadCell___init__ []
  F_is_integer : Fun K "is_integer" "is_integer" s_is_integer A.a_is_integer A.d_is_integer
  g_is_integer : mg "is_integer" = some (.ref A.a_is_integer)
  b_is_integer : Binds K A.d_is_integer P_is_integer []
  F_is_integer_from : Fun K "is_integer_from" "is_integer_from" s_is_integer_from A.a_is_integer_from A.d_is_integer_from
  g_is_integer_from : mg "is_integer_from" = some (.ref A.a_is_integer_from)
  b_is_integer_from : Binds K A.d_is_integer_from P_is_integer_from []
  F_is_number_below : Fun K "is_number_below" "is_number_below" s_is_number_below A.a_is_number_below A.d_is_number_below
  g_is_number_below : mg "is_number_below" = some (.ref A.a_is_number_below)
  b_is_number_below : Binds K A.d_is_number_below P_is_number_below []
  F_is_lot_below : Fun K "is_lot_below" "is_lot_below" s_is_lot_below A.a_is_lot_below A.d_is_lot_below
  g_is_lot_below : mg "is_lot_below" = some (.ref A.a_is_lot_below)
  b_is_lot_below : Binds K A.d_is_lot_below P_is_lot_below []
  F_is_cell_number : Fun K "is_cell_number" "is_cell_number" s_is_cell_number A.a_is_cell_number A.d_is_cell_number
  g_is_cell_number : mg "is_cell_number" = some (.ref A.a_is_cell_number)
  b_is_cell_number : Binds K A.d_is_cell_number P_is_cell_number []
  F_are_outs : Fun K "are_outs" "are_outs" s_are_outs A.a_are_outs A.d_are_outs
  g_are_outs : mg "are_outs" = some (.ref A.a_are_outs)
  b_are_outs : Binds K A.d_are_outs P_are_outs []
  F_Cell___init__ : Fun K "__init__" "Cell.__init__" s_Cell___init__ A.a_Cell___init__ A.d_Cell___init__
  b_Cell___init__ : Binds K A.d_Cell___init__ P_Cell___init__ []
  F_Cell___eq__ : Fun K "__eq__" "Cell.__eq__" s_Cell___eq__ A.a_Cell___eq__ A.d_Cell___eq__
  b_Cell___eq__ : Binds K A.d_Cell___eq__ P_Cell___eq__ []
  F_copies : Fun K "copies" "copies" s_copies A.a_copies A.d_copies
  g_copies : mg "copies" = some (.ref A.a_copies)
  b_copies : Binds K A.d_copies P_copies []
  F_law_hand : Fun K "_law_hand" "_law_hand" s_law_hand A.a_law_hand A.d_law_hand
  g_law_hand : mg "_law_hand" = some (.ref A.a_law_hand)
  b_law_hand : Binds K A.d_law_hand P_law_hand []
  F_law_draw : Fun K "_law_draw" "_law_draw" s_law_draw A.a_law_draw A.d_law_draw
  g_law_draw : mg "_law_draw" = some (.ref A.a_law_draw)
  b_law_draw : Binds K A.d_law_draw P_law_draw []
  F_law_any : Fun K "_law_any" "_law_any" s_law_any A.a_law_any A.d_law_any
  g_law_any : mg "_law_any" = some (.ref A.a_law_any)
  b_law_any : Binds K A.d_law_any P_law_any []
  F_law_is_int : Fun K "_law_is_int" "_law_is_int" s_law_is_int A.a_law_is_int A.d_law_is_int
  g_law_is_int : mg "_law_is_int" = some (.ref A.a_law_is_int)
  b_law_is_int : Binds K A.d_law_is_int P_law_is_int []
  F_law_deep : Fun K "_law_deep" "_law_deep" s_law_deep A.a_law_deep A.d_law_deep
  g_law_deep : mg "_law_deep" = some (.ref A.a_law_deep)
  b_law_deep : Binds K A.d_law_deep P_law_deep []
  F_law_odd : Fun K "_law_odd" "_law_odd" s_law_odd A.a_law_odd A.d_law_odd
  g_law_odd : mg "_law_odd" = some (.ref A.a_law_odd)
  b_law_odd : Binds K A.d_law_odd P_law_odd []
  F_law_is_lot : Fun K "_law_is_lot" "_law_is_lot" s_law_is_lot A.a_law_is_lot A.d_law_is_lot
  g_law_is_lot : mg "_law_is_lot" = some (.ref A.a_law_is_lot)
  b_law_is_lot : Binds K A.d_law_is_lot P_law_is_lot []
  F_law_first : Fun K "_law_first" "_law_first" s_law_first A.a_law_first A.d_law_first
  g_law_first : mg "_law_first" = some (.ref A.a_law_first)
  b_law_first : Binds K A.d_law_first P_law_first []
  F_law_outs : Fun K "_law_outs" "_law_outs" s_law_outs A.a_law_outs A.d_law_outs
  g_law_outs : mg "_law_outs" = some (.ref A.a_law_outs)
  b_law_outs : Binds K A.d_law_outs P_law_outs []
  F_law_parts : Fun K "_law_parts" "_law_parts" s_law_parts A.a_law_parts A.d_law_parts
  g_law_parts : mg "_law_parts" = some (.ref A.a_law_parts)
  b_law_parts : Binds K A.d_law_parts P_law_parts []
  F_law_bent : Fun K "_law_bent" "_law_bent" s_law_bent A.a_law_bent A.d_law_bent
  g_law_bent : mg "_law_bent" = some (.ref A.a_law_bent)
  b_law_bent : Binds K A.d_law_bent P_law_bent []
  F_law_bad : Fun K "_law_bad" "_law_bad" s_law_bad A.a_law_bad A.d_law_bad
  g_law_bad : mg "_law_bad" = some (.ref A.a_law_bad)
  b_law_bad : Binds K A.d_law_bad P_law_bad []
  F_law_made : Fun K "_law_made" "_law_made" s_law_made A.a_law_made A.d_law_made
  g_law_made : mg "_law_made" = some (.ref A.a_law_made)
  b_law_made : Binds K A.d_law_made P_law_made []
  F_law : Fun K "law" "law" s_law A.a_law A.d_law
  g_law : mg "law" = some (.ref A.a_law)
  b_law : Binds K A.d_law P_law []
  cl_Cell : Cls K A.c_Cell
  gc_Cell : mg "Cell" = some (.ref A.c_Cell)
  mk_Cell : Mk K A.c_Cell A.a_Cell___init__
  m_Cell___eq__ : Meth K A.c_Cell "__eq__" A.a_Cell___eq__
  n_Cell_came_as : NoAttr K A.c_Cell "came_as"
  n_Cell_at_line : NoAttr K A.c_Cell "at_line"
  n_Cell_of_stream : NoAttr K A.c_Cell "of_stream"
  n_Cell_of_kind : NoAttr K A.c_Cell "of_kind"
  n_Cell_to_outs : NoAttr K A.c_Cell "to_outs"
  eo_Cell : GO.EqO K A.c_Cell A.a_Cell___eq__
  gc_FabricError : mg "FabricError" = some (.ref A.c_FabricError)
  gc_BadCell : mg "BadCell" = some (.ref A.c_BadCell)
  ox_BadCell : L2.OexC K A.c_BadCell
  xi_BadCell : PySem.W.findIn K (.ref A.c_BadCell) "__init__" = some (some (.ref A.a_BadCell___init__))
  xt_BadCell : PySem.W.typeIn K (.ref A.a_BadCell___init__) = some (.type "function")
  nf_BadCell_part : PySem.W.findIn K (.ref A.c_BadCell) "part" = some none
  kp_BadCell : PySem.W.keepIn K (.ref A.c_BadCell) = true
  s_BadCell : PySem.W.subIn K (.ref A.c_BadCell) (.type "BaseException") = some true
  t_BadCell : PySem.W.typeIn K (.ref A.c_BadCell) = some (.type "type")
  e1_BadCell : PySem.W.findIn K (.ref A.c_BadCell) "__getattribute__" = some (some (.builtin "BaseException.__getattribute__"))
  e2_BadCell : PySem.W.findIn K (.ref A.c_BadCell) "__getattr__" = some none
  e3_BadCell : PySem.W.hasDictIn K A.c_BadCell = true
  e4_BadCell : PySem.W.findIn K (.ref A.c_BadCell) "__class__" = some (some (.builtin "object.__class__"))
  e5_BadCell : PySem.W.mroIn K A.c_BadCell (.type "object") = some true
  ki_Cell_int : PySem.W.kitOne K (.ref A.c_Cell) (.type "int") = some false
  ki_Cell_bool : PySem.W.kitOne K (.ref A.c_Cell) (.type "bool") = some false
  ki_Cell_tuple : PySem.W.kitOne K (.ref A.c_Cell) (.type "tuple") = some false
  tt_Cell : PySem.W.typeIn K (.ref A.c_Cell) = some (.type "type")
  ci_Cell : PySem.W.findIn K (.ref A.c_Cell) "__class__" = some (some (.builtin "object.__class__"))
  em_Cell : PySem.W.mroIn K A.c_Cell (.type "object") = some true
  en1 : PySem.W.specialIn K (.builtin "object.__class__") "__get__" = some (some (.builtin "getset_descriptor.__get__"))
  en2 : PySem.W.takesIn K (.builtin "object.__class__") = some true
  kt_BadCell_BadCell : PySem.W.kitOne K (.ref A.c_BadCell) (.ref A.c_BadCell) = some true
  xm_BadCell_BadCell : PySem.W.exmOne K (.ref A.c_BadCell) (.ref A.c_BadCell) = some true
  kt_BadCell_ValueError : PySem.W.kitOne K (.ref A.c_BadCell) (.type "ValueError") = some true
  kt_BadCell_FabricError : PySem.W.kitOne K (.ref A.c_BadCell) (.ref A.c_FabricError) = some true
  xm_BadCell_FabricError : PySem.W.exmOne K (.ref A.c_BadCell) (.ref A.c_FabricError) = some true
  k_MOST_LINES : ∃ t, mg "MOST_LINES" = some (.int 12 t)
  k_MOST_COPIES : ∃ t, mg "MOST_COPIES" = some (.int 3 t)
  k_STREAMS : ∃ t, mg "STREAMS" = some (.int 100 t)
  k_KINDS : ∃ t, mg "KINDS" = some (.int 8 t)
  k_GREATEST_CELL : ∃ t, mg "GREATEST_CELL" = some (.int 1000000000 t)
  z_ValueError : mg "ValueError" = none
  z_abs : mg "abs" = none
  z_all : mg "all" = none
  z_bool : mg "bool" = none
  z_int : mg "int" = none
  z_isinstance : mg "isinstance" = none
  z_len : mg "len" = none
  z_range : mg "range" = none
  z_repr : mg "repr" = none
  z_set : mg "set" = none
  z_sorted : mg "sorted" = none
  z_tuple : mg "tuple" = none
  z_zip : mg "zip" = none
theorem top_mk {l : PySem.W.OpenLaw} {w : World} {K : PySem.W.Frag} {h : Heap} {mg : Str → Option Value} (X : K.In h) (G : h.Ns mainGlobals mg)
    {f_BadCell___init__ : Addr} {od_BadCell___init__ an_BadCell___init__ : Option Addr} {sl_BadCell___init__ : Array (Option Value)} {oc_BadCell___init__ kV_BadCell___init__ dc_BadCell___init__ pm_BadCell___init__ cd_BadCell___init__ ct_BadCell___init__ : Value}
    {f_is_integer : Addr} {od_is_integer an_is_integer : Option Addr} {sl_is_integer : Array (Option Value)} {oc_is_integer kV_is_integer dc_is_integer pm_is_integer cd_is_integer ct_is_integer : Value}
    {f_is_integer_from : Addr} {od_is_integer_from an_is_integer_from : Option Addr} {sl_is_integer_from : Array (Option Value)} {oc_is_integer_from kV_is_integer_from dc_is_integer_from pm_is_integer_from cd_is_integer_from ct_is_integer_from : Value}
    {f_is_number_below : Addr} {od_is_number_below an_is_number_below : Option Addr} {sl_is_number_below : Array (Option Value)} {oc_is_number_below kV_is_number_below dc_is_number_below pm_is_number_below cd_is_number_below ct_is_number_below : Value}
    {f_is_lot_below : Addr} {od_is_lot_below an_is_lot_below : Option Addr} {sl_is_lot_below : Array (Option Value)} {oc_is_lot_below kV_is_lot_below dc_is_lot_below pm_is_lot_below cd_is_lot_below ct_is_lot_below : Value}
    {f_is_cell_number : Addr} {od_is_cell_number an_is_cell_number : Option Addr} {sl_is_cell_number : Array (Option Value)} {oc_is_cell_number kV_is_cell_number dc_is_cell_number pm_is_cell_number cd_is_cell_number ct_is_cell_number : Value}
    {f_are_outs : Addr} {od_are_outs an_are_outs : Option Addr} {sl_are_outs : Array (Option Value)} {oc_are_outs kV_are_outs dc_are_outs pm_are_outs cd_are_outs ct_are_outs : Value}
    {f_Cell___init__ : Addr} {od_Cell___init__ an_Cell___init__ : Option Addr} {sl_Cell___init__ : Array (Option Value)} {oc_Cell___init__ kV_Cell___init__ dc_Cell___init__ pm_Cell___init__ cd_Cell___init__ ct_Cell___init__ : Value}
    {f_Cell___eq__ : Addr} {od_Cell___eq__ an_Cell___eq__ : Option Addr} {sl_Cell___eq__ : Array (Option Value)} {oc_Cell___eq__ kV_Cell___eq__ dc_Cell___eq__ pm_Cell___eq__ cd_Cell___eq__ ct_Cell___eq__ : Value}
    {f_copies : Addr} {od_copies an_copies : Option Addr} {sl_copies : Array (Option Value)} {oc_copies kV_copies dc_copies pm_copies cd_copies ct_copies : Value}
    {f_law_hand : Addr} {od_law_hand an_law_hand : Option Addr} {sl_law_hand : Array (Option Value)} {oc_law_hand kV_law_hand dc_law_hand pm_law_hand cd_law_hand ct_law_hand : Value}
    {f_law_draw : Addr} {od_law_draw an_law_draw : Option Addr} {sl_law_draw : Array (Option Value)} {oc_law_draw kV_law_draw dc_law_draw pm_law_draw cd_law_draw ct_law_draw : Value}
    {f_law_any : Addr} {od_law_any an_law_any : Option Addr} {sl_law_any : Array (Option Value)} {oc_law_any kV_law_any dc_law_any pm_law_any cd_law_any ct_law_any : Value}
    {f_law_is_int : Addr} {od_law_is_int an_law_is_int : Option Addr} {sl_law_is_int : Array (Option Value)} {oc_law_is_int kV_law_is_int dc_law_is_int pm_law_is_int cd_law_is_int ct_law_is_int : Value}
    {f_law_deep : Addr} {od_law_deep an_law_deep : Option Addr} {sl_law_deep : Array (Option Value)} {oc_law_deep kV_law_deep dc_law_deep pm_law_deep cd_law_deep ct_law_deep : Value}
    {f_law_odd : Addr} {od_law_odd an_law_odd : Option Addr} {sl_law_odd : Array (Option Value)} {oc_law_odd kV_law_odd dc_law_odd pm_law_odd cd_law_odd ct_law_odd : Value}
    {f_law_is_lot : Addr} {od_law_is_lot an_law_is_lot : Option Addr} {sl_law_is_lot : Array (Option Value)} {oc_law_is_lot kV_law_is_lot dc_law_is_lot pm_law_is_lot cd_law_is_lot ct_law_is_lot : Value}
    {f_law_first : Addr} {od_law_first an_law_first : Option Addr} {sl_law_first : Array (Option Value)} {oc_law_first kV_law_first dc_law_first pm_law_first cd_law_first ct_law_first : Value}
    {f_law_outs : Addr} {od_law_outs an_law_outs : Option Addr} {sl_law_outs : Array (Option Value)} {oc_law_outs kV_law_outs dc_law_outs pm_law_outs cd_law_outs ct_law_outs : Value}
    {f_law_parts : Addr} {od_law_parts an_law_parts : Option Addr} {sl_law_parts : Array (Option Value)} {oc_law_parts kV_law_parts dc_law_parts pm_law_parts cd_law_parts ct_law_parts : Value}
    {f_law_bent : Addr} {od_law_bent an_law_bent : Option Addr} {sl_law_bent : Array (Option Value)} {oc_law_bent kV_law_bent dc_law_bent pm_law_bent cd_law_bent ct_law_bent : Value}
    {f_law_bad : Addr} {od_law_bad an_law_bad : Option Addr} {sl_law_bad : Array (Option Value)} {oc_law_bad kV_law_bad dc_law_bad pm_law_bad cd_law_bad ct_law_bad : Value}
    {f_law_made : Addr} {od_law_made an_law_made : Option Addr} {sl_law_made : Array (Option Value)} {oc_law_made kV_law_made dc_law_made pm_law_made cd_law_made ct_law_made : Value}
    {f_law : Addr} {od_law an_law : Option Addr} {sl_law : Array (Option Value)} {oc_law kV_law dc_law pm_law cd_law ct_law : Value}
    {c_Cell : Addr}
    {c_FabricError : Addr}
    {c_BadCell : Addr}
    {t_MOST_LINES : Tok}
    {t_MOST_COPIES : Tok}
    {t_STREAMS : Tok}
    {t_KINDS : Tok}
    {t_GREATEST_CELL : Tok}
    (ac_Cell : PySem.W.nsIn K mainGlobals "Cell" = some (some (.ref c_Cell)))
    (ac_FabricError : PySem.W.nsIn K mainGlobals "FabricError" = some (some (.ref c_FabricError)))
    (ac_BadCell : PySem.W.nsIn K mainGlobals "BadCell" = some (some (.ref c_BadCell)))
    (a_BadCell___init__ : PySem.W.findIn K (.ref c_BadCell) "__init__" = some (some (.ref f_BadCell___init__)))
    (i_BadCell___init__ : PySem.W.isFn K (.ref f_BadCell___init__) = true)
    (l_BadCell___init__ : K.lookup f_BadCell___init__ = some ⟨oc_BadCell___init__, od_BadCell___init__, .func (PySem.W.fnOf "__init__" "BadCell.__init__" (defArgs s_BadCell___init__) (defBody s_BadCell___init__) (defScope s_BadCell___init__) .none kV_BadCell___init__ dc_BadCell___init__ pm_BadCell___init__ an_BadCell___init__ cd_BadCell___init__ ct_BadCell___init__), sl_BadCell___init__⟩)
    (q_BadCell___init__ : PySem.W.codeIn K cd_BadCell___init__ "BadCell.__init__" = true)
    (p_BadCell___init__ : PySem.W.keepIn K (.ref f_BadCell___init__) = true)
    (a_is_integer : PySem.W.nsIn K mainGlobals "is_integer" = some (some (.ref f_is_integer)))
    (l_is_integer : K.lookup f_is_integer = some ⟨oc_is_integer, od_is_integer, .func (PySem.W.fnOf "is_integer" "is_integer" (defArgs s_is_integer) (defBody s_is_integer) (defScope s_is_integer) .none kV_is_integer dc_is_integer pm_is_integer an_is_integer cd_is_integer ct_is_integer), sl_is_integer⟩)
    (q_is_integer : PySem.W.codeIn K cd_is_integer "is_integer" = true)
    (p_is_integer : PySem.W.keepIn K (.ref f_is_integer) = true)
    (a_is_integer_from : PySem.W.nsIn K mainGlobals "is_integer_from" = some (some (.ref f_is_integer_from)))
    (l_is_integer_from : K.lookup f_is_integer_from = some ⟨oc_is_integer_from, od_is_integer_from, .func (PySem.W.fnOf "is_integer_from" "is_integer_from" (defArgs s_is_integer_from) (defBody s_is_integer_from) (defScope s_is_integer_from) .none kV_is_integer_from dc_is_integer_from pm_is_integer_from an_is_integer_from cd_is_integer_from ct_is_integer_from), sl_is_integer_from⟩)
    (q_is_integer_from : PySem.W.codeIn K cd_is_integer_from "is_integer_from" = true)
    (p_is_integer_from : PySem.W.keepIn K (.ref f_is_integer_from) = true)
    (a_is_number_below : PySem.W.nsIn K mainGlobals "is_number_below" = some (some (.ref f_is_number_below)))
    (l_is_number_below : K.lookup f_is_number_below = some ⟨oc_is_number_below, od_is_number_below, .func (PySem.W.fnOf "is_number_below" "is_number_below" (defArgs s_is_number_below) (defBody s_is_number_below) (defScope s_is_number_below) .none kV_is_number_below dc_is_number_below pm_is_number_below an_is_number_below cd_is_number_below ct_is_number_below), sl_is_number_below⟩)
    (q_is_number_below : PySem.W.codeIn K cd_is_number_below "is_number_below" = true)
    (p_is_number_below : PySem.W.keepIn K (.ref f_is_number_below) = true)
    (a_is_lot_below : PySem.W.nsIn K mainGlobals "is_lot_below" = some (some (.ref f_is_lot_below)))
    (l_is_lot_below : K.lookup f_is_lot_below = some ⟨oc_is_lot_below, od_is_lot_below, .func (PySem.W.fnOf "is_lot_below" "is_lot_below" (defArgs s_is_lot_below) (defBody s_is_lot_below) (defScope s_is_lot_below) .none kV_is_lot_below dc_is_lot_below pm_is_lot_below an_is_lot_below cd_is_lot_below ct_is_lot_below), sl_is_lot_below⟩)
    (q_is_lot_below : PySem.W.codeIn K cd_is_lot_below "is_lot_below" = true)
    (p_is_lot_below : PySem.W.keepIn K (.ref f_is_lot_below) = true)
    (a_is_cell_number : PySem.W.nsIn K mainGlobals "is_cell_number" = some (some (.ref f_is_cell_number)))
    (l_is_cell_number : K.lookup f_is_cell_number = some ⟨oc_is_cell_number, od_is_cell_number, .func (PySem.W.fnOf "is_cell_number" "is_cell_number" (defArgs s_is_cell_number) (defBody s_is_cell_number) (defScope s_is_cell_number) .none kV_is_cell_number dc_is_cell_number pm_is_cell_number an_is_cell_number cd_is_cell_number ct_is_cell_number), sl_is_cell_number⟩)
    (q_is_cell_number : PySem.W.codeIn K cd_is_cell_number "is_cell_number" = true)
    (p_is_cell_number : PySem.W.keepIn K (.ref f_is_cell_number) = true)
    (a_are_outs : PySem.W.nsIn K mainGlobals "are_outs" = some (some (.ref f_are_outs)))
    (l_are_outs : K.lookup f_are_outs = some ⟨oc_are_outs, od_are_outs, .func (PySem.W.fnOf "are_outs" "are_outs" (defArgs s_are_outs) (defBody s_are_outs) (defScope s_are_outs) .none kV_are_outs dc_are_outs pm_are_outs an_are_outs cd_are_outs ct_are_outs), sl_are_outs⟩)
    (q_are_outs : PySem.W.codeIn K cd_are_outs "are_outs" = true)
    (p_are_outs : PySem.W.keepIn K (.ref f_are_outs) = true)
    (a_Cell___init__ : PySem.W.findIn K (.ref c_Cell) "__init__" = some (some (.ref f_Cell___init__)))
    (i_Cell___init__ : PySem.W.isFn K (.ref f_Cell___init__) = true)
    (l_Cell___init__ : K.lookup f_Cell___init__ = some ⟨oc_Cell___init__, od_Cell___init__, .func (PySem.W.fnOf "__init__" "Cell.__init__" (defArgs s_Cell___init__) (defBody s_Cell___init__) (defScope s_Cell___init__) .none kV_Cell___init__ dc_Cell___init__ pm_Cell___init__ an_Cell___init__ cd_Cell___init__ ct_Cell___init__), sl_Cell___init__⟩)
    (q_Cell___init__ : PySem.W.codeIn K cd_Cell___init__ "Cell.__init__" = true)
    (p_Cell___init__ : PySem.W.keepIn K (.ref f_Cell___init__) = true)
    (a_Cell___eq__ : PySem.W.findIn K (.ref c_Cell) "__eq__" = some (some (.ref f_Cell___eq__)))
    (i_Cell___eq__ : PySem.W.isFn K (.ref f_Cell___eq__) = true)
    (l_Cell___eq__ : K.lookup f_Cell___eq__ = some ⟨oc_Cell___eq__, od_Cell___eq__, .func (PySem.W.fnOf "__eq__" "Cell.__eq__" (defArgs s_Cell___eq__) (defBody s_Cell___eq__) (defScope s_Cell___eq__) .none kV_Cell___eq__ dc_Cell___eq__ pm_Cell___eq__ an_Cell___eq__ cd_Cell___eq__ ct_Cell___eq__), sl_Cell___eq__⟩)
    (q_Cell___eq__ : PySem.W.codeIn K cd_Cell___eq__ "Cell.__eq__" = true)
    (p_Cell___eq__ : PySem.W.keepIn K (.ref f_Cell___eq__) = true)
    (a_copies : PySem.W.nsIn K mainGlobals "copies" = some (some (.ref f_copies)))
    (l_copies : K.lookup f_copies = some ⟨oc_copies, od_copies, .func (PySem.W.fnOf "copies" "copies" (defArgs s_copies) (defBody s_copies) (defScope s_copies) .none kV_copies dc_copies pm_copies an_copies cd_copies ct_copies), sl_copies⟩)
    (q_copies : PySem.W.codeIn K cd_copies "copies" = true)
    (p_copies : PySem.W.keepIn K (.ref f_copies) = true)
    (a_law_hand : PySem.W.nsIn K mainGlobals "_law_hand" = some (some (.ref f_law_hand)))
    (l_law_hand : K.lookup f_law_hand = some ⟨oc_law_hand, od_law_hand, .func (PySem.W.fnOf "_law_hand" "_law_hand" (defArgs s_law_hand) (defBody s_law_hand) (defScope s_law_hand) .none kV_law_hand dc_law_hand pm_law_hand an_law_hand cd_law_hand ct_law_hand), sl_law_hand⟩)
    (q_law_hand : PySem.W.codeIn K cd_law_hand "_law_hand" = true)
    (p_law_hand : PySem.W.keepIn K (.ref f_law_hand) = true)
    (a_law_draw : PySem.W.nsIn K mainGlobals "_law_draw" = some (some (.ref f_law_draw)))
    (l_law_draw : K.lookup f_law_draw = some ⟨oc_law_draw, od_law_draw, .func (PySem.W.fnOf "_law_draw" "_law_draw" (defArgs s_law_draw) (defBody s_law_draw) (defScope s_law_draw) .none kV_law_draw dc_law_draw pm_law_draw an_law_draw cd_law_draw ct_law_draw), sl_law_draw⟩)
    (q_law_draw : PySem.W.codeIn K cd_law_draw "_law_draw" = true)
    (p_law_draw : PySem.W.keepIn K (.ref f_law_draw) = true)
    (a_law_any : PySem.W.nsIn K mainGlobals "_law_any" = some (some (.ref f_law_any)))
    (l_law_any : K.lookup f_law_any = some ⟨oc_law_any, od_law_any, .func (PySem.W.fnOf "_law_any" "_law_any" (defArgs s_law_any) (defBody s_law_any) (defScope s_law_any) .none kV_law_any dc_law_any pm_law_any an_law_any cd_law_any ct_law_any), sl_law_any⟩)
    (q_law_any : PySem.W.codeIn K cd_law_any "_law_any" = true)
    (p_law_any : PySem.W.keepIn K (.ref f_law_any) = true)
    (a_law_is_int : PySem.W.nsIn K mainGlobals "_law_is_int" = some (some (.ref f_law_is_int)))
    (l_law_is_int : K.lookup f_law_is_int = some ⟨oc_law_is_int, od_law_is_int, .func (PySem.W.fnOf "_law_is_int" "_law_is_int" (defArgs s_law_is_int) (defBody s_law_is_int) (defScope s_law_is_int) .none kV_law_is_int dc_law_is_int pm_law_is_int an_law_is_int cd_law_is_int ct_law_is_int), sl_law_is_int⟩)
    (q_law_is_int : PySem.W.codeIn K cd_law_is_int "_law_is_int" = true)
    (p_law_is_int : PySem.W.keepIn K (.ref f_law_is_int) = true)
    (a_law_deep : PySem.W.nsIn K mainGlobals "_law_deep" = some (some (.ref f_law_deep)))
    (l_law_deep : K.lookup f_law_deep = some ⟨oc_law_deep, od_law_deep, .func (PySem.W.fnOf "_law_deep" "_law_deep" (defArgs s_law_deep) (defBody s_law_deep) (defScope s_law_deep) .none kV_law_deep dc_law_deep pm_law_deep an_law_deep cd_law_deep ct_law_deep), sl_law_deep⟩)
    (q_law_deep : PySem.W.codeIn K cd_law_deep "_law_deep" = true)
    (p_law_deep : PySem.W.keepIn K (.ref f_law_deep) = true)
    (a_law_odd : PySem.W.nsIn K mainGlobals "_law_odd" = some (some (.ref f_law_odd)))
    (l_law_odd : K.lookup f_law_odd = some ⟨oc_law_odd, od_law_odd, .func (PySem.W.fnOf "_law_odd" "_law_odd" (defArgs s_law_odd) (defBody s_law_odd) (defScope s_law_odd) .none kV_law_odd dc_law_odd pm_law_odd an_law_odd cd_law_odd ct_law_odd), sl_law_odd⟩)
    (q_law_odd : PySem.W.codeIn K cd_law_odd "_law_odd" = true)
    (p_law_odd : PySem.W.keepIn K (.ref f_law_odd) = true)
    (a_law_is_lot : PySem.W.nsIn K mainGlobals "_law_is_lot" = some (some (.ref f_law_is_lot)))
    (l_law_is_lot : K.lookup f_law_is_lot = some ⟨oc_law_is_lot, od_law_is_lot, .func (PySem.W.fnOf "_law_is_lot" "_law_is_lot" (defArgs s_law_is_lot) (defBody s_law_is_lot) (defScope s_law_is_lot) .none kV_law_is_lot dc_law_is_lot pm_law_is_lot an_law_is_lot cd_law_is_lot ct_law_is_lot), sl_law_is_lot⟩)
    (q_law_is_lot : PySem.W.codeIn K cd_law_is_lot "_law_is_lot" = true)
    (p_law_is_lot : PySem.W.keepIn K (.ref f_law_is_lot) = true)
    (a_law_first : PySem.W.nsIn K mainGlobals "_law_first" = some (some (.ref f_law_first)))
    (l_law_first : K.lookup f_law_first = some ⟨oc_law_first, od_law_first, .func (PySem.W.fnOf "_law_first" "_law_first" (defArgs s_law_first) (defBody s_law_first) (defScope s_law_first) .none kV_law_first dc_law_first pm_law_first an_law_first cd_law_first ct_law_first), sl_law_first⟩)
    (q_law_first : PySem.W.codeIn K cd_law_first "_law_first" = true)
    (p_law_first : PySem.W.keepIn K (.ref f_law_first) = true)
    (a_law_outs : PySem.W.nsIn K mainGlobals "_law_outs" = some (some (.ref f_law_outs)))
    (l_law_outs : K.lookup f_law_outs = some ⟨oc_law_outs, od_law_outs, .func (PySem.W.fnOf "_law_outs" "_law_outs" (defArgs s_law_outs) (defBody s_law_outs) (defScope s_law_outs) .none kV_law_outs dc_law_outs pm_law_outs an_law_outs cd_law_outs ct_law_outs), sl_law_outs⟩)
    (q_law_outs : PySem.W.codeIn K cd_law_outs "_law_outs" = true)
    (p_law_outs : PySem.W.keepIn K (.ref f_law_outs) = true)
    (a_law_parts : PySem.W.nsIn K mainGlobals "_law_parts" = some (some (.ref f_law_parts)))
    (l_law_parts : K.lookup f_law_parts = some ⟨oc_law_parts, od_law_parts, .func (PySem.W.fnOf "_law_parts" "_law_parts" (defArgs s_law_parts) (defBody s_law_parts) (defScope s_law_parts) .none kV_law_parts dc_law_parts pm_law_parts an_law_parts cd_law_parts ct_law_parts), sl_law_parts⟩)
    (q_law_parts : PySem.W.codeIn K cd_law_parts "_law_parts" = true)
    (p_law_parts : PySem.W.keepIn K (.ref f_law_parts) = true)
    (a_law_bent : PySem.W.nsIn K mainGlobals "_law_bent" = some (some (.ref f_law_bent)))
    (l_law_bent : K.lookup f_law_bent = some ⟨oc_law_bent, od_law_bent, .func (PySem.W.fnOf "_law_bent" "_law_bent" (defArgs s_law_bent) (defBody s_law_bent) (defScope s_law_bent) .none kV_law_bent dc_law_bent pm_law_bent an_law_bent cd_law_bent ct_law_bent), sl_law_bent⟩)
    (q_law_bent : PySem.W.codeIn K cd_law_bent "_law_bent" = true)
    (p_law_bent : PySem.W.keepIn K (.ref f_law_bent) = true)
    (a_law_bad : PySem.W.nsIn K mainGlobals "_law_bad" = some (some (.ref f_law_bad)))
    (l_law_bad : K.lookup f_law_bad = some ⟨oc_law_bad, od_law_bad, .func (PySem.W.fnOf "_law_bad" "_law_bad" (defArgs s_law_bad) (defBody s_law_bad) (defScope s_law_bad) .none kV_law_bad dc_law_bad pm_law_bad an_law_bad cd_law_bad ct_law_bad), sl_law_bad⟩)
    (q_law_bad : PySem.W.codeIn K cd_law_bad "_law_bad" = true)
    (p_law_bad : PySem.W.keepIn K (.ref f_law_bad) = true)
    (a_law_made : PySem.W.nsIn K mainGlobals "_law_made" = some (some (.ref f_law_made)))
    (l_law_made : K.lookup f_law_made = some ⟨oc_law_made, od_law_made, .func (PySem.W.fnOf "_law_made" "_law_made" (defArgs s_law_made) (defBody s_law_made) (defScope s_law_made) .none kV_law_made dc_law_made pm_law_made an_law_made cd_law_made ct_law_made), sl_law_made⟩)
    (q_law_made : PySem.W.codeIn K cd_law_made "_law_made" = true)
    (p_law_made : PySem.W.keepIn K (.ref f_law_made) = true)
    (a_law : PySem.W.nsIn K mainGlobals "law" = some (some (.ref f_law)))
    (l_law : K.lookup f_law = some ⟨oc_law, od_law, .func (PySem.W.fnOf "law" "law" (defArgs s_law) (defBody s_law) (defScope s_law) .none kV_law dc_law pm_law an_law cd_law ct_law), sl_law⟩)
    (q_law : PySem.W.codeIn K cd_law "law" = true)
    (p_law : PySem.W.keepIn K (.ref f_law) = true)
    (pg_Cell : PySem.W.plainGet K c_Cell Str.empty = true)
    (hd_Cell : PySem.W.hasDictIn K c_Cell = true)
    (po_Cell : PySem.W.plainOver K c_Cell = true)
    (sa_Cell : PySem.W.findIn K (.ref c_Cell) "__setattr__" = some (some (.builtin "object.__setattr__")))
    (mk_Cell : PySem.W.makesIn K c_Cell = true)
    (kc_Cell : PySem.W.keepIn K (.ref c_Cell) = true)
    (n_Cell_came_as : PySem.W.findIn K (.ref c_Cell) "came_as" = some none)
    (n_Cell_at_line : PySem.W.findIn K (.ref c_Cell) "at_line" = some none)
    (n_Cell_of_stream : PySem.W.findIn K (.ref c_Cell) "of_stream" = some none)
    (n_Cell_of_kind : PySem.W.findIn K (.ref c_Cell) "of_kind" = some none)
    (n_Cell_to_outs : PySem.W.findIn K (.ref c_Cell) "to_outs" = some none)
    (ne_Cell : PySem.W.findIn K (.ref c_Cell) "__ne__" = some (some (.builtin "object.__ne__")))
    (xt_BadCell : PySem.W.typeIn K (.ref f_BadCell___init__) = some (.type "function"))
    (nf_BadCell_part : PySem.W.findIn K (.ref c_BadCell) "part" = some none)
    (kp_BadCell : PySem.W.keepIn K (.ref c_BadCell) = true)
    (s_BadCell : PySem.W.subIn K (.ref c_BadCell) (.type "BaseException") = some true)
    (t_BadCell : PySem.W.typeIn K (.ref c_BadCell) = some (.type "type"))
    (e1_BadCell : PySem.W.findIn K (.ref c_BadCell) "__getattribute__" = some (some (.builtin "BaseException.__getattribute__")))
    (e2_BadCell : PySem.W.findIn K (.ref c_BadCell) "__getattr__" = some none)
    (e3_BadCell : PySem.W.hasDictIn K c_BadCell = true)
    (e4_BadCell : PySem.W.findIn K (.ref c_BadCell) "__class__" = some (some (.builtin "object.__class__")))
    (e5_BadCell : PySem.W.mroIn K c_BadCell (.type "object") = some true)
    (tt_Cell : PySem.W.typeIn K (.ref c_Cell) = some (.type "type"))
    (ci_Cell : PySem.W.findIn K (.ref c_Cell) "__class__" = some (some (.builtin "object.__class__")))
    (em_Cell : PySem.W.mroIn K c_Cell (.type "object") = some true)
    (en1 : PySem.W.specialIn K (.builtin "object.__class__") "__get__" = some (some (.builtin "getset_descriptor.__get__")))
    (en2 : PySem.W.takesIn K (.builtin "object.__class__") = some true)
    (oc_BadCell : ∃ nm q N bs bm sn sub ab col dd k0 k1 k2 k3 k5, List.lookup c_BadCell K = some (excClassObj nm q c_BadCell N bs bm true sn sub ab col dd k0 k1 k2 k3 k5 "ValueError.__new__") ∧ HandSPX.refsVE bm = true)
    (os_BadCell : PySem.W.findIn K (.ref c_BadCell) "__setattr__" = some (some (.builtin "object.__setattr__")))
    (su_Cell_int : PySem.W.subIn K (.ref c_Cell) (.type "int") = some false)
    (su_Cell_bool : PySem.W.subIn K (.ref c_Cell) (.type "bool") = some false)
    (su_Cell_tuple : PySem.W.subIn K (.ref c_Cell) (.type "tuple") = some false)
    (s_FabricError : PySem.W.subIn K (.ref c_FabricError) (.type "BaseException") = some true)
    (t_FabricError : PySem.W.typeIn K (.ref c_FabricError) = some (.type "type"))
    (e3_FabricError : PySem.W.hasDictIn K c_FabricError = true)
    (su_FabricError_FabricError : PySem.W.subIn K (.ref c_FabricError) (.ref c_FabricError) = some true)
    (su_BadCell_BadCell : PySem.W.subIn K (.ref c_BadCell) (.ref c_BadCell) = some true)
    (su_BadCell_ValueError : PySem.W.subIn K (.ref c_BadCell) (.type "ValueError") = some true)
    (su_BadCell_FabricError : PySem.W.subIn K (.ref c_BadCell) (.ref c_FabricError) = some true)
    (k_MOST_LINES : PySem.W.nsIn K mainGlobals "MOST_LINES" = some (some (.int 12 t_MOST_LINES)))
    (k_MOST_COPIES : PySem.W.nsIn K mainGlobals "MOST_COPIES" = some (some (.int 3 t_MOST_COPIES)))
    (k_STREAMS : PySem.W.nsIn K mainGlobals "STREAMS" = some (some (.int 100 t_STREAMS)))
    (k_KINDS : PySem.W.nsIn K mainGlobals "KINDS" = some (some (.int 8 t_KINDS)))
    (k_GREATEST_CELL : PySem.W.nsIn K mainGlobals "GREATEST_CELL" = some (some (.int 1000000000 t_GREATEST_CELL)))
    (z_ValueError : PySem.W.nsIn K mainGlobals "ValueError" = some none)
    (z_abs : PySem.W.nsIn K mainGlobals "abs" = some none)
    (z_all : PySem.W.nsIn K mainGlobals "all" = some none)
    (z_bool : PySem.W.nsIn K mainGlobals "bool" = some none)
    (z_int : PySem.W.nsIn K mainGlobals "int" = some none)
    (z_isinstance : PySem.W.nsIn K mainGlobals "isinstance" = some none)
    (z_len : PySem.W.nsIn K mainGlobals "len" = some none)
    (z_range : PySem.W.nsIn K mainGlobals "range" = some none)
    (z_repr : PySem.W.nsIn K mainGlobals "repr" = some none)
    (z_set : PySem.W.nsIn K mainGlobals "set" = some none)
    (z_sorted : PySem.W.nsIn K mainGlobals "sorted" = some none)
    (z_tuple : PySem.W.nsIn K mainGlobals "tuple" = some none)
    (z_zip : PySem.W.nsIn K mainGlobals "zip" = some none)
    : ∃ A : Adr, Top K mg A ∧ A.d_law = PySem.W.fnOf "law" "law" (defArgs s_law) (defBody s_law) (defScope s_law) .none kV_law dc_law pm_law an_law cd_law ct_law ∧ A.a_law = f_law := by
  have F_BadCell___init__ := fun_mk (st := s_BadCell___init__) l_BadCell___init__ q_BadCell___init__ p_BadCell___init__
  have F_is_integer := fun_mk (st := s_is_integer) l_is_integer q_is_integer p_is_integer
  have F_is_integer_from := fun_mk (st := s_is_integer_from) l_is_integer_from q_is_integer_from p_is_integer_from
  have F_is_number_below := fun_mk (st := s_is_number_below) l_is_number_below q_is_number_below p_is_number_below
  have F_is_lot_below := fun_mk (st := s_is_lot_below) l_is_lot_below q_is_lot_below p_is_lot_below
  have F_is_cell_number := fun_mk (st := s_is_cell_number) l_is_cell_number q_is_cell_number p_is_cell_number
  have F_are_outs := fun_mk (st := s_are_outs) l_are_outs q_are_outs p_are_outs
  have F_Cell___init__ := fun_mk (st := s_Cell___init__) l_Cell___init__ q_Cell___init__ p_Cell___init__
  have F_Cell___eq__ := fun_mk (st := s_Cell___eq__) l_Cell___eq__ q_Cell___eq__ p_Cell___eq__
  have F_copies := fun_mk (st := s_copies) l_copies q_copies p_copies
  have F_law_hand := fun_mk (st := s_law_hand) l_law_hand q_law_hand p_law_hand
  have F_law_draw := fun_mk (st := s_law_draw) l_law_draw q_law_draw p_law_draw
  have F_law_any := fun_mk (st := s_law_any) l_law_any q_law_any p_law_any
  have F_law_is_int := fun_mk (st := s_law_is_int) l_law_is_int q_law_is_int p_law_is_int
  have F_law_deep := fun_mk (st := s_law_deep) l_law_deep q_law_deep p_law_deep
  have F_law_odd := fun_mk (st := s_law_odd) l_law_odd q_law_odd p_law_odd
  have F_law_is_lot := fun_mk (st := s_law_is_lot) l_law_is_lot q_law_is_lot p_law_is_lot
  have F_law_first := fun_mk (st := s_law_first) l_law_first q_law_first p_law_first
  have F_law_outs := fun_mk (st := s_law_outs) l_law_outs q_law_outs p_law_outs
  have F_law_parts := fun_mk (st := s_law_parts) l_law_parts q_law_parts p_law_parts
  have F_law_bent := fun_mk (st := s_law_bent) l_law_bent q_law_bent p_law_bent
  have F_law_bad := fun_mk (st := s_law_bad) l_law_bad q_law_bad p_law_bad
  have F_law_made := fun_mk (st := s_law_made) l_law_made q_law_made p_law_made
  have F_law := fun_mk (st := s_law) l_law q_law p_law
  refine ⟨⟨f_BadCell___init__, PySem.W.fnOf "__init__" "BadCell.__init__" (defArgs s_BadCell___init__) (defBody s_BadCell___init__) (defScope s_BadCell___init__) .none kV_BadCell___init__ dc_BadCell___init__ pm_BadCell___init__ an_BadCell___init__ cd_BadCell___init__ ct_BadCell___init__, f_is_integer, PySem.W.fnOf "is_integer" "is_integer" (defArgs s_is_integer) (defBody s_is_integer) (defScope s_is_integer) .none kV_is_integer dc_is_integer pm_is_integer an_is_integer cd_is_integer ct_is_integer, f_is_integer_from, PySem.W.fnOf "is_integer_from" "is_integer_from" (defArgs s_is_integer_from) (defBody s_is_integer_from) (defScope s_is_integer_from) .none kV_is_integer_from dc_is_integer_from pm_is_integer_from an_is_integer_from cd_is_integer_from ct_is_integer_from, f_is_number_below, PySem.W.fnOf "is_number_below" "is_number_below" (defArgs s_is_number_below) (defBody s_is_number_below) (defScope s_is_number_below) .none kV_is_number_below dc_is_number_below pm_is_number_below an_is_number_below cd_is_number_below ct_is_number_below, f_is_lot_below, PySem.W.fnOf "is_lot_below" "is_lot_below" (defArgs s_is_lot_below) (defBody s_is_lot_below) (defScope s_is_lot_below) .none kV_is_lot_below dc_is_lot_below pm_is_lot_below an_is_lot_below cd_is_lot_below ct_is_lot_below, f_is_cell_number, PySem.W.fnOf "is_cell_number" "is_cell_number" (defArgs s_is_cell_number) (defBody s_is_cell_number) (defScope s_is_cell_number) .none kV_is_cell_number dc_is_cell_number pm_is_cell_number an_is_cell_number cd_is_cell_number ct_is_cell_number, f_are_outs, PySem.W.fnOf "are_outs" "are_outs" (defArgs s_are_outs) (defBody s_are_outs) (defScope s_are_outs) .none kV_are_outs dc_are_outs pm_are_outs an_are_outs cd_are_outs ct_are_outs, f_Cell___init__, PySem.W.fnOf "__init__" "Cell.__init__" (defArgs s_Cell___init__) (defBody s_Cell___init__) (defScope s_Cell___init__) .none kV_Cell___init__ dc_Cell___init__ pm_Cell___init__ an_Cell___init__ cd_Cell___init__ ct_Cell___init__, f_Cell___eq__, PySem.W.fnOf "__eq__" "Cell.__eq__" (defArgs s_Cell___eq__) (defBody s_Cell___eq__) (defScope s_Cell___eq__) .none kV_Cell___eq__ dc_Cell___eq__ pm_Cell___eq__ an_Cell___eq__ cd_Cell___eq__ ct_Cell___eq__, f_copies, PySem.W.fnOf "copies" "copies" (defArgs s_copies) (defBody s_copies) (defScope s_copies) .none kV_copies dc_copies pm_copies an_copies cd_copies ct_copies, f_law_hand, PySem.W.fnOf "_law_hand" "_law_hand" (defArgs s_law_hand) (defBody s_law_hand) (defScope s_law_hand) .none kV_law_hand dc_law_hand pm_law_hand an_law_hand cd_law_hand ct_law_hand, f_law_draw, PySem.W.fnOf "_law_draw" "_law_draw" (defArgs s_law_draw) (defBody s_law_draw) (defScope s_law_draw) .none kV_law_draw dc_law_draw pm_law_draw an_law_draw cd_law_draw ct_law_draw, f_law_any, PySem.W.fnOf "_law_any" "_law_any" (defArgs s_law_any) (defBody s_law_any) (defScope s_law_any) .none kV_law_any dc_law_any pm_law_any an_law_any cd_law_any ct_law_any, f_law_is_int, PySem.W.fnOf "_law_is_int" "_law_is_int" (defArgs s_law_is_int) (defBody s_law_is_int) (defScope s_law_is_int) .none kV_law_is_int dc_law_is_int pm_law_is_int an_law_is_int cd_law_is_int ct_law_is_int, f_law_deep, PySem.W.fnOf "_law_deep" "_law_deep" (defArgs s_law_deep) (defBody s_law_deep) (defScope s_law_deep) .none kV_law_deep dc_law_deep pm_law_deep an_law_deep cd_law_deep ct_law_deep, f_law_odd, PySem.W.fnOf "_law_odd" "_law_odd" (defArgs s_law_odd) (defBody s_law_odd) (defScope s_law_odd) .none kV_law_odd dc_law_odd pm_law_odd an_law_odd cd_law_odd ct_law_odd, f_law_is_lot, PySem.W.fnOf "_law_is_lot" "_law_is_lot" (defArgs s_law_is_lot) (defBody s_law_is_lot) (defScope s_law_is_lot) .none kV_law_is_lot dc_law_is_lot pm_law_is_lot an_law_is_lot cd_law_is_lot ct_law_is_lot, f_law_first, PySem.W.fnOf "_law_first" "_law_first" (defArgs s_law_first) (defBody s_law_first) (defScope s_law_first) .none kV_law_first dc_law_first pm_law_first an_law_first cd_law_first ct_law_first, f_law_outs, PySem.W.fnOf "_law_outs" "_law_outs" (defArgs s_law_outs) (defBody s_law_outs) (defScope s_law_outs) .none kV_law_outs dc_law_outs pm_law_outs an_law_outs cd_law_outs ct_law_outs, f_law_parts, PySem.W.fnOf "_law_parts" "_law_parts" (defArgs s_law_parts) (defBody s_law_parts) (defScope s_law_parts) .none kV_law_parts dc_law_parts pm_law_parts an_law_parts cd_law_parts ct_law_parts, f_law_bent, PySem.W.fnOf "_law_bent" "_law_bent" (defArgs s_law_bent) (defBody s_law_bent) (defScope s_law_bent) .none kV_law_bent dc_law_bent pm_law_bent an_law_bent cd_law_bent ct_law_bent, f_law_bad, PySem.W.fnOf "_law_bad" "_law_bad" (defArgs s_law_bad) (defBody s_law_bad) (defScope s_law_bad) .none kV_law_bad dc_law_bad pm_law_bad an_law_bad cd_law_bad ct_law_bad, f_law_made, PySem.W.fnOf "_law_made" "_law_made" (defArgs s_law_made) (defBody s_law_made) (defScope s_law_made) .none kV_law_made dc_law_made pm_law_made an_law_made cd_law_made ct_law_made, f_law, PySem.W.fnOf "law" "law" (defArgs s_law) (defBody s_law) (defScope s_law) .none kV_law dc_law pm_law an_law cd_law ct_law, c_Cell, c_FabricError, c_BadCell⟩, ?_, rfl, rfl⟩
  exact ⟨F_BadCell___init__,
    F_BadCell___init__.binds (fun _ _ _ _ _ _ us hl => match us, hl with | [_, _], _ => rfl),
    F_is_integer,
    PySem.W.mg_of X G a_is_integer,
    F_is_integer.binds (fun _ _ _ _ _ _ us hl => match us, hl with | [_], _ => rfl),
    F_is_integer_from,
    PySem.W.mg_of X G a_is_integer_from,
    F_is_integer_from.binds (fun _ _ _ _ _ _ us hl => match us, hl with | [_, _, _], _ => rfl),
    F_is_number_below,
    PySem.W.mg_of X G a_is_number_below,
    F_is_number_below.binds (fun _ _ _ _ _ _ us hl => match us, hl with | [_, _], _ => rfl),
    F_is_lot_below,
    PySem.W.mg_of X G a_is_lot_below,
    F_is_lot_below.binds (fun _ _ _ _ _ _ us hl => match us, hl with | [_, _], _ => rfl),
    F_is_cell_number,
    PySem.W.mg_of X G a_is_cell_number,
    F_is_cell_number.binds (fun _ _ _ _ _ _ us hl => match us, hl with | [_], _ => rfl),
    F_are_outs,
    PySem.W.mg_of X G a_are_outs,
    F_are_outs.binds (fun _ _ _ _ _ _ us hl => match us, hl with | [_, _, _], _ => rfl),
    F_Cell___init__,
    F_Cell___init__.binds (fun _ _ _ _ _ _ us hl => match us, hl with | [_, _, _, _, _, _], _ => rfl),
    F_Cell___eq__,
    F_Cell___eq__.binds (fun _ _ _ _ _ _ us hl => match us, hl with | [_, _], _ => rfl),
    F_copies,
    PySem.W.mg_of X G a_copies,
    F_copies.binds (fun _ _ _ _ _ _ us hl => match us, hl with | [_], _ => rfl),
    F_law_hand,
    PySem.W.mg_of X G a_law_hand,
    F_law_hand.binds (fun _ _ _ _ _ _ us hl => match us, hl with | [_], _ => rfl),
    F_law_draw,
    PySem.W.mg_of X G a_law_draw,
    F_law_draw.binds (fun _ _ _ _ _ _ us hl => match us, hl with | [_, _], _ => rfl),
    F_law_any,
    PySem.W.mg_of X G a_law_any,
    F_law_any.binds (fun _ _ _ _ _ _ us hl => match us, hl with | [_, _], _ => rfl),
    F_law_is_int,
    PySem.W.mg_of X G a_law_is_int,
    F_law_is_int.binds (fun _ _ _ _ _ _ us hl => match us, hl with | [_, _, _], _ => rfl),
    F_law_deep,
    PySem.W.mg_of X G a_law_deep,
    F_law_deep.binds (fun _ _ _ _ _ _ us hl => match us, hl with | [_], _ => rfl),
    F_law_odd,
    PySem.W.mg_of X G a_law_odd,
    F_law_odd.binds (fun _ _ _ _ _ _ us hl => match us, hl with | [_, _], _ => rfl),
    F_law_is_lot,
    PySem.W.mg_of X G a_law_is_lot,
    F_law_is_lot.binds (fun _ _ _ _ _ _ us hl => match us, hl with | [_, _], _ => rfl),
    F_law_first,
    PySem.W.mg_of X G a_law_first,
    F_law_first.binds (fun _ _ _ _ _ _ us hl => match us, hl with | [_], _ => rfl),
    F_law_outs,
    PySem.W.mg_of X G a_law_outs,
    F_law_outs.binds (fun _ _ _ _ _ _ us hl => match us, hl with | [_, _, _], _ => rfl),
    F_law_parts,
    PySem.W.mg_of X G a_law_parts,
    F_law_parts.binds (fun _ _ _ _ _ _ us hl => match us, hl with | [_], _ => rfl),
    F_law_bent,
    PySem.W.mg_of X G a_law_bent,
    F_law_bent.binds (fun _ _ _ _ _ _ us hl => match us, hl with | [_, _, _], _ => rfl),
    F_law_bad,
    PySem.W.mg_of X G a_law_bad,
    F_law_bad.binds (fun _ _ _ _ _ _ us hl => match us, hl with | [_], _ => rfl),
    F_law_made,
    PySem.W.mg_of X G a_law_made,
    F_law_made.binds (fun _ _ _ _ _ _ us hl => match us, hl with | [_], _ => rfl),
    F_law,
    PySem.W.mg_of X G a_law,
    F_law.binds (fun _ _ _ _ _ _ us hl => match us, hl with | [_], _ => rfl),
    ⟨pg_Cell, hd_Cell, po_Cell, sa_Cell⟩,
    PySem.W.mg_of X G ac_Cell,
    ⟨mk_Cell, a_Cell___init__, i_Cell___init__, kc_Cell⟩,
    ⟨a_Cell___eq__, i_Cell___eq__, p_Cell___eq__⟩,
    n_Cell_came_as,
    n_Cell_at_line,
    n_Cell_of_stream,
    n_Cell_of_kind,
    n_Cell_to_outs,
    ⟨em_Cell, ne_Cell, a_Cell___eq__, i_Cell___eq__⟩,
    PySem.W.mg_of X G ac_FabricError,
    PySem.W.mg_of X G ac_BadCell,
    ⟨oc_BadCell, os_BadCell, s_BadCell, t_BadCell, kp_BadCell⟩,
    a_BadCell___init__,
    xt_BadCell,
    nf_BadCell_part,
    kp_BadCell,
    s_BadCell,
    t_BadCell,
    e1_BadCell,
    e2_BadCell,
    e3_BadCell,
    e4_BadCell,
    e5_BadCell,
    GX.kit_bi (by decide) su_Cell_int,
    GX.kit_bi (by decide) su_Cell_bool,
    GX.kit_bi (by decide) su_Cell_tuple,
    tt_Cell,
    ci_Cell,
    em_Cell,
    en1,
    en2,
    GX.kit_yes (PySem.W.exm_ref s_BadCell e3_BadCell t_BadCell su_BadCell_BadCell),
    (PySem.W.exm_ref s_BadCell e3_BadCell t_BadCell su_BadCell_BadCell),
    GX.kit_bi (by decide) su_BadCell_ValueError,
    GX.kit_yes (PySem.W.exm_ref s_FabricError e3_FabricError t_FabricError su_BadCell_FabricError),
    (PySem.W.exm_ref s_FabricError e3_FabricError t_FabricError su_BadCell_FabricError),
    ⟨_, PySem.W.mg_of X G k_MOST_LINES⟩,
    ⟨_, PySem.W.mg_of X G k_MOST_COPIES⟩,
    ⟨_, PySem.W.mg_of X G k_STREAMS⟩,
    ⟨_, PySem.W.mg_of X G k_KINDS⟩,
    ⟨_, PySem.W.mg_of X G k_GREATEST_CELL⟩,
    PySem.W.mg_none_of X G z_ValueError,
    PySem.W.mg_none_of X G z_abs,
    PySem.W.mg_none_of X G z_all,
    PySem.W.mg_none_of X G z_bool,
    PySem.W.mg_none_of X G z_int,
    PySem.W.mg_none_of X G z_isinstance,
    PySem.W.mg_none_of X G z_len,
    PySem.W.mg_none_of X G z_range,
    PySem.W.mg_none_of X G z_repr,
    PySem.W.mg_none_of X G z_set,
    PySem.W.mg_none_of X G z_sorted,
    PySem.W.mg_none_of X G z_tuple,
    PySem.W.mg_none_of X G z_zip⟩

/-! ### heaps -/
theorem dec_int {a b : Int} : decide (V.int a = V.int b) = decide (a = b) := decide_eq_decide.mpr ⟨fun e => V.int.inj e, fun e => by rw [e]⟩
theorem dec_self {a : V} : decide (a = a) = true := decide_eq_true rfl
theorem same_upd {H : Hp} {p : Addr} {o : HO} (h : H p = none) : Same H (upd H p o) := fun b x e => by
  rw [upd_ne (ne_of_none e h)]
  exact e
theorem same_to {H H1 : Hp} {p : Addr} {o : HO} (s : Same H H1) (h : H p = none) : Same H (upd H1 p o) := fun b x e => by
  rw [upd_ne (ne_of_none e h)]
  exact s b x e
/-- as H but at x, new objects apart -/
def Kp (x : Addr) (H H' : Hp) : Prop := ∀ q o, q ≠ x → H q = some o → H' q = some o
theorem Kp.same {x : Addr} {H H1 H2 : Hp} (a : Kp x H H1) (b : Same H1 H2) : Kp x H H2 := fun q o hq h => b _ _ (a q o hq h)
theorem kp_of {H H' : Hp} (a : Same H H') (x : Addr) : Kp x H H' := fun q o _ h => a q o h
theorem Kp.upd {x : Addr} {H H1 : Hp} {o : HO} (a : Kp x H H1) : Kp x H (upd H1 x o) := fun q u hq h => by
  rw [upd_ne hq]
  exact a q u hq h
theorem Kp.trans {h : Addr} {H H1 H2 : Hp} (a : Kp h H H1) (b : Kp h H1 H2) : Kp h H H2 := fun q o hq e => b q o hq (a q o hq e)
theorem Kp.free {h p : Addr} {H H' : Hp} (a : Kp h H H') (hp : p ≠ h) (e : H' p = none) : H p = none := by
  cases q : H p with
  | none => rfl
  | some o =>
    rw [a p o hp q] at e
    cases e
theorem small1000 {n : Nat} (h : n < 1000) : n < sizeLine := Nat.lt_trans h (by decide)
theorem ne_of {H : Hp} {p q : Addr} {o u : HO} (hp : H p = some o) (hq : H q = some u) (h : o ≠ u) : p ≠ q := fun e => by
  rw [e, hq] at hp
  exact h (Option.some.inj hp).symm
def NT (o : HO) : Prop := ∀ ps, o ≠ .tbl ps
/-- as H but at h, tables apart -/
def Mv (h : Addr) (H H' : Hp) : Prop := ∀ q o, q ≠ h → H q = some o → NT o → H' q = some o
theorem Mv.of {h : Addr} {H H' : Hp} (k : Kp h H H') : Mv h H H' := fun q o hq e _ => k q o hq e
theorem Mv.same {h : Addr} {H H' : Hp} (k : Same H H') : Mv h H H' := fun q o _ e _ => k q o e
theorem Mv.ext {h : Addr} {H H' : Hp} (k : LamX.ExtN H H') : Mv h H H' := fun q o _ e n => k q o e n
theorem Mv.trans {h : Addr} {H H1 H2 : Hp} (a : Mv h H H1) (b : Mv h H1 H2) : Mv h H H2 := fun q o hq e n => b q o hq (a q o hq e n) n
theorem nt_lst {xs : List V} : NT (.lst xs) := fun _ z => by cases z
theorem nt_tup {xs : List V} : NT (.tup xs) := fun _ z => by cases z
theorem nt_ins {a b : Addr} {fs : List (Str × V)} : NT (.ins a b fs) := fun _ z => by cases z
theorem nt_dK {kvs : List (Key × V)} : NT (.dK kvs) := fun _ z => by cases z
/-! ### things of any sort, told as data -/
inductive Td where
  | int (i : Int) | bl (b : Bool) | non | str (s : Str) | tup (ds : List Td) | oth | ins
mutual
/-- v tells d; what may change (the list at h) is none of it -/
inductive Is (C h : Addr) (H : Hp) : V → Td → Prop
  | int (i : Int) : Is C h H (.int i) (.int i)
  | bl (b : Bool) : Is C h H (.bl b) (.bl b)
  | non : Is C h H .non .non
  | str (s : Str) : Is C h H (.str s) (.str s)
  | tup {a : Addr} {xs : List V} {ds : List Td} : H a = some (.tup xs) → IsL C h H xs ds → Is C h H (.ref a) (.tup ds)
  | lst {a : Addr} {xs : List V} : H a = some (.lst xs) → a ≠ h → Is C h H (.ref a) .oth
  | dK {a : Addr} {kvs : List (Key × V)} : H a = some (.dK kvs) → Is C h H (.ref a) .oth
  | ins {a dx : Addr} {fs : List (Str × V)} : H a = some (.ins C dx fs) → Is C h H (.ref a) .ins
inductive IsL (C h : Addr) (H : Hp) : List V → List Td → Prop
  | nil : IsL C h H [] []
  | cons {v : V} {d : Td} {vs : List V} {ds : List Td} : Is C h H v d → IsL C h H vs ds → IsL C h H (v :: vs) (d :: ds)
end
section
variable {C h : Addr} {H H' : Hp}
theorem Is.mv {v : V} {d : Td} (t : Is C h H v d) (k : Mv h H H') (hh : ∃ ys, H h = some (.lst ys)) : Is C h H' v d := by
  obtain ⟨ys, hh⟩ := hh
  refine Is.rec (motive_1 := fun v d _ => Is C h H' v d) (motive_2 := fun vs ds _ => IsL C h H' vs ds) (fun i => .int i) (fun b => .bl b) .non (fun s => .str s) (fun e _ ih => .tup (k _ _ (ne_of e hh (by intro z; cases z)) e nt_tup) ih)
    (fun e n => .lst (k _ _ n e nt_lst) n) (fun e => .dK (k _ _ (ne_of e hh (by intro z; cases z)) e nt_dK)) (fun e => .ins (k _ _ (ne_of e hh (by intro z; cases z)) e nt_ins)) .nil (fun _ _ a b => .cons a b) t
theorem IsL.mv {vs : List V} {ds : List Td} (t : IsL C h H vs ds) (k : Mv h H H') (hh : ∃ ys, H h = some (.lst ys)) : IsL C h H' vs ds := by
  obtain ⟨ys, hh⟩ := hh
  refine IsL.rec (motive_1 := fun v d _ => Is C h H' v d) (motive_2 := fun vs ds _ => IsL C h H' vs ds) (fun i => .int i) (fun b => .bl b) .non (fun s => .str s) (fun e _ ih => .tup (k _ _ (ne_of e hh (by intro z; cases z)) e nt_tup) ih)
    (fun e n => .lst (k _ _ n e nt_lst) n) (fun e => .dK (k _ _ (ne_of e hh (by intro z; cases z)) e nt_dK)) (fun e => .ins (k _ _ (ne_of e hh (by intro z; cases z)) e nt_ins)) .nil (fun _ _ a b => .cons a b) t
theorem Is.same {v : V} {d : Td} (t : Is C h H v d) (s : Same H H') : Is C h H' v d := by
  refine Is.rec (motive_1 := fun v d _ => Is C h H' v d) (motive_2 := fun vs ds _ => IsL C h H' vs ds) (fun i => .int i) (fun b => .bl b) .non (fun s => .str s) (fun e _ ih => .tup (s _ _ e) ih)
    (fun e n => .lst (s _ _ e) n) (fun e => .dK (s _ _ e)) (fun e => .ins (s _ _ e)) .nil (fun _ _ a b => .cons a b) t
theorem IsL.same {v : List V} {d : List Td} (t : IsL C h H v d) (s : Same H H') : IsL C h H' v d := by
  refine IsL.rec (motive_1 := fun v d _ => Is C h H' v d) (motive_2 := fun vs ds _ => IsL C h H' vs ds) (fun i => .int i) (fun b => .bl b) .non (fun s => .str s) (fun e _ ih => .tup (s _ _ e) ih)
    (fun e n => .lst (s _ _ e) n) (fun e => .dK (s _ _ e)) (fun e => .ins (s _ _ e)) .nil (fun _ _ a b => .cons a b) t
theorem IsL.len : ∀ {vs : List V} {ds : List Td}, IsL C h H vs ds → vs.length = ds.length
  | _, _, .nil => rfl
  | _, _, .cons _ t => by rw [List.length_cons, List.length_cons, t.len]
theorem IsL.get : ∀ {vs : List V} {ds : List Td}, IsL C h H vs ds → ∀ {i : Nat} {v : V}, vs[i]? = some v → ∃ d, ds[i]? = some d ∧ Is C h H v d
  | _, _, .cons a _, 0, _, e => by
    cases e
    exact ⟨_, rfl, a⟩
  | _, _, .cons _ t, i + 1, _, e => by
    obtain ⟨d, e1, e2⟩ := t.get (i := i) e
    exact ⟨d, e1, e2⟩
theorem IsL.append : ∀ {vs us : List V} {ds es : List Td}, IsL C h H vs ds → IsL C h H us es → IsL C h H (vs ++ us) (ds ++ es)
  | _, _, _, _, .nil, t => t
  | _, _, _, _, .cons a r, t => .cons a (r.append t)
theorem IsL.three {x y z : V} {ds : List Td} (t : IsL C h H [x, y, z] ds) : ∃ a b c, ds = [a, b, c] ∧ Is C h H x a ∧ Is C h H y b ∧ Is C h H z c := by
  cases t with
  | cons a t => cases t with
    | cons b t => cases t with
      | cons c t => cases t with
        | nil => exact ⟨_, _, _, rfl, a, b, c⟩
theorem IsL.ints : ∀ {ns : List Int}, IsL C h H (ns.map V.int) (ns.map Td.int)
  | [] => .nil
  | n :: ns => .cons (.int n) IsL.ints
end
def isI : Td → Bool
  | .int _ => true
  | _ => false
def isBl : Td → Bool
  | .bl _ => true
  | _ => false
def isT : Td → Bool
  | .tup _ => true
  | _ => false
/-- an integer from lo to hi -/
def inI (lo hi : Int) : Td → Bool
  | .int i => decide (lo ≤ i) && decide (i ≤ hi)
  | _ => false
def tupN (n : Int) : Td → Bool
  | .tup ds => decide ((ds.length : Int) = n)
  | _ => false
/-- integers that ascend from lo on, none above hi -/
def ascT (hi : Int) : Int → List Td → Bool
  | _, [] => true
  | lo, .int i :: ds => decide (lo ≤ i) && decide (i ≤ hi) && ascT hi (i + 1) ds
  | _, _ :: _ => false
def lotB (n : Int) : Td → Bool
  | .tup ds => ascT (n - 1) 0 ds
  | _ => false
def outsB (n m : Int) : Td → Bool
  | .tup ds => ascT (n - 1) 0 ds && (decide (1 ≤ (ds.length : Int)) && decide ((ds.length : Int) ≤ m))
  | _ => false
def arrB (n m : Int) : Td → Bool
  | .tup [s, k, o] => inI 0 99 s && (inI 0 7 k && outsB n m o)
  | _ => false
def itemB (n m : Int) : Td → Bool
  | .non => true
  | d => arrB n m d
def rowB (n m : Int) : Td → Bool
  | .tup ds => decide ((ds.length : Int) = n) && ds.all (itemB n m)
  | _ => false
def arrsB (n m : Int) : Td → Bool
  | .tup rs => decide ((rs.length : Int) ≤ 200) && rs.all (rowB n m)
  | _ => false
section
variable {P : Program} {w : World} {K : PySem.W.Frag} {mg : Str → Option Value} {base : Heap} {A : Adr}
theorem kitQ {a b : String} {r r' : Bool} (h : kitB a b = some r) (e : r' = r) : PySem.W.kitOne K (.type a) (.type b) = some r' := by
  rw [e]
  exact kit_ty h
theorem is_ty (T : Top K mg A) {h : Addr} {H : Hp} {x : V} {d : Td} (t : Is A.c_Cell h H x d) : ∃ t, TyX K H x t ∧ PySem.W.kitOne K t (.type "int") = some (isI d || isBl d) ∧ PySem.W.kitOne K t (.type "bool") = some (isBl d) ∧ PySem.W.kitOne K t (.type "tuple") = some (isT d) := by
  cases t with
  | non => exact ⟨_, .base .non, kitQ (a := "NoneType") (b := "int") (r := false) (by decide +kernel) rfl, kitQ (a := "NoneType") (b := "bool") (r := false) (by decide +kernel) rfl, kitQ (a := "NoneType") (b := "tuple") (r := false) (by decide +kernel) rfl⟩
  | bl b => exact ⟨_, .base (.bl b), kitQ (a := "bool") (b := "int") (r := true) (by decide +kernel) rfl, kitQ (a := "bool") (b := "bool") (r := true) (by decide +kernel) rfl, kitQ (a := "bool") (b := "tuple") (r := false) (by decide +kernel) rfl⟩
  | int i => exact ⟨_, .base (.int i), kitQ (a := "int") (b := "int") (r := true) (by decide +kernel) rfl, kitQ (a := "int") (b := "bool") (r := false) (by decide +kernel) rfl, kitQ (a := "int") (b := "tuple") (r := false) (by decide +kernel) rfl⟩
  | str s => exact ⟨_, .base (.str s), kitQ (a := "str") (b := "int") (r := false) (by decide +kernel) rfl, kitQ (a := "str") (b := "bool") (r := false) (by decide +kernel) rfl, kitQ (a := "str") (b := "tuple") (r := false) (by decide +kernel) rfl⟩
  | tup e l => exact ⟨_, .base (.tup e), kitQ (a := "tuple") (b := "int") (r := false) (by decide +kernel) rfl, kitQ (a := "tuple") (b := "bool") (r := false) (by decide +kernel) rfl, kitQ (a := "tuple") (b := "tuple") (r := true) (by decide +kernel) rfl⟩
  | lst e n => exact ⟨_, .base (.lst e), kitQ (a := "list") (b := "int") (r := false) (by decide +kernel) rfl, kitQ (a := "list") (b := "bool") (r := false) (by decide +kernel) rfl, kitQ (a := "list") (b := "tuple") (r := false) (by decide +kernel) rfl⟩
  | dK e => exact ⟨_, .base (.dK e), kitQ (a := "dict") (b := "int") (r := false) (by decide +kernel) rfl, kitQ (a := "dict") (b := "bool") (r := false) (by decide +kernel) rfl, kitQ (a := "dict") (b := "tuple") (r := false) (by decide +kernel) rfl⟩
  | ins e => exact ⟨_, .base (.ins e T.cl_Cell T.ci_Cell T.en1 T.en2 T.em_Cell), T.ki_Cell_int, T.ki_Cell_bool, T.ki_Cell_tuple⟩
theorem isT_of {h C : Addr} {H : Hp} {x : V} {d : Td} (t : Is C h H x d) (c : isT d = true) : ∃ a xs ds, x = .ref a ∧ d = .tup ds ∧ H a = some (.tup xs) ∧ IsL C h H xs ds := by
  cases t with
  | tup e l => exact ⟨_, _, _, rfl, rfl, e, l⟩
  | _ => cases c
/-! ### what counts as an integer -/
def spIsInteger (C : Addr) : Sp := fun vs H Q _ => ∃ x d h, vs = [x] ∧ Is C h H x d ∧ Q (.bl (isI d)) H
theorem ok_is_integer (T : Top K mg A) : FnOk P w K mg base CX0 1 A.a_is_integer A.d_is_integer P_is_integer (spIsInteger A.c_Cell) := by
  refine T.F_is_integer.ok sc_is_integer (fun vs H Q E h => ?_) (fun cdv A' outer s H vs Q E hr h => ?_)
  · obtain ⟨x, d, h, rfl, _⟩ := h
    rfl
  · obtain ⟨x, d, h, rfl, ht, k⟩ := h
    obtain ⟨t, ty, e1, e2, _⟩ := is_ty T ht
    refine ⟨_, (pss_one (ps_ret (pe_and (pe_callB call_isi (by rfl) T.z_isinstance (by decide +kernel) (pa_cons (pv 0) (pa_cons (pe_bltn (v := .ty "int") (by rfl) T.z_int (by decide +kernel) rfl) pa_nil))) (pe_one (pe_not (pe_callB call_isi (by rfl) T.z_isinstance (by decide +kernel) (pa_cons (pv 0) (pa_cons (pe_bltn (v := .ty "bool") (by rfl) T.z_bool (by decide +kernel) rfl) pa_nil)))))))), ?_⟩
    refine ⟨_, rfl, _, _, _, _, _, rfl, .ty "int", ty, e1, (isI d || isBl d), rfl, ?_⟩
    cases c : (isI d || isBl d) with
    | false =>
      refine iteF ?_
      have q : isI d = false := by
        cases d <;> first | rfl | cases c
      rw [q] at k
      exact k
    | true =>
      refine iteT ?_
      refine ⟨_, rfl, _, _, _, _, _, rfl, .ty "bool", ty, e2, _, rfl, ?_⟩
      have q : isI d = !isBl d := by
        cases d <;> first | rfl | cases c
      rw [q] at k
      exact k
theorem is_int {C h : Addr} {H : Hp} {x : V} {d : Td} (t : Is C h H x d) (c : isI d = true) : ∃ i, x = .int i ∧ d = .int i := by
  cases t with
  | int i => exact ⟨i, rfl, rfl⟩
  | _ => cases c
theorem inI_no {lo hi : Int} {d : Td} (c : isI d = false) : inI lo hi d = false := by
  cases d with
  | int i => cases c
  | _ => rfl
def spIIF (C : Addr) : Sp := fun vs H Q _ => ∃ (lo hi : Int) (x : V) (d : Td) (h : Addr), vs = [.int lo, .int hi, x] ∧ Is C h H x d ∧ Q (.bl (inI lo hi d)) H
theorem ok_is_integer_from (T : Top K mg A) : FnOk P w K mg base CX0 2 A.a_is_integer_from A.d_is_integer_from P_is_integer_from (spIIF A.c_Cell) := by
  refine T.F_is_integer_from.ok sc_is_integer_from (fun vs H Q E h => ?_) (fun cdv A' outer s H vs Q E hr h => ?_)
  · obtain ⟨lo, hi, x, d, h, rfl, _⟩ := h
    rfl
  · obtain ⟨lo, hi, x, d, h, rfl, ht, k⟩ := h
    refine ⟨_, (pss_one (ps_ret (pe_and (pe_call (ok_is_integer T) (hr.mono (by decide)) (by rfl) T.g_is_integer T.F_is_integer.kp T.b_is_integer .nil pass0 (pa_cons (pv 2) pa_nil)) (pe_one (pe_chain op_le op_le (pv 0) (pv 2) (pv 1)))))), ?_⟩
    refine ⟨_, rfl, x, d, h, rfl, ht, _, rfl, ?_⟩
    cases c : isI d with
    | true =>
      obtain ⟨i, rfl, rfl⟩ := is_int ht c
      refine iteT ?_
      refine ⟨_, rfl, _, rfl, _, _, rfl, rfl, _, rfl, ?_⟩
      by_cases c : lo ≤ i
      · simp only [inI, decide_eq_true c, Bool.true_and] at k
        rw [decide_eq_true c]
        refine iteT ⟨_, rfl, _, _, rfl, rfl, k⟩
      · simp only [inI, decide_eq_false c, Bool.false_and] at k
        rw [decide_eq_false c]
        exact iteF k
    | false =>
      rw [inI_no c] at k
      exact iteF k
def spINB (C : Addr) : Sp := fun vs H Q _ => ∃ (n : Int) (x : V) (d : Td) (h : Addr), vs = [.int n, x] ∧ Is C h H x d ∧ Q (.bl (inI 0 (n - 1) d)) H
theorem ok_is_number_below (T : Top K mg A) : FnOk P w K mg base CX0 3 A.a_is_number_below A.d_is_number_below P_is_number_below (spINB A.c_Cell) := by
  refine T.F_is_number_below.ok sc_is_number_below (fun vs H Q E h => ?_) (fun cdv A' outer s H vs Q E hr h => ?_)
  · obtain ⟨n, x, d, h, rfl, _⟩ := h
    rfl
  · obtain ⟨n, x, d, h, rfl, ht, k⟩ := h
    refine ⟨_, (pss_one (ps_ret (pe_call (ok_is_integer_from T) (hr.mono (by decide)) (by rfl) T.g_is_integer_from T.F_is_integer_from.kp T.b_is_integer_from .nil pass0 (pa_cons pe_int (pa_cons (pe_op op_sub (pv 0) pe_int) (pa_cons (pv 1) pa_nil)))))), ?_⟩
    exact ⟨_, rfl, _, _, rfl, rfl, _, rfl, _, _, _, _, _, rfl, ht, k⟩
theorem tupN_no {n : Int} {d : Td} (c : isT d = false) : tupN n d = false := by
  cases d with
  | tup i => cases c
  | _ => rfl
def spITO (C : Addr) : Sp := fun vs H Q _ => ∃ (n : Int) (x : V) (d : Td) (h : Addr), vs = [.int n, x] ∧ Is C h H x d ∧ Q (.bl (tupN n d)) H
def spCheckLines (C N : Addr) : Sp := fun vs H Q E => ∃ x d h, vs = [x] ∧ Is C h H x d ∧ (inI 1 12 d = true → Q .non H) ∧ (inI 1 12 d = false → E (.ref N) none H)
def spCheckMost (C N : Addr) : Sp := fun vs H Q E => ∃ x d h, vs = [x] ∧ Is C h H x d ∧ (inI 1 3 d = true → Q .non H) ∧ (inI 1 3 d = false → E (.ref N) none H)
def spICN (C : Addr) : Sp := fun vs H Q _ => ∃ x d h, vs = [x] ∧ Is C h H x d ∧ Q (.bl (inI 0 1000000000 d)) H
theorem ok_is_cell_number (T : Top K mg A) : FnOk P w K mg base CX0 3 A.a_is_cell_number A.d_is_cell_number P_is_cell_number (spICN A.c_Cell) := by
  refine T.F_is_cell_number.ok sc_is_cell_number (fun vs H Q E h => ?_) (fun cdv A' outer s H vs Q E hr h => ?_)
  · obtain ⟨x, d, h, rfl, _⟩ := h
    rfl
  · obtain ⟨x, d, h, rfl, ht, k⟩ := h
    refine ⟨_, (pss_one (ps_ret (pe_call (ok_is_integer_from T) (hr.mono (by decide)) (by rfl) T.g_is_integer_from T.F_is_integer_from.kp T.b_is_integer_from .nil pass0 (pa_cons pe_int (pa_cons (pe_glob (v := .int 1000000000) rfl (T.k_GREATEST_CELL).choose_spec ⟨_, rfl⟩) (pa_cons (pv 0) pa_nil)))))), ?_⟩
    exact ⟨_, rfl, _, _, _, _, _, rfl, ht, k⟩
end

section
variable {P : Program} {w : World} {K : PySem.W.Frag} {mg : Str → Option Value} {base : Heap} {A : Adr}
theorem ascT_no {hi lo : Int} {d : Td} {r : List Td} (c : inI lo hi d = false) : ascT hi lo (d :: r) = false := by
  cases d with
  | int i =>
    show (decide (lo ≤ i) && decide (i ≤ hi) && _) = false
    rw [show (decide (lo ≤ i) && decide (i ≤ hi)) = false from c]
    rfl
  | _ => rfl
theorem ascT_yes {hi lo : Int} {d : Td} {r : List Td} (c : inI lo hi d = true) : ∃ i, d = .int i ∧ ascT hi lo (d :: r) = ascT hi (i + 1) r := by
  cases d with
  | int i =>
    refine ⟨i, rfl, ?_⟩
    show (decide (lo ≤ i) && decide (i ≤ hi) && _) = _
    rw [show (decide (lo ≤ i) && decide (i ≤ hi)) = true from c]
    rfl
  | _ => cases c
theorem lotB_no {n : Int} {d : Td} (c : isT d = false) : lotB n d = false := by
  cases d with
  | tup i => cases c
  | _ => rfl
theorem drop_at {α : Type} {xs : List α} {i : Nat} {x : α} (h : xs[i]? = some x) : xs.drop i = x :: xs.drop (i + 1) := by
  obtain ⟨hi, e⟩ := List.getElem?_eq_some_iff.mp h
  rw [List.drop_eq_getElem_cons hi, e]
def spLot (C : Addr) : Sp := fun vs H Q _ => ∃ (n : Int) (x : V) (d : Td) (h : Addr), vs = [.int n, x] ∧ Is C h H x d ∧ Q (.bl (lotB n d)) H
theorem ok_is_lot_below (T : Top K mg A) : FnOk P w K mg base CX0 3 A.a_is_lot_below A.d_is_lot_below P_is_lot_below (spLot A.c_Cell) := by
  refine T.F_is_lot_below.ok sc_is_lot_below (fun vs H Q E h => ?_) (fun cdv A' outer s H vs Q E hr h => ?_)
  · obtain ⟨n, x, d, h, rfl, _⟩ := h
    rfl
  · obtain ⟨n, x, d, h, rfl, ht, k⟩ := h
    obtain ⟨t, ty, _, _, e3⟩ := is_ty T ht
    refine ⟨_, (pss_cons (ps_if (pt_not (pt_val (pe_callB call_isi (by rfl) T.z_isinstance (by decide +kernel) (pa_cons (pv 1) (pa_cons (pe_bltn (v := .ty "tuple") (by rfl) T.z_tuple (by decide +kernel) rfl) pa_nil))))) (pss_one (ps_ret pe_bl)) pss_nil)
    (pss_cons (ps_set (i := 2) sc_is_lot_below.nd rfl (.inl rfl) (pe_un un_neg pe_int))
    (pss_cons (ps_for PassesOwn.never rfl (pi_tup (pv 1)) (pg_name (i := 3) sc_is_lot_below.nd rfl (.inl rfl)) (pss_cons (ps_if (pt_not (pt_val (pe_call (ok_is_integer_from T) (hr.mono (by decide)) (by rfl) T.g_is_integer_from T.F_is_integer_from.kp T.b_is_integer_from .nil pass0 (pa_cons (pe_op op_add (pv 2) pe_int) (pa_cons (pe_op op_sub (pv 0) pe_int) (pa_cons (pv 3) pa_nil)))))) (pss_one (ps_ret pe_bl)) pss_nil)
    (pss_one (ps_set (i := 2) sc_is_lot_below.nd rfl (.inl rfl) (pv 3)))))
    (pss_one (ps_ret pe_bl))))), ?_⟩
    refine ⟨_, rfl, _, _, _, _, _, rfl, .ty "tuple", ty, e3, _, rfl, ?_⟩
    cases c : isT d with
    | false =>
      rw [lotB_no c] at k
      exact iteT k
    | true =>
      obtain ⟨a, xs, ds, rfl, rfl, ha, hl⟩ := isT_of ht c
      refine iteF ?_
      refine ⟨_, rfl, ?_⟩
      refine ⟨_, rfl, a, rfl, ⟨_, SqT.of ha⟩, for_tup (xs := xs) (fun i σ H' => ∃ (l : Int) (y3 : Option V), σ = [some (.int n), some (.ref a), some (.int l), y3] ∧ H' = H ∧ ascT (n - 1) 0 ds = ascT (n - 1) (l + 1) (ds.drop i)) ⟨-1, none, rfl, rfl, rfl⟩ (fun i σ H' _ ⟨_, _, _, e, _⟩ => by rw [e]; exact SqT.of ha) ?_ ?_⟩
      · rintro i x σ H' hx ⟨l, y3, rfl, rfl, e⟩
        obtain ⟨d, hd, hxd⟩ := hl.get hx
        rw [drop_at hd] at e
        refine ⟨_, rfl, _, _, rfl, rfl, _, rfl, _, _, rfl, rfl, _, rfl, _, _, _, _, _, rfl, hxd, _, rfl, ?_⟩
        cases c : inI (l + 1) (n - 1) d with
        | false =>
          rw [ascT_no c] at e
          refine iteT ?_
          rw [show lotB n (.tup ds) = ascT (n - 1) 0 ds from rfl, e] at k
          exact k
        | true =>
          obtain ⟨i', rfl, e'⟩ := ascT_yes (r := ds.drop (i + 1)) c
          rw [e'] at e
          cases hxd
          exact iteF ⟨_, rfl, i', _, rfl, rfl, e⟩
      · rintro σ H' ⟨l, y3, rfl, rfl, e⟩
        rw [hl.len, List.drop_length] at e
        rw [show lotB n (.tup ds) = ascT (n - 1) 0 ds from rfl, e] at k
        exact k
theorem outsB_no {n m : Int} {d : Td} (c : lotB n d = false) : outsB n m d = false := by
  cases d with
  | tup ds =>
    show (ascT (n - 1) 0 ds && _) = false
    rw [show ascT (n - 1) 0 ds = false from c]
    rfl
  | _ => rfl
def spOuts (C : Addr) : Sp := fun vs H Q _ => ∃ (n m : Int) (x : V) (d : Td) (h : Addr), vs = [.int n, .int m, x] ∧ Is C h H x d ∧ Q (.bl (outsB n m d)) H
theorem ok_are_outs (T : Top K mg A) : FnOk P w K mg base CX0 4 A.a_are_outs A.d_are_outs P_are_outs (spOuts A.c_Cell) := by
  refine T.F_are_outs.ok sc_are_outs (fun vs H Q E h => ?_) (fun cdv A' outer s H vs Q E hr h => ?_)
  · obtain ⟨n, m, x, d, h, rfl, _⟩ := h
    rfl
  · obtain ⟨n, m, x, d, h, rfl, ht, k⟩ := h
    refine ⟨_, (pss_one (ps_ret (pe_and (pe_call (ok_is_lot_below T) (hr.mono (by decide)) (by rfl) T.g_is_lot_below T.F_is_lot_below.kp T.b_is_lot_below .nil pass0 (pa_cons (pv 0) (pa_cons (pv 2) pa_nil))) (pe_one (pe_chain op_le op_le pe_int (pe_callB call_len_seq (by rfl) T.z_len (by decide +kernel) (pa_cons (pv 2) pa_nil)) (pv 1)))))), ?_⟩
    refine ⟨_, rfl, _, rfl, _, _, _, _, rfl, ht, _, rfl, ?_⟩
    cases c : lotB n d with
    | false =>
      rw [outsB_no c] at k
      exact iteF k
    | true =>
      have ct : isT d = true := by
        cases d with
        | tup ds => rfl
        | _ => cases c
      obtain ⟨a, xs, ds, rfl, rfl, ha, hl⟩ := isT_of ht ct
      refine iteT ?_
      have e : outsB n m (.tup ds) = (decide (1 ≤ (ds.length : Int)) && decide ((ds.length : Int) ≤ m)) := by
        show (ascT (n - 1) 0 ds && _) = _
        rw [show ascT (n - 1) 0 ds = true from c]
        rfl
      rw [e] at k
      refine ⟨_, rfl, _, _, rfl, .inr (SqT.of ha), _, _, rfl, rfl, _, rfl, ?_⟩
      rw [hl.len]
      by_cases c1 : 1 ≤ (ds.length : Int)
      · rw [decide_eq_true c1] at k ⊢
        exact iteT ⟨_, rfl, _, _, rfl, rfl, k⟩
      · rw [decide_eq_false c1] at k ⊢
        exact iteF k
theorem arrB_no {n m : Int} {d : Td} (c : tupN 3 d = false) : arrB n m d = false := by
  cases d with
  | tup ds =>
    match ds, c with
    | [], _ => rfl
    | [_], _ => rfl
    | [_, _], _ => rfl
    | [_, _, _], c => cases c
    | _ :: _ :: _ :: _ :: _, _ => rfl
  | _ => rfl
theorem three {C h : Addr} {H : Hp} {x : V} {d : Td} (t : Is C h H x d) (c : tupN 3 d = true) : ∃ a u v z du dv dz, x = .ref a ∧ d = .tup [du, dv, dz] ∧ H a = some (.tup [u, v, z]) ∧ Is C h H u du ∧ Is C h H v dv ∧ Is C h H z dz := by
  have ct : isT d = true := by
    cases d with
    | tup ds => rfl
    | _ => cases c
  obtain ⟨a, xs, ds, rfl, rfl, ha, hl⟩ := isT_of t ct
  have e : ds.length = 3 := by
    have q := of_decide_eq_true c
    omega
  match ds, e, hl with
  | [du, dv, dz], _, .cons (v := u) a1 (.cons (v := v) a2 (.cons (v := z) a3 .nil)) => exact ⟨a, u, v, z, du, dv, dz, rfl, rfl, ha, a1, a2, a3⟩
def spArr (C : Addr) : Sp := fun vs H Q _ => ∃ (n m : Int) (x : V) (d : Td) (h : Addr), vs = [.int n, .int m, x] ∧ Is C h H x d ∧ Q (.bl (arrB n m d)) H
theorem arrsB_no {n m : Int} {d : Td} (c : isT d = false) : arrsB n m d = false := by
  cases d with
  | tup i => cases c
  | _ => rfl
theorem rowB_no {n m : Int} {d : Td} (c : tupN n d = false) : rowB n m d = false := by
  cases d with
  | tup ds =>
    show (decide ((ds.length : Int) = n) && _) = false
    rw [show decide ((ds.length : Int) = n) = false from c]
    rfl
  | _ => rfl
theorem rowB_yes {n m : Int} {d : Td} (c : tupN n d = true) : ∃ ds, d = .tup ds ∧ rowB n m d = ds.all (itemB n m) := by
  cases d with
  | tup ds =>
    refine ⟨ds, rfl, ?_⟩
    show (decide ((ds.length : Int) = n) && _) = _
    rw [show decide ((ds.length : Int) = n) = true from c]
    rfl
  | _ => cases c
theorem all_no {f : Td → Bool} {ds : List Td} {i : Nat} {d : Td} (h : ds[i]? = some d) (c : f d = false) : ds.all f = false := by
  rw [List.all_eq_false]
  exact ⟨d, List.mem_of_getElem? h, by rw [c]; exact Bool.false_ne_true⟩
theorem all_yes {f : Td → Bool} {ds : List Td} (h : ∀ (i : Nat) (d : Td), ds[i]? = some d → f d = true) : ds.all f = true := by
  rw [List.all_eq_true]
  intro d hd
  obtain ⟨i, hi⟩ := List.getElem?_of_mem hd
  exact h i d hi
theorem itemB_some {n m : Int} {d : Td} (h : d ≠ .non) : itemB n m d = arrB n m d := by
  cases d with
  | non => exact absurd rfl h
  | _ => rfl
theorem is_non {C h : Addr} {H : Hp} {v : V} {d : Td} (t : Is C h H v d) : v = .non ↔ d = .non := by
  cases t <;> first | exact ⟨fun _ => rfl, fun _ => rfl⟩ | exact ⟨(by intro z; cases z), (by intro z; cases z)⟩
def spFault (C : Addr) : Sp := fun vs H Q _ => ∃ (n m : Int) (x : V) (d : Td) (h : Addr), vs = [.int n, .int m, x] ∧ Is C h H x d ∧ ∀ (H' : Hp) (v : V), Same H H' → (arrsB n m d = true → v = .non) → (arrsB n m d = false → v ≠ .non) → Q v H'
def spIsArrs (C NL NM : Addr) : Sp := fun vs H Q E => ∃ (x y z : V) (dx dy dz : Td) (h : Addr), vs = [x, y, z] ∧ Is C h H x dx ∧ Is C h H y dy ∧ Is C h H z dz ∧ (inI 1 12 dx = false → E (.ref NL) none H) ∧ (inI 1 12 dx = true → inI 1 3 dy = false → E (.ref NM) none H) ∧
  ∀ (n m : Int) (H' : Hp), dx = .int n → dy = .int m → inI 1 12 dx = true → inI 1 3 dy = true → Same H H' → Q (.bl (arrsB n m dz)) H'
theorem inI_int {lo hi : Int} {d : Td} (c : inI lo hi d = true) : ∃ i, d = .int i ∧ lo ≤ i ∧ i ≤ hi := by
  cases d with
  | int i =>
    have q : (decide (lo ≤ i) && decide (i ≤ hi)) = true := c
    rw [Bool.and_eq_true, decide_eq_true_iff, decide_eq_true_iff] at q
    exact ⟨i, rfl, q.1, q.2⟩
  | _ => cases c
end

section
variable {P : Program} {w : World} {K : PySem.W.Frag} {mg : Str → Option Value} {base : Heap} {A : Adr}
/-! ### the hand: a list of five, [the script's numbers, place, rest, mix, turns] -/
theorem upd_upd {H : Hp} {a : Addr} {o u : HO} : upd (upd H a o) a u = upd H a u := by
  funext b
  by_cases h : b = a
  · subst h
    rw [upd_same, upd_same]
  · rw [upd_ne h, upd_ne h, upd_ne h]
def handO (g : Addr) (i m s t : Int) : HO := .lst [.ref g, .int i, .int m, .int s, .int t]
/-- the hand stands at h, its numbers at g -/
structure HandAt (H : Hp) (h g : Addr) : Prop where
  cells : ∃ ns : List Int, H g = some (.lst (ns.map V.int))
  five : ∃ i m s t, H h = some (handO g i m s t) ∧ 0 ≤ i ∧ -(2 ^ 64) < s ∧ s < 2 ^ 64
  ne : h ≠ g
/-- as H but at h -/
def But (h : Addr) (H H' : Hp) : Prop := ∀ b, b ≠ h → H' b = H b
theorem But.upd {h : Addr} {H : Hp} {o : HO} : But h H (upd H h o) := fun _ hb => upd_ne hb
theorem But.trans {h : Addr} {H H1 H2 : Hp} (a : But h H H1) (b : But h H1 H2) : But h H H2 := fun c hc => (b c hc).trans (a c hc)
theorem But.refl (h : Addr) (H : Hp) : But h H H := fun _ _ => rfl
theorem hand_upd {H : Hp} {h g : Addr} (a : HandAt H h g) {i m s t : Int} (hi : 0 ≤ i) (hs : -(2 ^ 64) < s) (hs2 : s < 2 ^ 64) : HandAt (upd H h (handO g i m s t)) h g :=
  ⟨by
    obtain ⟨ns, e⟩ := a.cells
    exact ⟨ns, by rw [upd_ne a.ne.symm]; exact e⟩, ⟨i, m, s, t, upd_same, hi, hs, hs2⟩, a.ne⟩
def spDraw : Sp := fun vs H Q _ => ∃ (h g : Addr) (n : Int), vs = [.ref h, .int n] ∧ HandAt H h g ∧ 0 < n ∧ n < 1073741824 ∧ ∀ (H' : Hp) (d : Int), But h H H' → HandAt H' h g → 0 ≤ d → d < n → Q (.int d) H'
theorem ixn5 {g : Addr} {i m s t : Int} {v : V} : ∀ j : Nat, [V.ref g, V.int i, V.int m, V.int s, V.int t][j]? = some v → atI [V.ref g, V.int i, V.int m, V.int s, V.int t] (j : Int) = some v := fun j h => atI_nat h
theorem ok_law_draw (T : Top K mg A) : FnOk P w K mg base CX0 1 A.a_law_draw A.d_law_draw P_law_draw spDraw := by
  refine T.F_law_draw.ok sc_law_draw (fun vs H Q E h => ?_) (fun cdv A outer s H vs Q E hr h => ?_)
  · obtain ⟨h, g, n, rfl, _⟩ := h
    rfl
  · obtain ⟨h, g, n, rfl, ha, hn, hn2, k⟩ := h
    obtain ⟨ns, eg⟩ := ha.cells
    obtain ⟨i, m, sd, t, eh, hi, hs1, hs2⟩ := ha.five
    have hne := ha.ne
    refine ⟨_, (Evl.pss_cut (ps_if (PW.pt (pw_and (pt_cmpR op_eq (pe_ix ix_list (pv 0) pe_int (fun _ _ => rfl)) pe_int (nomark _)) (pw_and1 (pt_cmpR op_lt (pe_ix ix_list (pv 0) pe_int (fun _ _ => rfl)) (pe_callB call_len_seq (by rfl) T.z_len (by decide +kernel) (pa_cons (pe_ix ix_list (pv 0) pe_int (fun _ _ => rfl)) pa_nil)) (nomark _))))) (pss_cons (ps_set (i := 2) sc_law_draw.nd rfl (.inl rfl) (pe_ix ix_list (pe_ix ix_list (pv 0) pe_int (fun _ _ => rfl)) (pe_ix ix_list (pv 0) pe_int (fun _ _ => rfl)) (fun _ _ => rfl)))
    (pss_cons (ps_asg (pe_op op_add (pe_ix ix_list (pv 0) pe_int (fun _ _ => rfl)) pe_int) (pg_sub (pv 0) pe_int set_list))
    (pss_cons (ps_asg (pe_op op_mod (pe_callTy call_int1 (by rfl) T.z_int (by decide +kernel) (pa_cons (pe_op op_add (pe_op op_add (pe_op op_mul (pe_ix ix_list (pv 0) pe_int (fun _ _ => rfl)) pe_int) (pv 2)) pe_int) pa_nil)) pe_int) (pg_sub (pv 0) pe_int set_list))
    (pss_one (ps_if (pt_cmpR op_ge (pv 2) (pe_op op_pow pe_int pe_int) (nomark _)) (pss_one (ps_asg (pv 2) (pg_sub (pv 0) pe_int set_list))) pss_nil))))) pss_nil)
    (pss_cons (ps_if (pt_cmpR op_gt (pe_ix ix_list (pv 0) pe_int (fun _ _ => rfl)) pe_int (nomark _)) (pss_cons (ps_set (i := 3) sc_law_draw.nd rfl (.inl rfl) (pe_op op_mod (pe_callTy call_int1 (by rfl) T.z_int (by decide +kernel) (pa_cons (pe_ix ix_list (pv 0) pe_int (fun _ _ => rfl)) pa_nil)) (pv 1)))
    (pss_cons (ps_asg (pe_op op_fdiv (pe_ix ix_list (pv 0) pe_int (fun _ _ => rfl)) (pv 1)) (pg_sub (pv 0) pe_int set_list))
    (pss_one (ps_ret (pv 3))))) pss_nil)
    (pss_cons (ps_asg (pe_op op_add (pe_ix ix_list (pv 0) pe_int (fun _ _ => rfl)) pe_int) (pg_sub (pv 0) pe_int set_list))
    (pss_cons (ps_set (i := 4) sc_law_draw.nd rfl (.inl rfl) (pe_op op_mod (pe_callTy call_int1 (by rfl) T.z_int (by decide +kernel) (pa_cons (pe_op op_mul (pe_callTy call_int1 (by rfl) T.z_int (by decide +kernel) (pa_cons (pe_op op_add (pe_ix ix_list (pv 0) pe_int (fun _ _ => rfl)) (pe_op op_mul pe_int (pe_ix ix_list (pv 0) pe_int (fun _ _ => rfl)))) pa_nil)) pe_int) pa_nil)) pe_int))
    (pss_cons (ps_set (i := 4) sc_law_draw.nd rfl (.inl rfl) (pe_op op_mod (pe_callTy call_int1 (by rfl) T.z_int (by decide +kernel) (pa_cons (pe_op op_mul (pv 4) (pe_op op_add (pe_op op_fdiv (pv 4) pe_int) pe_int)) pa_nil)) pe_int))
    (pss_cons (ps_set (i := 4) sc_law_draw.nd rfl (.inl rfl) (pe_op op_mod (pe_callTy call_int1 (by rfl) T.z_int (by decide +kernel) (pa_cons (pe_op op_mul (pv 4) (pe_op op_add (pe_op op_fdiv (pv 4) pe_int) pe_int)) pa_nil)) pe_int))
    (pss_one (ps_ret (pe_op op_mod (pe_callTy call_int1 (by rfl) T.z_int (by decide +kernel) (pa_cons (pe_op op_fdiv (pv 4) pe_int) pa_nil)) (pv 1)))))))))), ?_⟩
    refine ⟨fun σ' H' => ∃ y2, σ' = [some (.ref h), some (.int n), y2, none, none] ∧ But h H H' ∧ HandAt H' h g, ?_, ?_⟩
    · -- the first if
      have stay : ∃ y2, (start N_law_draw [V.ref h, V.int n]) = [some (.ref h), some (.int n), y2, none, none] ∧ But h H H ∧ HandAt H h g := ⟨none, rfl, But.refl h H, ha⟩
      refine ⟨_, rfl, h, _, 2, _, rfl, rfl, SqL.of eh, atI_nat (j := 2) rfl, rfl, _, rfl, ite2 (fun c1 => ?_) (fun _ => iteF stay)⟩
      refine ⟨_, rfl, h, _, 1, _, rfl, rfl, SqL.of eh, atI_nat (j := 1) rfl, _, rfl, h, _, 0, _, rfl, rfl, SqL.of eh, atI_nat (j := 0) rfl, g, _, rfl, .inl (SqL.of eg), _, _, rfl, rfl, _, rfl, ite2 (fun c2 => ?_) (fun _ => stay)⟩
      have c3 : i < (ns.length : Int) := by
        have q := of_decide_eq_true c2
        rw [List.length_map] at q
        exact q
      have hj : i.toNat < ns.length := by omega
      have ej : (ns.map V.int)[i.toNat]? = some (.int ns[i.toNat]) := by
        rw [List.getElem?_map, List.getElem?_eq_getElem hj]
        rfl
      -- cell = hand[0][hand[1]]
      refine ⟨_, rfl, h, _, 0, _, rfl, rfl, SqL.of eh, atI_nat (j := 0) rfl, _, rfl, h, _, 1, _, rfl, rfl, SqL.of eh, atI_nat (j := 1) rfl, g, _, i, _, rfl, rfl, SqL.of eg, at_of (by omega) ej, ?_⟩
      -- hand[1] = hand[1] + 1
      refine ⟨_, rfl, h, _, 1, _, rfl, rfl, SqL.of eh, atI_nat (j := 1) rfl, i, 1, rfl, rfl, _, rfl, h, _, _, 1, rfl, rfl, eh, rfl, ?_⟩
      have eh1 : (upd H h (handO g (i + 1) m sd t)) h = some (handO g (i + 1) m sd t) := upd_same
      -- hand[3] = int(hand[3] * 69621 + cell + 11) % 2147483629
      refine ⟨_, rfl, h, _, 3, _, rfl, rfl, SqL.of eh1, atI_nat (j := 3) rfl, _, _, rfl, rfl, .inl ⟨hs1, hs2⟩, _, rfl, _, _, rfl, rfl, _, _, rfl, rfl, .inl ⟨_, rfl, _, _, rfl, rfl, (by show (0 : Int) < 2147483629; decide), _, rfl, h, _, _, 3, rfl, rfl, eh1, rfl, ?_⟩⟩
      have hm0 := Int.emod_nonneg (sd * 69621 + ns[i.toNat] + 11) (show (2147483629 : Int) ≠ 0 by decide)
      have hm1 := Int.emod_lt_of_pos (sd * 69621 + ns[i.toNat] + 11) (show (0 : Int) < 2147483629 by decide)
      obtain ⟨s2, es⟩ : ∃ s2, (sd * 69621 + ns[i.toNat] + 11) % 2147483629 = s2 := ⟨_, rfl⟩
      rw [es] at hm0 hm1
      rw [show ((fun i j => V.int (i % j)) (sd * 69621 + ns[i.toNat] + 11) 2147483629) = V.int s2 from congrArg V.int es]
      have eh2 : (upd (upd H h (handO g (i + 1) m sd t)) h (handO g (i + 1) m s2 t)) h = some (handO g (i + 1) m s2 t) := upd_same
      have h2 : HandAt (upd (upd H h (handO g (i + 1) m sd t)) h (handO g (i + 1) m s2 t)) h g := by
        rw [upd_upd]
        exact hand_upd ha (by omega) (by omega) (by omega)
      have b2 : But h H (upd (upd H h (handO g (i + 1) m sd t)) h (handO g (i + 1) m s2 t)) := But.upd.trans But.upd
      -- if cell >= 10 ** 18: hand[2] = cell
      refine ⟨_, rfl, 10, 18, rfl, rfl, ⟨by decide, by decide, by decide⟩, _, _, rfl, rfl, _, rfl, ite2 (fun _ => ?_) (fun _ => ⟨_, rfl, b2, h2⟩)⟩
      refine ⟨_, rfl, _, rfl, h, _, _, 2, rfl, rfl, eh2, rfl, ?_⟩
      exact ⟨_, rfl, b2.trans But.upd, hand_upd h2 (by omega) (by omega) (by omega)⟩
    · rintro σ' H1 ⟨y2, rfl, b1, h1⟩
      obtain ⟨i, m, sd, t, eh, hi, hs1, hs2⟩ := h1.five
      -- if hand[2] > 0
      refine ⟨_, rfl, h, _, 2, _, rfl, rfl, SqL.of eh, atI_nat (j := 2) rfl, _, _, rfl, rfl, _, rfl, ite2 (fun c => ?_) (fun _ => ?_)⟩
      · refine ⟨_, rfl, h, _, 2, _, rfl, rfl, SqL.of eh, atI_nat (j := 2) rfl, .inl ⟨_, rfl, _, rfl, _, _, rfl, rfl, hn, ?_⟩⟩
        refine ⟨_, rfl, h, _, 2, _, rfl, rfl, SqL.of eh, atI_nat (j := 2) rfl, _, rfl, _, _, rfl, rfl, ⟨hn, hn2⟩, _, rfl, h, _, _, 2, rfl, rfl, eh, rfl, ?_⟩
        exact ⟨_, rfl, k _ _ (b1.trans But.upd) (hand_upd h1 hi hs1 hs2) (Int.emod_nonneg _ (by omega)) (Int.emod_lt_of_pos _ hn)⟩
      · -- hand[4] = hand[4] + 1
        refine ⟨_, rfl, h, _, 4, _, rfl, rfl, SqL.of eh, atI_nat (j := 4) rfl, _, _, rfl, rfl, _, rfl, h, _, _, 4, rfl, rfl, eh, rfl, ?_⟩
        have eh1 : (upd H1 h (handO g i m sd (t + 1))) h = some (handO g i m sd (t + 1)) := upd_same
        have h3 : HandAt (upd H1 h (handO g i m sd (t + 1))) h g := hand_upd h1 hi hs1 hs2
        -- number = int(int(hand[3] + 7919 * hand[4]) * 48271) % 2147483647
        refine ⟨_, rfl, h, _, 3, _, rfl, rfl, SqL.of eh1, atI_nat (j := 3) rfl, _, rfl, h, _, 4, _, rfl, rfl, SqL.of eh1, atI_nat (j := 4) rfl, _, _, rfl, rfl, .inl ⟨by decide, by decide⟩, _, _, rfl, rfl, .inl ⟨_, rfl, _, _, rfl, rfl, .inr ⟨by decide, by decide⟩, .inl ⟨_, rfl, _, _, rfl, rfl, (by show (0 : Int) < 2147483647; decide), ?_⟩⟩⟩
        have hm0 := Int.emod_nonneg ((sd + 7919 * (t + 1)) * 48271) (show (2147483647 : Int) ≠ 0 by decide)
        have hm1 := Int.emod_lt_of_pos ((sd + 7919 * (t + 1)) * 48271) (show (0 : Int) < 2147483647 by decide)
        generalize ((sd + 7919 * (t + 1)) * 48271) % 2147483647 = x1 at hm0 hm1 ⊢
        refine ⟨_, rfl, _, rfl, _, _, rfl, rfl, ⟨by decide, by decide⟩, _, _, rfl, rfl, _, _, rfl, rfl, .inl ⟨by omega, by omega⟩, .inl ⟨_, rfl, _, _, rfl, rfl, (by show (0 : Int) < 2147483647; decide), ?_⟩⟩
        have hn0 := Int.emod_nonneg (x1 * (x1 / 1009 + 69621)) (show (2147483647 : Int) ≠ 0 by decide)
        have hn1 := Int.emod_lt_of_pos (x1 * (x1 / 1009 + 69621)) (show (0 : Int) < 2147483647 by decide)
        generalize (x1 * (x1 / 1009 + 69621)) % 2147483647 = x2 at hn0 hn1 ⊢
        refine ⟨_, rfl, _, rfl, _, _, rfl, rfl, ⟨by decide, by decide⟩, _, _, rfl, rfl, _, _, rfl, rfl, .inl ⟨by omega, by omega⟩, .inl ⟨_, rfl, _, _, rfl, rfl, (by show (0 : Int) < 2147483399; decide), ?_⟩⟩
        refine ⟨_, rfl, _, _, rfl, rfl, ⟨by decide, by decide⟩, .inl ⟨_, rfl, _, rfl, _, _, rfl, rfl, hn, ?_⟩⟩
        exact k _ _ (b1.trans But.upd) h3 (Int.emod_nonneg _ (by omega)) (Int.emod_lt_of_pos _ hn)
end
section
variable {P : Program} {w : World} {K : PySem.W.Frag} {mg : Str → Option Value} {base : Heap} {A : Adr}
theorem cut_mem {xs : List V} {lo hi : Option Int} {v : V} (h : v ∈ cutV xs lo hi) : v ∈ xs := by
  unfold cutV at h
  first
    | exact List.mem_of_mem_drop (List.mem_of_mem_take h)
    | exact List.mem_of_mem_take (List.mem_of_mem_drop h)
theorem take_map_more {xs : List V} {f : V → Int} {i : Nat} {x : V} (h : xs[i]? = some x) : ((xs.take (i + 1)).map f).map V.int = ((xs.take i).map f).map V.int ++ [V.int (f x)] := by
  rw [List.take_add_one, h, List.map_append, List.map_append]
  rfl
theorem len_cut {xs : List V} {lo hi : Option Int} : (cutV xs lo hi).length ≤ xs.length := by
  unfold cutV
  first
    | (rw [List.length_take, List.length_drop]; omega)
    | (rw [List.length_drop, List.length_take]; omega)
def vInt : V → Int
  | .int n => n
  | _ => 0
def spHand (K : PySem.W.Frag) : Sp := fun vs H Q _ => ∃ (a : Addr) (ns : List Int), vs = [.ref a] ∧ SqL K H a (ns.map V.int) ∧ ns.length ≤ 63 ∧ ∀ (H' : Hp) (h g : Addr), Same H H' → H h = none → H g = none → HandAt H' h g → Q (.ref h) H'
theorem ok_law_hand (T : Top K mg A) : FnOk P w K mg base CX0 1 A.a_law_hand A.d_law_hand P_law_hand (spHand K) := by
  refine T.F_law_hand.ok sc_law_hand (fun vs H Q E h => ?_) (fun cdv A outer s H vs Q E hr h => ?_)
  · obtain ⟨a, ns, rfl, _⟩ := h
    rfl
  · obtain ⟨a, ns, rfl, ha, hn, k⟩ := h
    refine ⟨_, (pss_cons (ps_setLc (i := 1) (own := [("_law_cell", 2)]) (by rfl) sc_law_hand.nd rfl rfl (sw_true rfl rfl rfl (by decide +kernel)) (pi_list (pe_slice sl_list (pv 0) po_none (po_some pe_int))) (blkOk_by (own := [("_law_cell", 2)]) (N := N_law_hand) (sc := defScope s_law_hand) (by decide +kernel)) (fun _ _ _ _ _ => (pg_name (i := 2) sc_law_hand.nd rfl (.inl rfl))) (fun _ _ _ _ _ => pts_nil) (fun _ _ _ _ _ => (pe_callB call_abs (by rfl) T.z_abs (by decide +kernel) (pa_cons (pe_callTy call_int1 (by rfl) T.z_int (by decide +kernel) (pa_cons (pv 2) pa_nil)) pa_nil))))
    (pss_one (ps_ret (pe_lst (pa_cons (pv 1) (pa_cons pe_int (pa_cons pe_int (pa_cons (pe_op op_add pe_int (pe_callB call_len_seq (by rfl) T.z_len (by decide +kernel) (pa_cons (pv 1) pa_nil))) (pa_cons pe_int pa_nil))))))))), ?_⟩
    refine ⟨_, rfl, _, rfl, a, _, rfl, ha, fun p np => ?_⟩
    have sp : Same H (upd H p (.lst (cutV (ns.map V.int) none (some 63)))) := same_upd np
    refine ⟨p, rfl, ⟨_, SqL.of upd_same⟩, fun D hD => ?_⟩
    have hpD : p ≠ D := fun e => by
      rw [← e, upd_same] at hD
      cases hD
    have hDn := sp.free hD
    refine lc_list (K := K) (a := p) (xs := cutV (ns.map V.int) none (some 63)) (fun i H' => Same H H' ∧ H' p = some (.lst (cutV (ns.map V.int) none (some 63))) ∧ ∃ zs : List Int, H' D = some (.lst (zs.map V.int)) ∧ zs.length ≤ i)
      ⟨same_to sp hDn, by rw [upd_ne hpD]; exact upd_same, [], upd_same, Nat.le_refl _⟩ (fun i H' _ h => SqL.of h.2.1) ?_ ?_
    · rintro i x H' hi ⟨s1, p1, zs, d1, l1⟩
      obtain ⟨n, _, rfl⟩ := List.mem_map.mp (cut_mem (List.mem_of_getElem? hi))
      have hi2 : i < 63 := by
        have q := (List.getElem?_eq_some_iff.mp hi).1
        have q2 := len_cut (xs := ns.map V.int) (lo := none) (hi := some 63)
        rw [List.length_map] at q2
        omega
      refine ⟨rfl, ?_⟩
      refine ⟨_, rfl, .inl ⟨_, rfl, _, rfl, _, d1, ?_, same_to s1 hDn, ?_, zs ++ [if n < 0 then -n else n], ?_, ?_⟩⟩
      · rw [List.length_map]
        exact small1000 (by omega)
      · rw [upd_ne hpD]
        exact p1
      · rw [upd_same, List.map_append]
        rfl
      · rw [List.length_append, List.length_singleton]
        omega
    · rintro H' ⟨s1, p1, zs, d1, l1⟩
      have lz : zs.length ≤ 63 := by
        have q2 := len_cut (xs := ns.map V.int) (lo := none) (hi := some 63)
        rw [List.length_map] at q2
        omega
      -- return [given, 0, 0, 1 + len(given), 0]
      refine ⟨_, rfl, _, rfl, D, _, rfl, .inl (SqL.of d1), 1, _, rfl, rfl, (by show 5 ≤ sizeLine; decide), fun h hh => ?_⟩
      have hhD : h ≠ D := fun e => by
        rw [e, d1] at hh
        cases hh
      refine k _ h D (same_to s1 (s1.free hh)) (s1.free hh) hDn ⟨⟨zs, by rw [upd_ne hhD.symm]; exact d1⟩, ⟨0, 0, 1 + (zs.length : Int), 0, ?_, Int.le_refl _, by omega, by omega⟩, hhD⟩
      rw [upd_same, List.length_map]
      rfl
def spAny (K : PySem.W.Frag) : Sp := fun vs H Q _ => ∃ (h g l : Addr) (xs : List V), vs = [.ref h, .ref l] ∧ HandAt H h g ∧ SqL K H l xs ∧ (∀ H', But h H H' → SqL K H' l xs) ∧ 0 < xs.length ∧ xs.length ≤ 100000 ∧ ∀ (H' : Hp) (j : Nat) (v : V), But h H H' → HandAt H' h g → xs[j]? = some v → Q v H'
theorem ok_law_any (T : Top K mg A) : FnOk P w K mg base CX0 2 A.a_law_any A.d_law_any P_law_any (spAny K) := by
  refine T.F_law_any.ok sc_law_any (fun vs H Q E h => ?_) (fun cdv A outer s H vs Q E hr h => ?_)
  · obtain ⟨h, g, l, xs, rfl, _⟩ := h
    rfl
  · obtain ⟨h, g, l, xs, rfl, ha, hl, hst, h0, h1, k⟩ := h
    refine ⟨_, (pss_one (ps_ret (pe_ix ix_list (pv 1) (pe_call (ok_law_draw T) (hr.mono (by decide)) (by rfl) T.g_law_draw T.F_law_draw.kp T.b_law_draw .nil pass0 (pa_cons (pv 0) (pa_cons (pe_callB call_len_seq (by rfl) T.z_len (by decide +kernel) (pa_cons (pv 1) pa_nil)) pa_nil))) (fun _ _ => rfl)))), ?_⟩
    refine ⟨_, rfl, _, rfl, _, rfl, l, _, rfl, .inl hl, h, g, _, rfl, ha, by omega, by omega, fun H' d hb hh d0 d1 => ?_⟩
    have hj : d.toNat < xs.length := by omega
    exact ⟨l, xs, d, _, rfl, rfl, hst H' hb, at_of (by omega) (List.getElem?_eq_getElem hj), k H' _ _ hb hh (List.getElem?_eq_getElem hj)⟩
end
theorem But.kp {h : Addr} {H H' : Hp} (b : But h H H') : Kp h H H' := fun q o hq e => (b q hq).trans e
theorem HandAt.same {h g : Addr} {H H' : Hp} (s : Same H H') (a : HandAt H h g) : HandAt H' h g :=
  ⟨by obtain ⟨ns, e⟩ := a.cells; exact ⟨ns, s _ _ e⟩, by obtain ⟨i, m, s', t, e, q⟩ := a.five; exact ⟨i, m, s', t, s _ _ e, q⟩, a.ne⟩
theorem HandAt.some {h g : Addr} {H : Hp} (a : HandAt H h g) : ∃ ys, H h = some (.lst ys) := by
  obtain ⟨i, m, s', t, e, q⟩ := a.five
  exact ⟨_, e⟩
theorem HandAt.ne_none {h g p : Addr} {H : Hp} (a : HandAt H h g) (hp : H p = none) : p ≠ h := by
  obtain ⟨o, e⟩ := a.some
  exact (ne_of_none e hp).symm
theorem cut_lo {xs : List V} {n : Nat} (h : n ≤ xs.length) : cutV xs none (some (n : Int)) = xs.take n := by
  unfold cutV
  rw [HT.sIx_none, HT.sIx_nat, Nat.min_eq_left h]
  rfl
theorem cut_hi {xs : List V} {n : Nat} (h : n ≤ xs.length) : cutV xs (some (n : Int)) none = xs.drop n := by
  unfold cutV
  rw [HT.sIx_none, HT.sIx_nat, Nat.min_eq_left h]
  exact List.take_of_length_le (by rw [List.length_drop]; omega)
theorem Is.kp {C h g : Addr} {H H' : Hp} {v : V} {d : Td} (t : Is C h H v d) (k : Kp h H H') (a : HandAt H h g) : Is C h H' v d := t.mv (.of k) a.some
theorem IsL.kp {C h g : Addr} {H H' : Hp} {v : List V} {d : List Td} (t : IsL C h H v d) (k : Kp h H H') (a : HandAt H h g) : IsL C h H' v d := t.mv (.of k) a.some
/-- a new tuple, a new list, told as data -/
theorem Is.newT {C h : Addr} {H : Hp} {p : Addr} {xs : List V} {ds : List Td} (l : IsL C h H xs ds) (np : H p = none) : Is C h (upd H p (.tup xs)) (.ref p) (.tup ds) := .tup upd_same (l.same (same_upd np))
theorem Is.newL {C h g : Addr} {H : Hp} {p : Addr} {xs : List V} (np : H p = none) (a : HandAt H h g) : Is C h (upd H p (.lst xs)) (.ref p) .oth := .lst upd_same (a.ne_none np)

/-- all its tuples are short -/
inductive Sh : Td → Prop where
  | int (i : Int) : Sh (.int i)
  | bl (b : Bool) : Sh (.bl b)
  | non : Sh .non
  | str (s : Str) : Sh (.str s)
  | oth : Sh .oth
  | tup {ds : List Td} : ds.length ≤ 1000 → (∀ d ∈ ds, Sh d) → Sh (.tup ds)
theorem Sh.len {ds : List Td} (s : Sh (.tup ds)) : ds.length ≤ 1000 := by
  cases s with
  | tup h _ => exact h
theorem Sh.item {ds : List Td} {d : Td} (s : Sh (.tup ds)) (h : d ∈ ds) : Sh d := by
  cases s with
  | tup _ k => exact k d h
theorem Sh.third {d : Td} (s : Sh d) : ∀ fs, d = .tup fs → ∀ g ∈ fs, ∀ gs, g = .tup gs → gs.length ≤ 100000 := by
  intro fs e g hg gs e2
  subst e e2
  exact Nat.le_trans (s.item hg).len (by decide)

section
variable {P : Program} {w : World} {K : PySem.W.Frag} {mg : Str → Option Value} {base : Heap} {A : Adr}
/-! ### the law's own looks -/
def spLInt (C : Addr) : Sp := fun vs H Q _ => ∃ (lo hi : Int) (x : V) (d : Td) (h : Addr), vs = [x, .int lo, .int hi] ∧ Is C h H x d ∧ Q (.bl (inI lo hi d)) H
theorem ok_law_is_int (T : Top K mg A) : FnOk P w K mg base CX0 1 A.a_law_is_int A.d_law_is_int P_law_is_int (spLInt A.c_Cell) := by
  refine T.F_law_is_int.ok sc_law_is_int (fun vs H Q E h => ?_) (fun cdv A' outer s H vs Q E hr h => ?_)
  · obtain ⟨lo, hi, x, d, h, rfl, _⟩ := h
    rfl
  · obtain ⟨lo, hi, x, d, h, rfl, ht, k⟩ := h
    obtain ⟨t, ty, e1, e2, _⟩ := is_ty T ht
    refine ⟨_, (pss_one (ps_ret (pe_and (pe_callB call_isi (by rfl) T.z_isinstance (by decide +kernel) (pa_cons (pv 0) (pa_cons (pe_bltn (v := .ty "int") (by rfl) T.z_int (by decide +kernel) rfl) pa_nil))) (pe_and (pe_not (pe_callB call_isi (by rfl) T.z_isinstance (by decide +kernel) (pa_cons (pv 0) (pa_cons (pe_bltn (v := .ty "bool") (by rfl) T.z_bool (by decide +kernel) rfl) pa_nil)))) (pe_one (pe_chain op_le op_le (pv 1) (pv 0) (pv 2))))))), ?_⟩
    refine ⟨_, rfl, _, _, _, _, _, rfl, .ty "int", ty, e1, (isI d || isBl d), rfl, ?_⟩
    cases c : isI d with
    | true =>
      obtain ⟨i, rfl, rfl⟩ := is_int ht c
      refine iteT ?_
      refine ⟨_, rfl, _, _, _, _, _, rfl, .ty "bool", ty, e2, false, rfl, true, rfl, iteT ?_⟩
      refine ⟨_, rfl, _, rfl, _, _, rfl, rfl, _, rfl, ?_⟩
      by_cases c : lo ≤ i
      · simp only [inI, decide_eq_true c, Bool.true_and] at k
        rw [decide_eq_true c]
        refine iteT ⟨_, rfl, _, _, rfl, rfl, k⟩
      · simp only [inI, decide_eq_false c, Bool.false_and] at k
        rw [decide_eq_false c]
        exact iteF k
    | false =>
      rw [inI_no c] at k
      cases c2 : isBl d with
      | false => exact iteF k
      | true =>
        rw [c2] at e2
        exact iteT ⟨_, rfl, _, _, _, _, _, rfl, .ty "bool", ty, e2, true, rfl, false, rfl, iteF k⟩
def zipB (ns : List Int) : List Bool := List.zipWith (fun a b => decide (a < b)) ns (ns.drop 1)
theorem asc_zip {hi : Int} : ∀ {ns : List Int} {lo : Int}, (∀ x ∈ ns, x ≤ hi) → (∀ x, ns.head? = some x → lo ≤ x) → ascT hi lo (ns.map Td.int) = (zipB ns).all id
  | [], _, _, _ => rfl
  | [x], lo, h1, h2 => by
    show (decide (lo ≤ x) && decide (x ≤ hi) && true) = true
    rw [decide_eq_true (h2 x rfl), decide_eq_true (h1 x (by simp))]
    rfl
  | x :: y :: r, lo, h1, h2 => by
    show (decide (lo ≤ x) && decide (x ≤ hi) && ascT hi (x + 1) (Td.int y :: r.map Td.int)) = (decide (x < y) && (zipB (y :: r)).all id)
    rw [decide_eq_true (h2 x rfl), decide_eq_true (h1 x (by simp))]
    by_cases c : x < y
    · have ih := asc_zip (hi := hi) (ns := y :: r) (lo := x + 1) (fun z hz => h1 z (List.mem_cons_of_mem _ hz)) (fun z hz => by cases hz; omega)
      rw [decide_eq_true c, ← ih]
      rfl
    · have e : ascT hi (x + 1) (Td.int y :: r.map Td.int) = false := ascT_no (by
        show (decide (x + 1 ≤ y) && _) = false
        rw [decide_eq_false (show ¬ (x + 1 ≤ y) by omega)]
        rfl)
      rw [e, decide_eq_false c]
      rfl
theorem asc_in {hi : Int} : ∀ {ds : List Td} {lo : Int}, 0 ≤ lo → ascT hi lo ds = true → ds.all (inI 0 hi) = true
  | [], _, _, _ => rfl
  | d :: ds, lo, h, e => by
    cases c : inI lo hi d with
    | false =>
      rw [ascT_no c] at e
      cases e
    | true =>
      obtain ⟨i, rfl, e1⟩ := ascT_yes (r := ds) c
      rw [e1] at e
      have q : (decide (lo ≤ i) && decide (i ≤ hi)) = true := c
      rw [Bool.and_eq_true, decide_eq_true_iff, decide_eq_true_iff] at q
      rw [List.all_cons, asc_in (show 0 ≤ i + 1 by omega) e]
      show (decide (0 ≤ i) && decide (i ≤ hi) && true) = true
      rw [decide_eq_true (show 0 ≤ i by omega), decide_eq_true q.2]
      rfl
theorem all_ints {lo hi : Int} : ∀ {ds : List Td}, ds.all (inI lo hi) = true → ∃ ns : List Int, ds = ns.map Td.int ∧ ∀ x ∈ ns, lo ≤ x ∧ x ≤ hi
  | [], _ => ⟨[], rfl, fun x hx => absurd hx List.not_mem_nil⟩
  | d :: ds, e => by
    rw [List.all_cons, Bool.and_eq_true] at e
    obtain ⟨ns, rfl, h⟩ := all_ints e.2
    obtain ⟨i, rfl, q⟩ := inI_int e.1
    exact ⟨i :: ns, rfl, fun x hx => by
      rcases List.mem_cons.mp hx with z | z
      · rw [z]
        exact q
      · exact h x z⟩
theorem IsL.of_ints {C h : Addr} {H : Hp} : ∀ {ns : List Int} {xs : List V}, IsL C h H xs (ns.map Td.int) → xs = ns.map V.int
  | [], _, .nil => rfl
  | _ :: _, _, .cons (.int _) t => by rw [t.of_ints]; rfl
def spLLot (C : Addr) : Sp := fun vs H Q _ => ∃ (n : Int) (x : V) (d : Td) (h : Addr), vs = [x, .int n] ∧ Is C h H x d ∧ (∀ ds, d = .tup ds → ds.length ≤ 100000) ∧ ∀ H', Same H H' → Q (.bl (lotB n d)) H'
theorem ok_law_is_lot (T : Top K mg A) : FnOk P w K mg base CX0 2 A.a_law_is_lot A.d_law_is_lot P_law_is_lot (spLLot A.c_Cell) := by
  refine T.F_law_is_lot.ok sc_law_is_lot (fun vs H Q E h => ?_) (fun cdv A' outer s H vs Q E hr h => ?_)
  · obtain ⟨n, x, d, h, rfl, _⟩ := h
    rfl
  · obtain ⟨n, x, d, h, rfl, ht, hlen, k⟩ := h
    obtain ⟨t, ty, _, _, e3⟩ := is_ty T ht
    refine ⟨_, (pss_cons (ps_if (PW.pt (pw_or (pt_not (pt_val (pe_callB call_isi (by rfl) T.z_isinstance (by decide +kernel) (pa_cons (pv 0) (pa_cons (pe_bltn (v := .ty "tuple") (by rfl) T.z_tuple (by decide +kernel) rfl) pa_nil))))) (pw_or1 (pt_not (pt_val (pe_callB (cr_all rfl) (by rfl) T.z_all (by decide +kernel) (pa_cons (pe_lc (own := [("_law_item", 4)]) (by rfl) sc_law_is_lot.nd (pi_tup (pv 0)) (blkOk_by (own := [("_law_item", 4)]) (N := N_law_is_lot) (sc := defScope s_law_is_lot) (by decide +kernel)) (fun _ _ _ _ _ => (pg_name (i := 4) sc_law_is_lot.nd rfl (.inl rfl))) (fun _ _ _ _ _ => pts_nil) (fun _ _ _ _ _ => (pe_call (ok_law_is_int T) (hr.mono (by decide)) (by rfl) T.g_law_is_int T.F_law_is_int.kp T.b_law_is_int .nil pass0 (pa_cons (pv 4) (pa_cons pe_int (pa_cons (pe_op op_sub (pv 1) pe_int) pa_nil)))))) pa_nil))))))) (pss_one (ps_ret pe_bl)) pss_nil)
    (pss_one (ps_ret (pe_callB (cr_all rfl) (by rfl) T.z_all (by decide +kernel) (pa_cons (pe_lc (own := [("_law_one", 2), ("_law_other", 3)]) (by rfl) sc_law_is_lot.nd (RZ.pi_zipA (by rfl) T.z_zip (pa_cons (pv 0) (pa_cons (pe_slice sl_tupA (pv 0) (po_some pe_int) po_none) pa_nil))) (blkOk_by (own := [("_law_one", 2), ("_law_other", 3)]) (N := N_law_is_lot) (sc := defScope s_law_is_lot) (by decide +kernel)) (fun _ _ _ _ _ => (show PG _ _ (gTup K 2 _) from (pg_tup rfl (pgs_cons (pg_name (i := 2) sc_law_is_lot.nd rfl (.inl rfl)) (pgs_cons (pg_name (i := 3) sc_law_is_lot.nd rfl (.inl rfl)) pgs_nil))))) (fun _ _ _ _ _ => pts_nil) (fun _ _ _ _ _ => (pe_cmpR op_lt (pv 2) (pv 3) (nomark _)))) pa_nil))))), ?_⟩
    refine ⟨_, rfl, _, _, _, _, _, rfl, .ty "tuple", ty, e3, _, rfl, ?_⟩
    cases c : isT d with
    | false =>
      have q := k H (fun _ _ e => e)
      rw [lotB_no c] at q
      exact iteT q
    | true =>
      obtain ⟨a, xs, ds, rfl, rfl, ha, hl⟩ := isT_of ht c
      have hlen := hlen ds rfl
      refine iteF ?_
      refine ⟨_, rfl, a, rfl, ⟨_, SqT.of ha⟩, fun D nD => ?_⟩
      refine lc_tup (K := K) (a := a) (xs := xs) (fun i H' => Same H H' ∧ H' D = some (.lst (((ds.take i).map (inI 0 (n - 1))).map V.bl))) ⟨same_upd nD, upd_same⟩ (fun i H' _ q => SqT.of (q.1 _ _ ha)) ?_ ?_
      · rintro i x H' hx ⟨s1, d1⟩
        obtain ⟨d, hd, hxd⟩ := hl.get hx
        have hi := (List.getElem?_eq_some_iff.mp hd).1
        refine ⟨rfl, ?_⟩
        refine ⟨_, rfl, _, rfl, _, _, rfl, rfl, _, _, x, d, h, rfl, hxd.same s1, ?_⟩
        refine ⟨_, d1, ?_, same_to s1 nD, ?_⟩
        · rw [List.length_map, List.length_map, List.length_take]
          exact Nat.lt_of_le_of_lt (Nat.le_trans (Nat.min_le_right _ _) hlen) (by decide)
        · rw [upd_same, List.take_add_one, hd, List.map_append, List.map_append]
          rfl
      · rintro H' ⟨s1, d1⟩
        rw [hl.len, List.take_length] at d1
        refine ⟨D, _, rfl, SqL.of d1, _, rfl, ?_⟩
        have eall : (ds.map (inI 0 (n - 1))).all id = ds.all (inI 0 (n - 1)) := by
          rw [List.all_map]
          rfl
        rw [eall]
        cases c1 : ds.all (inI 0 (n - 1)) with
        | false =>
          have q := k H' s1
          have e : lotB n (.tup ds) = false := by
            show ascT (n - 1) 0 ds = false
            cases c2 : ascT (n - 1) 0 ds with
            | false => rfl
            | true =>
              rw [asc_in (Int.le_refl 0) c2] at c1
              cases c1
          rw [e] at q
          exact iteT q
        | true =>
          refine iteF ?_
          obtain ⟨ns, rfl, hns⟩ := all_ints c1
          have exs := hl.of_ints
          subst exs
          have elot : lotB n (.tup (ns.map Td.int)) = (zipB ns).all id := asc_zip (fun x hx => (hns x hx).2) (fun x hx => (hns x (List.mem_of_mem_head? hx)).1)
          rw [elot] at k
          rw [List.length_map] at hlen
          have epr : (ns.map V.int).length = ns.length := List.length_map _
          refine ⟨_, rfl, _, rfl, 1, rfl, a, ns.map V.int, rfl, SqT.of (s1 _ _ ha), fun full => ?_, fun _ q nq => ?_⟩
          · have e0 : ns = [] := by
              have z := full.1
              rw [show HT.sIx (List.map V.int ns).length 0 (some 1) = min 1 (List.map V.int ns).length from HT.sIx_nat _ _ 1, epr] at z
              cases ns with
              | nil => rfl
              | cons y r =>
                rw [List.length_cons] at z
                omega
            have s2 := s1
            have hq : H' a = some (.tup ((ns.drop 1).map V.int)) := by
              rw [e0]
              have z := s1 _ _ ha
              rw [e0] at z
              exact z
            refine ⟨a, a, _, _, rfl, .inr ⟨SqT.of (s2 _ _ ha), SqT.of hq, fun D2 nD2 => ?_⟩⟩
            have nD20 := s2.free nD2
            refine lc_it (GE.walk_zipT rfl) (fun i H3 => Same H' H3 ∧ H3 D2 = some (.lst (((zipB ns).take i).map V.bl))) ⟨same_upd nD2, upd_same⟩ (fun i H3 _ z => ⟨SqT.of (z.1 _ _ (s2 _ _ ha)), SqT.of (z.1 _ _ hq)⟩) ?_ ?_
            · rintro i x H3 H3' hi ⟨s3, d3⟩ ⟨p, x1, x2, rfl, np, rfl, ex1, ex2⟩
              have ex1 : (ns.map V.int)[i]? = some x1 := ex1
              have ex2 : ((ns.drop 1).map V.int)[i]? = some x2 := ex2
              rw [List.getElem?_map] at ex1 ex2
              obtain ⟨u, hu, rfl⟩ := Option.map_eq_some_iff.mp ex1
              obtain ⟨v, hv, rfl⟩ := Option.map_eq_some_iff.mp ex2
              have s4 := same_to s3 (s3.free np) (o := .tup [.int u, .int v])
              have d4 : (upd H3 p (.tup [.int u, .int v])) D2 = some (.lst (((zipB ns).take i).map V.bl)) := by
                rw [upd_ne (ne_of_none d3 np)]
                exact d3
              refine ⟨p, _, rfl, SqT.of upd_same, rfl, _, _, rfl, _, _, rfl, rfl, rfl, ?_⟩
              have ez : (zipB ns)[i]? = some (decide (u < v)) := by
                unfold zipB
                rw [List.getElem?_zipWith, hu, hv]
              refine ⟨_, rfl, _, rfl, _, _, rfl, rfl, _, d4, ?_, same_to s4 nD2, ?_⟩
              · rw [List.length_map, List.length_take]
                have z : (zipB ns).length ≤ ns.length := by
                  unfold zipB
                  rw [List.length_zipWith]
                  omega
                exact Nat.lt_of_le_of_lt (Nat.le_trans (Nat.min_le_right _ _) (Nat.le_trans z hlen)) (by decide)
              · rw [upd_same, List.take_add_one, ez, List.map_append]
                rfl
            · rintro H3 ⟨s3, d3⟩
              have e9 : (zipB ns).take (min (ns.map V.int).length ((ns.drop 1).map V.int).length) = zipB ns := by
                refine List.take_of_length_le ?_
                unfold zipB
                rw [List.length_zipWith, List.length_map, List.length_map]
                exact Nat.le_refl _
              rw [e9] at d3
              refine ⟨D2, _, rfl, SqL.of d3, k _ (s2.trans s3)⟩
          · have s2 := same_to s1 (s1.free nq) (o := .tup (cutV (ns.map V.int) (some 1) none))
            have hq : (upd H' q (.tup (cutV (ns.map V.int) (some 1) none))) q = some (.tup ((ns.drop 1).map V.int)) := by
              rw [upd_same]
              cases ns with
              | nil => rfl
              | cons y r =>
                rw [show cutV ((y :: r).map V.int) (some 1) none = ((y :: r).map V.int).drop 1 from cut_hi (n := 1) (by rw [List.length_map, List.length_cons]; omega)]
                rfl
            generalize (upd H' q (.tup (cutV (ns.map V.int) (some 1) none))) = H2 at s2 hq ⊢
            refine ⟨a, q, _, _, rfl, .inr ⟨SqT.of (s2 _ _ ha), SqT.of hq, fun D2 nD2 => ?_⟩⟩
            have nD20 := s2.free nD2
            refine lc_it (GE.walk_zipT rfl) (fun i H3 => Same H2 H3 ∧ H3 D2 = some (.lst (((zipB ns).take i).map V.bl))) ⟨same_upd nD2, upd_same⟩ (fun i H3 _ z => ⟨SqT.of (z.1 _ _ (s2 _ _ ha)), SqT.of (z.1 _ _ hq)⟩) ?_ ?_
            · rintro i x H3 H3' hi ⟨s3, d3⟩ ⟨p, x1, x2, rfl, np, rfl, ex1, ex2⟩
              have ex1 : (ns.map V.int)[i]? = some x1 := ex1
              have ex2 : ((ns.drop 1).map V.int)[i]? = some x2 := ex2
              rw [List.getElem?_map] at ex1 ex2
              obtain ⟨u, hu, rfl⟩ := Option.map_eq_some_iff.mp ex1
              obtain ⟨v, hv, rfl⟩ := Option.map_eq_some_iff.mp ex2
              have s4 := same_to s3 (s3.free np) (o := .tup [.int u, .int v])
              have d4 : (upd H3 p (.tup [.int u, .int v])) D2 = some (.lst (((zipB ns).take i).map V.bl)) := by
                rw [upd_ne (ne_of_none d3 np)]
                exact d3
              refine ⟨p, _, rfl, SqT.of upd_same, rfl, _, _, rfl, _, _, rfl, rfl, rfl, ?_⟩
              have ez : (zipB ns)[i]? = some (decide (u < v)) := by
                unfold zipB
                rw [List.getElem?_zipWith, hu, hv]
              refine ⟨_, rfl, _, rfl, _, _, rfl, rfl, _, d4, ?_, same_to s4 nD2, ?_⟩
              · rw [List.length_map, List.length_take]
                have z : (zipB ns).length ≤ ns.length := by
                  unfold zipB
                  rw [List.length_zipWith]
                  omega
                exact Nat.lt_of_le_of_lt (Nat.le_trans (Nat.min_le_right _ _) (Nat.le_trans z hlen)) (by decide)
              · rw [upd_same, List.take_add_one, ez, List.map_append]
                rfl
            · rintro H3 ⟨s3, d3⟩
              have e9 : (zipB ns).take (min (ns.map V.int).length ((ns.drop 1).map V.int).length) = zipB ns := by
                refine List.take_of_length_le ?_
                unfold zipB
                rw [List.length_zipWith, List.length_map, List.length_map]
                exact Nat.le_refl _
              rw [e9] at d3
              refine ⟨D2, _, rfl, SqL.of d3, k _ (s2.trans s3)⟩
/-- whether a tuple's third item is short enough to be walked -/
def Short (d : Td) : Prop := ∀ ds, d = .tup ds → ds.length ≤ 100000 ∧ ∀ e ∈ ds, ∀ es, e = .tup es → es.length ≤ 100000 ∧ ∀ f ∈ es, ∀ fs, f = .tup fs → fs.length ≤ 100000 ∧ ∀ g ∈ fs, ∀ gs, g = .tup gs → gs.length ≤ 100000
def spLArr (C : Addr) : Sp := fun vs H Q _ => ∃ (n m : Int) (x : V) (d : Td) (h : Addr), vs = [.int n, .int m, x] ∧ Is C h H x d ∧ (∀ fs, d = .tup fs → ∀ g ∈ fs, ∀ gs, g = .tup gs → gs.length ≤ 100000) ∧ ∀ H', Same H H' → Q (.bl (arrB n m d)) H'
end

section
variable {P : Program} {w : World} {K : PySem.W.Frag} {mg : Str → Option Value} {base : Heap} {A : Adr}
/-- a thing that can be told, its tuples short -/
def Gd (C h : Addr) (H : Hp) (v : V) : Prop := ∃ d, Is C h H v d ∧ Sh d
theorem Gd.same {C h : Addr} {H H' : Hp} {v : V} (t : Gd C h H v) (s : Same H H') : Gd C h H' v := by
  obtain ⟨d, a, b⟩ := t
  exact ⟨d, a.same s, b⟩
theorem Gd.kp {C h g : Addr} {H H' : Hp} {v : V} (t : Gd C h H v) (k : Kp h H H') (a : HandAt H h g) : Gd C h H' v := by
  obtain ⟨d, i, b⟩ := t
  exact ⟨d, i.kp k a, b⟩
theorem Sh.nil : Sh (.tup []) := .tup (Nat.zero_le _) fun d hd => by cases hd
theorem Sh.one {d : Td} (s : Sh d) : Sh (.tup [d]) := .tup (by show 1 ≤ 1000; decide) fun e he => by
  rw [List.mem_singleton.mp he]
  exact s
theorem Sh.two {d e : Td} (s : Sh d) (t : Sh e) : Sh (.tup [d, e]) := .tup (by show 2 ≤ 1000; decide) fun f hf => by
  simp only [List.mem_cons, List.not_mem_nil, or_false] at hf
  rcases hf with z | z <;> subst z <;> assumption
def spDeep (C : Addr) : Sp := fun vs H Q _ => ∃ (h g : Addr), vs = [.ref h] ∧ HandAt H h g ∧ ∀ (H' : Hp) (v : V), Kp h H H' → HandAt H' h g → Gd C h H' v → Q v H'
theorem ok_law_deep (T : Top K mg A) : FnOk P w K mg base CX0 3 A.a_law_deep A.d_law_deep P_law_deep (spDeep A.c_Cell) := by
  refine T.F_law_deep.ok sc_law_deep (fun vs H Q E h => ?_) (fun cdv A' outer s H vs Q E hr h => ?_)
  · obtain ⟨h, g, rfl, _⟩ := h
    rfl
  · obtain ⟨h, g, rfl, ha, k⟩ := h
    refine ⟨_, (pss_cons (ps_set (i := 1) sc_law_deep.nd rfl (.inl rfl) (pe_call (ok_law_any T) (hr.mono (by decide)) (by rfl) T.g_law_any T.F_law_any.kp T.b_law_any .nil pass0 (pa_cons (pv 0) (pa_cons (pe_lst (pa_cons pe_int (pa_cons (pe_tup pa_nil) (pa_cons pe_str pa_nil)))) pa_nil))))
    (pss_cons (ps_for PassesOwn.never rfl (pi_range1 rfl T.z_range (pa_cons (pe_op op_add pe_int (pe_call (ok_law_draw T) (hr.mono (by decide)) (by rfl) T.g_law_draw T.F_law_draw.kp T.b_law_draw .nil pass0 (pa_cons (pv 0) (pa_cons pe_int pa_nil)))) pa_nil)) (pg_name (i := 2) sc_law_deep.nd rfl (.inl rfl)) (pss_one (ps_set (i := 1) sc_law_deep.nd rfl (.inl rfl) (pe_ifExp (pt_cmpR op_gt (pe_call (ok_law_draw T) (hr.mono (by decide)) (by rfl) T.g_law_draw T.F_law_draw.kp T.b_law_draw .nil pass0 (pa_cons (pv 0) (pa_cons pe_int pa_nil))) pe_int (nomark _)) (pe_tup (pa_cons (pv 1) pa_nil)) (pe_lst (pa_cons (pv 1) pa_nil))))))
    (pss_one (ps_ret (pv 1))))), ?_⟩
    refine ⟨_, rfl, Nat.zero_le _, fun p1 n1 => ⟨(by show 3 ≤ sizeLine; decide), fun l nl => ?_⟩⟩
    have s1 := same_upd n1 (o := .tup [])
    have s2 := s1.trans (same_upd nl (o := .lst [.int 0, .ref p1, .str "a"]))
    have hl := (ha.same s1).ne_none nl
    have a2 := ha.same s2
    refine ⟨h, g, l, _, rfl, a2, SqL.of upd_same, fun H' b => SqL.of (by rw [b l hl]; exact upd_same), by show 0 < 3; decide, by show 3 ≤ 100000; decide, fun H2 j v b2 h2 hv => ?_⟩
    have g2 : Gd A.c_Cell h H2 v := by
      refine Gd.kp ?_ b2.kp a2
      have hm := List.mem_of_getElem? hv
      simp only [List.mem_cons, List.not_mem_nil, or_false] at hm
      rcases hm with e | e | e <;> subst e
      · exact ⟨_, .int 0, .int 0⟩
      · exact ⟨.tup [], .tup (by rw [upd_ne (fun e => by rw [← e, upd_same] at nl; cases nl)]; exact upd_same) .nil, .nil⟩
      · exact ⟨_, .str _, .str _⟩
    have k2 : Kp h H H2 := Kp.trans (kp_of s2 h) b2.kp
    refine ⟨_, rfl, h, g, 12, rfl, h2, by decide, by decide, fun H3 d b3 h3 d0 d1 => ?_⟩
    refine ⟨_, _, rfl, rfl, _, rfl, by omega, by omega, ?_⟩
    refine for_range (lo := 0) (n := (18 + d).toNat) (fun i σ H' => ∃ (u : V) (y2 : Option V), σ = [some (.ref h), some u, y2] ∧ Kp h H H' ∧ HandAt H' h g ∧ Gd A.c_Cell h H' u)
      ⟨v, none, rfl, k2.trans b3.kp, h3, g2.kp b3.kp h2⟩ ?_ ?_
    · rintro i σ H4 hi ⟨u, y2, rfl, k4, h4, g4⟩
      refine ⟨_, rfl, h, g, 3, rfl, h4, by decide, by decide, fun H5 e b5 h5 e0 e1 => ?_⟩
      obtain ⟨du, iu, su⟩ := g4.kp b5.kp h4
      have k5 := k4.trans b5.kp
      refine ⟨_, _, rfl, rfl, _, rfl, ite2 (fun _ => ?_) (fun _ => ?_)⟩
      · refine ⟨_, rfl, (by show 1 ≤ sizeLine; decide), fun p np => ?_⟩
        have s5 := same_upd np (o := .tup [u])
        exact ⟨_, _, rfl, k5.same s5, h5.same s5, .tup [du], Is.newT (.cons iu .nil) np, su.one⟩
      · refine ⟨_, rfl, (by show 1 ≤ sizeLine; decide), fun p np => ?_⟩
        have s5 := same_upd np (o := .lst [u])
        exact ⟨_, _, rfl, k5.same s5, h5.same s5, .oth, Is.newL np h5, .oth⟩
    · rintro σ H4 ⟨u, y2, rfl, k4, h4, g4⟩
      exact ⟨_, rfl, k H4 u k4 h4 g4⟩
def spOdd (C : Addr) : Sp := fun vs H Q _ => ∃ (h g : Addr) (o : V), vs = [.ref h, o] ∧ HandAt H h g ∧ ∀ (H' : Hp) (v : V), Kp h H H' → HandAt H' h g → (Gd C h H' v ∨ v = o) → Q v H'
theorem ok_law_odd (T : Top K mg A) : FnOk P w K mg base CX0 4 A.a_law_odd A.d_law_odd P_law_odd (spOdd A.c_Cell) := by
  refine T.F_law_odd.ok sc_law_odd (fun vs H Q E h => ?_) (fun cdv A' outer s H vs Q E hr h => ?_)
  · obtain ⟨h, g, o, rfl, _⟩ := h
    rfl
  · obtain ⟨h, g, o, rfl, ha, k⟩ := h
    refine ⟨_, (pss_cons (ps_set (i := 2) sc_law_odd.nd rfl (.inl rfl) (pe_lst (pa_cons pe_non (pa_cons pe_bl (pa_cons pe_bl (pa_cons (pe_un un_neg pe_int) (pa_cons pe_int (pa_cons pe_int (pa_cons (pe_op op_pow pe_int pe_int) (pa_cons pe_str (pa_cons pe_str (pa_cons (pe_tup pa_nil) (pa_cons (pe_lst pa_nil) (pa_cons pe_dnewK (pa_cons (pe_tup (pa_cons pe_int pa_nil)) (pa_cons (pe_lst (pa_cons pe_int pa_nil)) (pa_cons (pe_tup (pa_cons pe_bl pa_nil)) (pa_cons (pe_tup (pa_cons pe_str pa_nil)) (pa_cons (pe_tup (pa_cons pe_non (pa_cons pe_int pa_nil))) pa_nil)))))))))))))))))))
    (pss_one (ps_ret (pe_call (ok_law_any T) (hr.mono (by decide)) (by rfl) T.g_law_any T.F_law_any.kp T.b_law_any .nil pass0 (pa_cons (pv 0) (pa_cons (pe_op op_cat (pv 2) (pe_lst (pa_cons (pe_disp (pps_cons pe_int pe_int pps_nil) (by rfl) (by rfl) (fun z => by cases z) (by decide)) (pa_cons (pv 1) (pa_cons (pe_call (ok_law_deep T) (hr.mono (by decide)) (by rfl) T.g_law_deep T.F_law_deep.kp T.b_law_deep .nil pass0 (pa_cons (pv 0) pa_nil)) pa_nil))))) pa_nil)))))), ?_⟩
    refine ⟨1, rfl, 10, 59, rfl, rfl, ⟨by decide, by decide, by decide⟩, ?_⟩
    refine ⟨(by show 0 ≤ sizeLine; decide), fun p1 n1 => ?_⟩
    have s1 := same_upd n1 (o := .tup [])
    have f1 : (upd H p1 (.tup [])) p1 = some (.tup []) := upd_same
    have a1 := ha.same s1
    have t1 : Same H (upd H p1 (.tup [])) := s1
    generalize (upd H p1 (.tup [])) = G1 at s1 f1 a1 t1  ⊢
    refine ⟨(by show 0 ≤ sizeLine; decide), fun p2 n2 => ?_⟩
    have s2 := same_upd n2 (o := .lst [])
    have f2 : (upd G1 p2 (.lst [])) p2 = some (.lst []) := upd_same
    have q2 := a1.ne_none n2
    have a2 := a1.same s2
    have f1 := s2 _ _ f1
    have t2 := t1.trans s2
    generalize (upd G1 p2 (.lst [])) = G2 at s2 f2 a2 t2 f1 ⊢
    intro p3 n3
    have s3 := same_upd n3 (o := .dK [])
    have f3 : (upd G2 p3 (.dK [])) p3 = some (.dK []) := upd_same
    have a3 := a2.same s3
    have f1 := s3 _ _ f1
    have f2 := s3 _ _ f2
    have t3 := t2.trans s3
    generalize (upd G2 p3 (.dK [])) = G3 at s3 f3 a3 t3 f1 f2 ⊢
    refine ⟨(by show 1 ≤ sizeLine; decide), fun p4 n4 => ?_⟩
    have s4 := same_upd n4 (o := .tup [.int 0])
    have f4 : (upd G3 p4 (.tup [.int 0])) p4 = some (.tup [.int 0]) := upd_same
    have a4 := a3.same s4
    have f1 := s4 _ _ f1
    have f2 := s4 _ _ f2
    have f3 := s4 _ _ f3
    have t4 := t3.trans s4
    generalize (upd G3 p4 (.tup [.int 0])) = G4 at s4 f4 a4 t4 f1 f2 f3 ⊢
    refine ⟨(by show 1 ≤ sizeLine; decide), fun p5 n5 => ?_⟩
    have s5 := same_upd n5 (o := .lst [.int 0])
    have f5 : (upd G4 p5 (.lst [.int 0])) p5 = some (.lst [.int 0]) := upd_same
    have q5 := a4.ne_none n5
    have a5 := a4.same s5
    have f1 := s5 _ _ f1
    have f2 := s5 _ _ f2
    have f3 := s5 _ _ f3
    have f4 := s5 _ _ f4
    have t5 := t4.trans s5
    generalize (upd G4 p5 (.lst [.int 0])) = G5 at s5 f5 a5 t5 f1 f2 f3 f4 ⊢
    refine ⟨(by show 1 ≤ sizeLine; decide), fun p6 n6 => ?_⟩
    have s6 := same_upd n6 (o := .tup [.bl true])
    have f6 : (upd G5 p6 (.tup [.bl true])) p6 = some (.tup [.bl true]) := upd_same
    have a6 := a5.same s6
    have f1 := s6 _ _ f1
    have f2 := s6 _ _ f2
    have f3 := s6 _ _ f3
    have f4 := s6 _ _ f4
    have f5 := s6 _ _ f5
    have t6 := t5.trans s6
    generalize (upd G5 p6 (.tup [.bl true])) = G6 at s6 f6 a6 t6 f1 f2 f3 f4 f5 ⊢
    refine ⟨(by show 1 ≤ sizeLine; decide), fun p7 n7 => ?_⟩
    have s7 := same_upd n7 (o := .tup [.str "0"])
    have f7 : (upd G6 p7 (.tup [.str "0"])) p7 = some (.tup [.str "0"]) := upd_same
    have a7 := a6.same s7
    have f1 := s7 _ _ f1
    have f2 := s7 _ _ f2
    have f3 := s7 _ _ f3
    have f4 := s7 _ _ f4
    have f5 := s7 _ _ f5
    have f6 := s7 _ _ f6
    have t7 := t6.trans s7
    generalize (upd G6 p7 (.tup [.str "0"])) = G7 at s7 f7 a7 t7 f1 f2 f3 f4 f5 f6 ⊢
    refine ⟨(by show 2 ≤ sizeLine; decide), fun p8 n8 => ?_⟩
    have s8 := same_upd n8 (o := .tup [.non, .int 0])
    have f8 : (upd G7 p8 (.tup [.non, .int 0])) p8 = some (.tup [.non, .int 0]) := upd_same
    have a8 := a7.same s8
    have f1 := s8 _ _ f1
    have f2 := s8 _ _ f2
    have f3 := s8 _ _ f3
    have f4 := s8 _ _ f4
    have f5 := s8 _ _ f5
    have f6 := s8 _ _ f6
    have f7 := s8 _ _ f7
    have t8 := t7.trans s8
    generalize (upd G7 p8 (.tup [.non, .int 0])) = G8 at s8 f8 a8 t8 f1 f2 f3 f4 f5 f6 f7 ⊢
    refine ⟨(by show 17 ≤ sizeLine; decide), fun p9 n9 => ?_⟩
    have s9 := same_upd n9 (o := .lst [.non, .bl true, .bl false, .int (-1), .int 13, .int 100, .int (10 ^ 59), .str "0", .str "", .ref p1, .ref p2, .ref p3, .ref p4, .ref p5, .ref p6, .ref p7, .ref p8])
    have f9 : (upd G8 p9 (.lst [.non, .bl true, .bl false, .int (-1), .int 13, .int 100, .int (10 ^ 59), .str "0", .str "", .ref p1, .ref p2, .ref p3, .ref p4, .ref p5, .ref p6, .ref p7, .ref p8])) p9 = some (.lst [.non, .bl true, .bl false, .int (-1), .int 13, .int 100, .int (10 ^ 59), .str "0", .str "", .ref p1, .ref p2, .ref p3, .ref p4, .ref p5, .ref p6, .ref p7, .ref p8]) := upd_same
    have q9 := a8.ne_none n9
    have a9 := a8.same s9
    have f1 := s9 _ _ f1
    have f2 := s9 _ _ f2
    have f3 := s9 _ _ f3
    have f4 := s9 _ _ f4
    have f5 := s9 _ _ f5
    have f6 := s9 _ _ f6
    have f7 := s9 _ _ f7
    have f8 := s9 _ _ f8
    have t9 := t8.trans s9
    rw [show (upd G8 p9 (.lst [.non, .bl true, .bl false, (fun i => V.int (-i)) (1 : Int), .int 13, .int 100, (fun (i j : Int) => V.int (i ^ j.toNat)) 10 59, .str "0", .str "", .ref p1, .ref p2, .ref p3, .ref p4, .ref p5, .ref p6, .ref p7, .ref p8])) = upd G8 p9 (.lst [.non, .bl true, .bl false, .int (-1), .int 13, .int 100, .int (10 ^ 59), .str "0", .str "", .ref p1, .ref p2, .ref p3, .ref p4, .ref p5, .ref p6, .ref p7, .ref p8]) from rfl]
    generalize (upd G8 p9 (.lst [.non, .bl true, .bl false, .int (-1), .int 13, .int 100, .int (10 ^ 59), .str "0", .str "", .ref p1, .ref p2, .ref p3, .ref p4, .ref p5, .ref p6, .ref p7, .ref p8])) = G9 at s9 f9 a9 t9 f1 f2 f3 f4 f5 f6 f7 f8 ⊢
    -- {0: 0}
    refine ⟨_, rfl, _, rfl, fun pd nd => ?_⟩
    refine ⟨upd_same, [(Sum.inl 0, .int 0)], rfl, by decide, ?_⟩
    rw [upd_upd]
    have s10 := same_upd nd (o := .dK (mergeK [] [(Sum.inl 0, .int 0)]))
    have fd : (upd G9 pd (.dK (mergeK [] [(Sum.inl 0, .int 0)]))) pd = some (.dK (mergeK [] [(Sum.inl 0, .int 0)])) := upd_same
    have a10 := a9.same s10
    have t10 := t9.trans s10
    have f1 := s10 _ _ f1
    have f2 := s10 _ _ f2
    have f3 := s10 _ _ f3
    have f4 := s10 _ _ f4
    have f5 := s10 _ _ f5
    have f6 := s10 _ _ f6
    have f7 := s10 _ _ f7
    have f8 := s10 _ _ f8
    have f9 := s10 _ _ f9
    generalize (upd G9 pd (.dK (mergeK [] [(Sum.inl 0, .int 0)]))) = G10 at s10 fd a10 t10 f1 f2 f3 f4 f5 f6 f7 f8 f9 ⊢
    refine ⟨_, rfl, _, rfl, h, g, rfl, a10, fun H' v k4 h4 g4 => ?_⟩
    have m : ∀ y ∈ ([.non, .bl true, .bl false, .int (-1), .int 13, .int 100, .int (10 ^ 59), .str "0", .str "", .ref p1, .ref p2, .ref p3, .ref p4, .ref p5, .ref p6, .ref p7, .ref p8] ++ [.ref pd, o, v] : List V), (Gd A.c_Cell h H' y ∨ y = o) := by
      intro y hy
      simp only [List.mem_append, List.mem_cons, List.not_mem_nil, or_false] at hy
      rcases hy with (e | e | e | e | e | e | e | e | e | e | e | e | e | e | e | e | e) | (e | e | e) <;> rw [e]
      · exact .inl ⟨_, .non, .non⟩
      · exact .inl ⟨_, .bl _, .bl _⟩
      · exact .inl ⟨_, .bl _, .bl _⟩
      · exact .inl ⟨_, .int _, .int _⟩
      · exact .inl ⟨_, .int _, .int _⟩
      · exact .inl ⟨_, .int _, .int _⟩
      · exact .inl ⟨_, .int _, .int _⟩
      · exact .inl ⟨_, .str _, .str _⟩
      · exact .inl ⟨_, .str _, .str _⟩
      · exact .inl (Gd.kp ⟨.tup [], .tup f1 .nil, .nil⟩ k4 a10)
      · exact .inl (Gd.kp ⟨.oth, .lst f2 q2, .oth⟩ k4 a10)
      · exact .inl (Gd.kp ⟨.oth, .dK f3, .oth⟩ k4 a10)
      · exact .inl (Gd.kp ⟨.tup [.int 0], .tup f4 (.cons (.int 0) .nil), (Sh.int 0).one⟩ k4 a10)
      · exact .inl (Gd.kp ⟨.oth, .lst f5 q5, .oth⟩ k4 a10)
      · exact .inl (Gd.kp ⟨.tup [.bl true], .tup f6 (.cons (.bl true) .nil), (Sh.bl true).one⟩ k4 a10)
      · exact .inl (Gd.kp ⟨.tup [.str "0"], .tup f7 (.cons (.str "0") .nil), (Sh.str "0").one⟩ k4 a10)
      · exact .inl (Gd.kp ⟨.tup [.non, .int 0], .tup f8 (.cons .non (.cons (.int 0) .nil)), Sh.non.two (.int 0)⟩ k4 a10)
      · exact .inl (Gd.kp ⟨.oth, .dK fd, .oth⟩ k4 a10)
      · exact .inr rfl
      · exact .inl g4
    have el := k4 _ _ q9 f9
    refine ⟨(by show 3 ≤ sizeLine; decide), fun p3' n3' => ?_⟩
    have s11 := same_upd n3' (o := .lst [.ref pd, o, v])
    refine ⟨p9, p3', _, _, rfl, rfl, s11 _ _ el, upd_same, (by show 20 ≤ sizeLine; decide), fun q nq => ?_⟩
    have s12 := s11.trans (same_upd nq (o := .lst ([.non, .bl true, .bl false, .int (-1), .int 13, .int 100, .int (10 ^ 59), .str "0", .str "", .ref p1, .ref p2, .ref p3, .ref p4, .ref p5, .ref p6, .ref p7, .ref p8] ++ [.ref pd, o, v])))
    have hq := (h4.same s11).ne_none nq
    refine ⟨h, g, q, _, rfl, h4.same s12, SqL.of upd_same, fun H' b => SqL.of (by rw [b q hq]; exact upd_same), by show 0 < 20; decide, by show 20 ≤ 100000; decide, fun H2 j y b2 h2 hv => ?_⟩
    exact k H2 y (((Kp.trans (kp_of t10 h) k4).same s12).trans b2.kp) h2 ((m y (List.mem_of_getElem? hv)).imp (fun z => (z.same s12).kp b2.kp (h4.same s12)) id)
end

section
variable {P : Program} {w : World} {K : PySem.W.Frag} {mg : Str → Option Value} {base : Heap} {A : Adr}
theorem Is.lset {C h D : Addr} {H : Hp} {us vs : List V} {v : V} {d : Td} (t : Is C h H v d) (e : H D = some (.lst us)) : Is C h (upd H D (.lst vs)) v d := by
  refine Is.rec (motive_1 := fun v d _ => Is C h (upd H D (.lst vs)) v d) (motive_2 := fun vs' ds _ => IsL C h (upd H D (.lst vs)) vs' ds) (fun i => .int i) (fun b => .bl b) .non (fun s => .str s)
    (fun e1 _ ih => .tup (by rw [upd_ne (ne_of e1 e (by intro z; cases z))]; exact e1) ih) (fun {a xs} e1 n => ?_) (fun e1 => .dK (by rw [upd_ne (ne_of e1 e (by intro z; cases z))]; exact e1)) (fun e1 => .ins (by rw [upd_ne (ne_of e1 e (by intro z; cases z))]; exact e1)) .nil (fun _ _ a b => .cons a b) t
  by_cases z : a = D
  · subst z
    exact .lst upd_same n
  · exact .lst (by rw [upd_ne z]; exact e1) n
theorem IsL.lset {C h D : Addr} {H : Hp} {us vs : List V} : ∀ {xs : List V} {ds : List Td}, IsL C h H xs ds → H D = some (.lst us) → IsL C h (upd H D (.lst vs)) xs ds
  | _, _, .nil, _ => .nil
  | _, _, .cons a t, e => .cons (a.lset e) (t.lset e)
theorem asc_pair {hi : Int} : ∀ {ns : List Int} {lo : Int}, ns.Pairwise (· < ·) → (∀ x ∈ ns, lo ≤ x ∧ x ≤ hi) → ascT hi lo (ns.map Td.int) = true
  | [], _, _, _ => rfl
  | x :: r, lo, p, h => by
    obtain ⟨p1, p2⟩ := List.pairwise_cons.mp p
    have hx := h x List.mem_cons_self
    show (decide (lo ≤ x) && decide (x ≤ hi) && ascT hi (x + 1) (r.map Td.int)) = true
    rw [decide_eq_true hx.1, decide_eq_true hx.2, asc_pair p2 fun y hy => ⟨by have := p1 y hy; omega, (h y (List.mem_cons_of_mem _ hy)).2⟩]
    rfl
def spOutsD : Sp := fun vs H Q _ => ∃ (h g : Addr) (n m : Int), vs = [.ref h, .int n, .int m] ∧ HandAt H h g ∧ (1 ≤ n ∧ n ≤ 1000) ∧ (1 ≤ m ∧ m ≤ 60) ∧
  ∀ (H' : Hp) (p : Addr) (ns : List Int), Kp h H H' → HandAt H' h g → H p = none → H' p = some (.tup (ns.map V.int)) → ascT (n - 1) 0 (ns.map Td.int) = true → 1 ≤ (ns.length : Int) → (ns.length : Int) ≤ m → Q (.ref p) H'
theorem ok_law_outs (T : Top K mg A) : FnOk P w K mg base CX0 2 A.a_law_outs A.d_law_outs P_law_outs spOutsD := by
  refine T.F_law_outs.ok sc_law_outs (fun vs H Q E h => ?_) (fun cdv A' outer s H vs Q E hr h => ?_)
  · obtain ⟨h, g, n, m, rfl, _⟩ := h
    rfl
  · obtain ⟨h, g, n, m, rfl, ha, ⟨n0, n1⟩, ⟨m0, m1⟩, k⟩ := h
    refine ⟨_, (pss_one (ps_ret (pe_callTy call_tuple_of (by rfl) T.z_tuple (by decide +kernel) (pa_cons (pe_callB (cr_sortedSet rfl) (by rfl) T.z_sorted (by decide +kernel) (pa_cons (pe_callTy (GX.cr_setI rfl) (by rfl) T.z_set (by decide +kernel) (pa_cons (pe_lc (own := [("_law_turn", 3)]) (by rfl) sc_law_outs.nd (pi_range1 rfl T.z_range (pa_cons (pe_op op_add pe_int (pe_call (ok_law_draw T) (hr.mono (by decide)) (by rfl) T.g_law_draw T.F_law_draw.kp T.b_law_draw .nil pass0 (pa_cons (pv 0) (pa_cons (pv 2) pa_nil)))) pa_nil)) (blkOk_by (own := [("_law_turn", 3)]) (N := N_law_outs) (sc := defScope s_law_outs) (by decide +kernel)) (fun _ _ _ _ _ => (pg_name (i := 3) sc_law_outs.nd rfl (.inl rfl))) (fun _ _ _ _ _ => pts_nil) (fun _ _ _ _ _ => (pe_call (ok_law_draw T) (hr.mono (by decide)) (by rfl) T.g_law_draw T.F_law_draw.kp T.b_law_draw .nil pass0 (pa_cons (pv 0) (pa_cons (pv 1) pa_nil))))) pa_nil)) pa_nil)) pa_nil)))), ?_⟩
    refine ⟨_, rfl, _, rfl, h, g, m, rfl, ha, by omega, by omega, fun H1 d b1 h1 d0 d1 => ?_⟩
    refine ⟨_, _, rfl, rfl, _, rfl, by omega, by omega, fun D nD => ?_⟩
    have hDh := h1.ne_none nD
    refine lc_range (lo := 0) (n := (1 + d).toNat) (fun i H' => ∃ ns : List Int, Kp h H1 H' ∧ HandAt H' h g ∧ H' D = some (.lst (ns.map V.int)) ∧ ns.length = i ∧ ∀ x ∈ ns, 0 ≤ x ∧ x ≤ n - 1)
      ⟨[], kp_of (same_upd nD) h, h1.same (same_upd nD), upd_same, rfl, fun x hx => absurd hx List.not_mem_nil⟩ ?_ ?_
    · rintro i H' hi ⟨ns, k1, a1, d1', ln, hns⟩
      refine ⟨rfl, ?_⟩
      refine ⟨_, rfl, _, rfl, h, g, n, rfl, a1, by omega, by omega, fun H2 c b2 a2 c0 c1 => ?_⟩
      have d2 : H2 D = some (.lst (ns.map V.int)) := b2.kp _ _ hDh d1'
      refine ⟨_, d2, by rw [List.length_map]; exact small1000 (by omega), ns ++ [c], ?_, ?_, ?_, by rw [List.length_append, List.length_singleton, ln], ?_⟩
      · exact fun q o hq e => by
          rw [upd_ne (ne_of_none e nD)]
          exact b2.kp _ _ hq (k1 _ _ hq e)
      · have z : Kp D H2 (upd H2 D (.lst (ns.map V.int ++ [V.int c]))) := fun q o hq e => by rw [upd_ne hq]; exact e
        refine ⟨?_, ?_, a2.ne⟩
        · obtain ⟨gs, eg⟩ := a2.cells
          refine ⟨gs, z _ _ (fun e => ?_) eg⟩
          obtain ⟨gs1, eg1⟩ := h1.cells
          rw [e, nD] at eg1
          cases eg1
        · obtain ⟨i', m', s', t', e', q'⟩ := a2.five
          exact ⟨i', m', s', t', z _ _ hDh.symm e', q'⟩
      · rw [upd_same, List.map_append]
        rfl
      · intro x hx
        rcases List.mem_append.mp hx with hx | hx
        · exact hns x hx
        · rw [List.mem_singleton] at hx
          subst hx
          exact ⟨c0, by omega⟩
    · rintro H' ⟨ns, k1, a1, d1', ln, hns⟩
      refine ⟨D, ns, rfl, SqL.of d1', by omega, fun p c np cl => ?_⟩
      refine ⟨p, _, c, rfl, upd_same, by omega, fun ns' q pw mem len nq => ?_⟩
      refine ⟨q, _, rfl, .inl ⟨SqL.of upd_same, fun r nr => ?_⟩⟩
      have s1 := same_upd np (o := SetO w p (fun j => decide (j ∈ ns)) c)
      have s2 := s1.trans (same_upd nq (o := .lst (ns'.map V.int)))
      have s3 := s2.trans (same_upd nr (o := .tup (ns'.map V.int)))
      have hin : ∀ x ∈ ns', 0 ≤ x ∧ x ≤ n - 1 := fun x hx => hns x (of_decide_eq_true ((mem x).mp hx))
      have k3 : Kp h H _ := (b1.kp.trans k1).same s3
      refine k _ r ns' k3 (a1.same s3) ((b1.kp.trans k1).free ((a1.same s2).ne_none nr) (s2.free nr)) upd_same (asc_pair pw hin) ?_ (by omega)
      cases ns with
      | nil =>
        have z : ([] : List Int).length = (1 + d).toNat := ln
        have z2 : (1 + d).toNat = 0 := z.symm
        omega
      | cons y t =>
        have z : y ∈ ns' := (mem y).mpr (decide_eq_true List.mem_cons_self)
        have z2 : 0 < ns'.length := List.length_pos_of_mem z
        omega
theorem HandAt.lset {h g D : Addr} {H : Hp} {xs : List V} (a : HandAt H h g) (h1 : D ≠ h) (h2 : D ≠ g) : HandAt (upd H D (.lst xs)) h g :=
  ⟨by obtain ⟨gs, eg⟩ := a.cells; exact ⟨gs, by rw [upd_ne h2.symm]; exact eg⟩, by obtain ⟨i', m', s', t', e', q'⟩ := a.five; exact ⟨i', m', s', t', by rw [upd_ne h1.symm]; exact e', q'⟩, a.ne⟩
theorem HandAt.ne_cells {h g p : Addr} {H : Hp} (a : HandAt H h g) (hp : H p = none) : p ≠ g := by
  obtain ⟨gs, e⟩ := a.cells
  exact (ne_of_none e hp).symm
theorem Sh.ints {ns : List Int} (h : ns.length ≤ 1000) : Sh (.tup (ns.map Td.int)) := .tup (by rw [List.length_map]; exact h) fun d hd => by
  obtain ⟨i, _, rfl⟩ := List.mem_map.mp hd
  exact .int i
def spArrD (C : Addr) : Sp := fun vs H Q _ => ∃ (h g : Addr) (n m : Int), vs = [.ref h, .int n, .int m] ∧ HandAt H h g ∧ (1 ≤ n ∧ n ≤ 1000) ∧ (1 ≤ m ∧ m ≤ 60) ∧
  ∀ (H' : Hp) (v : V) (d : Td), Kp h H H' → HandAt H' h g → Is C h H' v d → arrB n m d = true → Sh d → v ≠ .non → Q v H'
def spArrsD (C : Addr) : Sp := fun vs H Q _ => ∃ (h g : Addr) (n m b : Int), vs = [.ref h, .int n, .int m, .int b] ∧ HandAt H h g ∧ (1 ≤ n ∧ n ≤ 1000) ∧ (1 ≤ m ∧ m ≤ 60) ∧ (0 ≤ b ∧ b ≤ 200) ∧
  ∀ (H' : Hp) (v : V) (ds : List Td), Kp h H H' → HandAt H' h g → Is C h H' v (.tup ds) → (ds.length : Int) = b → arrsB n m (.tup ds) = true → Sh (.tup ds) → Q v H'
def spSizes : Sp := fun vs H Q _ => ∃ (h g : Addr), vs = [.ref h] ∧ HandAt H h g ∧ ∀ (H' : Hp) (p : Addr) (n m : Int), Kp h H H' → HandAt H' h g → H' p = some (.tup [.int n, .int m]) → 1 ≤ n → n ≤ 12 → 1 ≤ m → m ≤ 3 → Q (.ref p) H'
end

section
variable {P : Program} {w : World} {K : PySem.W.Frag} {mg : Str → Option Value} {base : Heap} {A : Adr}
/-! ### the error for arrivals; a cell -/
/-! ### a cell, made of right parts and others -/
def spXInit (C : Addr) (f : Str) : Sp := fun vs H Q _ => ∃ (a : Addr) (v : V), vs = [.ref a, v] ∧ H a = some (exo a C none) ∧ ∀ dx, H dx = none → dx ≠ a → Q .non (upd (upd H dx (exd dx [(f, v)])) a (exo a C (some dx)))
theorem ok_BadCell___init__ (T : Top K mg A) : FnOk P w K mg base CX0 1 A.a_BadCell___init__ A.d_BadCell___init__ P_BadCell___init__ (spXInit A.c_BadCell "part") := by
  refine T.F_BadCell___init__.ok sc_BadCell___init__ (fun vs H Q E h => ?_) (fun cdv A' outer s H vs Q E hr h => ?_)
  · obtain ⟨a, v, rfl, _⟩ := h
    rfl
  · obtain ⟨a, v, rfl, ha, k⟩ := h
    refine ⟨_, (pss_one (ps_ost (pv 0) (pv 1))), ?_⟩
    exact ⟨_, rfl, _, rfl, a, _, rfl, T.ox_BadCell, T.nf_BadCell_part, .inl ⟨ha, k⟩⟩
theorem putF_len {f : Str} {v : V} : ∀ fs : List (Str × V), (putF f v fs).length ≤ fs.length + 1
  | [] => Nat.le_refl _
  | (g, u) :: fs => by
    show (if _ then _ else _ : List (Str × V)).length ≤ _
    split
    · exact Nat.le_succ _
    · rw [List.length_cons, List.length_cons]
      exact Nat.succ_le_succ (putF_len fs)
theorem kit_self {C : Value} : PySem.W.kitOne K C C = some true := by
  unfold PySem.W.kitOne
  rw [if_pos (by simp)]
/-- data of integers -/
def intsD (ns : List Int) : PyData := .tuple (ns.map PyData.int)
theorem dp_ints {H : Hp} : ∀ ns : List Int, DpAll K H (ns.map V.int) (ns.map PyData.int)
  | [] => .nil
  | n :: ns => .cons (.int n) (dp_ints ns)
theorem lay_ints : ∀ ns : List Int, PyData.canLayAll0 (ns.map PyData.int) = true
  | [] => rfl
  | n :: ns => by
    show (PyData.canLay0 (.int n) && PyData.canLayAll0 (ns.map PyData.int)) = true
    rw [lay_ints ns]
    rfl
theorem dep_ints : ∀ ns : List Int, PyData.depthAll (ns.map PyData.int) = 0
  | [] => rfl
  | n :: ns => by
    show max (PyData.depth (.int n)) (PyData.depthAll (ns.map PyData.int)) = 0
    rw [dep_ints ns]
    rfl
theorem sh_ints (ns : List Int) : SeqAt.shaped (intsD ns) = true := by
  unfold SeqAt.shaped
  have h1 : PyData.canLay0 (intsD ns) = true := lay_ints ns
  have h2 : PyData.depth (intsD ns) ≤ 64 := by
    show PyData.depthAll (ns.map PyData.int) + 1 ≤ 64
    rw [dep_ints]
    decide
  rw [h1, decide_eq_true h2]
  rfl
def cellV (a b c d e : V) : List (Str × V) := putF "to_outs" e (putF "of_kind" d (putF "of_stream" c (putF "at_line" b (putF "came_as" a []))))
theorem cf1 {a b c d e : V} : List.lookup ("came_as" : Str) (cellV a b c d e) = some a := rfl
theorem cf2 {a b c d e : V} : List.lookup ("at_line" : Str) (cellV a b c d e) = some b := rfl
theorem cf3 {a b c d e : V} : List.lookup ("of_stream" : Str) (cellV a b c d e) = some c := rfl
theorem cf4 {a b c d e : V} : List.lookup ("of_kind" : Str) (cellV a b c d e) = some d := rfl
theorem cf5 {a b c d e : V} : List.lookup ("to_outs" : Str) (cellV a b c d e) = some e := rfl
/-- the first part that is none -/
def badW (d0 d1 d2 d3 d4 : Td) : Str := if inI 0 1000000000 d0 = true then (if inI 0 11 d1 = true then (if inI 0 99 d2 = true then (if inI 0 7 d3 = true then (if outsB 12 3 d4 = true then "let" else "outs") else "kind") else "stream") else "line") else "number"
def spCellX (C BC : Addr) : Sp := fun vs H Q E => ∃ (x dx : Addr) (v0 v1 v2 v3 v4 : V) (d0 d1 d2 d3 d4 : Td) (h : Addr), vs = [.ref x, v0, v1, v2, v3, v4] ∧ Is C h H v0 d0 ∧ Is C h H v1 d1 ∧ Is C h H v2 d2 ∧ Is C h H v3 d3 ∧ Is C h H v4 d4 ∧ H x = some (.ins C dx []) ∧
  (badW d0 d1 d2 d3 d4 = "let" → ∀ H', (∀ q, q ≠ x → H' q = H q) → H' x = some (.ins C dx (cellV v0 v1 v2 v3 v4)) → Q .non H') ∧
  (∀ w, badW d0 d1 d2 d3 d4 = w → w ≠ "let" → ∀ (H' : Hp) (dd : Addr), Same H H' → H' dd = some (.xd [("part", .str w)]) → E (.ref BC) (some dd) H')
theorem ok_Cell___init__ (T : Top K mg A) : FnOk P w K mg base (L2.CX P w) 6 A.a_Cell___init__ A.d_Cell___init__ P_Cell___init__ (spCellX A.c_Cell A.c_BadCell) := by
  refine T.F_Cell___init__.okX sc_Cell___init__ (fun vs H Q E h => ?_) (fun cdv A' outer s H vs Q E hr h => ?_)
  · obtain ⟨x, dx, v0, v1, v2, v3, v4, d0, d1, d2, d3, d4, h, rfl, _⟩ := h
    rfl
  · obtain ⟨x, dx, v0, v1, v2, v3, v4, d0, d1, d2, d3, d4, h, rfl, i0, i1, i2, i3, i4, hx, yes, no⟩ := h
    refine ⟨_, (pss_cons (ps_if (pt_not (pt_val (pe_call (ok_is_cell_number T) (hr.mono (by decide)) (by rfl) T.g_is_cell_number T.F_is_cell_number.kp T.b_is_cell_number .nil pass0 (pa_cons (pv 1) pa_nil)))) (pss_one (ps_raise rfl (takes_of rfl rfl rfl rfl) (pmk_oex T.ox_BadCell T.xi_BadCell T.xt_BadCell (ok_BadCell___init__ T) (hr.mono (by decide)) T.b_BadCell___init__ .nil pass0 rfl T.gc_BadCell (pa_cons pe_str pa_nil)))) pss_nil)
    (pss_cons (ps_if (pt_not (pt_val (pe_call (ok_is_number_below T) (hr.mono (by decide)) (by rfl) T.g_is_number_below T.F_is_number_below.kp T.b_is_number_below .nil pass0 (pa_cons (pe_glob (v := .int 12) rfl (T.k_MOST_LINES).choose_spec ⟨_, rfl⟩) (pa_cons (pv 2) pa_nil))))) (pss_one (ps_raise rfl (takes_of rfl rfl rfl rfl) (pmk_oex T.ox_BadCell T.xi_BadCell T.xt_BadCell (ok_BadCell___init__ T) (hr.mono (by decide)) T.b_BadCell___init__ .nil pass0 rfl T.gc_BadCell (pa_cons pe_str pa_nil)))) pss_nil)
    (pss_cons (ps_if (pt_not (pt_val (pe_call (ok_is_number_below T) (hr.mono (by decide)) (by rfl) T.g_is_number_below T.F_is_number_below.kp T.b_is_number_below .nil pass0 (pa_cons (pe_glob (v := .int 100) rfl (T.k_STREAMS).choose_spec ⟨_, rfl⟩) (pa_cons (pv 3) pa_nil))))) (pss_one (ps_raise rfl (takes_of rfl rfl rfl rfl) (pmk_oex T.ox_BadCell T.xi_BadCell T.xt_BadCell (ok_BadCell___init__ T) (hr.mono (by decide)) T.b_BadCell___init__ .nil pass0 rfl T.gc_BadCell (pa_cons pe_str pa_nil)))) pss_nil)
    (pss_cons (ps_if (pt_not (pt_val (pe_call (ok_is_number_below T) (hr.mono (by decide)) (by rfl) T.g_is_number_below T.F_is_number_below.kp T.b_is_number_below .nil pass0 (pa_cons (pe_glob (v := .int 8) rfl (T.k_KINDS).choose_spec ⟨_, rfl⟩) (pa_cons (pv 4) pa_nil))))) (pss_one (ps_raise rfl (takes_of rfl rfl rfl rfl) (pmk_oex T.ox_BadCell T.xi_BadCell T.xt_BadCell (ok_BadCell___init__ T) (hr.mono (by decide)) T.b_BadCell___init__ .nil pass0 rfl T.gc_BadCell (pa_cons pe_str pa_nil)))) pss_nil)
    (pss_cons (ps_if (pt_not (pt_val (pe_call (ok_are_outs T) (hr.mono (by decide)) (by rfl) T.g_are_outs T.F_are_outs.kp T.b_are_outs .nil pass0 (pa_cons (pe_glob (v := .int 12) rfl (T.k_MOST_LINES).choose_spec ⟨_, rfl⟩) (pa_cons (pe_glob (v := .int 3) rfl (T.k_MOST_COPIES).choose_spec ⟨_, rfl⟩) (pa_cons (pv 5) pa_nil)))))) (pss_one (ps_raise rfl (takes_of rfl rfl rfl rfl) (pmk_oex T.ox_BadCell T.xi_BadCell T.xt_BadCell (ok_BadCell___init__ T) (hr.mono (by decide)) T.b_BadCell___init__ .nil pass0 rfl T.gc_BadCell (pa_cons pe_str pa_nil)))) pss_nil)
    (pss_cons (ps_fld (pv 0) (pv 1) (by rfl))
    (pss_cons (ps_fld (pv 0) (pv 2) (by rfl))
    (pss_cons (ps_fld (pv 0) (pv 3) (by rfl))
    (pss_cons (ps_fld (pv 0) (pv 4) (by rfl))
    (pss_one (ps_fld (pv 0) (pv 5) (by rfl)))))))))))), ?_⟩
    refine ⟨_, rfl, _, _, h, rfl, i0, _, rfl, ?_⟩
    cases c0 : inI 0 1000000000 d0 with
    | false =>
      refine iteT ?_
      refine ⟨(by show 1 ≤ 1000; decide), fun a na => ?_⟩
      refine ⟨a, .str "number", rfl, upd_same, fun dd nd hne => ⟨rfl, dd, [("part", .str "number")], upd_same, ?_, ?_, ?_⟩⟩
      · rw [upd_ne hne, upd_same]
      · rw [upd_ne hne] at nd
        exact nd
      · refine no "number" (by unfold badW; simp only [c0, if_true, Bool.false_eq_true, if_false]) (by decide) _ dd (fun q o e => ?_) upd_same
        have hqa : q ≠ a := ne_of_none e na
        have hqd : q ≠ dd := ne_of_none e (by rw [upd_ne hne] at nd; exact nd)
        rw [upd_ne hqd]
        rw [del_ne hqa, upd_ne hqa, upd_ne hqd, upd_ne hqa]
        exact e
    | true =>
    refine iteF ?_
    refine ⟨_, rfl, _, _, _, h, rfl, i1, inI 0 11 d1, rfl, ?_⟩
    cases c1 : inI 0 11 d1 with
    | false =>
      refine iteT ?_
      refine ⟨(by show 1 ≤ 1000; decide), fun a na => ?_⟩
      refine ⟨a, .str "line", rfl, upd_same, fun dd nd hne => ⟨rfl, dd, [("part", .str "line")], upd_same, ?_, ?_, ?_⟩⟩
      · rw [upd_ne hne, upd_same]
      · rw [upd_ne hne] at nd
        exact nd
      · refine no "line" (by unfold badW; simp only [c0, c1, if_true, Bool.false_eq_true, if_false]) (by decide) _ dd (fun q o e => ?_) upd_same
        have hqa : q ≠ a := ne_of_none e na
        have hqd : q ≠ dd := ne_of_none e (by rw [upd_ne hne] at nd; exact nd)
        rw [upd_ne hqd]
        rw [del_ne hqa, upd_ne hqa, upd_ne hqd, upd_ne hqa]
        exact e
    | true =>
    refine iteF ?_
    refine ⟨_, rfl, _, _, _, h, rfl, i2, inI 0 99 d2, rfl, ?_⟩
    cases c2 : inI 0 99 d2 with
    | false =>
      refine iteT ?_
      refine ⟨(by show 1 ≤ 1000; decide), fun a na => ?_⟩
      refine ⟨a, .str "stream", rfl, upd_same, fun dd nd hne => ⟨rfl, dd, [("part", .str "stream")], upd_same, ?_, ?_, ?_⟩⟩
      · rw [upd_ne hne, upd_same]
      · rw [upd_ne hne] at nd
        exact nd
      · refine no "stream" (by unfold badW; simp only [c0, c1, c2, if_true, Bool.false_eq_true, if_false]) (by decide) _ dd (fun q o e => ?_) upd_same
        have hqa : q ≠ a := ne_of_none e na
        have hqd : q ≠ dd := ne_of_none e (by rw [upd_ne hne] at nd; exact nd)
        rw [upd_ne hqd]
        rw [del_ne hqa, upd_ne hqa, upd_ne hqd, upd_ne hqa]
        exact e
    | true =>
    refine iteF ?_
    refine ⟨_, rfl, _, _, _, h, rfl, i3, inI 0 7 d3, rfl, ?_⟩
    cases c3 : inI 0 7 d3 with
    | false =>
      refine iteT ?_
      refine ⟨(by show 1 ≤ 1000; decide), fun a na => ?_⟩
      refine ⟨a, .str "kind", rfl, upd_same, fun dd nd hne => ⟨rfl, dd, [("part", .str "kind")], upd_same, ?_, ?_, ?_⟩⟩
      · rw [upd_ne hne, upd_same]
      · rw [upd_ne hne] at nd
        exact nd
      · refine no "kind" (by unfold badW; simp only [c0, c1, c2, c3, if_true, Bool.false_eq_true, if_false]) (by decide) _ dd (fun q o e => ?_) upd_same
        have hqa : q ≠ a := ne_of_none e na
        have hqd : q ≠ dd := ne_of_none e (by rw [upd_ne hne] at nd; exact nd)
        rw [upd_ne hqd]
        rw [del_ne hqa, upd_ne hqa, upd_ne hqd, upd_ne hqa]
        exact e
    | true =>
    refine iteF ?_
    refine ⟨_, rfl, _, _, _, _, h, rfl, i4, outsB 12 3 d4, rfl, ?_⟩
    cases c4 : outsB 12 3 d4 with
    | false =>
      refine iteT ?_
      refine ⟨(by show 1 ≤ 1000; decide), fun a na => ?_⟩
      refine ⟨a, .str "outs", rfl, upd_same, fun dd nd hne => ⟨rfl, dd, [("part", .str "outs")], upd_same, ?_, ?_, ?_⟩⟩
      · rw [upd_ne hne, upd_same]
      · rw [upd_ne hne] at nd
        exact nd
      · refine no "outs" (by unfold badW; simp only [c0, c1, c2, c3, c4, if_true, Bool.false_eq_true, if_false]) (by decide) _ dd (fun q o e => ?_) upd_same
        have hqa : q ≠ a := ne_of_none e na
        have hqd : q ≠ dd := ne_of_none e (by rw [upd_ne hne] at nd; exact nd)
        rw [upd_ne hqd]
        rw [del_ne hqa, upd_ne hqa, upd_ne hqd, upd_ne hqa]
        exact e
    | true =>
    refine iteF ?_
    refine ⟨_, rfl, _, rfl, x, _, dx, _, rfl, hx, T.cl_Cell, T.n_Cell_came_as, (by show 0 < 1000; decide), ?_⟩
    refine ⟨_, rfl, _, rfl, x, _, dx, _, rfl, upd_same, T.cl_Cell, T.n_Cell_at_line, Nat.lt_of_le_of_lt (putF_len _) (by show 1 < 1000; decide), ?_⟩
    refine ⟨_, rfl, _, rfl, x, _, dx, _, rfl, upd_same, T.cl_Cell, T.n_Cell_of_stream, Nat.lt_of_le_of_lt (Nat.le_trans (putF_len _) (Nat.succ_le_succ (putF_len _))) (by show 2 < 1000; decide), ?_⟩
    refine ⟨_, rfl, _, rfl, x, _, dx, _, rfl, upd_same, T.cl_Cell, T.n_Cell_of_kind, Nat.lt_of_le_of_lt (Nat.le_trans (putF_len _) (Nat.succ_le_succ (Nat.le_trans (putF_len _) (Nat.succ_le_succ (putF_len _))))) (by show 3 < 1000; decide), ?_⟩
    refine ⟨_, rfl, _, rfl, x, _, dx, _, rfl, upd_same, T.cl_Cell, T.n_Cell_to_outs, Nat.lt_of_le_of_lt (Nat.le_trans (putF_len _) (Nat.succ_le_succ (Nat.le_trans (putF_len _) (Nat.succ_le_succ (Nat.le_trans (putF_len _) (Nat.succ_le_succ (putF_len _))))))) (by show 4 < 1000; decide), ?_⟩
    refine yes (by unfold badW; simp only [c0, c1, c2, c3, c4, if_true]) _ (fun y hy => ?_) upd_same
    rw [upd_ne hy, upd_ne hy, upd_ne hy, upd_ne hy, upd_ne hy]
/-! ### one by one -/
inductive All2 {α β : Type} (R : α → β → Prop) : List α → List β → Prop where
  | nil : All2 R [] []
  | cons {a : α} {b : β} {as : List α} {bs : List β} : R a b → All2 R as bs → All2 R (a :: as) (b :: bs)
section
variable {α β : Type} {R R' : α → β → Prop}
theorem All2.imp (f : ∀ a b, R a b → R' a b) : ∀ {as : List α} {bs : List β}, All2 R as bs → All2 R' as bs
  | _, _, .nil => .nil
  | _, _, .cons h t => .cons (f _ _ h) (t.imp f)
theorem All2.snoc : ∀ {as : List α} {bs : List β} {a : α} {b : β}, All2 R as bs → R a b → All2 R (as ++ [a]) (bs ++ [b])
  | _, _, _, _, .nil, h => .cons h .nil
  | _, _, _, _, .cons h t, h' => .cons h (t.snoc h')
theorem All2.len : ∀ {as : List α} {bs : List β}, All2 R as bs → as.length = bs.length
  | _, _, .nil => rfl
  | _, _, .cons _ t => by rw [List.length_cons, List.length_cons, t.len]
theorem All2.get : ∀ {as : List α} {bs : List β}, All2 R as bs → ∀ {i : Nat} {b : β}, bs[i]? = some b → ∃ a, as[i]? = some a ∧ R a b
  | _, _, .cons h _, 0, _, e => by
    cases e
    exact ⟨_, rfl, h⟩
  | _, _, .cons _ t, i + 1, _, e => t.get (i := i) e
theorem All2.getL : ∀ {as : List α} {bs : List β}, All2 R as bs → ∀ {i : Nat} {a : α}, as[i]? = some a → ∃ b, bs[i]? = some b ∧ R a b
  | _, _, .cons h _, 0, _, e => by
    cases e
    exact ⟨_, rfl, h⟩
  | _, _, .cons _ t, i + 1, _, e => t.getL (i := i) e
end
end

section
variable {P : Program} {w : World} {K : PySem.W.Frag} {mg : Str → Option Value} {base : Heap} {A : Adr}
/-- the parts of a cell, all right -/
structure Pt where
  n : Int
  l : Int
  s : Int
  k : Int
  o : List Int
def Pt.ok (p : Pt) : Prop := (0 ≤ p.n ∧ p.n ≤ 1000000000) ∧ (0 ≤ p.l ∧ p.l ≤ 11) ∧ (0 ≤ p.s ∧ p.s ≤ 99) ∧ (0 ≤ p.k ∧ p.k ≤ 7) ∧ outsB 12 3 (.tup (p.o.map Td.int)) = true
def Pt.vs (p : Pt) (t : Addr) : List V := [.int p.n, .int p.l, .int p.s, .int p.k, .ref t]
def Pt.fs (p : Pt) (t : Addr) : List (Str × V) := cellV (.int p.n) (.int p.l) (.int p.s) (.int p.k) (.ref t)
def Pt.d (p : Pt) : PyData := .tuple [.int p.n, .int p.l, .int p.s, .int p.k, intsD p.o]
def Pt.same (p q : Pt) : Bool := decide (p.n = q.n) && (decide (p.l = q.l) && (decide (p.s = q.s) && (decide (p.k = q.k) && PyData.eqv (intsD p.o) (intsD q.o))))
/-- a cell with these parts -/
structure CellO (C : Addr) (H : Hp) (x : Addr) (p : Pt) : Prop where
  ex : ∃ dx t, H x = some (.ins C dx (p.fs t)) ∧ H t = some (.tup (p.o.map V.int))
def spEqC (K : PySem.W.Frag) (C : Addr) : Sp := fun vs H Q _ => ∃ (a : Addr) (y : V) (p : Pt), vs = [.ref a, y] ∧ CellO C H a p ∧
  ((∃ t, TyX K H y t ∧ PySem.W.kitOne K t (.ref C) = some false ∧ Q (.bl false) H) ∨ (∃ b q, y = .ref b ∧ CellO C H b q ∧ Q (.bl (p.same q)) H))
theorem ok_Cell___eq__ (T : Top K mg A) : FnOk P w K mg base CX0 1 A.a_Cell___eq__ A.d_Cell___eq__ P_Cell___eq__ (spEqC K A.c_Cell) := by
  refine T.F_Cell___eq__.ok sc_Cell___eq__ (fun vs H Q E h => ?_) (fun cdv A' outer s H vs Q E hr h => ?_)
  · obtain ⟨a, y, p, rfl, _⟩ := h
    rfl
  · obtain ⟨a, y, p, rfl, ⟨dx, t, ha, ht⟩, h⟩ := h
    refine ⟨_, (pss_one (ps_ret (pe_and (pe_callB call_isi (by rfl) T.z_isinstance (by decide +kernel) (pa_cons (pv 1) (pa_cons (pe_glob (v := .ref A.c_Cell) rfl T.gc_Cell rfl) pa_nil))) (pe_and (pe_cmpR op_eq (pe_fld (pv 0) rfl) (pe_fld (pv 1) rfl) (nomark _)) (pe_and (pe_cmpR op_eq (pe_fld (pv 0) rfl) (pe_fld (pv 1) rfl) (nomark _)) (pe_and (pe_cmpR op_eq (pe_fld (pv 0) rfl) (pe_fld (pv 1) rfl) (nomark _)) (pe_and (pe_cmpR op_eq (pe_fld (pv 0) rfl) (pe_fld (pv 1) rfl) (nomark _)) (pe_one (pe_cmpR (op_eqD hr.units) (pe_fld (pv 0) rfl) (pe_fld (pv 1) rfl) (nomark _)))))))))), ?_⟩
    rcases h with ⟨ty, hty, hk, q⟩ | ⟨b, p', rfl, ⟨dy, t', hb, ht'⟩, q⟩
    · exact ⟨_, rfl, _, _, _, _, _, rfl, .own _, hty, hk, false, rfl, iteF q⟩
    · refine ⟨_, rfl, _, _, _, _, _, rfl, .own _, .base (.ins hb T.cl_Cell T.ci_Cell T.en1 T.en2 T.em_Cell), kit_self, true, rfl, iteT ?_⟩
      unfold Pt.same at q
      refine ⟨_, rfl, a, _, _, _, _, rfl, ha, T.cl_Cell, T.n_Cell_came_as, cf1, _, rfl, b, _, _, _, _, rfl, hb, T.cl_Cell, T.n_Cell_came_as, cf1, rfl, decide (p.n = p'.n), congrArg V.bl dec_int, ?_⟩
      by_cases c1 : p.n = p'.n
      case neg =>
        rw [decide_eq_false c1] at q ⊢
        exact iteF q
      rw [decide_eq_true c1] at q ⊢
      refine iteT ?_
      refine ⟨_, rfl, a, _, _, _, _, rfl, ha, T.cl_Cell, T.n_Cell_at_line, cf2, _, rfl, b, _, _, _, _, rfl, hb, T.cl_Cell, T.n_Cell_at_line, cf2, rfl, decide (p.l = p'.l), congrArg V.bl dec_int, ?_⟩
      by_cases c2 : p.l = p'.l
      case neg =>
        rw [decide_eq_false c2] at q ⊢
        exact iteF q
      rw [decide_eq_true c2] at q ⊢
      refine iteT ?_
      refine ⟨_, rfl, a, _, _, _, _, rfl, ha, T.cl_Cell, T.n_Cell_of_stream, cf3, _, rfl, b, _, _, _, _, rfl, hb, T.cl_Cell, T.n_Cell_of_stream, cf3, rfl, decide (p.s = p'.s), congrArg V.bl dec_int, ?_⟩
      by_cases c3 : p.s = p'.s
      case neg =>
        rw [decide_eq_false c3] at q ⊢
        exact iteF q
      rw [decide_eq_true c3] at q ⊢
      refine iteT ?_
      refine ⟨_, rfl, a, _, _, _, _, rfl, ha, T.cl_Cell, T.n_Cell_of_kind, cf4, _, rfl, b, _, _, _, _, rfl, hb, T.cl_Cell, T.n_Cell_of_kind, cf4, rfl, decide (p.k = p'.k), congrArg V.bl dec_int, ?_⟩
      by_cases c4 : p.k = p'.k
      case neg =>
        rw [decide_eq_false c4] at q ⊢
        exact iteF q
      rw [decide_eq_true c4] at q ⊢
      refine iteT ?_
      exact ⟨_, rfl, a, _, _, _, _, rfl, ha, T.cl_Cell, T.n_Cell_to_outs, cf5, _, rfl, b, _, _, _, _, rfl, hb, T.cl_Cell, T.n_Cell_to_outs, cf5, intsD p.o, intsD p'.o, .tup (SqT.of ht) (dp_ints _), .tup (SqT.of ht') (dp_ints _), sh_ints _, sh_ints _, q⟩
theorem small1000' {i n : Nat} (h : n ≤ 1000) : min i n < sizeLine := Nat.lt_of_le_of_lt (Nat.le_trans (Nat.min_le_right _ _) h) (by decide)
def copyD (n : Int) (os : List Int) : List PyData := os.map fun o => .tuple [.int n, .int o]
def CopyAt (H : Hp) (num : Int) (o : Int) (v : V) : Prop := ∃ q, v = .ref q ∧ H q = some (.tup [.int num, .int o])
def spCopies (C : Addr) : Sp := fun vs H Q _ => ∃ (a : Addr) (pt : Pt), vs = [.ref a] ∧ CellO C H a pt ∧ pt.o.length ≤ 1000 ∧
  ∀ (H' : Hp) (p : Addr) (xs : List V), Same H H' → H' p = some (.tup xs) → All2 (CopyAt H' pt.n) pt.o xs → Q (.ref p) H'
theorem ok_copies (T : Top K mg A) : FnOk P w K mg base CX0 1 A.a_copies A.d_copies P_copies (spCopies A.c_Cell) := by
  refine T.F_copies.ok sc_copies (fun vs H Q E h => ?_) (fun cdv A' outer s H vs Q E hr h => ?_)
  · obtain ⟨a, pt, rfl, _⟩ := h
    rfl
  · obtain ⟨a, pt, rfl, ⟨dx, t, ha, ht⟩, hn, q⟩ := h
    refine ⟨_, (pss_one (ps_ret (pe_callTy call_tuple_of (by rfl) T.z_tuple (by decide +kernel) (pa_cons (pe_lc (own := [("output", 1)]) (by rfl) sc_copies.nd (pi_tup (pe_fld (pv 0) rfl)) (blkOk_by (own := [("output", 1)]) (N := N_copies) (sc := defScope s_copies) (by decide +kernel)) (fun _ _ _ _ _ => (pg_name (i := 1) sc_copies.nd rfl (.inl rfl))) (fun _ _ _ _ _ => pts_nil) (fun _ _ _ _ _ => (pe_tup (pa_cons (show PE _ _ (tFld K _ "came_as") from pe_fld (pv 0) (by rfl)) (pa_cons (pv 1) pa_nil))))) pa_nil)))), ?_⟩
    refine ⟨_, rfl, a, _, _, _, _, rfl, ha, T.cl_Cell, T.n_Cell_to_outs, cf5, t, rfl, ⟨_, SqT.of ht⟩, fun D nD => ?_⟩
    refine lc_tup (K := K) (a := t) (xs := pt.o.map V.int) (fun i H' => ∃ ys, Same H H' ∧ H' D = some (.lst ys) ∧ All2 (CopyAt H' pt.n) (pt.o.take i) ys) ⟨[], same_upd nD, upd_same, .nil⟩ (fun i H' _ ⟨_, s1, _⟩ => SqT.of (s1 _ _ ht)) ?_ ?_
    · rintro i x H' hx ⟨ys, s1, d1, al⟩
      rw [List.getElem?_map] at hx
      obtain ⟨o, ho, rfl⟩ := Option.map_eq_some_iff.mp hx
      refine ⟨rfl, ?_⟩
      refine ⟨_, rfl, a, _, _, _, _, rfl, s1 _ _ ha, T.cl_Cell, T.n_Cell_came_as, cf1, _, rfl, (by show 2 ≤ sizeLine; decide), fun p np => ?_⟩
      have hDp : D ≠ p := ne_of_none d1 np
      have s2 := same_upd np (o := .tup [.int pt.n, .int o])
      have d2 := s2 _ _ d1
      refine ⟨ys, d2, by rw [← al.len, List.length_take]; exact small1000' hn, ys ++ [.ref p], same_to (s1.trans s2) nD, upd_same, ?_⟩
      have kD : Kp D (upd H' p (.tup [.int pt.n, .int o])) (upd (upd H' p (.tup [.int pt.n, .int o])) D (.lst (ys ++ [.ref p]))) := fun q o hq e => by rw [upd_ne hq]; exact e
      rw [List.take_add_one, ho]
      refine All2.snoc (al.imp fun o' v ⟨q, e1, e2⟩ => ⟨q, e1, kD _ _ ?_ (s2 _ _ e2)⟩) ⟨p, rfl, kD _ _ hDp.symm upd_same⟩
      exact ne_of (s2 _ _ e2) d2 (by intro z; cases z)
    · rintro H' ⟨ys, s1, d1, al⟩
      rw [List.length_map, List.take_length] at al
      refine ⟨D, ys, rfl, .inl ⟨SqL.of d1, fun p np => ?_⟩⟩
      have s2 := same_upd np (o := .tup ys)
      exact q _ p ys (s1.trans s2) upd_same (al.imp fun o' v ⟨q, e1, e2⟩ => ⟨q, e1, s2 _ _ e2⟩)
/-! ### words -/
/-- the word of the first that is wrong -/
def firstOf (ws : List (Str × Bool)) : Str := ((ws.filter fun w => !w.2).map (fun w => w.1) ++ [("let" : Str)]).headD "let"
def WordAt (H : Hp) (w : Str × Bool) (v : V) : Prop := ∃ a, v = .ref a ∧ H a = some (.tup [.str w.1, .bl w.2])
theorem take_filw {ws : List (Str × Bool)} {i : Nat} {x : Str × Bool} (h : ws[i]? = some x) : ((ws.take (i + 1)).filter fun w => !w.2).map (fun w => V.str w.1) = ((ws.take i).filter fun w => !w.2).map (fun w => V.str w.1) ++ (if (!x.2) = true then [V.str x.1] else []) := by
  rw [List.take_add_one, h, List.filter_append, List.map_append]
  congr 1
  show (List.filter _ [x]).map _ = _
  cases c : x.2 <;> simp [List.filter, c]
def spFirst (K : PySem.W.Frag) : Sp := fun vs H Q _ => ∃ (l : Addr) (xs : List V) (ws : List (Str × Bool)), vs = [.ref l] ∧ SqL K H l xs ∧ All2 (WordAt H) ws xs ∧ ws.length ≤ 1000 ∧ ∀ H', Same H H' → Q (.str (firstOf ws)) H'
theorem ok_law_first (T : Top K mg A) : FnOk P w K mg base CX0 1 A.a_law_first A.d_law_first P_law_first (spFirst K) := by
  refine T.F_law_first.ok sc_law_first (fun vs H Q E h => ?_) (fun cdv A' outer s H vs Q E hr h => ?_)
  · obtain ⟨l, xs, wd, rfl, _⟩ := h
    rfl
  · obtain ⟨l, xs, ws, rfl, hl, hw, hn, k⟩ := h
    refine ⟨_, (pss_one (ps_ret (pe_ix ix_list (pe_op op_cat (pe_lc (own := [("_law_word", 1), ("_law_is_right", 2)]) (by rfl) sc_law_first.nd (pi_list (pv 0)) (blkOk_by (own := [("_law_word", 1), ("_law_is_right", 2)]) (N := N_law_first) (sc := defScope s_law_first) (by decide +kernel)) (fun _ _ _ _ _ => (show PG _ _ (gTup K 2 _) from (pg_tup rfl (pgs_cons (pg_name (i := 1) sc_law_first.nd rfl (.inl rfl)) (pgs_cons (pg_name (i := 2) sc_law_first.nd rfl (.inl rfl)) pgs_nil))))) (fun _ _ _ _ _ => (pts_one (pt_not (show PT _ _ (GX.tTru K _) from pt_truth (pv 2) (by intro _; rfl))))) (fun _ _ _ _ _ => (pv 1))) (pe_lst (pa_cons pe_str pa_nil))) pe_int (fun _ _ => rfl)))), ?_⟩
    refine ⟨_, rfl, l, rfl, ⟨_, hl⟩, fun D hD => ?_⟩
    have fl : ∀ i, (((ws.take i).filter fun w => !w.2).map fun w => V.str w.1).length ≤ ws.length := fun i => by
      rw [List.length_map]
      refine Nat.le_trans (List.length_filter_le _ _) ?_
      rw [List.length_take]
      exact Nat.min_le_right _ _
    refine lc_list (K := K) (a := l) (xs := xs) (fun i H' => Same H H' ∧ H' D = some (.lst (((ws.take i).filter fun w => !w.2).map fun w => V.str w.1))) ⟨same_upd hD, upd_same⟩ (fun i H' _ h => h.1.seq hl) ?_ ?_
    · rintro i x H' hi ⟨s1, d1⟩
      obtain ⟨wd, hwd, a, rfl, ha⟩ := hw.get hi
      have ha' := s1 _ _ ha
      refine ⟨a, _, rfl, SqT.of ha', rfl, _, _, rfl, _, _, rfl, rfl, rfl, ?_⟩
      have et := take_filw hwd
      refine ⟨_, rfl, wd.2, rfl, ?_⟩
      cases c : wd.2 with
      | false =>
        rw [c] at et
        refine iteT ⟨_, rfl, _, d1, Nat.lt_of_le_of_lt (Nat.le_trans (fl i) hn) (by decide), same_to s1 hD, ?_⟩
        rw [upd_same, et]
        rfl
      | true =>
        rw [c] at et
        refine iteF ⟨s1, ?_⟩
        rw [et, d1]
        simp
    · rintro H' ⟨s1, d1⟩
      rw [← hw.len, List.take_length] at d1
      refine ⟨(by show 1 ≤ sizeLine; decide), fun p np => ?_⟩
      have hDp : D ≠ p := ne_of_none d1 np
      have fl' := fl ws.length
      rw [List.take_length] at fl'
      refine ⟨D, p, _, _, rfl, rfl, by rw [upd_ne hDp]; exact d1, upd_same, ?_, fun q nq => ?_⟩
      · exact Nat.le_trans (Nat.add_le_add_right (Nat.le_trans fl' hn) 1) (by decide)
      have s2 := (same_to s1 (s1.free np) (o := .lst [.str "let"]))
      have s3 := same_to s2 (s2.free nq) (o := .lst (((ws.filter fun w => !w.2).map fun w => V.str w.1) ++ [.str "let"]))
      have e0 : (((ws.filter fun w => !w.2).map fun w => V.str w.1) ++ [V.str "let"])[0]? = some (.str (firstOf ws)) := by
        unfold firstOf
        cases (ws.filter fun w => !w.2) with
        | nil => rfl
        | cons a r => rfl
      exact ⟨q, _, _, _, rfl, rfl, SqL.of upd_same, atI_nat (j := 0) e0, k _ s3⟩
end

section
variable {P : Program} {w : World} {K : PySem.W.Frag} {mg : Str → Option Value} {base : Heap} {A : Adr}
def spParts : Sp := fun vs H Q _ => ∃ (h g : Addr), vs = [.ref h] ∧ HandAt H h g ∧ ∀ (H' : Hp) (a t : Addr) (p : Pt), Kp h H H' → HandAt H' h g → p.ok → H' a = some (.tup (p.vs t)) → H' t = some (.tup (p.o.map V.int)) → Q (.ref a) H'
theorem ok_law_parts (T : Top K mg A) : FnOk P w K mg base CX0 3 A.a_law_parts A.d_law_parts P_law_parts spParts := by
  refine T.F_law_parts.ok sc_law_parts (fun vs H Q E h => ?_) (fun cdv A' outer s H vs Q E hr h => ?_)
  · obtain ⟨h, g, rfl, _⟩ := h
    rfl
  · obtain ⟨h, g, rfl, ha, k⟩ := h
    refine ⟨_, (pss_cons (ps_set (i := 1) sc_law_parts.nd rfl (.inl rfl) (pe_call (ok_law_any T) (hr.mono (by decide)) (by rfl) T.g_law_any T.F_law_any.kp T.b_law_any .nil pass0 (pa_cons (pv 0) (pa_cons (pe_lst (pa_cons pe_int (pa_cons pe_int (pa_cons (pe_op op_pow pe_int pe_int) (pa_cons (pe_call (ok_law_draw T) (hr.mono (by decide)) (by rfl) T.g_law_draw T.F_law_draw.kp T.b_law_draw .nil pass0 (pa_cons (pv 0) (pa_cons pe_int pa_nil))) pa_nil))))) pa_nil))))
    (pss_one (ps_ret (pe_tup (pa_cons (pv 1) (pa_cons (pe_call (ok_law_draw T) (hr.mono (by decide)) (by rfl) T.g_law_draw T.F_law_draw.kp T.b_law_draw .nil pass0 (pa_cons (pv 0) (pa_cons pe_int pa_nil))) (pa_cons (pe_call (ok_law_draw T) (hr.mono (by decide)) (by rfl) T.g_law_draw T.F_law_draw.kp T.b_law_draw .nil pass0 (pa_cons (pv 0) (pa_cons pe_int pa_nil))) (pa_cons (pe_call (ok_law_draw T) (hr.mono (by decide)) (by rfl) T.g_law_draw T.F_law_draw.kp T.b_law_draw .nil pass0 (pa_cons (pv 0) (pa_cons pe_int pa_nil))) (pa_cons (pe_call (ok_law_outs T) (hr.mono (by decide)) (by rfl) T.g_law_outs T.F_law_outs.kp T.b_law_outs .nil pass0 (pa_cons (pv 0) (pa_cons pe_int (pa_cons pe_int pa_nil)))) pa_nil))))))))), ?_⟩
    refine ⟨_, rfl, 10, 9, rfl, rfl, ⟨by decide, by decide, by decide⟩, _, rfl, h, g, 1000, rfl, ha, by decide, by decide, fun H1 d1 b1 h1 x0 x1 => ?_⟩
    refine ⟨(by show 4 ≤ sizeLine; decide), fun l nl => ?_⟩
    have hl := h1.ne_none nl
    refine ⟨h, g, l, _, rfl, h1.same (same_upd nl), SqL.of upd_same, fun H' b => SqL.of (by rw [b l hl]; exact upd_same), by show 0 < 4; decide, by show 4 ≤ 100000; decide, fun H2 j v b2 h2 hv => ?_⟩
    have hmem := List.mem_of_getElem? hv
    obtain ⟨nn, rfl, nn0, nn1⟩ : ∃ i : Int, v = .int i ∧ 0 ≤ i ∧ i ≤ 1000000000 := by
      simp only [List.mem_cons, List.not_mem_nil, or_false] at hmem
      rcases hmem with e | e | e | e <;> subst e
      · exact ⟨0, rfl, by decide, by decide⟩
      · exact ⟨1, rfl, by decide, by decide⟩
      · exact ⟨1000000000, rfl, by decide, by decide⟩
      · exact ⟨d1, rfl, by omega, by omega⟩
    have k2 : Kp h H H2 := (b1.kp.same (same_upd nl)).trans b2.kp
    refine ⟨_, rfl, _, rfl, h, g, 12, rfl, h2, by decide, by decide, fun H3 l3 b3 h3 l0 l1 => ?_⟩
    refine ⟨_, rfl, h, g, 100, rfl, h3, by decide, by decide, fun H4 s4 b4 h4 s0 s1 => ?_⟩
    refine ⟨_, rfl, h, g, 8, rfl, h4, by decide, by decide, fun H5 k5 b5 h5 k0 k1 => ?_⟩
    refine ⟨_, rfl, h, g, 12, 3, rfl, h5, ⟨by decide, by decide⟩, ⟨by decide, by decide⟩, fun H6 t os b6 h6 nt et asc o0 o1 => ?_⟩
    refine ⟨(by show 5 ≤ sizeLine; decide), fun a na => ?_⟩
    have s7 := same_upd na (o := .tup [.int nn, .int l3, .int s4, .int k5, .ref t])
    refine k _ a t ⟨nn, l3, s4, k5, os⟩ (((((k2.trans b3.kp).trans b4.kp).trans b5.kp).trans b6).same s7) (h6.same s7) ⟨⟨nn0, nn1⟩, ⟨l0, by show l3 ≤ 11; omega⟩, ⟨s0, by show s4 ≤ 99; omega⟩, ⟨k0, by show k5 ≤ 7; omega⟩, ?_⟩ upd_same (s7 _ _ et)
    show (ascT (12 - 1) 0 (os.map Td.int) && (decide (1 ≤ ((os.map Td.int).length : Int)) && decide (((os.map Td.int).length : Int) ≤ 3))) = true
    rw [asc, List.length_map, decide_eq_true o0, decide_eq_true o1]
    rfl
/-- a short thing, or a cell -/
def ShI (d : Td) : Prop := Sh d ∨ d = .ins
/-- five parts -/
structure Bt (A : Adr) (h : Addr) (H : Hp) (b : Addr) (us : List V) (es : List Td) : Prop where
  at_ : H b = some (.tup us)
  is : IsL A.c_Cell h H us es
  len : us.length = 5
  sh : ∀ e ∈ es, ShI e
theorem Bt.same {h b : Addr} {H H' : Hp} {us : List V} {es : List Td} (t : Bt A h H b us es) (s : Same H H') : Bt A h H' b us es := ⟨s _ _ t.at_, t.is.same s, t.len, t.sh⟩
theorem Bt.kp {h g b : Addr} {H H' : Hp} {us : List V} {es : List Td} (t : Bt A h H b us es) (k : Kp h H H') (a : HandAt H h g) : Bt A h H' b us es := ⟨by
  obtain ⟨ys, e⟩ := a.some
  exact k _ _ (ne_of t.at_ e (by intro z; cases z)) t.at_, t.is.kp k a, t.len, t.sh⟩
theorem isl_take {C h : Addr} {H : Hp} : ∀ {us : List V} {es : List Td} (i : Nat), IsL C h H us es → IsL C h H (us.take i) (es.take i)
  | _, _, 0, _ => by rw [List.take_zero, List.take_zero]; exact .nil
  | _, _, _ + 1, .nil => .nil
  | _, _, i + 1, .cons a t => .cons a (isl_take i t)
theorem isl_drop {C h : Addr} {H : Hp} : ∀ {us : List V} {es : List Td} (i : Nat), IsL C h H us es → IsL C h H (us.drop i) (es.drop i)
  | _, _, 0, t => t
  | _, _, _ + 1, .nil => .nil
  | _, _, i + 1, .cons a t => isl_drop i t
/-- the slices' values -/
theorem sl_at {H : Hp} {K : PySem.W.Frag} {b : Addr} {us : List V} {lo hi : Option Int} {Q : VK} (e : H b = some (.tup us)) (q : ∀ H' p, Same H H' → H' p = some (.tup (cutV us lo hi)) → Q (.ref p) H') : rSlA K (.ref b) lo hi H Q := by
  refine ⟨b, us, rfl, SqT.of e, fun z => ?_, fun _ p np => q _ p (same_upd np) upd_same⟩
  refine q H b (fun _ _ e => e) ?_
  rw [e]
  unfold cutV
  rw [z.1, z.2, List.drop_zero, Nat.sub_zero, List.take_length]
theorem cat_at {H : Hp} {K : PySem.W.Frag} {a b : Addr} {xs ys : List V} {Q : VK} (e1 : H a = some (.tup xs)) (e2 : H b = some (.tup ys)) (l : xs.length + ys.length ≤ 1000) (q : ∀ H' p, Same H H' → H' p = some (.tup (xs ++ ys)) → Q (.ref p) H') : rCatA K (.ref a) (.ref b) H Q := by
  refine ⟨a, b, xs, ys, rfl, rfl, SqT.of e1, SqT.of e2, Nat.le_trans l (by decide), fun z => ?_, fun _ z => ?_, fun _ _ p np => q _ p (same_upd np) upd_same⟩
  · subst z
    exact q H b (fun _ _ e => e) e2
  · subst z
    exact q H a (fun _ _ e => e) (by rw [List.append_nil]; exact e1)
end

section
variable {P : Program} {w : World} {K : PySem.W.Frag} {mg : Str → Option Value} {base : Heap} {A : Adr}
theorem sh_all {ds : List Td} (h : ds.length ≤ 1000) (k : ∀ d ∈ ds, ∃ i, d = .int i ∨ d = .bl true) : Sh (.tup ds) := .tup h fun d hd => by
  obtain ⟨i, e | e⟩ := k d hd <;> rw [e]
  · exact .int _
  · exact .bl _
theorem no_part {σ : L2.St} {H : Hp} {Q : Option Int → Hp → Prop} (h : Q none H) : tNoPart σ H Q := h
def spBent (A : Adr) : Sp := fun vs H Q _ => ∃ (h g b : Addr) (o : V) (us : List V) (es : List Td), vs = [.ref h, .ref b, o] ∧ HandAt H h g ∧ Bt A h H b us es ∧ Is A.c_Cell h H o .ins ∧
  ∀ (H' : Hp) (b' : Addr) (us' : List V) (es' : List Td), Kp h H H' → HandAt H' h g → Bt A h H' b' us' es' → Q (.ref b') H'
theorem ok_law_bent (T : Top K mg A) : FnOk P w K mg base CX0 5 A.a_law_bent A.d_law_bent P_law_bent (spBent A) := by
  refine T.F_law_bent.ok sc_law_bent (fun vs H Q E h => ?_) (fun cdv A' outer s H vs Q E hr h => ?_)
  · obtain ⟨h, g, b, o, us, es, rfl, _⟩ := h
    rfl
  · obtain ⟨h, g, b, o, us, es, rfl, ha, hb, io, k⟩ := h
    refine ⟨_, (pss_cons (ps_set (i := 3) sc_law_bent.nd rfl (.inl rfl) (pe_call (ok_law_draw T) (hr.mono (by decide)) (by rfl) T.g_law_draw T.F_law_draw.kp T.b_law_draw .nil pass0 (pa_cons (pv 0) (pa_cons pe_int pa_nil))))
    (pss_cons (ps_set (i := 4) sc_law_bent.nd rfl (.inl rfl) (pe_lst (pa_cons (pe_un un_neg pe_int) (pa_cons pe_int (pa_cons pe_int (pa_cons pe_int (pa_cons pe_int (pa_cons pe_int (pa_cons pe_int (pa_cons (pe_op op_pow pe_int pe_int) (pa_cons (pe_op op_add (pe_op op_pow pe_int pe_int) pe_int) (pa_cons (pe_tup pa_nil) (pa_cons (pe_tup (pa_cons pe_int (pa_cons pe_int pa_nil))) (pa_cons (pe_tup (pa_cons pe_int (pa_cons pe_int pa_nil))) (pa_cons (pe_tup (pa_cons pe_int (pa_cons pe_int pa_nil))) (pa_cons (pe_tup (pa_cons pe_int (pa_cons pe_int (pa_cons pe_int (pa_cons pe_int pa_nil))))) (pa_cons (pe_lst (pa_cons pe_int pa_nil)) (pa_cons (pe_tup (pa_cons pe_int (pa_cons pe_bl pa_nil))) (pa_cons (pe_tup (pa_cons pe_str pa_nil)) pa_nil)))))))))))))))))))
    (pss_cons (ps_set (i := 5) sc_law_bent.nd rfl (.inl rfl) (pe_call (ok_law_any T) (hr.mono (by decide)) (by rfl) T.g_law_any T.F_law_any.kp T.b_law_any .nil pass0 (pa_cons (pv 0) (pa_cons (pe_op op_cat (pv 4) (pe_lst (pa_cons (pe_call (ok_law_odd T) (hr.mono (by decide)) (by rfl) T.g_law_odd T.F_law_odd.kp T.b_law_odd .nil pass0 (pa_cons (pv 0) (pa_cons (pv 2) pa_nil))) (pa_cons (pe_call (ok_law_odd T) (hr.mono (by decide)) (by rfl) T.g_law_odd T.F_law_odd.kp T.b_law_odd .nil pass0 (pa_cons (pv 0) (pa_cons (pv 2) pa_nil))) (pa_cons (pe_tup (pa_cons pe_int pa_nil)) (pa_cons pe_int pa_nil)))))) pa_nil))))
    (pss_one (ps_ret (pe_op op_catA (pe_op op_catA (pe_slice sl_tupA (pv 1) po_none (po_some (pv 3))) (pe_tup (pa_cons (pv 5) pa_nil))) (pe_slice sl_tupA (pv 1) (po_some (pe_op op_add (pv 3) pe_int)) po_none))))))), ?_⟩
    refine ⟨_, rfl, h, g, 5, rfl, ha, by decide, by decide, fun G0 at_ b0 a0 x0 x1 => ?_⟩
    have hb0 := hb.kp b0.kp ha
    have io0 := io.kp b0.kp ha
    have kt := b0.kp
    clear ha hb b0 io
    refine ⟨1, rfl, 10, 9, rfl, rfl, ⟨by decide, by decide, by decide⟩, 10, 9, rfl, rfl, ⟨by decide, by decide, by decide⟩, _, _, rfl, rfl, ?_⟩
    refine ⟨(by show 0 ≤ sizeLine; decide), fun p1 n1 => ?_⟩
    have s1 := same_upd n1 (o := .tup [])
    have f1 : (upd G0 p1 (.tup [])) p1 = some (.tup []) := upd_same
    have a1 := a0.same s1
    have t1 := s1
    generalize (upd G0 p1 (.tup [])) = G1 at s1 a1 t1 f1 ⊢
    refine ⟨(by show 2 ≤ sizeLine; decide), fun p2 n2 => ?_⟩
    have s2 := same_upd n2 (o := .tup [.int 0, .int 0])
    have f2 : (upd G1 p2 (.tup [.int 0, .int 0])) p2 = some (.tup [.int 0, .int 0]) := upd_same
    have a2 := a1.same s2
    have f1 := s2 _ _ f1
    have t2 := t1.trans s2
    generalize (upd G1 p2 (.tup [.int 0, .int 0])) = G2 at s2 a2 t2 f1 f2 ⊢
    refine ⟨(by show 2 ≤ sizeLine; decide), fun p3 n3 => ?_⟩
    have s3 := same_upd n3 (o := .tup [.int 1, .int 0])
    have f3 : (upd G2 p3 (.tup [.int 1, .int 0])) p3 = some (.tup [.int 1, .int 0]) := upd_same
    have a3 := a2.same s3
    have f1 := s3 _ _ f1
    have f2 := s3 _ _ f2
    have t3 := t2.trans s3
    generalize (upd G2 p3 (.tup [.int 1, .int 0])) = G3 at s3 a3 t3 f1 f2 f3 ⊢
    refine ⟨(by show 2 ≤ sizeLine; decide), fun p4 n4 => ?_⟩
    have s4 := same_upd n4 (o := .tup [.int 0, .int 12])
    have f4 : (upd G3 p4 (.tup [.int 0, .int 12])) p4 = some (.tup [.int 0, .int 12]) := upd_same
    have a4 := a3.same s4
    have f1 := s4 _ _ f1
    have f2 := s4 _ _ f2
    have f3 := s4 _ _ f3
    have t4 := t3.trans s4
    generalize (upd G3 p4 (.tup [.int 0, .int 12])) = G4 at s4 a4 t4 f1 f2 f3 f4 ⊢
    refine ⟨(by show 4 ≤ sizeLine; decide), fun p5 n5 => ?_⟩
    have s5 := same_upd n5 (o := .tup [.int 0, .int 1, .int 2, .int 3])
    have f5 : (upd G4 p5 (.tup [.int 0, .int 1, .int 2, .int 3])) p5 = some (.tup [.int 0, .int 1, .int 2, .int 3]) := upd_same
    have a5 := a4.same s5
    have f1 := s5 _ _ f1
    have f2 := s5 _ _ f2
    have f3 := s5 _ _ f3
    have f4 := s5 _ _ f4
    have t5 := t4.trans s5
    generalize (upd G4 p5 (.tup [.int 0, .int 1, .int 2, .int 3])) = G5 at s5 a5 t5 f1 f2 f3 f4 f5 ⊢
    refine ⟨(by show 1 ≤ sizeLine; decide), fun p6 n6 => ?_⟩
    have s6 := same_upd n6 (o := .lst [.int 0])
    have f6 : (upd G5 p6 (.lst [.int 0])) p6 = some (.lst [.int 0]) := upd_same
    have q6 := a5.ne_none n6
    have a6 := a5.same s6
    have f1 := s6 _ _ f1
    have f2 := s6 _ _ f2
    have f3 := s6 _ _ f3
    have f4 := s6 _ _ f4
    have f5 := s6 _ _ f5
    have t6 := t5.trans s6
    generalize (upd G5 p6 (.lst [.int 0])) = G6 at s6 a6 t6 f1 f2 f3 f4 f5 f6 ⊢
    refine ⟨(by show 2 ≤ sizeLine; decide), fun p7 n7 => ?_⟩
    have s7 := same_upd n7 (o := .tup [.int 0, .bl true])
    have f7 : (upd G6 p7 (.tup [.int 0, .bl true])) p7 = some (.tup [.int 0, .bl true]) := upd_same
    have a7 := a6.same s7
    have f1 := s7 _ _ f1
    have f2 := s7 _ _ f2
    have f3 := s7 _ _ f3
    have f4 := s7 _ _ f4
    have f5 := s7 _ _ f5
    have f6 := s7 _ _ f6
    have t7 := t6.trans s7
    generalize (upd G6 p7 (.tup [.int 0, .bl true])) = G7 at s7 a7 t7 f1 f2 f3 f4 f5 f6 f7 ⊢
    refine ⟨(by show 1 ≤ sizeLine; decide), fun p8 n8 => ?_⟩
    have s8 := same_upd n8 (o := .tup [.str "0"])
    have f8 : (upd G7 p8 (.tup [.str "0"])) p8 = some (.tup [.str "0"]) := upd_same
    have a8 := a7.same s8
    have f1 := s8 _ _ f1
    have f2 := s8 _ _ f2
    have f3 := s8 _ _ f3
    have f4 := s8 _ _ f4
    have f5 := s8 _ _ f5
    have f6 := s8 _ _ f6
    have f7 := s8 _ _ f7
    have t8 := t7.trans s8
    generalize (upd G7 p8 (.tup [.str "0"])) = G8 at s8 a8 t8 f1 f2 f3 f4 f5 f6 f7 f8 ⊢
    refine ⟨(by show 17 ≤ sizeLine; decide), fun p9 n9 => ?_⟩
    have s9 := same_upd n9 (o := .lst [.int (-1), .int 12, .int 100, .int 8, .int 11, .int 99, .int 7, .int 1000000000, .int 1000000001, .ref p1, .ref p2, .ref p3, .ref p4, .ref p5, .ref p6, .ref p7, .ref p8])
    have f9 : (upd G8 p9 (.lst [.int (-1), .int 12, .int 100, .int 8, .int 11, .int 99, .int 7, .int 1000000000, .int 1000000001, .ref p1, .ref p2, .ref p3, .ref p4, .ref p5, .ref p6, .ref p7, .ref p8])) p9 = some (.lst [.int (-1), .int 12, .int 100, .int 8, .int 11, .int 99, .int 7, .int 1000000000, .int 1000000001, .ref p1, .ref p2, .ref p3, .ref p4, .ref p5, .ref p6, .ref p7, .ref p8]) := upd_same
    have q9 := a8.ne_none n9
    have a9 := a8.same s9
    have f1 := s9 _ _ f1
    have f2 := s9 _ _ f2
    have f3 := s9 _ _ f3
    have f4 := s9 _ _ f4
    have f5 := s9 _ _ f5
    have f6 := s9 _ _ f6
    have f7 := s9 _ _ f7
    have f8 := s9 _ _ f8
    have t9 := t8.trans s9
    rw [show (upd G8 p9 (.lst [(fun i => V.int (-i)) (1 : Int), .int 12, .int 100, .int 8, .int 11, .int 99, .int 7, (fun (i j : Int) => V.int (i ^ j.toNat)) 10 9, (fun (i j : Int) => V.int (i + j)) (10 ^ Int.toNat 9) 1, .ref p1, .ref p2, .ref p3, .ref p4, .ref p5, .ref p6, .ref p7, .ref p8])) = upd G8 p9 (.lst [.int (-1), .int 12, .int 100, .int 8, .int 11, .int 99, .int 7, .int 1000000000, .int 1000000001, .ref p1, .ref p2, .ref p3, .ref p4, .ref p5, .ref p6, .ref p7, .ref p8]) from rfl]
    generalize (upd G8 p9 (.lst [.int (-1), .int 12, .int 100, .int 8, .int 11, .int 99, .int 7, .int 1000000000, .int 1000000001, .ref p1, .ref p2, .ref p3, .ref p4, .ref p5, .ref p6, .ref p7, .ref p8])) = G9 at s9 a9 t9 f1 f2 f3 f4 f5 f6 f7 f8 f9 ⊢
    have kt9 : Kp h H G9 := kt.same t9
    have hb9 := hb0.same t9
    have io9 := io0.same t9
    clear hb0 io0
    -- two odd things
    refine ⟨_, rfl, _, rfl, _, rfl, _, rfl, h, g, o, rfl, a9, fun H1 v1 k1 h1 g1 => ?_⟩
    refine ⟨_, rfl, _, rfl, h, g, o, rfl, h1, fun H2 v2 k2 h2 g2 => ?_⟩
    have k12 := k1.trans k2
    refine ⟨(by show 1 ≤ sizeLine; decide), fun pa na => ?_⟩
    have sa := same_upd na (o := .tup [.int 11])
    refine ⟨(by show 4 ≤ sizeLine; decide), fun pl nl => ?_⟩
    have sl := sa.trans (same_upd nl (o := .lst [v1, v2, .ref pa, .int 0]))
    have epa : (upd (upd H2 pa (.tup [.int 11])) pl (.lst [v1, v2, .ref pa, .int 0])) pa = some (.tup [.int 11]) := (same_upd nl) _ _ upd_same
    refine ⟨p9, pl, _, _, rfl, rfl, sl _ _ (k12 _ _ q9 f9), upd_same, (by show 21 ≤ sizeLine; decide), fun q nq => ?_⟩
    have sq := sl.trans (same_upd nq (o := .lst ([.int (-1), .int 12, .int 100, .int 8, .int 11, .int 99, .int 7, .int 1000000000, .int 1000000001, .ref p1, .ref p2, .ref p3, .ref p4, .ref p5, .ref p6, .ref p7, .ref p8] ++ [v1, v2, .ref pa, .int 0])))
    have epa := (same_upd nq (o := .lst ([.int (-1), .int 12, .int 100, .int 8, .int 11, .int 99, .int 7, .int 1000000000, .int 1000000001, .ref p1, .ref p2, .ref p3, .ref p4, .ref p5, .ref p6, .ref p7, .ref p8] ++ [v1, v2, .ref pa, .int 0]))) _ _ epa
    have eq : (upd (upd (upd H2 pa (.tup [.int 11])) pl (.lst [v1, v2, .ref pa, .int 0])) q (.lst ([.int (-1), .int 12, .int 100, .int 8, .int 11, .int 99, .int 7, .int 1000000000, .int 1000000001, .ref p1, .ref p2, .ref p3, .ref p4, .ref p5, .ref p6, .ref p7, .ref p8] ++ [v1, v2, .ref pa, .int 0]))) q = some (.lst ([.int (-1), .int 12, .int 100, .int 8, .int 11, .int 99, .int 7, .int 1000000000, .int 1000000001, .ref p1, .ref p2, .ref p3, .ref p4, .ref p5, .ref p6, .ref p7, .ref p8] ++ [v1, v2, .ref pa, .int 0])) := upd_same
    have hq := (h2.same sl).ne_none nq
    generalize (upd (upd (upd H2 pa (.tup [.int 11])) pl (.lst [v1, v2, .ref pa, .int 0])) q (.lst ([.int (-1), .int 12, .int 100, .int 8, .int 11, .int 99, .int 7, .int 1000000000, .int 1000000001, .ref p1, .ref p2, .ref p3, .ref p4, .ref p5, .ref p6, .ref p7, .ref p8] ++ [v1, v2, .ref pa, .int 0]))) = H3 at sq epa eq ⊢
    have h3 := h2.same sq
    have k3 : Kp h G9 H3 := k12.same sq
    have m : ∀ y ∈ ([.int (-1), .int 12, .int 100, .int 8, .int 11, .int 99, .int 7, .int 1000000000, .int 1000000001, .ref p1, .ref p2, .ref p3, .ref p4, .ref p5, .ref p6, .ref p7, .ref p8] ++ [v1, v2, .ref pa, .int 0] : List V), (Gd A.c_Cell h H3 y ∨ y = o) := by
      intro y hy
      simp only [List.mem_append, List.mem_cons, List.not_mem_nil, or_false] at hy
      rcases hy with (e | e | e | e | e | e | e | e | e | e | e | e | e | e | e | e | e) | (e | e | e | e) <;> rw [e]
      · exact .inl ⟨_, .int _, .int _⟩
      · exact .inl ⟨_, .int _, .int _⟩
      · exact .inl ⟨_, .int _, .int _⟩
      · exact .inl ⟨_, .int _, .int _⟩
      · exact .inl ⟨_, .int _, .int _⟩
      · exact .inl ⟨_, .int _, .int _⟩
      · exact .inl ⟨_, .int _, .int _⟩
      · exact .inl ⟨_, .int _, .int _⟩
      · exact .inl ⟨_, .int _, .int _⟩
      · exact .inl (Gd.kp ⟨.tup [], .tup f1 .nil, .nil⟩ k3 a9)
      · exact .inl (Gd.kp ⟨.tup [.int 0, .int 0], .tup f2 (.cons (.int 0) (.cons (.int 0) .nil)), (Sh.int 0).two (.int 0)⟩ k3 a9)
      · exact .inl (Gd.kp ⟨.tup [.int 1, .int 0], .tup f3 (.cons (.int 1) (.cons (.int 0) .nil)), (Sh.int 1).two (.int 0)⟩ k3 a9)
      · exact .inl (Gd.kp ⟨.tup [.int 0, .int 12], .tup f4 (.cons (.int 0) (.cons (.int 12) .nil)), (Sh.int 0).two (.int 12)⟩ k3 a9)
      · exact .inl (Gd.kp ⟨.tup [.int 0, .int 1, .int 2, .int 3], .tup f5 (.cons (.int 0) (.cons (.int 1) (.cons (.int 2) (.cons (.int 3) .nil)))), Sh.ints (ns := [0, 1, 2, 3]) (by decide)⟩ k3 a9)
      · exact .inl (Gd.kp ⟨.oth, .lst f6 q6, .oth⟩ k3 a9)
      · exact .inl (Gd.kp ⟨.tup [.int 0, .bl true], .tup f7 (.cons (.int 0) (.cons (.bl true) .nil)), (Sh.int 0).two (.bl true)⟩ k3 a9)
      · exact .inl (Gd.kp ⟨.tup [.str "0"], .tup f8 (.cons (.str "0") .nil), (Sh.str "0").one⟩ k3 a9)
      · exact g1.imp (fun z => (z.kp k2 h1).same sq) id
      · exact g2.imp (fun z => z.same sq) id
      · exact .inl ⟨.tup [.int 11], .tup epa (.cons (.int 11) .nil), (Sh.int 11).one⟩
      · exact .inl ⟨_, .int _, .int _⟩
    refine ⟨h, g, q, _, rfl, h3, SqL.of eq, fun H' b => SqL.of (by rw [b q hq]; exact eq), by show 0 < 21; decide, by show 21 ≤ 100000; decide, fun H4 j y b4 h4 hv => ?_⟩
    have k4 := k3.trans b4.kp
    have hy : ∃ d, Is A.c_Cell h H4 y d ∧ ShI d := by
      rcases m y (List.mem_of_getElem? hv) with z | z
      · obtain ⟨d, z1, z2⟩ := z.kp b4.kp h3
        exact ⟨d, z1, .inl z2⟩
      · rw [z]
        exact ⟨.ins, io9.kp k4 a9, .inr rfl⟩
    have hb4 := hb9.kp k4 a9
    clear m f1 f2 f3 f4 f5 f6 f7 f8 f9 eq epa
    obtain ⟨dy, iy, sy⟩ := hy
    obtain ⟨nn, rfl⟩ : ∃ nn : Nat, at_ = nn := ⟨at_.toNat, by omega⟩
    have l5 := hb4.len
    -- the slices
    refine ⟨_, rfl, _, rfl, _, rfl, sl_at hb4.at_ fun H5 c5 s5 e5 => ?_⟩
    rw [cut_lo (by omega)] at e5
    refine ⟨_, rfl, (by show 1 ≤ sizeLine; decide), fun c6 n6' => ?_⟩
    have s6' := same_upd n6' (o := .tup [y])
    refine cat_at (s6' _ _ e5) upd_same (by rw [List.length_take]; show _ + 1 ≤ 1000; omega) fun H7 c7 s7' e7 => ?_
    have s57 := (s5.trans s6').trans s7'
    refine ⟨_, rfl, _, rfl, _, _, rfl, rfl, _, rfl, no_part (sl_at (s57 _ _ hb4.at_) fun H8 c8 s8' e8 => ?_)⟩
    rw [show ((nn : Int) + 1) = ((nn + 1 : Nat) : Int) from rfl, cut_hi (by omega)] at e8
    refine cat_at (s8' _ _ e7) e8 (by rw [List.length_append, List.length_take, List.length_drop]; show _ + 1 + _ ≤ 1000; omega) fun H9 c9 s9' e9 => ?_
    have s49 := (s57.trans s8').trans s9'
    refine k H9 c9 _ ((es.take nn ++ [dy]) ++ es.drop (nn + 1)) ((kt9.trans k4).same s49) (h4.same s49) ⟨e9, (((isl_take nn hb4.is).append (.cons iy .nil)).append (isl_drop (nn + 1) hb4.is)).same s49, by rw [List.length_append, List.length_append, List.length_take, List.length_drop, List.length_singleton]; omega, fun e he => ?_⟩
    rcases List.mem_append.mp he with he | he
    · rcases List.mem_append.mp he with he | he
      · exact hb4.sh e (List.mem_of_mem_take he)
      · rw [List.mem_singleton.mp he]
        exact sy
    · exact hb4.sh e (List.mem_of_mem_drop he)
end

section
variable {P : Program} {w : World} {K : PySem.W.Frag} {mg : Str → Option Value} {base : Heap} {A : Adr}
def badL : List Td → Str
  | [d0, d1, d2, d3, d4] => badW d0 d1 d2 d3 d4
  | _ => "let"
theorem Bt.five {h b : Addr} {H : Hp} {us : List V} {es : List Td} (t : Bt A h H b us es) : ∃ v0 v1 v2 v3 v4 d0 d1 d2 d3 d4, us = [v0, v1, v2, v3, v4] ∧ es = [d0, d1, d2, d3, d4] ∧ Is A.c_Cell h H v0 d0 ∧ Is A.c_Cell h H v1 d1 ∧ Is A.c_Cell h H v2 d2 ∧ Is A.c_Cell h H v3 d3 ∧ Is A.c_Cell h H v4 d4 := by
  obtain ⟨_, is, len, _⟩ := t
  cases is with
  | nil => cases len
  | cons a0 t => cases t with
    | nil => cases len
    | cons a1 t => cases t with
      | nil => cases len
      | cons a2 t => cases t with
        | nil => cases len
        | cons a3 t => cases t with
          | nil => cases len
          | cons a4 t => cases t with
            | nil => exact ⟨_, _, _, _, _, _, _, _, _, _, rfl, rfl, a0, a1, a2, a3, a4⟩
            | cons a5 t => simp only [List.length_cons] at len; omega
theorem first_bad {d0 d1 d2 d3 d4 : Td} {b4 : Bool} (h : b4 = outsB 12 3 d4) : firstOf [("number", inI 0 1000000000 d0), ("line", inI 0 11 d1), ("stream", inI 0 99 d2), ("kind", inI 0 7 d3), ("outs", b4)] = badW d0 d1 d2 d3 d4 := by
  subst h
  unfold firstOf badW
  cases inI 0 1000000000 d0 <;> cases inI 0 11 d1 <;> cases inI 0 99 d2 <;> cases inI 0 7 d3 <;> cases outsB 12 3 d4 <;> rfl
def spBad (A : Adr) : Sp := fun vs H Q _ => ∃ (b h : Addr) (us : List V) (es : List Td), vs = [.ref b] ∧ Bt A h H b us es ∧ ∀ H', Same H H' → Q (.str (badL es)) H'
theorem ok_law_bad (T : Top K mg A) : FnOk P w K mg base CX0 4 A.a_law_bad A.d_law_bad P_law_bad (spBad A) := by
  refine T.F_law_bad.ok sc_law_bad (fun vs H Q E h => ?_) (fun cdv A' outer s H vs Q E hr h => ?_)
  · obtain ⟨b, h, us, es, rfl, _⟩ := h
    rfl
  · obtain ⟨b, h, us, es, rfl, hb, k⟩ := h
    obtain ⟨v0, v1, v2, v3, v4, d0, d1, d2, d3, d4, rfl, rfl, i0, i1, i2, i3, i4⟩ := hb.five
    have sh4 := hb.sh d4 (by simp)
    refine ⟨_, (pss_cons (ps_asg (pv 0) (pg_tup rfl (pgs_cons (pg_name (i := 1) sc_law_bad.nd rfl (.inl rfl)) (pgs_cons (pg_name (i := 2) sc_law_bad.nd rfl (.inl rfl)) (pgs_cons (pg_name (i := 3) sc_law_bad.nd rfl (.inl rfl)) (pgs_cons (pg_name (i := 4) sc_law_bad.nd rfl (.inl rfl)) (pgs_cons (pg_name (i := 5) sc_law_bad.nd rfl (.inl rfl)) pgs_nil)))))))
    (pss_cons (ps_set (i := 6) sc_law_bad.nd rfl (.inl rfl) (pe_lst (pa_cons (pe_tup (pa_cons pe_str (pa_cons (pe_call (ok_law_is_int T) (hr.mono (by decide)) (by rfl) T.g_law_is_int T.F_law_is_int.kp T.b_law_is_int .nil pass0 (pa_cons (pv 1) (pa_cons pe_int (pa_cons (pe_op op_pow pe_int pe_int) pa_nil)))) pa_nil))) (pa_cons (pe_tup (pa_cons pe_str (pa_cons (pe_call (ok_law_is_int T) (hr.mono (by decide)) (by rfl) T.g_law_is_int T.F_law_is_int.kp T.b_law_is_int .nil pass0 (pa_cons (pv 2) (pa_cons pe_int (pa_cons pe_int pa_nil)))) pa_nil))) pa_nil))))
    (pss_cons (ps_set (i := 6) sc_law_bad.nd rfl (.inl rfl) (pe_op op_cat (pv 6) (pe_lst (pa_cons (pe_tup (pa_cons pe_str (pa_cons (pe_call (ok_law_is_int T) (hr.mono (by decide)) (by rfl) T.g_law_is_int T.F_law_is_int.kp T.b_law_is_int .nil pass0 (pa_cons (pv 3) (pa_cons pe_int (pa_cons pe_int pa_nil)))) pa_nil))) (pa_cons (pe_tup (pa_cons pe_str (pa_cons (pe_call (ok_law_is_int T) (hr.mono (by decide)) (by rfl) T.g_law_is_int T.F_law_is_int.kp T.b_law_is_int .nil pass0 (pa_cons (pv 4) (pa_cons pe_int (pa_cons pe_int pa_nil)))) pa_nil))) pa_nil)))))
    (pss_one (ps_ret (pe_call (ok_law_first T) (hr.mono (by decide)) (by rfl) T.g_law_first T.F_law_first.kp T.b_law_first .nil pass0 (pa_cons (pe_op op_cat (pv 6) (pe_lst (pa_cons (pe_tup (pa_cons pe_str (pa_cons (pe_and (pe_call (ok_law_is_lot T) (hr.mono (by decide)) (by rfl) T.g_law_is_lot T.F_law_is_lot.kp T.b_law_is_lot .nil pass0 (pa_cons (pv 5) (pa_cons pe_int pa_nil))) (pe_one (pe_chain op_le op_le pe_int (pe_callB call_len_seq (by rfl) T.z_len (by decide +kernel) (pa_cons (pv 5) pa_nil)) pe_int))) pa_nil))) pa_nil))) pa_nil))))))), ?_⟩
    refine ⟨_, rfl, b, _, rfl, SqT.of hb.at_, rfl, _, _, rfl, _, _, rfl, _, _, rfl, _, _, rfl, _, _, rfl, rfl, ?_⟩
    -- two words
    refine ⟨_, rfl, 10, 9, rfl, rfl, ⟨by decide, by decide, by decide⟩, 0, 1000000000, v0, d0, h, rfl, i0, (by show 2 ≤ sizeLine; decide), fun t1 n1 => ?_⟩
    have s1 := same_upd n1 (o := .tup [.str "number", .bl (inI 0 1000000000 d0)])
    have e1 : (upd H t1 (.tup [.str "number", .bl (inI 0 1000000000 d0)])) t1 = some (.tup [.str "number", .bl (inI 0 1000000000 d0)]) := upd_same
    generalize (upd H t1 (.tup [.str "number", .bl (inI 0 1000000000 d0)])) = G1 at s1 e1 ⊢
    refine ⟨_, rfl, 0, 11, v1, d1, h, rfl, i1.same s1, (by show 2 ≤ sizeLine; decide), fun t2 n2 => ?_⟩
    have s2 := same_upd n2 (o := .tup [.str "line", .bl (inI 0 11 d1)])
    have e2 : (upd G1 t2 (.tup [.str "line", .bl (inI 0 11 d1)])) t2 = some (.tup [.str "line", .bl (inI 0 11 d1)]) := upd_same
    have e1 := s2 _ _ e1
    have s2 := s1.trans s2
    generalize (upd G1 t2 (.tup [.str "line", .bl (inI 0 11 d1)])) = G2 at s2 e1 e2 ⊢
    refine ⟨(by show 2 ≤ sizeLine; decide), fun l1 nl1 => ?_⟩
    have s3 := same_upd nl1 (o := .lst [.ref t1, .ref t2])
    have el1 : (upd G2 l1 (.lst [.ref t1, .ref t2])) l1 = some (.lst [.ref t1, .ref t2]) := upd_same
    have e1 := s3 _ _ e1
    have e2 := s3 _ _ e2
    have s3 := s2.trans s3
    generalize (upd G2 l1 (.lst [.ref t1, .ref t2])) = G3 at s3 e1 e2 el1 ⊢
    -- two more
    refine ⟨_, rfl, _, rfl, 0, 99, v2, d2, h, rfl, i2.same s3, (by show 2 ≤ sizeLine; decide), fun t3 n3 => ?_⟩
    have s4 := same_upd n3 (o := .tup [.str "stream", .bl (inI 0 99 d2)])
    have e3 : (upd G3 t3 (.tup [.str "stream", .bl (inI 0 99 d2)])) t3 = some (.tup [.str "stream", .bl (inI 0 99 d2)]) := upd_same
    have e1 := s4 _ _ e1
    have e2 := s4 _ _ e2
    have el1 := s4 _ _ el1
    have s4 := s3.trans s4
    generalize (upd G3 t3 (.tup [.str "stream", .bl (inI 0 99 d2)])) = G4 at s4 e1 e2 e3 el1 ⊢
    refine ⟨_, rfl, 0, 7, v3, d3, h, rfl, i3.same s4, (by show 2 ≤ sizeLine; decide), fun t4 n4 => ?_⟩
    have s5 := same_upd n4 (o := .tup [.str "kind", .bl (inI 0 7 d3)])
    have e4 : (upd G4 t4 (.tup [.str "kind", .bl (inI 0 7 d3)])) t4 = some (.tup [.str "kind", .bl (inI 0 7 d3)]) := upd_same
    have e1 := s5 _ _ e1
    have e2 := s5 _ _ e2
    have e3 := s5 _ _ e3
    have el1 := s5 _ _ el1
    have s5 := s4.trans s5
    generalize (upd G4 t4 (.tup [.str "kind", .bl (inI 0 7 d3)])) = G5 at s5 e1 e2 e3 e4 el1 ⊢
    refine ⟨(by show 2 ≤ sizeLine; decide), fun l2 nl2 => ?_⟩
    have s6 := same_upd nl2 (o := .lst [.ref t3, .ref t4])
    refine ⟨l1, l2, _, _, rfl, rfl, s6 _ _ el1, upd_same, (by show 4 ≤ sizeLine; decide), fun l4 nl4 => ?_⟩
    have s7 := s6.trans (same_upd nl4 (o := .lst ([.ref t1, .ref t2] ++ [.ref t3, .ref t4])))
    have el4 : (upd (upd G5 l2 (.lst [.ref t3, .ref t4])) l4 (.lst ([.ref t1, .ref t2] ++ [.ref t3, .ref t4]))) l4 = some (.lst [.ref t1, .ref t2, .ref t3, .ref t4]) := upd_same
    have e1 := s7 _ _ e1
    have e2 := s7 _ _ e2
    have e3 := s7 _ _ e3
    have e4 := s7 _ _ e4
    have s8 := s5.trans s7
    clear s1 s2 s3 s4 s5 s6 s7
    generalize (upd (upd G5 l2 (.lst [.ref t3, .ref t4])) l4 (.lst ([.ref t1, .ref t2] ++ [.ref t3, .ref t4]))) = G8 at s8 e1 e2 e3 e4 el4 ⊢
    -- the outs
    refine ⟨_, rfl, _, rfl, 12, v4, d4, h, rfl, i4.same s8, (fun ds e => ?_), fun G9 s9 => ⟨_, rfl, ?_⟩⟩
    · rcases sh4 with z | z
      · subst e
        exact Nat.le_trans z.len (by decide)
      · rw [e] at z
        cases z
    cases c : lotB 12 d4 with
    | false =>
      have hb : outsB 12 3 d4 = false := outsB_no c
      refine iteF ?_
      refine ⟨(by show 2 ≤ sizeLine; decide), fun t5 n5 => ⟨(by show 1 ≤ sizeLine; decide), fun l5 nl5 => ?_⟩⟩
      have z1 := same_upd n5 (o := .tup [.str "outs", .bl false])
      have z2 := same_upd nl5 (o := .lst [.ref t5])
      refine ⟨l4, l5, _, _, rfl, rfl, z2 _ _ (z1 _ _ (s9 _ _ el4)), upd_same, (by show 5 ≤ sizeLine; decide), fun l6 nl6 => ?_⟩
      have z3 := same_upd nl6 (o := .lst ([.ref t1, .ref t2, .ref t3, .ref t4] ++ [.ref t5]))
      have z := (z1.trans z2).trans z3
      have zz := s9.trans z
      refine ⟨l6, _, [("number", inI 0 1000000000 d0), ("line", inI 0 11 d1), ("stream", inI 0 99 d2), ("kind", inI 0 7 d3), ("outs", false)], rfl, SqL.of upd_same, .cons ⟨_, rfl, zz _ _ e1⟩ (.cons ⟨_, rfl, zz _ _ e2⟩ (.cons ⟨_, rfl, zz _ _ e3⟩ (.cons ⟨_, rfl, zz _ _ e4⟩ (.cons ⟨_, rfl, z3 _ _ (z2 _ _ upd_same)⟩ .nil)))), (by show 5 ≤ 1000; decide), fun H' s' => ?_⟩
      rw [first_bad (b4 := false) hb.symm]
      exact k H' ((s8.trans zz).trans s')
    | true =>
    have ct : isT d4 = true := by
      cases d4 with
      | tup ds => rfl
      | _ => cases c
    obtain ⟨a, xs, ds, rfl, rfl, ea, hl⟩ := isT_of (i4.same (s8.trans s9)) ct
    have e : outsB 12 3 (.tup ds) = (decide (1 ≤ (ds.length : Int)) && decide ((ds.length : Int) ≤ 3)) := by
      show (ascT (12 - 1) 0 ds && _) = _
      rw [show ascT (12 - 1) 0 ds = true from c]
      rfl
    refine iteT ?_
    refine ⟨_, rfl, _, _, rfl, .inr (SqT.of ea), _, _, rfl, rfl, _, rfl, ?_⟩
    rw [hl.len]
    by_cases c1 : 1 ≤ (ds.length : Int)
    · have hb : outsB 12 3 (.tup ds) = decide ((ds.length : Int) ≤ 3) := by
        rw [e, decide_eq_true c1, Bool.true_and]
      rw [decide_eq_true c1]
      refine iteT ⟨_, _, rfl, rfl, ?_⟩
      refine ⟨(by show 2 ≤ sizeLine; decide), fun t5 n5 => ⟨(by show 1 ≤ sizeLine; decide), fun l5 nl5 => ?_⟩⟩
      have z1 := same_upd n5 (o := .tup [.str "outs", .bl (decide ((ds.length : Int) ≤ 3))])
      have z2 := same_upd nl5 (o := .lst [.ref t5])
      refine ⟨l4, l5, _, _, rfl, rfl, z2 _ _ (z1 _ _ (s9 _ _ el4)), upd_same, (by show 5 ≤ sizeLine; decide), fun l6 nl6 => ?_⟩
      have z3 := same_upd nl6 (o := .lst ([.ref t1, .ref t2, .ref t3, .ref t4] ++ [.ref t5]))
      have z := (z1.trans z2).trans z3
      have zz := s9.trans z
      refine ⟨l6, _, [("number", inI 0 1000000000 d0), ("line", inI 0 11 d1), ("stream", inI 0 99 d2), ("kind", inI 0 7 d3), ("outs", (decide ((ds.length : Int) ≤ 3)))], rfl, SqL.of upd_same, .cons ⟨_, rfl, zz _ _ e1⟩ (.cons ⟨_, rfl, zz _ _ e2⟩ (.cons ⟨_, rfl, zz _ _ e3⟩ (.cons ⟨_, rfl, zz _ _ e4⟩ (.cons ⟨_, rfl, z3 _ _ (z2 _ _ upd_same)⟩ .nil)))), (by show 5 ≤ 1000; decide), fun H' s' => ?_⟩
      rw [first_bad (b4 := (decide ((ds.length : Int) ≤ 3))) hb.symm]
      exact k H' ((s8.trans zz).trans s')
    · have hb : outsB 12 3 (.tup ds) = false := by
        rw [e, decide_eq_false c1, Bool.false_and]
      rw [decide_eq_false c1]
      refine iteF ?_
      refine ⟨(by show 2 ≤ sizeLine; decide), fun t5 n5 => ⟨(by show 1 ≤ sizeLine; decide), fun l5 nl5 => ?_⟩⟩
      have z1 := same_upd n5 (o := .tup [.str "outs", .bl false])
      have z2 := same_upd nl5 (o := .lst [.ref t5])
      refine ⟨l4, l5, _, _, rfl, rfl, z2 _ _ (z1 _ _ (s9 _ _ el4)), upd_same, (by show 5 ≤ sizeLine; decide), fun l6 nl6 => ?_⟩
      have z3 := same_upd nl6 (o := .lst ([.ref t1, .ref t2, .ref t3, .ref t4] ++ [.ref t5]))
      have z := (z1.trans z2).trans z3
      have zz := s9.trans z
      refine ⟨l6, _, [("number", inI 0 1000000000 d0), ("line", inI 0 11 d1), ("stream", inI 0 99 d2), ("kind", inI 0 7 d3), ("outs", false)], rfl, SqL.of upd_same, .cons ⟨_, rfl, zz _ _ e1⟩ (.cons ⟨_, rfl, zz _ _ e2⟩ (.cons ⟨_, rfl, zz _ _ e3⟩ (.cons ⟨_, rfl, zz _ _ e4⟩ (.cons ⟨_, rfl, z3 _ _ (z2 _ _ upd_same)⟩ .nil)))), (by show 5 ≤ 1000; decide), fun H' s' => ?_⟩
      rw [first_bad (b4 := false) hb.symm]
      exact k H' ((s8.trans zz).trans s')
end

section
variable {P : Program} {w : World} {K : PySem.W.Frag} {mg : Str → Option Value} {base : Heap} {A : Adr}
def spMade (A : Adr) : Sp := fun vs H Q _ => ∃ (b h : Addr) (us : List V) (es : List Td), vs = [.ref b] ∧ Bt A h H b us es ∧
  (badL es = "let" → ∀ (H' : Hp) (p q : Addr), Same H H' → H' p = some (.tup [.str "made", .ref q]) → H' q = some (.tup us) → Q (.ref p) H') ∧
  (badL es ≠ "let" → ∀ (H' : Hp) (p : Addr), Same H H' → H' p = some (.tup [.str "bad", .str (badL es)]) → Q (.ref p) H')
theorem ok_law_made (T : Top K mg A) : FnOk P w K mg base CX0 8 A.a_law_made A.d_law_made P_law_made (spMade A) := by
  refine T.F_law_made.ok sc_law_made (fun vs H Q E h => ?_) (fun cdv A' outer s H vs Q E hr h => ?_)
  · obtain ⟨b, h, us, es, rfl, _⟩ := h
    rfl
  · obtain ⟨b, h, us, es, rfl, hb, yes, no⟩ := h
    obtain ⟨v0, v1, v2, v3, v4, d0, d1, d2, d3, d4, rfl, rfl, _, _, _, _, _⟩ := hb.five
    refine ⟨_, (pss_cons (ps_set (i := 1) sc_law_made.nd rfl (.inl rfl) (pe_tup (pa_cons pe_str (pa_cons pe_non pa_nil))))
    (pss_cons (ps_try_as (i := 3) rfl rfl sc_law_made.nd rfl rfl (by exact ⟨rfl, by decide, .inl T.gc_BadCell⟩) LamX.takes0 (fun W pn xe tk _ => (pss_cons (ps_set (i := 2) sc_law_made.nd rfl (.inl rfl) (pe_make T.mk_Cell (ok_Cell___init__ T) (hr.mono (by decide)) (by rfl) T.gc_Cell T.b_Cell___init__ .nil (GX.passT 4 tk) (pa_cons (pe_ix (show IxR _ (rIxT K) from ix_tup) (pv 0) pe_int (fun _ _ => rfl)) (pa_cons (pe_ix (show IxR _ (rIxT K) from ix_tup) (pv 0) pe_int (fun _ _ => rfl)) (pa_cons (pe_ix (show IxR _ (rIxT K) from ix_tup) (pv 0) pe_int (fun _ _ => rfl)) (pa_cons (pe_ix (show IxR _ (rIxT K) from ix_tup) (pv 0) pe_int (fun _ _ => rfl)) (pa_cons (pe_ix (show IxR _ (rIxT K) from ix_tup) (pv 0) pe_int (fun _ _ => rfl)) pa_nil)))))))
    (pss_one (ps_set (i := 1) sc_law_made.nd rfl (.inl rfl) (pe_tup (pa_cons pe_str (pa_cons (pe_tup (pa_cons (show PE _ _ (tFld K _ "came_as") from pe_fld (pv 2) (by rfl)) (pa_cons (show PE _ _ (tFld K _ "at_line") from pe_fld (pv 2) (by rfl)) (pa_cons (show PE _ _ (tFld K _ "of_stream") from pe_fld (pv 2) (by rfl)) (pa_cons (show PE _ _ (tFld K _ "of_kind") from pe_fld (pv 2) (by rfl)) (pa_cons (show PE _ _ (tFld K _ "to_outs") from pe_fld (pv 2) (by rfl)) pa_nil)))))) pa_nil))))))) (fun a oe cls d pn hz hf => by exact (pss_one (ps_set (i := 1) sc_law_made.nd rfl (.inl rfl) (pe_ifExp (PW.pt (pw_and (pt_val (pe_callB (GX.call_isEa (a := a) (pn := pn) hz hf) (by rfl) T.z_isinstance (by decide +kernel) (pa_cons (pv 3) (pa_cons (pe_glob (v := .ref A.c_FabricError) (by rfl) T.gc_FabricError (by rfl)) pa_nil)))) (pw_and1 (pt_val (pe_callB (GX.call_isEa (a := a) (pn := pn) hz hf) (by rfl) T.z_isinstance (by decide +kernel) (pa_cons (pv 3) (pa_cons (pe_bltn (v := .ty "ValueError") (by rfl) T.z_ValueError (by decide +kernel) rfl) pa_nil))))))) (pe_tup (pa_cons pe_str (pa_cons (pe_xf ⟨T.e1_BadCell, T.e2_BadCell, T.s_BadCell, T.e3_BadCell⟩ T.nf_BadCell_part hz hf (pv 3) (by rfl)) pa_nil))) (pv 1))))))
    (pss_one (ps_ret (pv 1))))), ?_⟩
    refine ⟨(by show 2 ≤ sizeLine; decide), fun p0 np0 => ?_⟩
    have s0 := same_upd np0 (o := .tup [.str "other", .non])
    have hb1 := hb.same s0
    obtain ⟨_, _, _, _, _, _, _, _, _, _, eu, ee, i0, i1, i2, i3, i4⟩ := hb1.five
    cases eu
    cases ee
    have eb := hb1.at_
    generalize (upd H p0 (.tup [.str "other", .non])) = G0 at s0 hb1 i0 i1 i2 i3 i4 eb ⊢
    refine ⟨_, rfl, b, _, _, _, rfl, rfl, SqT.of eb, atI_nat (j := 0) rfl, _, rfl, b, _, _, _, rfl, rfl, SqT.of eb, atI_nat (j := 1) rfl, _, rfl, b, _, _, _, rfl, rfl, SqT.of eb, atI_nat (j := 2) rfl, _, rfl, b, _, _, _, rfl, rfl, SqT.of eb, atI_nat (j := 3) rfl, _, rfl, b, _, _, _, rfl, rfl, SqT.of eb, atI_nat (j := 4) rfl, ?_⟩
    refine fun x dx nx ndx hne => ?_
    have si : Same G0 (upd (upd G0 dx (.own x)) x (.ins A.c_Cell dx [])) := fun q o e => by
      rw [upd_ne (ne_of_none e nx), upd_ne (ne_of_none e ndx)]
      exact e
    refine ⟨x, dx, v0, v1, v2, v3, v4, d0, d1, d2, d3, d4, h, rfl, i0.same si, i1.same si, i2.same si, i3.same si, i4.same si, upd_same, fun c H1 k1 e1 => ⟨rfl, ?_⟩, fun wd c nc H1 dd s1 ed => ?_⟩
    · have s2 : Same H H1 := fun q o e => by
        have e' := s0 _ _ e
        rw [k1 q (ne_of_none e' nx)]
        exact si q o e'
      refine ⟨_, rfl, x, _, _, _, _, rfl, e1, T.cl_Cell, T.n_Cell_came_as, cf1, _, rfl, x, _, _, _, _, rfl, e1, T.cl_Cell, T.n_Cell_at_line, cf2, _, rfl, x, _, _, _, _, rfl, e1, T.cl_Cell, T.n_Cell_of_stream, cf3, _, rfl, x, _, _, _, _, rfl, e1, T.cl_Cell, T.n_Cell_of_kind, cf4, _, rfl, x, _, _, _, _, rfl, e1, T.cl_Cell, T.n_Cell_to_outs, cf5, (by show 5 ≤ sizeLine; decide), fun q nq => ?_⟩
      refine ⟨(by show 2 ≤ sizeLine; decide), fun p np => ?_⟩
      have s3 := same_upd nq (o := .tup [v0, v1, v2, v3, v4])
      have s4 := same_upd np (o := .tup [.str "made", .ref q])
      exact ⟨_, rfl, yes c _ p q ((s2.trans s3).trans s4) upd_same (s4 _ _ upd_same)⟩
    · have hW : badL [d0, d1, d2, d3, d4] = wd := c
      intro σ hσ
      obtain ⟨x0, x1, x2, x3, rfl⟩ : ∃ x0 x1 x2 x3, σ = [x0, x1, x2, x3] := by
        match σ, hσ with
        | [x0, x1, x2, x3], _ => exact ⟨x0, x1, x2, x3, rfl⟩
      refine ⟨true, T.xm_BadCell_BadCell, fun _ a ha => ?_, fun z => by cases z⟩
      have xD : ExcC K A.c_BadCell := ⟨T.e1_BadCell, T.e2_BadCell, T.s_BadCell, T.e3_BadCell, T.e4_BadCell, T.en1, T.en2, T.e5_BadCell⟩
      refine ⟨_, rfl, A.c_BadCell, rfl, xD, .inr ⟨dd, _, rfl, ed⟩, _, _, true, rfl, fun u r => r, T.kt_BadCell_FabricError, true, rfl, iteT ?_⟩
      refine ⟨_, rfl, A.c_BadCell, rfl, xD, .inr ⟨dd, _, rfl, ed⟩, _, _, true, rfl, fun u r => r, T.kt_BadCell_ValueError, true, rfl, iteT ?_⟩
      refine ⟨_, rfl, rfl, rfl, dd, _, _, rfl, ed, rfl, (by show 2 ≤ sizeLine; decide), fun p np => ?_⟩
      have sG : Same H H1 := fun q o e => s1 _ _ (si _ _ (s0 _ _ e))
      refine ⟨_, rfl, no (by rw [hW]; exact nc) _ p (sG.trans (same_upd np)) ?_⟩
      rw [upd_same, hW]
end

structure Sml (d : PyData) (dep wt : Nat) : Prop where
  sh : d.showable = true
  nd : d.hasDict = false
  dp : d.depth ≤ dep
  lv : d.leavesShort 21 = true
  wt : d.weight ≤ wt
theorem Sml.mono {d : PyData} {a b a' b' : Nat} (s : Sml d a b) (h1 : a ≤ a') (h2 : b ≤ b') : Sml d a' b' := ⟨s.sh, s.nd, Nat.le_trans s.dp h1, s.lv, Nat.le_trans s.wt h2⟩
theorem Sml.int {i : Int} (h0 : 0 ≤ i) (h1 : i ≤ 1000000000) : Sml (.int i) 0 40 := by
  have hn : i.natAbs < 2 ^ 30 := by omega
  have hl : i.natAbs.log2 < 30 := by
    by_cases z : i.natAbs = 0
    · rw [z]
      decide
    · exact (Nat.log2_lt z).mpr hn
  refine ⟨?_, rfl, Nat.le_refl _, ?_, ?_⟩
  · show decide (i.natAbs.log2 < 1920) = true
    exact decide_eq_true (by omega)
  · show decide ((PyData.shown (.int i)).length ≤ 21) = true
    exact decide_eq_true (Nat.le_trans (PyData.shown_int_le2 (by omega) (by omega)) (by decide))
  · show (if i == 0 then 0 else i.natAbs.log2 + 1) ≤ 40
    split <;> omega
theorem sml_all {n : Nat} {dep wt : Nat} : ∀ {ds : List PyData}, (∀ x ∈ ds, Sml x dep wt) → ds.length ≤ n → PyData.showableAll ds = true ∧ PyData.hasDictAll ds = false ∧ PyData.depthAll ds ≤ dep ∧ PyData.leavesShortAll 21 ds = true ∧ PyData.weightAll ds ≤ ds.length * (wt + 1)
  | [], _, _ => ⟨rfl, rfl, Nat.zero_le _, rfl, by show 0 ≤ _; exact Nat.zero_le _⟩
  | x :: ds, h, hn => by
    obtain ⟨a, b, c, d, e⟩ := sml_all (ds := ds) (fun y hy => h y (List.mem_cons_of_mem _ hy)) (Nat.le_trans (Nat.le_succ _) hn)
    have q := h x List.mem_cons_self
    refine ⟨?_, ?_, ?_, ?_, ?_⟩
    · show (PyData.showable x && PyData.showableAll ds) = true
      rw [q.sh, a]
      rfl
    · show (PyData.hasDict x || PyData.hasDictAll ds) = false
      rw [q.nd, b]
      rfl
    · show max (PyData.depth x) (PyData.depthAll ds) ≤ dep
      exact Nat.max_le.mpr ⟨q.dp, c⟩
    · show (PyData.leavesShort 21 x && PyData.leavesShortAll 21 ds) = true
      rw [q.lv, d]
      rfl
    · show PyData.weight x + 1 + PyData.weightAll ds ≤ (ds.length + 1) * (wt + 1)
      rw [Nat.add_mul, Nat.one_mul]
      have z := q.wt
      omega
theorem Sml.tup {n dep wt : Nat} {ds : List PyData} (h : ∀ x ∈ ds, Sml x dep wt) (hn : ds.length ≤ n) : Sml (.tuple ds) (dep + 1) (n * (wt + 1)) := by
  obtain ⟨a, b, c, d, e⟩ := sml_all h hn
  exact ⟨a, b, Nat.succ_le_succ c, d, Nat.le_trans e (Nat.mul_le_mul_right _ hn)⟩
theorem asc_all {hi : Int} : ∀ {ds : List Td} {lo : Int}, ascT hi lo ds = true → ∃ ns : List Int, ds = ns.map Td.int ∧ ∀ x ∈ ns, lo ≤ x ∧ x ≤ hi
  | [], _, _ => ⟨[], rfl, fun x hx => absurd hx List.not_mem_nil⟩
  | d :: ds, lo, e => by
    cases c : inI lo hi d with
    | false =>
      rw [ascT_no c] at e
      cases e
    | true =>
      obtain ⟨i, rfl, e1⟩ := ascT_yes (r := ds) c
      rw [e1] at e
      obtain ⟨ns, h1, h2⟩ := asc_all e
      have q : (decide (lo ≤ i) && decide (i ≤ hi)) = true := c
      rw [Bool.and_eq_true, decide_eq_true_iff, decide_eq_true_iff] at q
      refine ⟨i :: ns, by rw [h1]; rfl, fun x hx => ?_⟩
      rcases List.mem_cons.mp hx with z | z
      · subst z
        exact q
      · have := h2 x z
        omega
theorem outs_ints {n m : Int} {d : Td} (h : outsB n m d = true) : ∃ ns : List Int, d = .tup (ns.map Td.int) ∧ (∀ x ∈ ns, 0 ≤ x ∧ x ≤ n - 1) ∧ 1 ≤ (ns.length : Int) ∧ (ns.length : Int) ≤ m := by
  cases d with
  | tup ds =>
    have q : (ascT (n - 1) 0 ds && (decide (1 ≤ (ds.length : Int)) && decide ((ds.length : Int) ≤ m))) = true := h
    rw [Bool.and_eq_true, Bool.and_eq_true, decide_eq_true_iff, decide_eq_true_iff] at q
    obtain ⟨ns, h1, h2⟩ := asc_all q.1
    subst h1
    rw [List.length_map] at q
    exact ⟨ns, rfl, h2, q.2.1, q.2.2⟩
  | _ => cases h
theorem badW_mem (d0 d1 d2 d3 d4 : Td) : badW d0 d1 d2 d3 d4 ∈ (["number", "line", "stream", "kind", "outs", "let"] : List Str) := by
  unfold badW
  split <;> (try split) <;> (try split) <;> (try split) <;> (try split) <;> simp
theorem Sml.word {x : Str} (h : x ∈ (["number", "line", "stream", "kind", "outs", "let", "made", "bad"] : List Str)) : Sml (.str x) 0 40 := by
  simp only [List.mem_cons, List.not_mem_nil, or_false] at h
  rcases h with e | e | e | e | e | e | e | e <;> subst e <;> exact ⟨rfl, rfl, Nat.le_refl _, by decide +kernel, by decide +kernel⟩
theorem ok_let {p : Pt} (h : p.ok) : badW (.int p.n) (.int p.l) (.int p.s) (.int p.k) (.tup (p.o.map Td.int)) = "let" := by
  obtain ⟨⟨a0, a1⟩, ⟨b0, b1⟩, ⟨c0, c1⟩, ⟨d0, d1⟩, e⟩ := h
  unfold badW
  rw [show inI 0 1000000000 (.int p.n) = true by show (decide _ && decide _) = true; rw [decide_eq_true a0, decide_eq_true a1]; rfl, show inI 0 11 (.int p.l) = true by show (decide _ && decide _) = true; rw [decide_eq_true b0, decide_eq_true b1]; rfl,
    show inI 0 99 (.int p.s) = true by show (decide _ && decide _) = true; rw [decide_eq_true c0, decide_eq_true c1]; rfl, show inI 0 7 (.int p.k) = true by show (decide _ && decide _) = true; rw [decide_eq_true d0, decide_eq_true d1]; rfl, e]
  rfl
theorem inI_both {lo hi : Int} {d : Td} (c : inI lo hi d = true) : ∃ i, d = .int i ∧ lo ≤ i ∧ i ≤ hi := by
  cases d with
  | int i =>
    have q : (decide (lo ≤ i) && decide (i ≤ hi)) = true := c
    rw [Bool.and_eq_true, decide_eq_true_iff, decide_eq_true_iff] at q
    exact ⟨i, rfl, q⟩
  | _ => cases c
theorem let_ok {d0 d1 d2 d3 d4 : Td} (h : badW d0 d1 d2 d3 d4 = "let") : ∃ p : Pt, p.ok ∧ d0 = .int p.n ∧ d1 = .int p.l ∧ d2 = .int p.s ∧ d3 = .int p.k ∧ d4 = .tup (p.o.map Td.int) := by
  unfold badW at h
  cases c0 : inI 0 1000000000 d0 with
  | false =>
    simp only [c0, if_true, Bool.false_eq_true, if_false] at h
    exact absurd h (by decide)
  | true =>
  cases c1 : inI 0 11 d1 with
  | false =>
    simp only [c0, c1, if_true, Bool.false_eq_true, if_false] at h
    exact absurd h (by decide)
  | true =>
  cases c2 : inI 0 99 d2 with
  | false =>
    simp only [c0, c1, c2, if_true, Bool.false_eq_true, if_false] at h
    exact absurd h (by decide)
  | true =>
  cases c3 : inI 0 7 d3 with
  | false =>
    simp only [c0, c1, c2, c3, if_true, Bool.false_eq_true, if_false] at h
    exact absurd h (by decide)
  | true =>
  cases c4 : outsB 12 3 d4 with
  | false =>
    rw [c0, c1, c2, c3, c4] at h
    exact absurd h (by decide)
  | true =>
  obtain ⟨n, rfl, n0, n1⟩ := inI_both c0
  obtain ⟨l, rfl, l0, l1⟩ := inI_both c1
  obtain ⟨s, rfl, s0, s1⟩ := inI_both c2
  obtain ⟨k, rfl, k0, k1⟩ := inI_both c3
  obtain ⟨ns, rfl, _, _, _⟩ := outs_ints c4
  exact ⟨⟨n, l, s, k, ns⟩, ⟨⟨n0, n1⟩, ⟨l0, l1⟩, ⟨s0, s1⟩, ⟨k0, k1⟩, c4⟩, rfl, rfl, rfl, rfl, rfl⟩
def Pt.es (p : Pt) : List Td := [.int p.n, .int p.l, .int p.s, .int p.k, .tup (p.o.map Td.int)]
theorem Bt.let_ {A : Adr} {h b : Addr} {H : Hp} {us : List V} {es : List Td} (t : Bt A h H b us es) (c : badL es = "let") : ∃ (p : Pt) (o : Addr), p.ok ∧ es = p.es ∧ us = p.vs o ∧ H o = some (.tup (p.o.map V.int)) := by
  obtain ⟨v0, v1, v2, v3, v4, d0, d1, d2, d3, d4, rfl, rfl, i0, i1, i2, i3, i4⟩ := t.five
  obtain ⟨p, ok, rfl, rfl, rfl, rfl, rfl⟩ := let_ok c
  cases i0
  cases i1
  cases i2
  cases i3
  cases i4 with
  | tup e l =>
    rw [IsL.of_ints l] at e
    exact ⟨p, _, ok, rfl, rfl, e⟩
theorem Bt.of {A : Adr} {h b t : Addr} {H : Hp} {p : Pt} (ok : p.ok) (e : H b = some (.tup (p.vs t))) (et : H t = some (.tup (p.o.map V.int))) : Bt A h H b (p.vs t) p.es := by
  refine ⟨e, .cons (.int _) (.cons (.int _) (.cons (.int _) (.cons (.int _) (.cons (.tup et IsL.ints) .nil)))), rfl, fun d hd => ?_⟩
  obtain ⟨_, _, _, _, e5⟩ := ok
  obtain ⟨ns, e, _, _, l3⟩ := outs_ints e5
  simp only [Pt.es, List.mem_cons, List.not_mem_nil, or_false] at hd
  rcases hd with z | z | z | z | z <;> subst z
  · exact .inl (.int _)
  · exact .inl (.int _)
  · exact .inl (.int _)
  · exact .inl (.int _)
  · rw [e]
    exact .inl (Sh.ints (by omega))
theorem Pt.dp {K : PySem.W.Frag} {H : Hp} {b t : Addr} {p : Pt} (e : H b = some (.tup (p.vs t))) (et : H t = some (.tup (p.o.map V.int))) : Dp K H (.ref b) p.d :=
  .tup (SqT.of e) (.cons (.int _) (.cons (.int _) (.cons (.int _) (.cons (.int _) (.cons (.tup (SqT.of et) (dp_ints _)) .nil)))))
theorem Pt.sml {p : Pt} (ok : p.ok) : Sml p.d 2 800 := by
  obtain ⟨⟨a0, a1⟩, ⟨b0, b1⟩, ⟨c0, c1⟩, ⟨d0, d1⟩, e⟩ := ok
  obtain ⟨ns, e1, e2, _, l3⟩ := outs_ints e
  have en : p.o = ns := by
    have z := congrArg (fun d => match d with | Td.tup ds => ds | _ => []) e1
    have z : p.o.map Td.int = ns.map Td.int := z
    exact List.map_inj_right (fun _ _ h => Td.int.inj h) |>.mp z
  have s5 : Sml (intsD p.o) 1 123 := by
    rw [en]
    refine (Sml.tup (n := 3) (dep := 0) (wt := 40) (fun x hx => ?_) (by rw [List.length_map]; omega)).mono (Nat.le_refl _) (by decide)
    obtain ⟨y, hy, rfl⟩ := List.mem_map.mp hx
    have := e2 y hy
    exact .int (by omega) (by omega)
  refine (Sml.tup (n := 5) (dep := 1) (wt := 123) (ds := [.int p.n, .int p.l, .int p.s, .int p.k, intsD p.o]) (fun x hx => ?_) (Nat.le_refl 5)).mono (Nat.le_refl _) (by decide)
  simp only [List.mem_cons, List.not_mem_nil, or_false] at hx
  rcases hx with z | z | z | z | z <;> subst z
  · exact (Sml.int a0 a1).mono (by decide) (by decide)
  · exact (Sml.int b0 (by omega)).mono (by decide) (by decide)
  · exact (Sml.int c0 (by omega)).mono (by decide) (by decide)
  · exact (Sml.int d0 (by omega)).mono (by decide) (by decide)
  · exact s5
def madeD (p : Pt) : PyData := .tuple [.str "made", p.d]
def badD (x : Str) : PyData := .tuple [.str "bad", .str x]
theorem sml_made {p : Pt} (ok : p.ok) : Sml (madeD p) 3 2000 := by
  refine (Sml.tup (n := 2) (dep := 2) (wt := 800) (ds := [.str "made", p.d]) (fun x hx => ?_) (Nat.le_refl 2)).mono (Nat.le_refl _) (by decide)
  simp only [List.mem_cons, List.not_mem_nil, or_false] at hx
  rcases hx with z | z <;> subst z
  · exact (Sml.word (by simp)).mono (by decide) (by decide)
  · exact Pt.sml ok
theorem sml_bad {x : Str} (h : x ∈ (["number", "line", "stream", "kind", "outs", "let", "made", "bad"] : List Str)) : Sml (badD x) 1 100 := by
  refine (Sml.tup (n := 2) (dep := 0) (wt := 40) (ds := [.str "bad", .str x]) (fun y hy => ?_) (Nat.le_refl 2)).mono (Nat.le_refl _) (by decide)
  simp only [List.mem_cons, List.not_mem_nil, or_false] at hy
  rcases hy with z | z <;> subst z
  · exact Sml.word (by simp)
  · exact Sml.word h
theorem eqv_pt (p q : Pt) : PyData.eqv p.d q.d = p.same q := by
  show (PyData.eqv (.int p.n) (.int q.n) && (PyData.eqv (.int p.l) (.int q.l) && (PyData.eqv (.int p.s) (.int q.s) && (PyData.eqv (.int p.k) (.int q.k) && (PyData.eqv (intsD p.o) (intsD q.o) && true))))) = p.same q
  rw [Bool.and_true]
  unfold Pt.same
  rfl
theorem lay_pt (p : Pt) : PyData.canLay0 p.d = true := by
  show (true && (true && (true && (true && (PyData.canLay0 (intsD p.o) && true))))) = true
  rw [show PyData.canLay0 (intsD p.o) = true from lay_ints p.o]
  rfl
theorem same_self (p : Pt) : p.same p = true := by
  rw [← eqv_pt]
  exact SeqAt.eqv_refl _ (lay_pt p)
theorem sh_pt (p : Pt) : SeqAt.shaped p.d = true := by
  unfold SeqAt.shaped
  have h2 : PyData.depth p.d ≤ 64 := by
    show max (PyData.depth (.int p.n)) (max (PyData.depth (.int p.l)) (max (PyData.depth (.int p.s)) (max (PyData.depth (.int p.k)) (max (PyData.depth (intsD p.o)) 0)))) + 1 ≤ 64
    have z : PyData.depth (intsD p.o) = 1 := by
      show PyData.depthAll (p.o.map PyData.int) + 1 = 1
      rw [dep_ints]
    rw [z]
    exact Nat.le_of_lt (Nat.lt_of_le_of_lt (Nat.add_le_add_right (Nat.max_le.mpr ⟨Nat.zero_le _, Nat.max_le.mpr ⟨Nat.zero_le _, Nat.max_le.mpr ⟨Nat.zero_le _, Nat.max_le.mpr ⟨Nat.zero_le _, Nat.le_refl _⟩⟩⟩⟩) 1) (by decide))
  rw [lay_pt, decide_eq_true h2]
  rfl
theorem lay_copies (num : Int) : ∀ ns : List Int, PyData.canLayAll0 (copyD num ns) = true
  | [] => rfl
  | n :: ns => by
    show (PyData.canLay0 (.tuple [.int num, .int n]) && PyData.canLayAll0 (copyD num ns)) = true
    rw [lay_copies num ns]
    rfl
theorem dep_copies (num : Int) : ∀ ns : List Int, PyData.depthAll (copyD num ns) ≤ 1
  | [] => Nat.zero_le _
  | n :: ns => by
    show max (PyData.depth (.tuple [.int num, .int n])) (PyData.depthAll (copyD num ns)) ≤ 1
    exact Nat.max_le.mpr ⟨Nat.le_refl 1, dep_copies num ns⟩
theorem sh_copies (num : Int) (ns : List Int) : SeqAt.shaped (.tuple (copyD num ns)) = true := by
  unfold SeqAt.shaped
  have h1 : PyData.canLay0 (.tuple (copyD num ns)) = true := lay_copies num ns
  have h2 : PyData.depth (.tuple (copyD num ns)) ≤ 64 := by
    show PyData.depthAll (copyD num ns) + 1 ≤ 64
    have := dep_copies num ns
    omega
  rw [h1, decide_eq_true h2]
  rfl
theorem dp_copies {K : PySem.W.Frag} {H : Hp} {num : Int} {ns : List Int} {xs : List V} (h : All2 (CopyAt H num) ns xs) : DpAll K H xs (copyD num ns) := by
  induction h with
  | nil => exact .nil
  | cons a t ih =>
    obtain ⟨q, rfl, e⟩ := a
    exact .cons (.tup (SqT.of e) (.cons (.int _) (.cons (.int _) .nil))) ih

theorem gd_type {K : PySem.W.Frag} {C h : Addr} {H : Hp} {v : V} (t : Gd C h H v) : ∃ n : String, TyX K H v (.type n) ∧ GP.noRef n = true := by
  obtain ⟨d, i, s⟩ := t
  cases i with
  | non => exact ⟨_, .base .non, by decide +kernel⟩
  | bl b => exact ⟨_, .base (.bl b), by decide +kernel⟩
  | int i => exact ⟨_, .base (.int i), by decide +kernel⟩
  | str x => exact ⟨_, .base (.str x), by decide +kernel⟩
  | tup e l => exact ⟨_, .base (.tup e), by decide +kernel⟩
  | lst e n => exact ⟨_, .base (.lst e), by decide +kernel⟩
  | dK e => exact ⟨_, .base (.dK e), by decide +kernel⟩
  | ins e => cases s
/-- the hand, a cell, its parts -/
structure Sc (A : Adr) (h g : Addr) (H : Hp) (a t x dx : Addr) (p : Pt) : Prop where
  hand : HandAt H h g
  ea : H a = some (.tup (p.vs t))
  et : H t = some (.tup (p.o.map V.int))
  ex : H x = some (.ins A.c_Cell dx (p.fs t))
section
variable {A : Adr} {h g : Addr} {H H' : Hp} {a t x dx : Addr} {p : Pt}
theorem Sc.same (c : Sc A h g H a t x dx p) (s : Same H H') : Sc A h g H' a t x dx p := ⟨c.hand.same s, s _ _ c.ea, s _ _ c.et, s _ _ c.ex⟩
theorem Sc.kp (c : Sc A h g H a t x dx p) (k : Kp h H H') (b : HandAt H' h g) : Sc A h g H' a t x dx p := by
  obtain ⟨ys, e⟩ := c.hand.some
  exact ⟨b, k _ _ (ne_of c.ea e (by intro z; cases z)) c.ea, k _ _ (ne_of c.et e (by intro z; cases z)) c.et, k _ _ (ne_of c.ex e (by intro z; cases z)) c.ex⟩
theorem Sc.cell (c : Sc A h g H a t x dx p) : CellO A.c_Cell H x p := ⟨dx, t, c.ex, c.et⟩
end
/-- what is due for parts -/
def DueAt (H : Hp) (D b : Addr) (es : List Td) : Prop := if badL es = "let" then H D = some (.tup [.str "made", .ref b]) else H D = some (.tup [.str "bad", .str (badL es)])
theorem DueAt.same {H H' : Hp} {D b : Addr} {es : List Td} (d : DueAt H D b es) (s : Same H H') : DueAt H' D b es := by
  unfold DueAt at d ⊢
  by_cases c : badL es = "let"
  · rw [if_pos c] at d ⊢
    exact s _ _ d
  · rw [if_neg c] at d ⊢
    exact s _ _ d
theorem tst {r : R2} {ta tb : TE} {σ : L2.St} {H : Hp} {Q : Bool → Hp → Prop} (h : ta σ H fun x H1 => tb σ H1 fun y H2 => r x y H2 fun z H' => ∃ k, z = .bl k ∧ Q k H') : tTest (tOp r ta tb) σ H Q := h
theorem tor {t u : TT} {σ : L2.St} {H : Hp} {Q : Bool → Hp → Prop} (h : t σ H fun c H1 => if c = true then Q true H1 else u σ H1 Q) : tOr t u σ H Q := h
section
variable {K : PySem.W.Frag} {A : Adr}
theorem mades {σ : L2.St} {H : Hp} {Q : Bool → Hp → Prop} {b h D : Addr} {us : List V} {es : List Td} (h5 : σ[5]? = some (some (.ref b))) (h6 : σ[6]? = some (some (.ref D))) (hb : Bt A h H b us es) (hd : DueAt H D b es) (q : ∀ H', Same H H' → Q false H') :
    tTest (tOp rNe (tCB (GX.rRepD K) (tCons (tCall (spMade A) [] E0 (tCons (tVar 5) tNil)) tNil)) (tCB (GX.rRepD K) (tCons (tVar 6) tNil))) σ H Q := by
  refine tst ⟨_, h5, b, h, us, es, rfl, hb, fun c H' p q' s1 e1 e2 => ?_, fun c H' p s1 e1 => ?_⟩
  · obtain ⟨pt, o, ok, rfl, rfl, eo⟩ := hb.let_ c
    unfold DueAt at hd
    rw [if_pos c] at hd
    have m := sml_made ok
    refine ⟨_, madeD pt, rfl, .tup (SqT.of e1) (.cons (.str _) (.cons (Pt.dp e2 (s1 _ _ eo)) .nil)), m.sh, m.nd, Nat.le_trans m.dp (by decide), m.lv, Nat.le_trans m.wt (by decide), ?_⟩
    refine ⟨_, h6, _, madeD pt, rfl, .tup (SqT.of (s1 _ _ hd)) (.cons (.str _) (.cons (Pt.dp (s1 _ _ hb.at_) (s1 _ _ eo)) .nil)), m.sh, m.nd, Nat.le_trans m.dp (by decide), m.lv, Nat.le_trans m.wt (by decide), ?_⟩
    refine ⟨rfl, _, rfl, ?_⟩
    rw [decide_eq_true rfl]
    exact q _ s1
  · unfold DueAt at hd
    rw [if_neg c] at hd
    have m := sml_bad (x := badL es) (by
      obtain ⟨v0, v1, v2, v3, v4, d0, d1, d2, d3, d4, _, ee, _⟩ := hb.five
      rw [ee]
      have z := badW_mem d0 d1 d2 d3 d4
      show badW d0 d1 d2 d3 d4 ∈ _
      simp only [List.mem_cons, List.not_mem_nil, or_false] at z ⊢
      rcases z with e | e | e | e | e | e <;> simp [e])
    refine ⟨_, badD (badL es), rfl, .tup (SqT.of e1) (.cons (.str _) (.cons (.str _) .nil)), m.sh, m.nd, Nat.le_trans m.dp (by decide), m.lv, Nat.le_trans m.wt (by decide), ?_⟩
    refine ⟨_, h6, _, badD (badL es), rfl, .tup (SqT.of (s1 _ _ hd)) (.cons (.str _) (.cons (.str _) .nil)), m.sh, m.nd, Nat.le_trans m.dp (by decide), m.lv, Nat.le_trans m.wt (by decide), ?_⟩
    refine ⟨rfl, _, rfl, ?_⟩
    rw [decide_eq_true rfl]
    exact q _ s1
theorem mades3 {σ : L2.St} {H : Hp} {Q : Bool → Hp → Prop} {b h t : Addr} {pt : Pt} (h3 : σ[3]? = some (some (.ref b))) (ok : pt.ok) (e : H b = some (.tup (pt.vs t))) (et : H t = some (.tup (pt.o.map V.int))) (q : ∀ H', Same H H' → Q false H') :
    tTest (tOp rNe (tCB (GX.rRepD K) (tCons (tCall (spMade A) [] E0 (tCons (tVar 3) tNil)) tNil)) (tCB (GX.rRepD K) (tCons (tTup (tCons (tC (.str "made")) (tCons (tVar 3) tNil))) tNil))) σ H Q := by
  refine tst ⟨_, h3, b, h, _, _, rfl, Bt.of ok e et, fun c H' p q' s1 e1 e2 => ?_, fun c => absurd (ok_let ok) c⟩
  have m := sml_made ok
  refine ⟨_, madeD pt, rfl, .tup (SqT.of e1) (.cons (.str _) (.cons (Pt.dp e2 (s1 _ _ et)) .nil)), m.sh, m.nd, Nat.le_trans m.dp (by decide), m.lv, Nat.le_trans m.wt (by decide), ?_⟩
  refine ⟨_, h3, (by show 2 ≤ sizeLine; decide), fun r nr => ?_⟩
  have s2 := s1.trans (same_upd nr (o := .tup [.str "made", .ref b]))
  refine ⟨_, madeD pt, rfl, .tup (SqT.of upd_same) (.cons (.str _) (.cons (Pt.dp (s2 _ _ e) (s2 _ _ et)) .nil)), m.sh, m.nd, Nat.le_trans m.dp (by decide), m.lv, Nat.le_trans m.wt (by decide), ?_⟩
  refine ⟨rfl, _, rfl, ?_⟩
  rw [decide_eq_true rfl]
  exact q _ s2
end
def spLaw (K : PySem.W.Frag) : Sp := fun vs H Q _ => ∃ (a : Addr) (ns : List Int), vs = [.ref a] ∧ SqL K H a (ns.map V.int) ∧ ns.length ≤ 63 ∧ ∀ H', Q (.bl true) H'
section
variable {P : Program} {w : World} {K : PySem.W.Frag} {mg : Str → Option Value} {base : Heap} {A : Adr}
theorem ok_law (T : Top K mg A) : GX.FnG P w K mg base CX0 20 A.a_law A.d_law P_law (spLaw K) := by
  refine GX.bodyG T.F_law sc_law (fun vs H Q E h => ?_) (fun cdv A' outer s H vs Q E free hr h => ?_)
  · obtain ⟨a, ns, rfl, _⟩ := h
    rfl
  · obtain ⟨sa, ns, rfl, hS, hn, kq⟩ := h
    refine ⟨_, (pss_cons (ps_set (i := 1) sc_law.nd rfl (.inl rfl) (pe_call (ok_law_hand T) (hr.mono (by decide)) (by rfl) T.g_law_hand T.F_law_hand.kp T.b_law_hand .nil pass0 (pa_cons (pv 0) pa_nil)))
    (pss_cons (ps_for PassesOwn.never rfl (pi_range1 rfl T.z_range (pa_cons pe_int pa_nil)) (pg_name (i := 2) sc_law.nd rfl (.inl rfl)) (pss_cons (ps_set (i := 3) sc_law.nd rfl (.inr rfl) (pe_call (ok_law_parts T) (hr.mono (by decide)) (by rfl) T.g_law_parts T.F_law_parts.kp T.b_law_parts .nil pass0 (pa_cons (pv 1) pa_nil)))
    (pss_cons (ps_set (i := 4) sc_law.nd rfl (.inl rfl) (pe_make T.mk_Cell (ok_Cell___init__ T) (hr.mono (by decide)) (by rfl) T.gc_Cell T.b_Cell___init__ .nil passL (pa_cons (pe_ix ix_tup (pv 3) pe_int (fun _ _ => rfl)) (pa_cons (pe_ix ix_tup (pv 3) pe_int (fun _ _ => rfl)) (pa_cons (pe_ix ix_tup (pv 3) pe_int (fun _ _ => rfl)) (pa_cons (pe_ix ix_tup (pv 3) pe_int (fun _ _ => rfl)) (pa_cons (pe_ix ix_tup (pv 3) pe_int (fun _ _ => rfl)) pa_nil)))))))
    (pss_cons (ps_if (PW.pt (pw_or (pt_cmpR (op_neD hr.units) (pe_call (ok_copies T) (hr.mono (by decide)) (by rfl) T.g_copies T.F_copies.kp T.b_copies .nil pass0 (pa_cons (pv 4) pa_nil)) (pe_callTy call_tuple_of (by rfl) T.z_tuple (by decide +kernel) (pa_cons (pe_lc (own := [("_law_output", 7)]) (by rfl) sc_law.nd (pi_tup (pe_ix ix_tup (pv 3) pe_int (fun _ _ => rfl))) (blkOk_by (own := [("_law_output", 7)]) (N := N_law) (sc := defScope s_law) (by decide +kernel)) (fun _ _ _ _ _ => (pg_name (i := 7) sc_law.nd rfl (.inl rfl))) (fun _ _ _ _ _ => pts_nil) (fun _ _ _ _ _ => (pe_tup (pa_cons (pe_ix (show IxR _ (rIxT K) from ix_tup) (pv 3) pe_int (fun _ _ => rfl)) (pa_cons (pv 7) pa_nil))))) pa_nil)) (nomark _)) (pw_or1 (pt_not (pt_val (pe_callB call_isi (by rfl) T.z_isinstance (by decide +kernel) (pa_cons (pe_call (ok_copies T) (hr.mono (by decide)) (by rfl) T.g_copies T.F_copies.kp T.b_copies .nil pass0 (pa_cons (pv 4) pa_nil)) (pa_cons (pe_bltn (v := .ty "tuple") (by rfl) T.z_tuple (by decide +kernel) rfl) pa_nil)))))))) (pss_one (ps_ret pe_bl)) pss_nil)
    (pss_cons (ps_set (i := 5) sc_law.nd rfl (.inl rfl) (pe_call (ok_law_bent T) (hr.mono (by decide)) (by rfl) T.g_law_bent T.F_law_bent.kp T.b_law_bent .nil pass0 (pa_cons (pv 1) (pa_cons (pv 3) (pa_cons (pv 4) pa_nil)))))
    (Evl.pss_cut (ps_if (pt_cmpR op_eq (pe_call (ok_law_draw T) (hr.mono (by decide)) (by rfl) T.g_law_draw T.F_law_draw.kp T.b_law_draw .nil pass0 (pa_cons (pv 1) (pa_cons pe_int pa_nil))) pe_int (nomark _)) (pss_one (ps_set (i := 5) sc_law.nd rfl (.inl rfl) (pe_call (ok_law_bent T) (hr.mono (by decide)) (by rfl) T.g_law_bent T.F_law_bent.kp T.b_law_bent .nil pass0 (pa_cons (pv 1) (pa_cons (pv 5) (pa_cons (pv 4) pa_nil)))))) pss_nil)
    (Evl.pss_cut (ps_set (i := 6) sc_law.nd rfl (.inl rfl) (pe_ifExp (pt_cmpR op_eq (pe_call (ok_law_bad T) (hr.mono (by decide)) (by rfl) T.g_law_bad T.F_law_bad.kp T.b_law_bad .nil pass0 (pa_cons (pv 5) pa_nil)) pe_str (nomark _)) (pe_tup (pa_cons pe_str (pa_cons (pv 5) pa_nil))) (pe_tup (pa_cons pe_str (pa_cons (pe_call (ok_law_bad T) (hr.mono (by decide)) (by rfl) T.g_law_bad T.F_law_bad.kp T.b_law_bad .nil pass0 (pa_cons (pv 5) pa_nil)) pa_nil)))))
    (pss_cons (ps_if (PW.pt (pw_or (pt_cmpR op_ne (pe_callB (GX.call_repD free hr.units) (by rfl) T.z_repr (by decide +kernel) (pa_cons (pe_call (ok_law_made T) (hr.mono (by decide)) (by rfl) T.g_law_made T.F_law_made.kp T.b_law_made .nil pass0 (pa_cons (pv 5) pa_nil)) pa_nil)) (pe_callB (GX.call_repD free hr.units) (by rfl) T.z_repr (by decide +kernel) (pa_cons (pv 6) pa_nil)) (nomark _)) (pw_or1 (pt_cmpR op_ne (pe_callB (GX.call_repD free hr.units) (by rfl) T.z_repr (by decide +kernel) (pa_cons (pe_call (ok_law_made T) (hr.mono (by decide)) (by rfl) T.g_law_made T.F_law_made.kp T.b_law_made .nil pass0 (pa_cons (pv 3) pa_nil)) pa_nil)) (pe_callB (GX.call_repD free hr.units) (by rfl) T.z_repr (by decide +kernel) (pa_cons (pe_tup (pa_cons pe_str (pa_cons (pv 3) pa_nil))) pa_nil)) (nomark _))))) (pss_one (ps_ret pe_bl)) pss_nil)
    (pss_cons (ps_if (pt_cmpR (GO.op_neO T.eo_Cell (ok_Cell___eq__ T) T.b_Cell___eq__ (hr.mono (by decide))) (pv 4) (pe_make T.mk_Cell (ok_Cell___init__ T) (hr.mono (by decide)) (by rfl) T.gc_Cell T.b_Cell___init__ .nil passL (pa_cons (pe_ix ix_tup (pv 3) pe_int (fun _ _ => rfl)) (pa_cons (pe_ix ix_tup (pv 3) pe_int (fun _ _ => rfl)) (pa_cons (pe_ix ix_tup (pv 3) pe_int (fun _ _ => rfl)) (pa_cons (pe_ix ix_tup (pv 3) pe_int (fun _ _ => rfl)) (pa_cons (pe_ix ix_tup (pv 3) pe_int (fun _ _ => rfl)) pa_nil)))))) (nomark _)) (pss_one (ps_ret pe_bl)) pss_nil)
    (pss_cons (ps_if (PW.pt (pw_or (pt_cmpR (GP.op_eqO T.eo_Cell.eq T.eo_Cell.fn (ok_Cell___eq__ T) T.b_Cell___eq__ (hr.mono (by decide))) (pv 4) (pv 3) (nomark _)) (pw_or1 (pt_cmpR (GP.op_eqO T.eo_Cell.eq T.eo_Cell.fn (ok_Cell___eq__ T) T.b_Cell___eq__ (hr.mono (by decide))) (pv 4) (pe_call (ok_law_odd T) (hr.mono (by decide)) (by rfl) T.g_law_odd T.F_law_odd.kp T.b_law_odd .nil pass0 (pa_cons (pv 1) (pa_cons pe_non pa_nil))) (nomark _))))) (pss_one (ps_ret pe_bl)) pss_nil)
    (pss_one (ps_if (PW.pt (pw_and (pt_cmpR op_eq (pe_ix ix_tup (pv 6) pe_int (fun _ _ => rfl)) pe_str (nomark _)) (pw_and1 (pt_cmpR op_ne (pe_cmpR (GP.op_eqO T.eo_Cell.eq T.eo_Cell.fn (ok_Cell___eq__ T) T.b_Cell___eq__ (hr.mono (by decide))) (pv 4) (pe_make T.mk_Cell (ok_Cell___init__ T) (hr.mono (by decide)) (by rfl) T.gc_Cell T.b_Cell___init__ .nil passL (pa_cons (pe_ix ix_tup (pv 5) pe_int (fun _ _ => rfl)) (pa_cons (pe_ix ix_tup (pv 5) pe_int (fun _ _ => rfl)) (pa_cons (pe_ix ix_tup (pv 5) pe_int (fun _ _ => rfl)) (pa_cons (pe_ix ix_tup (pv 5) pe_int (fun _ _ => rfl)) (pa_cons (pe_ix ix_tup (pv 5) pe_int (fun _ _ => rfl)) pa_nil)))))) (nomark _)) (pe_cmpR (op_eqD hr.units) (pv 3) (pv 5) (nomark _)) (nomark _))))) (pss_one (ps_ret pe_bl)) pss_nil))))))))))))
    (pss_one (ps_ret pe_bl)))), ?_⟩
    refine ⟨_, rfl, sa, ns, rfl, hS, hn, fun H1 h g s1 _ _ a1 => ?_⟩
    refine ⟨6, rfl, by decide, by decide, ?_⟩
    refine for_range (lo := 0) (n := (6 : Int).toNat) (fun i σ H' => ∃ y2 y3 y4 y5 y6 : Option V, σ = [some (.ref sa), some (.ref h), y2, y3, y4, y5, y6, none] ∧ HandAt H' h g) ⟨_, _, _, _, _, rfl, a1⟩ ?_ ?_
    · rintro i σ H2 hi ⟨y2, y3, y4, y5, y6, rfl, a2⟩
      refine ⟨_, rfl, h, g, rfl, a2, fun H3 a t p k3 a3 pok ea et => ?_⟩
      -- a cell of these parts
      refine ⟨_, rfl, a, _, _, _, rfl, rfl, SqT.of ea, atI_nat (j := 0) rfl, _, rfl, a, _, _, _, rfl, rfl, SqT.of ea, atI_nat (j := 1) rfl, _, rfl, a, _, _, _, rfl, rfl, SqT.of ea, atI_nat (j := 2) rfl, _, rfl, a, _, _, _, rfl, rfl, SqT.of ea, atI_nat (j := 3) rfl, _, rfl, a, _, _, _, rfl, rfl, SqT.of ea, atI_nat (j := 4) rfl, ?_⟩
      refine fun x dx nx ndx hne => ?_
      have si : Same H3 (upd (upd H3 dx (.own x)) x (.ins A.c_Cell dx [])) := fun q o e => by
        rw [upd_ne (ne_of_none e nx), upd_ne (ne_of_none e ndx)]
        exact e
      refine ⟨x, dx, .int p.n, .int p.l, .int p.s, .int p.k, .ref t, .int p.n, .int p.l, .int p.s, .int p.k, .tup (p.o.map Td.int), h, rfl, .int _, .int _, .int _, .int _, .tup (si _ _ et) IsL.ints, upd_same, fun _ H4 k4 e4 => ⟨rfl, ?_⟩, fun wd c nc => absurd (c.symm.trans (ok_let pok)) nc⟩
      have s34 : Same H3 H4 := fun q o e => by
        rw [k4 q (ne_of_none e nx)]
        exact si q o e
      have c4 : Sc A h g H4 a t x dx p := ⟨a3.same s34, s34 _ _ ea, s34 _ _ et, e4⟩
      clear k3 a3 a2 ea et si k4 e4 s34 nx ndx hne
      have lo : p.o.length ≤ 3 := by
        obtain ⟨ns, e1, e2, _, l3⟩ := outs_ints pok.2.2.2.2
        have z := congrArg (fun d => match d with | Td.tup ds => ds.length | _ => 0) e1
        have z : (p.o.map Td.int).length = (ns.map Td.int).length := z
        rw [List.length_map, List.length_map] at z
        omega
      -- the copies
      refine ⟨_, rfl, x, p, rfl, c4.cell, by omega, fun H13 cp cxs s13 ecp alc => ?_⟩
      have c13 := c4.same s13
      refine ⟨_, rfl, a, _, _, _, rfl, rfl, SqT.of c13.ea, atI_nat (j := 4) rfl, t, rfl, ⟨_, SqT.of c13.et⟩, fun D nD => ?_⟩
      refine lc_tup (K := K) (a := t) (xs := p.o.map V.int) (fun i H' => ∃ ys, Same H13 H' ∧ H' D = some (.lst ys) ∧ All2 (CopyAt H' p.n) (p.o.take i) ys) ⟨[], same_upd nD, upd_same, .nil⟩ (fun i H' _ ⟨_, s1, _⟩ => SqT.of (s1 _ _ c13.et)) ?_ ?_
      · rintro i x H' hx ⟨ys, s1, d1, al⟩
        rw [List.getElem?_map] at hx
        obtain ⟨o, ho, rfl⟩ := Option.map_eq_some_iff.mp hx
        refine ⟨rfl, ?_⟩
        refine ⟨_, rfl, a, _, _, _, rfl, rfl, SqT.of (s1 _ _ c13.ea), atI_nat (j := 0) rfl, _, rfl, (by show 2 ≤ sizeLine; decide), fun q nq => ?_⟩
        have hDp : D ≠ q := ne_of_none d1 nq
        have s2 := same_upd nq (o := .tup [.int p.n, .int o])
        have d2 := s2 _ _ d1
        refine ⟨ys, d2, by rw [← al.len, List.length_take]; exact small1000' (by omega), ys ++ [.ref q], same_to (s1.trans s2) nD, upd_same, ?_⟩
        have kD : Kp D (upd H' q (.tup [.int p.n, .int o])) (upd (upd H' q (.tup [.int p.n, .int o])) D (.lst (ys ++ [.ref q]))) := fun q o hq e => by rw [upd_ne hq]; exact e
        rw [List.take_add_one, ho]
        refine All2.snoc (al.imp fun o' v ⟨q, e1, e2⟩ => ⟨q, e1, kD _ _ ?_ (s2 _ _ e2)⟩) ⟨q, rfl, kD _ _ hDp.symm upd_same⟩
        exact ne_of (s2 _ _ e2) d2 (by intro z; cases z)
      rintro H' ⟨ys, s1, d1, al⟩
      rw [List.length_map, List.take_length] at al
      refine ⟨D, ys, rfl, .inl ⟨SqL.of d1, fun q nq => ?_⟩⟩
      have s2 := same_upd nq (o := .tup ys)
      have al2 : All2 (CopyAt (upd H' q (.tup ys)) p.n) p.o ys := al.imp fun o' v ⟨q, e1, e2⟩ => ⟨q, e1, s2 _ _ e2⟩
      have alc2 : All2 (CopyAt (upd H' q (.tup ys)) p.n) p.o cxs := alc.imp fun o' v ⟨q, e1, e2⟩ => ⟨q, e1, s2 _ _ (s1 _ _ e2)⟩
      refine ⟨_, _, .tup (SqT.of (s2 _ _ (s1 _ _ ecp))) (dp_copies alc2), .tup (SqT.of upd_same) (dp_copies al2), sh_copies _ _, sh_copies _ _, ?_⟩
      rw [SeqAt.eqv_refl _ (show PyData.canLay0 (.tuple (copyD p.n p.o)) = true from lay_copies _ _)]
      refine ⟨false, rfl, iteF ?_⟩
      have c5 := (c13.same s1).same s2
      clear c4 c13 al alc al2 alc2 d1 nD ecp
      generalize (upd H' q (.tup ys)) = H5 at c5 ⊢
      refine ⟨_, rfl, x, p, rfl, c5.cell, by omega, fun H6 cp cxs s6 ecp _ => ⟨_, _, _, _, _, rfl, .ty "tuple", .base (.tup ecp), kitQ (a := "tuple") (b := "tuple") (r := true) (by decide +kernel) rfl, _, rfl, iteF ?_⟩⟩
      have c6 := c5.same s6
      clear c5 ecp s6
      -- parts with one otherwise
      refine ⟨_, rfl, _, rfl, _, rfl, h, g, a, .ref x, _, _, rfl, c6.hand, Bt.of pok c6.ea c6.et, .ins c6.ex, fun H7 b us es k7 a7 bt7 => ?_⟩
      have c7 := c6.kp k7 a7
      clear c6 k7 a7
      refine ⟨fun σ' H' => ∃ b us es, σ' = [some (.ref sa), some (.ref h), some (.int (0 + (i : Int))), some (.ref a), some (.ref x), some (.ref b), y6, none] ∧ Sc A h g H' a t x dx p ∧ Bt A h H' b us es, ?_, ?_⟩
      · refine ⟨_, rfl, h, g, 3, rfl, c7.hand, by decide, by decide, fun H8 d b8 a8 _ _ => ⟨rfl, _, rfl, ite2 (fun _ => ?_) (fun _ => ⟨b, us, es, rfl, c7.kp b8.kp a8, bt7.kp b8.kp c7.hand⟩)⟩⟩
        have c8 := c7.kp b8.kp a8
        refine ⟨_, rfl, _, rfl, _, rfl, h, g, b, .ref x, us, es, rfl, a8, bt7.kp b8.kp c7.hand, .ins c8.ex, fun H9 b' us' es' k9 a9 bt9 => ?_⟩
        exact ⟨b', us', es', rfl, c8.kp k9 a9, bt9⟩
      rintro σ' H8 ⟨b, us, es, rfl, c8, bt8⟩
      clear c7 bt7
      -- what is due
      refine ⟨fun σ' H' => ∃ D, σ' = [some (.ref sa), some (.ref h), some (.int (0 + (i : Int))), some (.ref a), some (.ref x), some (.ref b), some (.ref D), none] ∧ Same H8 H' ∧ DueAt H' D b es, ?_, ?_⟩
      · refine ⟨_, rfl, b, h, us, es, rfl, bt8, fun H9 s9 => ⟨rfl, _, rfl, ite2 (fun c => ?_) (fun c => ?_)⟩⟩
        · have c : badL es = "let" := V.str.inj (of_decide_eq_true c)
          refine ⟨_, rfl, (by show 2 ≤ sizeLine; decide), fun D nD => ⟨D, rfl, s9.trans (same_upd nD), ?_⟩⟩
          unfold DueAt
          rw [if_pos c]
          exact upd_same
        · have c : badL es ≠ "let" := fun z => c (decide_eq_true (congrArg V.str z))
          refine ⟨_, rfl, b, h, us, es, rfl, bt8.same s9, fun H10 s10 => ⟨(by show 2 ≤ sizeLine; decide), fun D nD => ⟨D, rfl, (s9.trans s10).trans (same_upd nD), ?_⟩⟩⟩
          unfold DueAt
          rw [if_neg c]
          exact upd_same
      rintro σ' H9 ⟨D, rfl, s9, due9⟩
      have c9 := c8.same s9
      have bt9 := bt8.same s9
      clear c8 bt8 s9
      -- what is made
      refine tor (mades (by exact rfl) (by exact rfl) bt9 due9 fun H10 s10 => ?_)
      refine iteF ?_
      refine mades3 (h := h) (by exact rfl) pok (s10 _ _ c9.ea) (s10 _ _ c9.et) fun H11 s11 => ?_
      refine iteF ?_
      have s12 := s10.trans s11
      have c11 := c9.same s12
      have bt11 := bt9.same s12
      have due11 := due9.same s12
      clear c9 bt9 due9 s12 s10 s11
      -- one more cell of the same parts
      refine ⟨_, rfl, _, rfl, a, _, _, _, rfl, rfl, SqT.of c11.ea, atI_nat (j := 0) rfl, _, rfl, a, _, _, _, rfl, rfl, SqT.of c11.ea, atI_nat (j := 1) rfl, _, rfl, a, _, _, _, rfl, rfl, SqT.of c11.ea, atI_nat (j := 2) rfl, _, rfl, a, _, _, _, rfl, rfl, SqT.of c11.ea, atI_nat (j := 3) rfl, _, rfl, a, _, _, _, rfl, rfl, SqT.of c11.ea, atI_nat (j := 4) rfl, ?_⟩
      refine fun x2 dx2 nx2 ndx2 hne2 => ?_
      have si2 : Same H11 (upd (upd H11 dx2 (.own x2)) x2 (.ins A.c_Cell dx2 [])) := fun q o e => by
        rw [upd_ne (ne_of_none e nx2), upd_ne (ne_of_none e ndx2)]
        exact e
      refine ⟨x2, dx2, .int p.n, .int p.l, .int p.s, .int p.k, .ref t, .int p.n, .int p.l, .int p.s, .int p.k, .tup (p.o.map Td.int), h, rfl, .int _, .int _, .int _, .int _, .tup (si2 _ _ c11.et) IsL.ints, upd_same, fun _ H12 k12 e12 => ⟨rfl, ?_⟩, fun wd c nc => absurd (c.symm.trans (ok_let pok)) nc⟩
      have s12 : Same H11 H12 := fun q o e => by
        rw [k12 q (ne_of_none e nx2)]
        exact si2 q o e
      have c12 := c11.same s12
      have bt12 := bt11.same s12
      have due12 := due11.same s12
      clear c11 bt11 due11 si2 k12 nx2 ndx2 hne2 s12
      refine ⟨x, x2, _, _, _, _, rfl, rfl, c12.ex, e12, x, .ref x2, p, rfl, c12.cell, .inr ⟨x2, p, rfl, ⟨dx2, t, e12, c12.et⟩, true, by rw [same_self], _, rfl, iteF ?_⟩⟩
      -- no tuple, no odd thing
      refine ⟨_, rfl, _, rfl, x, _, _, .type "tuple", rfl, c12.ex, .base (.tup c12.ea), GP.first_rev (by decide +kernel), x, .ref a, p, rfl, c12.cell, .inl ⟨.type "tuple", .base (.tup c12.ea), GP.kit_rev T.cl_Cell T.tt_Cell (by decide +kernel), false, rfl, _, rfl, iteF ?_⟩⟩
      refine ⟨_, rfl, _, rfl, h, g, .non, rfl, c12.hand, fun H13 v k13 a13 gv => ?_⟩
      have c13 := c12.kp k13 a13
      have bt13 := bt12.kp k13 c12.hand
      have due13 : DueAt H13 D b es := by
        obtain ⟨ys, e⟩ := c12.hand.some
        unfold DueAt at due12 ⊢
        by_cases c : badL es = "let"
        · rw [if_pos c] at due12 ⊢
          exact k13 _ _ (ne_of due12 e (by intro z; cases z)) due12
        · rw [if_neg c] at due12 ⊢
          exact k13 _ _ (ne_of due12 e (by intro z; cases z)) due12
      have gv : Gd A.c_Cell h H13 v := by
        rcases gv with z | z
        · exact z
        · rw [z]
          exact ⟨.non, .non, .non⟩
      obtain ⟨n, ty, nr⟩ := gd_type (K := K) gv
      clear c12 bt12 due12 k13 gv a13
      refine ⟨x, _, _, .type n, rfl, c13.ex, ty, GP.first_rev nr, x, v, p, rfl, c13.cell, .inl ⟨.type n, ty, GP.kit_rev T.cl_Cell T.tt_Cell nr, false, rfl, _, rfl, iteF ?_⟩⟩
      -- alike just if all parts are
      unfold DueAt at due13
      by_cases c : badL es = "let"
      · rw [if_pos c] at due13
        obtain ⟨p2, t2, ok2, rfl, rfl, et2⟩ := bt13.let_ c
        have eb := bt13.at_
        refine ⟨_, rfl, D, _, _, _, rfl, rfl, SqT.of due13, atI_nat (j := 0) rfl, rfl, _, rfl, ?_⟩
        rw [dec_self]
        refine iteT ?_
        refine ⟨_, rfl, _, rfl, b, _, _, _, rfl, rfl, SqT.of eb, atI_nat (j := 0) rfl, _, rfl, b, _, _, _, rfl, rfl, SqT.of eb, atI_nat (j := 1) rfl, _, rfl, b, _, _, _, rfl, rfl, SqT.of eb, atI_nat (j := 2) rfl, _, rfl, b, _, _, _, rfl, rfl, SqT.of eb, atI_nat (j := 3) rfl, _, rfl, b, _, _, _, rfl, rfl, SqT.of eb, atI_nat (j := 4) rfl, ?_⟩
        refine fun x3 dx3 nx3 ndx3 hne3 => ?_
        have si3 : Same H13 (upd (upd H13 dx3 (.own x3)) x3 (.ins A.c_Cell dx3 [])) := fun q o e => by
          rw [upd_ne (ne_of_none e nx3), upd_ne (ne_of_none e ndx3)]
          exact e
        refine ⟨x3, dx3, .int p2.n, .int p2.l, .int p2.s, .int p2.k, .ref t2, .int p2.n, .int p2.l, .int p2.s, .int p2.k, .tup (p2.o.map Td.int), h, rfl, .int _, .int _, .int _, .int _, .tup (si3 _ _ et2) IsL.ints, upd_same, fun _ H14 k14 e14 => ⟨rfl, ?_⟩, fun wd c nc => absurd (c.symm.trans (ok_let ok2)) nc⟩
        have s14 : Same H13 H14 := fun q o e => by
          rw [k14 q (ne_of_none e nx3)]
          exact si3 q o e
        have c14 := c13.same s14
        refine ⟨x, _, _, .ref A.c_Cell, rfl, c14.ex, .base (.ins e14 T.cl_Cell T.ci_Cell T.en1 T.en2 T.em_Cell), GP.first_self, x, .ref x3, p, rfl, c14.cell, .inr ⟨x3, p2, rfl, ⟨dx3, t2, e14, s14 _ _ et2⟩, p.same p2, rfl, ?_⟩⟩
        refine ⟨_, rfl, _, rfl, p.d, p2.d, Pt.dp c14.ea c14.et, Pt.dp (s14 _ _ eb) (s14 _ _ et2), sh_pt _, sh_pt _, rfl, ?_⟩
        rw [eqv_pt, dec_self]
        exact ⟨_, rfl, iteF ⟨_, _, _, _, _, rfl, c14.hand⟩⟩
      · rw [if_neg c] at due13
        refine ⟨_, rfl, D, _, _, _, rfl, rfl, SqT.of due13, atI_nat (j := 0) rfl, rfl, _, rfl, ?_⟩
        exact iteF (iteF ⟨_, _, _, _, _, rfl, c13.hand⟩)
    · rintro σ H2 ⟨y2, y3, y4, y5, y6, rfl, a2⟩
      exact kq H2
end

theorem end_mk {l : PySem.W.OpenLaw} {w : World} {K : PySem.W.Frag} {mg : Str → Option Value} {fa f_law : Addr} {kV dc pm cd ct : Value} {an : Option Addr} (E : ∃ A : Adr, Top K mg A ∧ A.d_law = PySem.W.fnOf "law" "law" (defArgs s_law) (defBody s_law) (defScope s_law) .none kV dc pm an cd ct ∧ A.a_law = f_law) (hfa : mg "law" = some (.ref fa)) :
    ∃ fd : FuncData, (∀ (s : Shared) (v : Value), BindsTo s fd ⟨[v], []⟩ [("_law_script", v)]) ∧ ∀ base : Heap, K.In base → base.Ns mainGlobals mg → GX.FnG l.prog w K mg base CX0 20 fa fd ["_law_script"] (spLaw K) := by
  obtain ⟨A, T, ed, ea⟩ := E
  have e := hfa.symm.trans T.g_law
  cases e
  exact ⟨A.d_law, fun s v => by rw [ed]; exact .of_eq rfl, fun base _ _ => ok_law T⟩
theorem top_end {l : PySem.W.OpenLaw} {w : World} {K : PySem.W.Frag} {h : Heap} {mg : Str → Option Value} {fa : Addr} (X : K.In h) (G : h.Ns mainGlobals mg) (hfa : mg "law" = some (.ref fa))
    {f_BadCell___init__ : Addr} {od_BadCell___init__ an_BadCell___init__ : Option Addr} {sl_BadCell___init__ : Array (Option Value)} {oc_BadCell___init__ kV_BadCell___init__ dc_BadCell___init__ pm_BadCell___init__ cd_BadCell___init__ ct_BadCell___init__ : Value}
    {f_is_integer : Addr} {od_is_integer an_is_integer : Option Addr} {sl_is_integer : Array (Option Value)} {oc_is_integer kV_is_integer dc_is_integer pm_is_integer cd_is_integer ct_is_integer : Value}
    {f_is_integer_from : Addr} {od_is_integer_from an_is_integer_from : Option Addr} {sl_is_integer_from : Array (Option Value)} {oc_is_integer_from kV_is_integer_from dc_is_integer_from pm_is_integer_from cd_is_integer_from ct_is_integer_from : Value}
    {f_is_number_below : Addr} {od_is_number_below an_is_number_below : Option Addr} {sl_is_number_below : Array (Option Value)} {oc_is_number_below kV_is_number_below dc_is_number_below pm_is_number_below cd_is_number_below ct_is_number_below : Value}
    {f_is_lot_below : Addr} {od_is_lot_below an_is_lot_below : Option Addr} {sl_is_lot_below : Array (Option Value)} {oc_is_lot_below kV_is_lot_below dc_is_lot_below pm_is_lot_below cd_is_lot_below ct_is_lot_below : Value}
    {f_is_cell_number : Addr} {od_is_cell_number an_is_cell_number : Option Addr} {sl_is_cell_number : Array (Option Value)} {oc_is_cell_number kV_is_cell_number dc_is_cell_number pm_is_cell_number cd_is_cell_number ct_is_cell_number : Value}
    {f_are_outs : Addr} {od_are_outs an_are_outs : Option Addr} {sl_are_outs : Array (Option Value)} {oc_are_outs kV_are_outs dc_are_outs pm_are_outs cd_are_outs ct_are_outs : Value}
    {f_Cell___init__ : Addr} {od_Cell___init__ an_Cell___init__ : Option Addr} {sl_Cell___init__ : Array (Option Value)} {oc_Cell___init__ kV_Cell___init__ dc_Cell___init__ pm_Cell___init__ cd_Cell___init__ ct_Cell___init__ : Value}
    {f_Cell___eq__ : Addr} {od_Cell___eq__ an_Cell___eq__ : Option Addr} {sl_Cell___eq__ : Array (Option Value)} {oc_Cell___eq__ kV_Cell___eq__ dc_Cell___eq__ pm_Cell___eq__ cd_Cell___eq__ ct_Cell___eq__ : Value}
    {f_copies : Addr} {od_copies an_copies : Option Addr} {sl_copies : Array (Option Value)} {oc_copies kV_copies dc_copies pm_copies cd_copies ct_copies : Value}
    {f_law_hand : Addr} {od_law_hand an_law_hand : Option Addr} {sl_law_hand : Array (Option Value)} {oc_law_hand kV_law_hand dc_law_hand pm_law_hand cd_law_hand ct_law_hand : Value}
    {f_law_draw : Addr} {od_law_draw an_law_draw : Option Addr} {sl_law_draw : Array (Option Value)} {oc_law_draw kV_law_draw dc_law_draw pm_law_draw cd_law_draw ct_law_draw : Value}
    {f_law_any : Addr} {od_law_any an_law_any : Option Addr} {sl_law_any : Array (Option Value)} {oc_law_any kV_law_any dc_law_any pm_law_any cd_law_any ct_law_any : Value}
    {f_law_is_int : Addr} {od_law_is_int an_law_is_int : Option Addr} {sl_law_is_int : Array (Option Value)} {oc_law_is_int kV_law_is_int dc_law_is_int pm_law_is_int cd_law_is_int ct_law_is_int : Value}
    {f_law_deep : Addr} {od_law_deep an_law_deep : Option Addr} {sl_law_deep : Array (Option Value)} {oc_law_deep kV_law_deep dc_law_deep pm_law_deep cd_law_deep ct_law_deep : Value}
    {f_law_odd : Addr} {od_law_odd an_law_odd : Option Addr} {sl_law_odd : Array (Option Value)} {oc_law_odd kV_law_odd dc_law_odd pm_law_odd cd_law_odd ct_law_odd : Value}
    {f_law_is_lot : Addr} {od_law_is_lot an_law_is_lot : Option Addr} {sl_law_is_lot : Array (Option Value)} {oc_law_is_lot kV_law_is_lot dc_law_is_lot pm_law_is_lot cd_law_is_lot ct_law_is_lot : Value}
    {f_law_first : Addr} {od_law_first an_law_first : Option Addr} {sl_law_first : Array (Option Value)} {oc_law_first kV_law_first dc_law_first pm_law_first cd_law_first ct_law_first : Value}
    {f_law_outs : Addr} {od_law_outs an_law_outs : Option Addr} {sl_law_outs : Array (Option Value)} {oc_law_outs kV_law_outs dc_law_outs pm_law_outs cd_law_outs ct_law_outs : Value}
    {f_law_parts : Addr} {od_law_parts an_law_parts : Option Addr} {sl_law_parts : Array (Option Value)} {oc_law_parts kV_law_parts dc_law_parts pm_law_parts cd_law_parts ct_law_parts : Value}
    {f_law_bent : Addr} {od_law_bent an_law_bent : Option Addr} {sl_law_bent : Array (Option Value)} {oc_law_bent kV_law_bent dc_law_bent pm_law_bent cd_law_bent ct_law_bent : Value}
    {f_law_bad : Addr} {od_law_bad an_law_bad : Option Addr} {sl_law_bad : Array (Option Value)} {oc_law_bad kV_law_bad dc_law_bad pm_law_bad cd_law_bad ct_law_bad : Value}
    {f_law_made : Addr} {od_law_made an_law_made : Option Addr} {sl_law_made : Array (Option Value)} {oc_law_made kV_law_made dc_law_made pm_law_made cd_law_made ct_law_made : Value}
    {f_law : Addr} {od_law an_law : Option Addr} {sl_law : Array (Option Value)} {oc_law kV_law dc_law pm_law cd_law ct_law : Value}
    {c_Cell : Addr}
    {c_FabricError : Addr}
    {c_BadCell : Addr}
    {t_MOST_LINES : Tok}
    {t_MOST_COPIES : Tok}
    {t_STREAMS : Tok}
    {t_KINDS : Tok}
    {t_GREATEST_CELL : Tok}
    (ac_Cell : PySem.W.nsIn K mainGlobals "Cell" = some (some (.ref c_Cell)))
    (ac_FabricError : PySem.W.nsIn K mainGlobals "FabricError" = some (some (.ref c_FabricError)))
    (ac_BadCell : PySem.W.nsIn K mainGlobals "BadCell" = some (some (.ref c_BadCell)))
    (a_BadCell___init__ : PySem.W.findIn K (.ref c_BadCell) "__init__" = some (some (.ref f_BadCell___init__)))
    (i_BadCell___init__ : PySem.W.isFn K (.ref f_BadCell___init__) = true)
    (l_BadCell___init__ : K.lookup f_BadCell___init__ = some ⟨oc_BadCell___init__, od_BadCell___init__, .func (PySem.W.fnOf "__init__" "BadCell.__init__" (defArgs s_BadCell___init__) (defBody s_BadCell___init__) (defScope s_BadCell___init__) .none kV_BadCell___init__ dc_BadCell___init__ pm_BadCell___init__ an_BadCell___init__ cd_BadCell___init__ ct_BadCell___init__), sl_BadCell___init__⟩)
    (q_BadCell___init__ : PySem.W.codeIn K cd_BadCell___init__ "BadCell.__init__" = true)
    (p_BadCell___init__ : PySem.W.keepIn K (.ref f_BadCell___init__) = true)
    (a_is_integer : PySem.W.nsIn K mainGlobals "is_integer" = some (some (.ref f_is_integer)))
    (l_is_integer : K.lookup f_is_integer = some ⟨oc_is_integer, od_is_integer, .func (PySem.W.fnOf "is_integer" "is_integer" (defArgs s_is_integer) (defBody s_is_integer) (defScope s_is_integer) .none kV_is_integer dc_is_integer pm_is_integer an_is_integer cd_is_integer ct_is_integer), sl_is_integer⟩)
    (q_is_integer : PySem.W.codeIn K cd_is_integer "is_integer" = true)
    (p_is_integer : PySem.W.keepIn K (.ref f_is_integer) = true)
    (a_is_integer_from : PySem.W.nsIn K mainGlobals "is_integer_from" = some (some (.ref f_is_integer_from)))
    (l_is_integer_from : K.lookup f_is_integer_from = some ⟨oc_is_integer_from, od_is_integer_from, .func (PySem.W.fnOf "is_integer_from" "is_integer_from" (defArgs s_is_integer_from) (defBody s_is_integer_from) (defScope s_is_integer_from) .none kV_is_integer_from dc_is_integer_from pm_is_integer_from an_is_integer_from cd_is_integer_from ct_is_integer_from), sl_is_integer_from⟩)
    (q_is_integer_from : PySem.W.codeIn K cd_is_integer_from "is_integer_from" = true)
    (p_is_integer_from : PySem.W.keepIn K (.ref f_is_integer_from) = true)
    (a_is_number_below : PySem.W.nsIn K mainGlobals "is_number_below" = some (some (.ref f_is_number_below)))
    (l_is_number_below : K.lookup f_is_number_below = some ⟨oc_is_number_below, od_is_number_below, .func (PySem.W.fnOf "is_number_below" "is_number_below" (defArgs s_is_number_below) (defBody s_is_number_below) (defScope s_is_number_below) .none kV_is_number_below dc_is_number_below pm_is_number_below an_is_number_below cd_is_number_below ct_is_number_below), sl_is_number_below⟩)
    (q_is_number_below : PySem.W.codeIn K cd_is_number_below "is_number_below" = true)
    (p_is_number_below : PySem.W.keepIn K (.ref f_is_number_below) = true)
    (a_is_lot_below : PySem.W.nsIn K mainGlobals "is_lot_below" = some (some (.ref f_is_lot_below)))
    (l_is_lot_below : K.lookup f_is_lot_below = some ⟨oc_is_lot_below, od_is_lot_below, .func (PySem.W.fnOf "is_lot_below" "is_lot_below" (defArgs s_is_lot_below) (defBody s_is_lot_below) (defScope s_is_lot_below) .none kV_is_lot_below dc_is_lot_below pm_is_lot_below an_is_lot_below cd_is_lot_below ct_is_lot_below), sl_is_lot_below⟩)
    (q_is_lot_below : PySem.W.codeIn K cd_is_lot_below "is_lot_below" = true)
    (p_is_lot_below : PySem.W.keepIn K (.ref f_is_lot_below) = true)
    (a_is_cell_number : PySem.W.nsIn K mainGlobals "is_cell_number" = some (some (.ref f_is_cell_number)))
    (l_is_cell_number : K.lookup f_is_cell_number = some ⟨oc_is_cell_number, od_is_cell_number, .func (PySem.W.fnOf "is_cell_number" "is_cell_number" (defArgs s_is_cell_number) (defBody s_is_cell_number) (defScope s_is_cell_number) .none kV_is_cell_number dc_is_cell_number pm_is_cell_number an_is_cell_number cd_is_cell_number ct_is_cell_number), sl_is_cell_number⟩)
    (q_is_cell_number : PySem.W.codeIn K cd_is_cell_number "is_cell_number" = true)
    (p_is_cell_number : PySem.W.keepIn K (.ref f_is_cell_number) = true)
    (a_are_outs : PySem.W.nsIn K mainGlobals "are_outs" = some (some (.ref f_are_outs)))
    (l_are_outs : K.lookup f_are_outs = some ⟨oc_are_outs, od_are_outs, .func (PySem.W.fnOf "are_outs" "are_outs" (defArgs s_are_outs) (defBody s_are_outs) (defScope s_are_outs) .none kV_are_outs dc_are_outs pm_are_outs an_are_outs cd_are_outs ct_are_outs), sl_are_outs⟩)
    (q_are_outs : PySem.W.codeIn K cd_are_outs "are_outs" = true)
    (p_are_outs : PySem.W.keepIn K (.ref f_are_outs) = true)
    (a_Cell___init__ : PySem.W.findIn K (.ref c_Cell) "__init__" = some (some (.ref f_Cell___init__)))
    (i_Cell___init__ : PySem.W.isFn K (.ref f_Cell___init__) = true)
    (l_Cell___init__ : K.lookup f_Cell___init__ = some ⟨oc_Cell___init__, od_Cell___init__, .func (PySem.W.fnOf "__init__" "Cell.__init__" (defArgs s_Cell___init__) (defBody s_Cell___init__) (defScope s_Cell___init__) .none kV_Cell___init__ dc_Cell___init__ pm_Cell___init__ an_Cell___init__ cd_Cell___init__ ct_Cell___init__), sl_Cell___init__⟩)
    (q_Cell___init__ : PySem.W.codeIn K cd_Cell___init__ "Cell.__init__" = true)
    (p_Cell___init__ : PySem.W.keepIn K (.ref f_Cell___init__) = true)
    (a_Cell___eq__ : PySem.W.findIn K (.ref c_Cell) "__eq__" = some (some (.ref f_Cell___eq__)))
    (i_Cell___eq__ : PySem.W.isFn K (.ref f_Cell___eq__) = true)
    (l_Cell___eq__ : K.lookup f_Cell___eq__ = some ⟨oc_Cell___eq__, od_Cell___eq__, .func (PySem.W.fnOf "__eq__" "Cell.__eq__" (defArgs s_Cell___eq__) (defBody s_Cell___eq__) (defScope s_Cell___eq__) .none kV_Cell___eq__ dc_Cell___eq__ pm_Cell___eq__ an_Cell___eq__ cd_Cell___eq__ ct_Cell___eq__), sl_Cell___eq__⟩)
    (q_Cell___eq__ : PySem.W.codeIn K cd_Cell___eq__ "Cell.__eq__" = true)
    (p_Cell___eq__ : PySem.W.keepIn K (.ref f_Cell___eq__) = true)
    (a_copies : PySem.W.nsIn K mainGlobals "copies" = some (some (.ref f_copies)))
    (l_copies : K.lookup f_copies = some ⟨oc_copies, od_copies, .func (PySem.W.fnOf "copies" "copies" (defArgs s_copies) (defBody s_copies) (defScope s_copies) .none kV_copies dc_copies pm_copies an_copies cd_copies ct_copies), sl_copies⟩)
    (q_copies : PySem.W.codeIn K cd_copies "copies" = true)
    (p_copies : PySem.W.keepIn K (.ref f_copies) = true)
    (a_law_hand : PySem.W.nsIn K mainGlobals "_law_hand" = some (some (.ref f_law_hand)))
    (l_law_hand : K.lookup f_law_hand = some ⟨oc_law_hand, od_law_hand, .func (PySem.W.fnOf "_law_hand" "_law_hand" (defArgs s_law_hand) (defBody s_law_hand) (defScope s_law_hand) .none kV_law_hand dc_law_hand pm_law_hand an_law_hand cd_law_hand ct_law_hand), sl_law_hand⟩)
    (q_law_hand : PySem.W.codeIn K cd_law_hand "_law_hand" = true)
    (p_law_hand : PySem.W.keepIn K (.ref f_law_hand) = true)
    (a_law_draw : PySem.W.nsIn K mainGlobals "_law_draw" = some (some (.ref f_law_draw)))
    (l_law_draw : K.lookup f_law_draw = some ⟨oc_law_draw, od_law_draw, .func (PySem.W.fnOf "_law_draw" "_law_draw" (defArgs s_law_draw) (defBody s_law_draw) (defScope s_law_draw) .none kV_law_draw dc_law_draw pm_law_draw an_law_draw cd_law_draw ct_law_draw), sl_law_draw⟩)
    (q_law_draw : PySem.W.codeIn K cd_law_draw "_law_draw" = true)
    (p_law_draw : PySem.W.keepIn K (.ref f_law_draw) = true)
    (a_law_any : PySem.W.nsIn K mainGlobals "_law_any" = some (some (.ref f_law_any)))
    (l_law_any : K.lookup f_law_any = some ⟨oc_law_any, od_law_any, .func (PySem.W.fnOf "_law_any" "_law_any" (defArgs s_law_any) (defBody s_law_any) (defScope s_law_any) .none kV_law_any dc_law_any pm_law_any an_law_any cd_law_any ct_law_any), sl_law_any⟩)
    (q_law_any : PySem.W.codeIn K cd_law_any "_law_any" = true)
    (p_law_any : PySem.W.keepIn K (.ref f_law_any) = true)
    (a_law_is_int : PySem.W.nsIn K mainGlobals "_law_is_int" = some (some (.ref f_law_is_int)))
    (l_law_is_int : K.lookup f_law_is_int = some ⟨oc_law_is_int, od_law_is_int, .func (PySem.W.fnOf "_law_is_int" "_law_is_int" (defArgs s_law_is_int) (defBody s_law_is_int) (defScope s_law_is_int) .none kV_law_is_int dc_law_is_int pm_law_is_int an_law_is_int cd_law_is_int ct_law_is_int), sl_law_is_int⟩)
    (q_law_is_int : PySem.W.codeIn K cd_law_is_int "_law_is_int" = true)
    (p_law_is_int : PySem.W.keepIn K (.ref f_law_is_int) = true)
    (a_law_deep : PySem.W.nsIn K mainGlobals "_law_deep" = some (some (.ref f_law_deep)))
    (l_law_deep : K.lookup f_law_deep = some ⟨oc_law_deep, od_law_deep, .func (PySem.W.fnOf "_law_deep" "_law_deep" (defArgs s_law_deep) (defBody s_law_deep) (defScope s_law_deep) .none kV_law_deep dc_law_deep pm_law_deep an_law_deep cd_law_deep ct_law_deep), sl_law_deep⟩)
    (q_law_deep : PySem.W.codeIn K cd_law_deep "_law_deep" = true)
    (p_law_deep : PySem.W.keepIn K (.ref f_law_deep) = true)
    (a_law_odd : PySem.W.nsIn K mainGlobals "_law_odd" = some (some (.ref f_law_odd)))
    (l_law_odd : K.lookup f_law_odd = some ⟨oc_law_odd, od_law_odd, .func (PySem.W.fnOf "_law_odd" "_law_odd" (defArgs s_law_odd) (defBody s_law_odd) (defScope s_law_odd) .none kV_law_odd dc_law_odd pm_law_odd an_law_odd cd_law_odd ct_law_odd), sl_law_odd⟩)
    (q_law_odd : PySem.W.codeIn K cd_law_odd "_law_odd" = true)
    (p_law_odd : PySem.W.keepIn K (.ref f_law_odd) = true)
    (a_law_is_lot : PySem.W.nsIn K mainGlobals "_law_is_lot" = some (some (.ref f_law_is_lot)))
    (l_law_is_lot : K.lookup f_law_is_lot = some ⟨oc_law_is_lot, od_law_is_lot, .func (PySem.W.fnOf "_law_is_lot" "_law_is_lot" (defArgs s_law_is_lot) (defBody s_law_is_lot) (defScope s_law_is_lot) .none kV_law_is_lot dc_law_is_lot pm_law_is_lot an_law_is_lot cd_law_is_lot ct_law_is_lot), sl_law_is_lot⟩)
    (q_law_is_lot : PySem.W.codeIn K cd_law_is_lot "_law_is_lot" = true)
    (p_law_is_lot : PySem.W.keepIn K (.ref f_law_is_lot) = true)
    (a_law_first : PySem.W.nsIn K mainGlobals "_law_first" = some (some (.ref f_law_first)))
    (l_law_first : K.lookup f_law_first = some ⟨oc_law_first, od_law_first, .func (PySem.W.fnOf "_law_first" "_law_first" (defArgs s_law_first) (defBody s_law_first) (defScope s_law_first) .none kV_law_first dc_law_first pm_law_first an_law_first cd_law_first ct_law_first), sl_law_first⟩)
    (q_law_first : PySem.W.codeIn K cd_law_first "_law_first" = true)
    (p_law_first : PySem.W.keepIn K (.ref f_law_first) = true)
    (a_law_outs : PySem.W.nsIn K mainGlobals "_law_outs" = some (some (.ref f_law_outs)))
    (l_law_outs : K.lookup f_law_outs = some ⟨oc_law_outs, od_law_outs, .func (PySem.W.fnOf "_law_outs" "_law_outs" (defArgs s_law_outs) (defBody s_law_outs) (defScope s_law_outs) .none kV_law_outs dc_law_outs pm_law_outs an_law_outs cd_law_outs ct_law_outs), sl_law_outs⟩)
    (q_law_outs : PySem.W.codeIn K cd_law_outs "_law_outs" = true)
    (p_law_outs : PySem.W.keepIn K (.ref f_law_outs) = true)
    (a_law_parts : PySem.W.nsIn K mainGlobals "_law_parts" = some (some (.ref f_law_parts)))
    (l_law_parts : K.lookup f_law_parts = some ⟨oc_law_parts, od_law_parts, .func (PySem.W.fnOf "_law_parts" "_law_parts" (defArgs s_law_parts) (defBody s_law_parts) (defScope s_law_parts) .none kV_law_parts dc_law_parts pm_law_parts an_law_parts cd_law_parts ct_law_parts), sl_law_parts⟩)
    (q_law_parts : PySem.W.codeIn K cd_law_parts "_law_parts" = true)
    (p_law_parts : PySem.W.keepIn K (.ref f_law_parts) = true)
    (a_law_bent : PySem.W.nsIn K mainGlobals "_law_bent" = some (some (.ref f_law_bent)))
    (l_law_bent : K.lookup f_law_bent = some ⟨oc_law_bent, od_law_bent, .func (PySem.W.fnOf "_law_bent" "_law_bent" (defArgs s_law_bent) (defBody s_law_bent) (defScope s_law_bent) .none kV_law_bent dc_law_bent pm_law_bent an_law_bent cd_law_bent ct_law_bent), sl_law_bent⟩)
    (q_law_bent : PySem.W.codeIn K cd_law_bent "_law_bent" = true)
    (p_law_bent : PySem.W.keepIn K (.ref f_law_bent) = true)
    (a_law_bad : PySem.W.nsIn K mainGlobals "_law_bad" = some (some (.ref f_law_bad)))
    (l_law_bad : K.lookup f_law_bad = some ⟨oc_law_bad, od_law_bad, .func (PySem.W.fnOf "_law_bad" "_law_bad" (defArgs s_law_bad) (defBody s_law_bad) (defScope s_law_bad) .none kV_law_bad dc_law_bad pm_law_bad an_law_bad cd_law_bad ct_law_bad), sl_law_bad⟩)
    (q_law_bad : PySem.W.codeIn K cd_law_bad "_law_bad" = true)
    (p_law_bad : PySem.W.keepIn K (.ref f_law_bad) = true)
    (a_law_made : PySem.W.nsIn K mainGlobals "_law_made" = some (some (.ref f_law_made)))
    (l_law_made : K.lookup f_law_made = some ⟨oc_law_made, od_law_made, .func (PySem.W.fnOf "_law_made" "_law_made" (defArgs s_law_made) (defBody s_law_made) (defScope s_law_made) .none kV_law_made dc_law_made pm_law_made an_law_made cd_law_made ct_law_made), sl_law_made⟩)
    (q_law_made : PySem.W.codeIn K cd_law_made "_law_made" = true)
    (p_law_made : PySem.W.keepIn K (.ref f_law_made) = true)
    (a_law : PySem.W.nsIn K mainGlobals "law" = some (some (.ref f_law)))
    (l_law : K.lookup f_law = some ⟨oc_law, od_law, .func (PySem.W.fnOf "law" "law" (defArgs s_law) (defBody s_law) (defScope s_law) .none kV_law dc_law pm_law an_law cd_law ct_law), sl_law⟩)
    (q_law : PySem.W.codeIn K cd_law "law" = true)
    (p_law : PySem.W.keepIn K (.ref f_law) = true)
    (pg_Cell : PySem.W.plainGet K c_Cell Str.empty = true)
    (hd_Cell : PySem.W.hasDictIn K c_Cell = true)
    (po_Cell : PySem.W.plainOver K c_Cell = true)
    (sa_Cell : PySem.W.findIn K (.ref c_Cell) "__setattr__" = some (some (.builtin "object.__setattr__")))
    (mk_Cell : PySem.W.makesIn K c_Cell = true)
    (kc_Cell : PySem.W.keepIn K (.ref c_Cell) = true)
    (n_Cell_came_as : PySem.W.findIn K (.ref c_Cell) "came_as" = some none)
    (n_Cell_at_line : PySem.W.findIn K (.ref c_Cell) "at_line" = some none)
    (n_Cell_of_stream : PySem.W.findIn K (.ref c_Cell) "of_stream" = some none)
    (n_Cell_of_kind : PySem.W.findIn K (.ref c_Cell) "of_kind" = some none)
    (n_Cell_to_outs : PySem.W.findIn K (.ref c_Cell) "to_outs" = some none)
    (ne_Cell : PySem.W.findIn K (.ref c_Cell) "__ne__" = some (some (.builtin "object.__ne__")))
    (xt_BadCell : PySem.W.typeIn K (.ref f_BadCell___init__) = some (.type "function"))
    (nf_BadCell_part : PySem.W.findIn K (.ref c_BadCell) "part" = some none)
    (kp_BadCell : PySem.W.keepIn K (.ref c_BadCell) = true)
    (s_BadCell : PySem.W.subIn K (.ref c_BadCell) (.type "BaseException") = some true)
    (t_BadCell : PySem.W.typeIn K (.ref c_BadCell) = some (.type "type"))
    (e1_BadCell : PySem.W.findIn K (.ref c_BadCell) "__getattribute__" = some (some (.builtin "BaseException.__getattribute__")))
    (e2_BadCell : PySem.W.findIn K (.ref c_BadCell) "__getattr__" = some none)
    (e3_BadCell : PySem.W.hasDictIn K c_BadCell = true)
    (e4_BadCell : PySem.W.findIn K (.ref c_BadCell) "__class__" = some (some (.builtin "object.__class__")))
    (e5_BadCell : PySem.W.mroIn K c_BadCell (.type "object") = some true)
    (tt_Cell : PySem.W.typeIn K (.ref c_Cell) = some (.type "type"))
    (ci_Cell : PySem.W.findIn K (.ref c_Cell) "__class__" = some (some (.builtin "object.__class__")))
    (em_Cell : PySem.W.mroIn K c_Cell (.type "object") = some true)
    (en1 : PySem.W.specialIn K (.builtin "object.__class__") "__get__" = some (some (.builtin "getset_descriptor.__get__")))
    (en2 : PySem.W.takesIn K (.builtin "object.__class__") = some true)
    (oc_BadCell : ∃ nm q N bs bm sn sub ab col dd k0 k1 k2 k3 k5, List.lookup c_BadCell K = some (excClassObj nm q c_BadCell N bs bm true sn sub ab col dd k0 k1 k2 k3 k5 "ValueError.__new__") ∧ HandSPX.refsVE bm = true)
    (os_BadCell : PySem.W.findIn K (.ref c_BadCell) "__setattr__" = some (some (.builtin "object.__setattr__")))
    (su_Cell_int : PySem.W.subIn K (.ref c_Cell) (.type "int") = some false)
    (su_Cell_bool : PySem.W.subIn K (.ref c_Cell) (.type "bool") = some false)
    (su_Cell_tuple : PySem.W.subIn K (.ref c_Cell) (.type "tuple") = some false)
    (s_FabricError : PySem.W.subIn K (.ref c_FabricError) (.type "BaseException") = some true)
    (t_FabricError : PySem.W.typeIn K (.ref c_FabricError) = some (.type "type"))
    (e3_FabricError : PySem.W.hasDictIn K c_FabricError = true)
    (su_FabricError_FabricError : PySem.W.subIn K (.ref c_FabricError) (.ref c_FabricError) = some true)
    (su_BadCell_BadCell : PySem.W.subIn K (.ref c_BadCell) (.ref c_BadCell) = some true)
    (su_BadCell_ValueError : PySem.W.subIn K (.ref c_BadCell) (.type "ValueError") = some true)
    (su_BadCell_FabricError : PySem.W.subIn K (.ref c_BadCell) (.ref c_FabricError) = some true)
    (k_MOST_LINES : PySem.W.nsIn K mainGlobals "MOST_LINES" = some (some (.int 12 t_MOST_LINES)))
    (k_MOST_COPIES : PySem.W.nsIn K mainGlobals "MOST_COPIES" = some (some (.int 3 t_MOST_COPIES)))
    (k_STREAMS : PySem.W.nsIn K mainGlobals "STREAMS" = some (some (.int 100 t_STREAMS)))
    (k_KINDS : PySem.W.nsIn K mainGlobals "KINDS" = some (some (.int 8 t_KINDS)))
    (k_GREATEST_CELL : PySem.W.nsIn K mainGlobals "GREATEST_CELL" = some (some (.int 1000000000 t_GREATEST_CELL)))
    (z_ValueError : PySem.W.nsIn K mainGlobals "ValueError" = some none)
    (z_abs : PySem.W.nsIn K mainGlobals "abs" = some none)
    (z_all : PySem.W.nsIn K mainGlobals "all" = some none)
    (z_bool : PySem.W.nsIn K mainGlobals "bool" = some none)
    (z_int : PySem.W.nsIn K mainGlobals "int" = some none)
    (z_isinstance : PySem.W.nsIn K mainGlobals "isinstance" = some none)
    (z_len : PySem.W.nsIn K mainGlobals "len" = some none)
    (z_range : PySem.W.nsIn K mainGlobals "range" = some none)
    (z_repr : PySem.W.nsIn K mainGlobals "repr" = some none)
    (z_set : PySem.W.nsIn K mainGlobals "set" = some none)
    (z_sorted : PySem.W.nsIn K mainGlobals "sorted" = some none)
    (z_tuple : PySem.W.nsIn K mainGlobals "tuple" = some none)
    (z_zip : PySem.W.nsIn K mainGlobals "zip" = some none)
    : ∃ fd : FuncData, (∀ (s : Shared) (v : Value), BindsTo s fd ⟨[v], []⟩ [("_law_script", v)]) ∧ ∀ base : Heap, K.In base → base.Ns mainGlobals mg → GX.FnG l.prog w K mg base CX0 20 fa fd ["_law_script"] (spLaw K) :=
  end_mk (top_mk (l := l) (w := w) X G ac_Cell ac_FabricError ac_BadCell a_BadCell___init__ i_BadCell___init__ l_BadCell___init__ q_BadCell___init__ p_BadCell___init__ a_is_integer l_is_integer q_is_integer p_is_integer a_is_integer_from l_is_integer_from q_is_integer_from p_is_integer_from a_is_number_below l_is_number_below q_is_number_below p_is_number_below a_is_lot_below l_is_lot_below q_is_lot_below p_is_lot_below a_is_cell_number l_is_cell_number q_is_cell_number p_is_cell_number a_are_outs l_are_outs q_are_outs p_are_outs a_Cell___init__ i_Cell___init__ l_Cell___init__ q_Cell___init__ p_Cell___init__ a_Cell___eq__ i_Cell___eq__ l_Cell___eq__ q_Cell___eq__ p_Cell___eq__ a_copies l_copies q_copies p_copies a_law_hand l_law_hand q_law_hand p_law_hand a_law_draw l_law_draw q_law_draw p_law_draw a_law_any l_law_any q_law_any p_law_any a_law_is_int l_law_is_int q_law_is_int p_law_is_int a_law_deep l_law_deep q_law_deep p_law_deep a_law_odd l_law_odd q_law_odd p_law_odd a_law_is_lot l_law_is_lot q_law_is_lot p_law_is_lot a_law_first l_law_first q_law_first p_law_first a_law_outs l_law_outs q_law_outs p_law_outs a_law_parts l_law_parts q_law_parts p_law_parts a_law_bent l_law_bent q_law_bent p_law_bent a_law_bad l_law_bad q_law_bad p_law_bad a_law_made l_law_made q_law_made p_law_made a_law l_law q_law p_law pg_Cell hd_Cell po_Cell sa_Cell mk_Cell kc_Cell n_Cell_came_as n_Cell_at_line n_Cell_of_stream n_Cell_of_kind n_Cell_to_outs ne_Cell xt_BadCell nf_BadCell_part kp_BadCell s_BadCell t_BadCell e1_BadCell e2_BadCell e3_BadCell e4_BadCell e5_BadCell tt_Cell ci_Cell em_Cell en1 en2 oc_BadCell os_BadCell su_Cell_int su_Cell_bool su_Cell_tuple s_FabricError t_FabricError e3_FabricError su_FabricError_FabricError su_BadCell_BadCell su_BadCell_ValueError su_BadCell_FabricError k_MOST_LINES k_MOST_COPIES k_STREAMS k_KINDS k_GREATEST_CELL z_ValueError z_abs z_all z_bool z_int z_isinstance z_len z_range z_repr z_set z_sorted z_tuple z_zip) hfa

end KX
open PySem PySem.W PyProof.Rows in
set_option maxRecDepth 100000 in
set_option maxHeartbeats 0 in
theorem PySem.Challenge.cw_exactbeats_k01_cells_judged_and_alike_holds : PySem.Challenge.rw_exactbeats_k01_cells_judged_and_alike.Holds := by
  w_on; o_law; k_head; (case hw => w_witness2)
  k_fill
  refine GX.walkG (l := PySem.Challenge.rw_exactbeats_k01_cells_judged_and_alike) (n := 63) (k := 20) (x := "_law_script") (sp := fun w => KX.spLaw _) rfl (by decide) rfl ⟨rfl, by decide, by decide⟩ (fun w h Y => PySem.W.kIn_of Y) ?F (fun _ _ a ns hl _ hS => ⟨a, ns, rfl, hS, hl, fun _ => rfl⟩)
  case F =>
    intro w mg fa h KX_ G hmg
    refine' KX.top_end KX_ G hmg ?ac_Cell ?ac_FabricError ?ac_BadCell ?a_BadCell___init__ ?i_BadCell___init__ ?l_BadCell___init__ ?q_BadCell___init__ ?p_BadCell___init__ ?a_is_integer ?l_is_integer ?q_is_integer ?p_is_integer ?a_is_integer_from ?l_is_integer_from ?q_is_integer_from ?p_is_integer_from ?a_is_number_below ?l_is_number_below ?q_is_number_below ?p_is_number_below ?a_is_lot_below ?l_is_lot_below ?q_is_lot_below ?p_is_lot_below ?a_is_cell_number ?l_is_cell_number ?q_is_cell_number ?p_is_cell_number ?a_are_outs ?l_are_outs ?q_are_outs ?p_are_outs ?a_Cell___init__ ?i_Cell___init__ ?l_Cell___init__ ?q_Cell___init__ ?p_Cell___init__ ?a_Cell___eq__ ?i_Cell___eq__ ?l_Cell___eq__ ?q_Cell___eq__ ?p_Cell___eq__ ?a_copies ?l_copies ?q_copies ?p_copies ?a_law_hand ?l_law_hand ?q_law_hand ?p_law_hand ?a_law_draw ?l_law_draw ?q_law_draw ?p_law_draw ?a_law_any ?l_law_any ?q_law_any ?p_law_any ?a_law_is_int ?l_law_is_int ?q_law_is_int ?p_law_is_int ?a_law_deep ?l_law_deep ?q_law_deep ?p_law_deep ?a_law_odd ?l_law_odd ?q_law_odd ?p_law_odd ?a_law_is_lot ?l_law_is_lot ?q_law_is_lot ?p_law_is_lot ?a_law_first ?l_law_first ?q_law_first ?p_law_first ?a_law_outs ?l_law_outs ?q_law_outs ?p_law_outs ?a_law_parts ?l_law_parts ?q_law_parts ?p_law_parts ?a_law_bent ?l_law_bent ?q_law_bent ?p_law_bent ?a_law_bad ?l_law_bad ?q_law_bad ?p_law_bad ?a_law_made ?l_law_made ?q_law_made ?p_law_made ?a_law ?l_law ?q_law ?p_law ?pg_Cell ?hd_Cell ?po_Cell ?sa_Cell ?mk_Cell ?kc_Cell ?n_Cell_came_as ?n_Cell_at_line ?n_Cell_of_stream ?n_Cell_of_kind ?n_Cell_to_outs ?ne_Cell ?xt_BadCell ?nf_BadCell_part ?kp_BadCell ?s_BadCell ?t_BadCell ?e1_BadCell ?e2_BadCell ?e3_BadCell ?e4_BadCell ?e5_BadCell ?tt_Cell ?ci_Cell ?em_Cell ?en1 ?en2 ?oc_BadCell ?os_BadCell ?su_Cell_int ?su_Cell_bool ?su_Cell_tuple ?s_FabricError ?t_FabricError ?e3_FabricError ?su_FabricError_FabricError ?su_BadCell_BadCell ?su_BadCell_ValueError ?su_BadCell_FabricError ?k_MOST_LINES ?k_MOST_COPIES ?k_STREAMS ?k_KINDS ?k_GREATEST_CELL ?z_ValueError ?z_abs ?z_all ?z_bool ?z_int ?z_isinstance ?z_len ?z_range ?z_repr ?z_set ?z_sorted ?z_tuple ?z_zip
    (case ac_Cell => k_is)
    (case ac_FabricError => k_is)
    (case ac_BadCell => k_is)
    (case a_BadCell___init__ => k_is)
    (case i_BadCell___init__ => k_is)
    (case l_BadCell___init__ => k_is)
    (case q_BadCell___init__ => k_is)
    (case p_BadCell___init__ => k_is)
    (case a_is_integer => k_is)
    (case l_is_integer => k_is)
    (case q_is_integer => k_is)
    (case p_is_integer => k_is)
    (case a_is_integer_from => k_is)
    (case l_is_integer_from => k_is)
    (case q_is_integer_from => k_is)
    (case p_is_integer_from => k_is)
    (case a_is_number_below => k_is)
    (case l_is_number_below => k_is)
    (case q_is_number_below => k_is)
    (case p_is_number_below => k_is)
    (case a_is_lot_below => k_is)
    (case l_is_lot_below => k_is)
    (case q_is_lot_below => k_is)
    (case p_is_lot_below => k_is)
    (case a_is_cell_number => k_is)
    (case l_is_cell_number => k_is)
    (case q_is_cell_number => k_is)
    (case p_is_cell_number => k_is)
    (case a_are_outs => k_is)
    (case l_are_outs => k_is)
    (case q_are_outs => k_is)
    (case p_are_outs => k_is)
    (case a_Cell___init__ => k_is)
    (case i_Cell___init__ => k_is)
    (case l_Cell___init__ => k_is)
    (case q_Cell___init__ => k_is)
    (case p_Cell___init__ => k_is)
    (case a_Cell___eq__ => k_is)
    (case i_Cell___eq__ => k_is)
    (case l_Cell___eq__ => k_is)
    (case q_Cell___eq__ => k_is)
    (case p_Cell___eq__ => k_is)
    (case a_copies => k_is)
    (case l_copies => k_is)
    (case q_copies => k_is)
    (case p_copies => k_is)
    (case a_law_hand => k_is)
    (case l_law_hand => k_is)
    (case q_law_hand => k_is)
    (case p_law_hand => k_is)
    (case a_law_draw => k_is)
    (case l_law_draw => k_is)
    (case q_law_draw => k_is)
    (case p_law_draw => k_is)
    (case a_law_any => k_is)
    (case l_law_any => k_is)
    (case q_law_any => k_is)
    (case p_law_any => k_is)
    (case a_law_is_int => k_is)
    (case l_law_is_int => k_is)
    (case q_law_is_int => k_is)
    (case p_law_is_int => k_is)
    (case a_law_deep => k_is)
    (case l_law_deep => k_is)
    (case q_law_deep => k_is)
    (case p_law_deep => k_is)
    (case a_law_odd => k_is)
    (case l_law_odd => k_is)
    (case q_law_odd => k_is)
    (case p_law_odd => k_is)
    (case a_law_is_lot => k_is)
    (case l_law_is_lot => k_is)
    (case q_law_is_lot => k_is)
    (case p_law_is_lot => k_is)
    (case a_law_first => k_is)
    (case l_law_first => k_is)
    (case q_law_first => k_is)
    (case p_law_first => k_is)
    (case a_law_outs => k_is)
    (case l_law_outs => k_is)
    (case q_law_outs => k_is)
    (case p_law_outs => k_is)
    (case a_law_parts => k_is)
    (case l_law_parts => k_is)
    (case q_law_parts => k_is)
    (case p_law_parts => k_is)
    (case a_law_bent => k_is)
    (case l_law_bent => k_is)
    (case q_law_bent => k_is)
    (case p_law_bent => k_is)
    (case a_law_bad => k_is)
    (case l_law_bad => k_is)
    (case q_law_bad => k_is)
    (case p_law_bad => k_is)
    (case a_law_made => k_is)
    (case l_law_made => k_is)
    (case q_law_made => k_is)
    (case p_law_made => k_is)
    (case a_law => k_is)
    (case l_law => k_is)
    (case q_law => k_is)
    (case p_law => k_is)
    (case pg_Cell => k_is)
    (case hd_Cell => k_is)
    (case po_Cell => k_is)
    (case sa_Cell => k_is)
    (case mk_Cell => k_is)
    (case kc_Cell => k_is)
    (case n_Cell_came_as => k_is)
    (case n_Cell_at_line => k_is)
    (case n_Cell_of_stream => k_is)
    (case n_Cell_of_kind => k_is)
    (case n_Cell_to_outs => k_is)
    (case ne_Cell => k_is)
    (case xt_BadCell => k_is)
    (case nf_BadCell_part => k_is)
    (case kp_BadCell => k_is)
    (case s_BadCell => k_is)
    (case t_BadCell => k_is)
    (case e1_BadCell => k_is)
    (case e2_BadCell => k_is)
    (case e3_BadCell => k_is)
    (case e4_BadCell => k_is)
    (case e5_BadCell => k_is)
    (case tt_Cell => k_is)
    (case ci_Cell => k_is)
    (case em_Cell => k_is)
    (case en1 => k_is)
    (case en2 => k_is)
    (case oc_BadCell => exact ⟨_, _, _, _, _, _, _, _, _, _, _, _, _, _, _, rfl, by decide +kernel⟩)
    (case os_BadCell => k_is)
    (case su_Cell_int => k_is)
    (case su_Cell_bool => k_is)
    (case su_Cell_tuple => k_is)
    (case s_FabricError => k_is)
    (case t_FabricError => k_is)
    (case e3_FabricError => k_is)
    (case su_FabricError_FabricError => k_is)
    (case su_BadCell_BadCell => k_is)
    (case su_BadCell_ValueError => k_is)
    (case su_BadCell_FabricError => k_is)
    (case k_MOST_LINES => k_is)
    (case k_MOST_COPIES => k_is)
    (case k_STREAMS => k_is)
    (case k_KINDS => k_is)
    (case k_GREATEST_CELL => k_is)
    (case z_ValueError => k_is)
    (case z_abs => k_is)
    (case z_all => k_is)
    (case z_bool => k_is)
    (case z_int => k_is)
    (case z_isinstance => k_is)
    (case z_len => k_is)
    (case z_range => k_is)
    (case z_repr => k_is)
    (case z_set => k_is)
    (case z_sorted => k_is)
    (case z_tuple => k_is)
    (case z_zip => k_is)
