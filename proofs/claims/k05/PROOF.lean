import PyProof.Rows.All
import Wide.All
import OpenK.AllK
import Wide.FinOn
import HandS.ForMost
import HandS.IsInst
import HandS.More
import HandS.SetFor
import HandS.Evl
import HandS.Walk
import PyProof.Rows.CountFlat
import HandS.ForExc
import HandS.TryMany
import HandS.Small
import HandS.Style
import HandS.Lambda
import HandS.EndTab
import HandS.ExcIs
import KE.KNestM
import HandS.Zip
import HandS.TupAny
import HandS.Strs
import HandS.SortInts
import HandS.ExcInit
import HandS.ExcField
import KE.KExcIs
import KE.GoesMore
import PyProof.EnumMake
import PyProof.Draws
import PySem.Challenge.RW_exactbeats_k05_whole_lives_of_ideal_outp
set_option Elab.async false
set_option linter.all false
set_option maxRecDepth 100000
set_option maxHeartbeats 4000000
/-! Rules that the layer lacks: an own exception made without arguments; what a lambda's call may raise. -/
namespace GX
open PySem PySem.Spec PyProof.Rows L2
section
variable {X : Cx}
/-- X(): an own exception class without an __init__ of its own, no argument -/
theorem pmk_own0 {C : Addr} {bmB : List Value} {B newId initId : String} {x : Str} {p pos : Pos} (FB : ExcBaseFacts B newId initId bmB) (hx : PySem.W.excIn X.K C bmB newId = true) (hm : X.mg x = some (.ref C)) (hk : PySem.W.keepIn X.K (.ref C) = true)
    (hR : Raises X (.ref C)) (hg : Gl X x) (hdb : (x == ("__debug__" : Str)) = false := by decide) : PMk X (.Call (.Name x p) [] [] pos) (fun _ H Q => Q (.ref C) none H) := by
  intro pins s σ H Q I h
  refine wpAny_Call_Name_kw (ld_glob I hg hm (PySem.W.callWith_K0 I.kIn hk ?_) hdb)
  obtain ⟨bm, N, nm, qn, bs, hdct, sn, sub, ab, col, dd, k0, k1, k2, k3, k5, mN, e1, e2, e3, tail⟩ := exc_obj I.kIn hx
  refine wpAny_call_exc_subT (rest := [] ++ []) FB tail e1 e2 e3 (fun h' e made => ?_)
  refine mk_of I made hR h ?_
  -- the new address is tracked by nothing
  cases q : H e with
  | none => rfl
  | some o =>
    have z := made.new
    obtain ⟨b, hb⟩ := objOk_get (I.hok e o q)
    rw [hb] at z
    cases z
/-- raising calls within a def's own body (or a lambda's) -/
theorem passX {E : XK} (h1 : X.stack = X.env :: X.outer) (h2 : X.env.frame = some X.env.locals) (h3 : X.ex = []) {E₁ : Value → Shared → Prop}
    (h4 : X.xe = fun e s' => wpAny (model X.prog X.w) X.A (leaving X.env e) (fun _ s'' => L2.CX X.prog X.w X.outer X.H_0 X.s_0 E e s'') E₁ s') : Passes (L2.CX X.prog X.w) X E :=
  passes_call (takes_of h1 h2 h3 h4) fun _ _ _ _ h => h
theorem takes_len {W : WX} (h : Takes X W) : Takes X (fun cls d σ H => σ.length = X.N.length → W cls d σ H) := fun u s' z => by
  obtain ⟨a, B, sI, pins, σ, H, cls, d, e1, I, r1, r2, r3, r4, r5, r6, r7⟩ := z
  exact h u s' ⟨a, B, sI, pins, σ, H, cls, d, e1, I, r1, r2, r3, r4, r5, r6, r7 I.len⟩
theorem call_isEg {a : Addr} {cls : Value} {d : Option Addr} {oe : Obj} {pn : List (Addr × Obj)} (hz : Zc cls d oe) (hf : ∃ vs, oe.data = Data.fields vs) :
    CallR (X.suite a ((a, oe) :: pn)) (.builtin "isinstance") (fun xs H Q => ∃ D, cls = .ref D ∧ d = none ∧ ExcC X.K D ∧ rIsE X.K D a xs H Q) := by
  intro pins s σ H xs us Q I r h
  obtain ⟨D, rfl, rfl, hE, h⟩ := h
  exact call_isE hE hz hf pins s σ H xs us Q I r h
/-- isinstance(e, c), e the error that the suite holds, with fields or without -/
theorem call_isEa {a : Addr} {cls : Value} {d : Option Addr} {oe : Obj} {pn : List (Addr × Obj)} (hz : Zc cls d oe) (hf : ∃ vs, oe.data = Data.fields vs) :
    CallR (X.suite a ((a, oe) :: pn)) (.builtin "isinstance") (fun xs H Q => ∃ D, cls = .ref D ∧ ExcC X.K D ∧ (d = none ∨ ∃ dd fs, d = some dd ∧ H dd = some (.xd fs)) ∧ rIsE X.K D a xs H Q) := by
  intro pins s σ H xs us Q I r h
  obtain ⟨D, rfl, C, hd, c, cv, b, rfl, hcv, e, q⟩ := h
  obtain ⟨u, u2, rfl, ru, ru2⟩ := r.two
  cases (show u = Value.ref a from ru)
  cases hcv _ ru2
  obtain ⟨there, _⟩ := I.pin (a, oe) (List.mem_append.mpr (.inl List.mem_cons_self))
  obtain ⟨vs, hv⟩ := hf
  have nc : PySem.W.notCls oe = true := by
    unfold PySem.W.notCls
    rw [hv]
  have od : ∃ od, PySem.W.InstAt s.heap a oe D od := by
    rcases hd with e1 | ⟨dd, fs, e1, e2⟩
    · subst e1
      exact ⟨none, there, hz.1, nc, by rw [hz.2]; trivial⟩
    · subst e1
      obtain ⟨mA, hns, _⟩ : ObjOk X.prog X.w H s.heap dd (.xd fs) := I.hok dd _ e2
      obtain ⟨od, ho, _⟩ := lookIn_ns hns
      exact ⟨some od, there, hz.1, nc, by rw [hz.2]; exact ho⟩
  obtain ⟨od, J⟩ := od
  have isC : (PySem.W.clsIn X.K D).isSome = true := by
    obtain ⟨cd, hc, _⟩ := PySem.W.any_some C.hd
    rw [hc] <;> rfl
  exact PySem.W.kia_one (PySem.W.kitx_exc isC C.hg C.hk C.hs C.ha C.hn C.ht C.hm) I.kIn J e (fun z => nomatch z) fun tk => ⟨.bl b, H, I.kept (t' := tk) fun _ _ z => z, rfl, q⟩
theorem exm_kit {K : PySem.W.Frag} {t c : Value} {b : Bool} (h : PySem.W.exmOne K t c = some b) : PySem.W.kitCls K t c = some b := by
  unfold PySem.W.exmOne at h
  split at h
  · exact h
  · cases h
theorem kit_yes {K : PySem.W.Frag} {t c : Value} (h : PySem.W.exmOne K t c = some true) : PySem.W.kitOne K t c = some true := by
  unfold PySem.W.kitOne
  split
  · rfl
  · exact exm_kit h
theorem kit_no {K : PySem.W.Frag} {D C : Addr} (h : PySem.W.exmOne K (.ref D) (.ref C) = some false) (self : PySem.W.subIn K (.ref C) (.ref C) = some true) (no : PySem.W.subIn K (.ref D) (.ref C) = some false) : PySem.W.kitOne K (.ref D) (.ref C) = some false := by
  unfold PySem.W.kitOne
  split
  · rename_i e
    have e2 : (Value.ref D) = .ref C := eq_of_beq e
    rw [e2, self] at no
    cases no
  · exact exm_kit h
theorem kit_bi {K : PySem.W.Frag} {D : Addr} {T : String} {b : Bool} (m : PySem.W.kitMeta T = true) (h : PySem.W.subIn K (.ref D) (.type T) = some b) : PySem.W.kitOne K (.ref D) (.type T) = some b := by
  unfold PySem.W.kitOne
  split
  · rename_i e
    have e2 : (Value.ref D) = .type T := eq_of_beq e
    cases e2
  · show (if PySem.W.kitMeta T = true then PySem.W.subIn K (.ref D) (.type T) else none) = some b
    rw [if_pos m]
    exact h
/-- a def of the text whose code is known -/
structure FunC (K : PySem.W.Frag) (x qual : Str) (st : Stmt) (f : Addr) (fd : FuncData) (c : Addr) : Prop where
  ex : ∃ oc od kV doc pm an ct osl, fd = PySem.W.fnOf x qual (defArgs st) (defBody st) (defScope st) .none kV doc pm an (.ref c) ct ∧ K.lookup f = some ⟨oc, od, .func fd, osl⟩ ∧ PySem.W.codeIn K (.ref c) qual = true
theorem FunC.ok {P : Program} {w : World} {K : PySem.W.Frag} {mg : Str → Option Value} {base : Heap} {x qual : Str} {st : Stmt} {f c : Addr} {fd : FuncData} {N ps : List Str} {k : Nat} {sp : Sp} (F : FunC K x qual st f fd c) (S : FnScope N ps (defScope st))
    (len : ∀ vs H Q E, sp vs H Q E → vs.length = ps.length)
    (hb : ∀ (A : Around) (outer : List Env) (s : Shared) (H : Hp) (vs : List V) (Q : VK) (E : XK), Room k (A.deeper (envOfC qual (defScope st) s.heap.objs.size f (.ref c))) → sp vs H Q E →
      ∃ t, PSs (cxOf L2.CX0 P w K mg base N qual (defScope st) f (.ref c) A outer s H E).nox (defBody st) t ∧ t { nx := fun _ H' => Q .non H', rt := Q } (L2.start N vs) H) : FnOk P w K mg base L2.CX0 (k + 1) f fd ps sp := by
  obtain ⟨oc, od, kV, doc, pm, an, ct, osl, rfl, lk, hcd⟩ := F.ex
  refine fn_of lk hcd S len fun A outer s H vs Q E hr h => ?_
  obtain ⟨t, h1, h2⟩ := hb A outer s H vs Q E hr h
  exact ⟨t, h1.nox, h2⟩
def tTru (K : PySem.W.Frag) (ta : TE) : L2.St → Hp → (Bool → Hp → Prop) → Prop := fun σ H Q => ta σ H fun x H' => ∃ k, TruV K x H' k ∧ Q k H'
def WL (n : Nat) (W : WX) : WX := fun cls d σ H => σ.length = n → W cls d σ H
def EE (n : Nat) (W : WX) : XK := fun cls d H => ∀ σ : L2.St, σ.length = n → W cls d σ H
/-- raising calls within a try's body -/
theorem passT (n : Nat) {W : WX} (tk : Takes X W) (hn : X.N.length = n := by rfl) : Passes (L2.CX X.prog X.w) X (EE n W) := passes_call (takes_len tk) fun cls d σ H h hl => h σ (hl.trans hn)
/-- f(lambda: e) -/
theorem pe_lam {T : List (Addr × Str)} {TT : (XK → Hp → VK → Prop) → Hp → VK → Prop} {x a : Str} {g c P : Addr} {fd : FuncData} {k : Nat} {st : Stmt} {Ng : List Str} {params : Arguments} {body : Expr} {scope : Scope} {t : XK → TE} {p lpos pos : Pos}
    (F : Fun X.K x x st g fd) (Sg : FnScope Ng [a] (defScope st)) (hg : Gl X x) (hm : X.mg x = some (.ref g)) (hb : Binds X.K fd [a] []) (hNg : Ng[0]? = some a) (hva : Vis (defScope st) a)
    (hG : ∀ cdv, LamX.GivesTo X Ng x (defScope st) g cdv (defBody st) a (X.env.qual ++ "<lambda>") TT) (TB : LamX.TabB X.base X.mg c P) (hcode : X.env.code = .ref c) (hmT : (P, X.env.qual ++ "<lambda>") ∈ T)
    (hu : ∀ p ∈ T, p.1 = P → p.2 = X.env.qual ++ "<lambda>") (hr : Room (k + 2) X.A) (L : LamX.LamS X.env.scope scope) (hdef : defaultsOf params X.env = ([], []))
    (hbind : ∀ (q : Str) (cl : List (Str × Addr)) (pm cv ctv : Value), bindArgs (PySem.W.kla_fn "<lambda>" q params body scope cl pm cv ctv) ⟨[], []⟩ = pure [])
    (hbody : ∀ (A : Around) (outer : List Env) (s : Shared) (H : Hp) (E : XK) (f c' : Addr), Room k (A.deeper (LamX.lamEnv X scope s.heap.objs.size f c')) → PE (LamX.lamCx X A outer s H E scope f c') body (t E))
    (h1 : (x == ("__debug__" : Str)) = false := by decide) (h2 : (a == ("__debug__" : Str)) = false := by decide) (h3 : (a == ("__classdict__" : Str)) = false := by decide) :
    PE X (.Call (.Name x p) [.Lambda params body scope lpos] [] pos) (LamX.tLam T TT t) := by
  obtain ⟨oc, od, kV, doc, pm, an, cdv, ct, osl, rfl, lk, hcd⟩ := F.ex
  exact LamX.pe_lamcall hg hm F.kp lk hcd hb Sg hNg hva (hG cdv) TB hcode hmT hu hr L hdef hbind hbody h1 h2 h3
end
end GX
namespace KX
open PySem PySem.Spec PyProof.Rows L2
section
variable {X : Cx}
/-- xs.count(True), xs a list of bools -/
def rCntB (K : PySem.W.Frag) : V → List V → Hp → VK → Prop := fun x xs H Q => ∃ (p : Addr) (bs : List Bool) (k : Bool), x = .ref p ∧ xs = [.bl k] ∧ SqL K H p (bs.map V.bl) ∧ Q (.int (bs.countP (fun b => b == k) : Nat)) H
theorem bools_of : ∀ {bs : List Bool} {its : List Value}, Vals (bs.map V.bl) its → its = bs.map Value.bool
  | [], _, .nil => rfl
  | b :: bs, _, .cons r t => by
    cases (show _ = Value.bool b from r)
    rw [bools_of t]
    rfl
theorem mt_count_bl : MtR X "list.count" (rCntB X.K) := by
  intro pins s σ H x xs v us Q I rx rxs h
  obtain ⟨p, bs, k, rfl, rfl, hs, q⟩ := h
  cases rx
  obtain ⟨u, rfl, ru⟩ := rxs.one
  cases (show u = Value.bool k from ru)
  obtain ⟨its, rv, ⟨⟨cls, dd, data, sl⟩, n, ho, hc, hdn, hd⟩, hlen⟩ := I.list hs
  simp only at hc hd
  subst hc hd
  have hi := bools_of rv
  refine call_meets PySem.F.slot_list_count ⟨_, ho, rfl⟩ PySem.F.entry_list_count (PySem.F.args_list_count_2 _ _)
    (SeqAt.list_countAt p its.toArray n dd sl (.bool k) (isBoolOf k)) ⟨ho, fun y hy => ?_, ?_⟩
  · have hy' : y ∈ its := by simpa using hy
    rw [hi] at hy'
    obtain ⟨b, _, rfl⟩ := List.mem_map.mp hy'
    exact PySem.SeqAt.EqAt.bool_bool b k
  · have ec : its.toArray.toList.countP (isBoolOf k) = bs.countP (fun b => b == k) := by
      show its.countP (isBoolOf k) = _
      rw [hi, List.countP_map]
      rfl
    refine ⟨.int (bs.countP (fun b => b == k) : Nat), H, I.tok _, ⟨s.toks, ?_⟩, q⟩
    show Value.int ((its.toArray.toList.countP (isBoolOf k) : Nat) : Int) s.toks = _
    rw [ec]
end
end KX

/-! try: .. with any number of clauses, each naming one class, with `as` or without. -/
namespace GT
open PySem PySem.Spec PyProof.Rows L2
abbrev Suite := Addr → Value → Option Addr → TS
/-- what holds behind a suite: the clause's name is gone -/
def asEnds (D : Ends) : Option Nat → Ends
  | none => D
  | some i => { nx := fun σ' H' => D.nx (σ'.set i none) H', rt := D.rt, bk := fun σ' H' => D.bk (σ'.set i none) H', ct := fun σ' H' => D.ct (σ'.set i none) H' }
def asSt (σ : L2.St) (a : Addr) : Option Nat → L2.St
  | none => σ
  | some i => σ.set i (some (.ref a))
inductive Hds (X : Cx) : List ExceptHandler → List (Value × Option Nat × Suite) → Prop
  | nil : Hds X [] []
  | only {x : Str} {c : Value} {ts : Suite} {b₀ : Stmt} {suite : List Stmt} {np pos' : Pos} {hds : List ExceptHandler} {l : List (Value × Option Nat × Suite)} (hc : Gl X x) (hd : (x == ("__debug__" : Str)) = false) (hm : X.mg x = some c)
      (hs : ∀ (a : Addr) (oe : Obj) (cls : Value) (d : Option Addr) (pn : List (Addr × Obj)), Zc cls d oe → (∃ vs, oe.data = .fields vs) → PSs (X.suite a ((a, oe) :: pn)) (b₀ :: suite) (ts a cls d)) (rest : Hds X hds l) :
      Hds X (.ExceptHandler (some (.Name x np)) none (b₀ :: suite) pos' :: hds) ((c, none, ts) :: l)
  | as_ {x n : Str} {c : Value} {i : Nat} {ts : Suite} {b₀ : Stmt} {suite : List Stmt} {np pos' : Pos} {hds : List ExceptHandler} {l : List (Value × Option Nat × Suite)} (hc : Gl X x) (hd : (x == ("__debug__" : Str)) = false) (hm : X.mg x = some c)
      (hi : X.N[i]? = some n) (hn : X.env.kindOf n = some .local)
      (hs : ∀ (a : Addr) (oe : Obj) (cls : Value) (d : Option Addr) (pn : List (Addr × Obj)), Zc cls d oe → (∃ vs, oe.data = .fields vs) → PSs (X.suite a ((a, oe) :: pn)) (b₀ :: suite) (ts a cls d)) (rest : Hds X hds l) :
      Hds X (.ExceptHandler (some (.Name x np)) (some n) (b₀ :: suite) pos' :: hds) ((c, some i, ts) :: l)
def wHds (K : PySem.W.Frag) (Wout : WX) (D : Ends) : List (Value × Option Nat × Suite) → WX
  | [] => Wout
  | (c, oi, ts) :: l => fun cls d σ H => ∃ b, PySem.W.exmOne K cls c = some b ∧ (b = true → ∀ a, H a = none → ts a cls d (asEnds D oi) (asSt σ a oi) H) ∧ (b = false → wHds K Wout D l cls d σ H)
theorem ends_as {X : Cx} {pins : List (Addr × Obj)} {D : Ends} {f : Flow} {s : Shared} {a : Addr} {q : Addr × Obj} {pn' : List (Addr × Obj)} (ok : X.Ok) (h : SP (X.suite a (q :: (X.pn ++ pins))) pn' (asEnds D none) f s) : SP X pins D f s := by
  cases f with
  | ret u =>
    obtain ⟨v, σ', H', J, rv, k⟩ := h
    exact ⟨v, σ', H', J.unsuite ok, rv, k⟩
  | next =>
    obtain ⟨σ', H', J, k⟩ := h
    exact ⟨σ', H', J.unsuite ok, k⟩
  | brk =>
    obtain ⟨σ', H', J, k⟩ := h
    exact ⟨σ', H', J.unsuite ok, k⟩
  | cont =>
    obtain ⟨σ', H', J, k⟩ := h
    exact ⟨σ', H', J.unsuite ok, k⟩
section
variable {X : Cx}
structure Land (X : Cx) (pins : List (Addr × Obj)) (σ : L2.St) (B : Heap) (a : Addr) (cls : Value) (d : Option Addr) (sI : Shared) (H : Hp) (s : Shared) : Prop where
  I : Inv X pins σ H s
  fl : HandSPX.FlyingZ B X.stack a (Zc cls d) s.heap
  up : sI.heap.UpToSlots s.heap
  os : s.os = sI.os
  bare : AllBare s.gens
theorem not_env {pins : List (Addr × Obj)} {σ : L2.St} {H : Hp} {s : Shared} {a : Addr} {oe : Obj} {vs : Array Value} (I : Inv X pins σ H s) (e1 : s.heap.get? a = some oe) (e2 : oe.data = .fields vs) : a ≠ X.env.locals := fun z => by
  obtain ⟨m, ⟨o, es, ep, h1, h2, _⟩, _⟩ := I.loc
  rw [← z, e1] at h1
  cases h1
  rw [e2] at h2
  cases h2
theorem not_frs {B h : Heap} : ∀ {l : List Env} {a : Addr} {oe : Obj} {vs : Array Value}, h.FunFrames B l → h.get? a = some oe → oe.data = .fields vs → a ∉ frs l
  | [], _, _, _, _, _, _ => fun z => by cases z
  | env :: l, a, oe, vs, ff, e1, e2 => fun z => by
    rw [Heap.FunFrames.eq_2] at ff
    obtain ⟨_, ⟨L, o, f1, _, f3, f4⟩, f5⟩ := ff
    have z2 : a ∈ (env.frame.toList ++ frs l) := by
      unfold frs at z ⊢
      rw [List.filterMap_cons] at z
      rw [f1] at z ⊢
      exact z
    rw [f1] at z2
    rcases List.mem_cons.mp (show a ∈ L :: frs l from z2) with e | e
    · rw [e, f3] at e1
      cases e1
      exact f4 vs e2
    · exact not_frs f5 e1 e2 e
/-- an exception that landed: the clauses, one behind another -/
theorem handle {Wout : WX} {D : Ends} {pins : List (Addr × Obj)} {B : Heap} {a : Addr} {cls : Value} {d : Option Addr} {sI : Shared} {H : Hp} {σ : L2.St} (ok : X.Ok) (hs : X.stack = X.env :: X.outer) (hf : X.env.frame = some X.env.locals) (hN : X.N.Nodup) (tk : Takes X Wout)
    (ha : H a = none) (keep : ∀ (b : Addr) (o : Obj), sI.heap.get? b = some o → b ∉ frs X.stack → B.get? b = some o) (II : Inv X pins σ H sI) :
    ∀ {hds : List ExceptHandler} {l : List (Value × Option Nat × Suite)}, Hds X hds l → wHds X.K Wout D l cls d σ H → ∀ s : Shared, Land X pins σ B a cls d sI H s →
      wpAny (model X.prog X.w) X.A (handleBy (.ref a) X.env hds) (SP X pins D) X.xe s := by
  intro hds l hd
  have enter : ∀ {s : Shared}, Land X pins σ B a cls d sI H s → ∃ oe vs, s.heap.get? a = some oe ∧ Zc cls d oe ∧ oe.data = .fields vs ∧ ∀ {σ' : L2.St} {s' : Shared}, Inv X pins σ' H s' → s'.heap.get? a = some oe → Inv (X.suite a ((a, oe) :: (X.pn ++ pins))) [] σ' H s' := fun {s} L => by
    obtain ⟨oe, vs, e1, z, e2⟩ := L.fl.there
    have ff := L.fl.2.2.1
    rw [hs, Heap.FunFrames.eq_2] at ff
    exact ⟨oe, vs, e1, z, e2, fun I' e => I'.suite e e2 ha (not_env L.I e1 e2) (not_frs ff.2.2 e1 e2)⟩
  have look : ∀ {s : Shared} {c : Value} {b : Bool}, Land X pins σ B a cls d sI H s → PySem.W.exmOne X.K cls c = some b → PySem.W.Looks (model X.prog X.w) s.heap (excMatches (.ref a) c) b := fun {s c b} L eb => by
    obtain ⟨oe, vs, e1, z, e2, _⟩ := enter L
    exact PySem.W.exm_one L.I.kIn (fun A' Q' E' s' sub q => wpAny_typeOf_ref (sub _ _ e1) (by rw [z.1]; exact q)) eb
  have again : ∀ {s : Shared} {h' : Heap}, Land X pins σ B a cls d sI H s → HandSPX.FlyingZ B X.stack a (Zc cls d) h' → s.heap.UpToSlots h' → Land X pins σ B a cls d sI H { heap := h', gens := s.gens, drawn := s.drawn, toks := s.toks, os := s.os } := fun {s h'} L fl up =>
    ⟨II.landed keep fl.1 (L.up.trans up) L.os L.bare, fl, L.up.trans up, L.os, L.bare⟩
  induction hd with
  | nil =>
    intro hw s L
    refine wpAny_handleBy_nil ?_
    obtain ⟨st, bn, ff, oe, vs, T, oT, ts, e1, z, e2, e3, _⟩ := id L.fl
    unfold PySem.passOn
    refine wpAny_bind (wpAny_field e1 e2 e3 ?_)
    show wpAny _ _ (if (Value.ref T == Value.none) = true then _ else _) _ _ _
    rw [if_neg (fun h => by cases (eq_of_beq h))]
    refine wpAny_bind ?_
    rw [hf]
    exact HandSPX.setFlight_upZ L.fl fun h' held up2 => wpAny_throw (tk _ _ ⟨a, B, sI, pins, σ, H, cls, d, rfl, II, keep, L.up.trans up2, .inr (.inr held), ha, L.os, L.bare, hw⟩)
  | only hc hdb hm hsu rest ih =>
    intro hw s L
    obtain ⟨b, eb, hw1, hw2⟩ := hw
    obtain ⟨oe, vs, e1, z, e2, su⟩ := enter L
    refine wpAny_handleBy_cons ?_ (by intro h; cases h)
    refine codeAny_handlers_test (ld_glob (su L.I e1) hc hm ?_ hdb)
    refine look L eb _ _ _ _ (fun _ _ e => e) ?_
    cases b with
    | false => exact ih (hw2 rfl) s L
    | true =>
      refine codeAny_handlers_suite (HandSPX.lands_againZ L.fl fun h' fl' up' => ?_)
      have L' := again L fl' up'
      obtain ⟨oe', vs', e1', z', e2', su'⟩ := enter L'
      exact wpAny_mono ((hsu a oe' cls d (X.pn ++ pins) z' ⟨_, e2'⟩).run [] _ σ H D (su' L'.I e1') (hw1 rfl a ha)) (fun f s₂ q => ends_as ok q) fun _ _ q => q.elim
  | @as_ x n c i ts b₀ suite np pos' hds' l' hc hdb hm hi hn hsu rest ih =>
    intro hw s L
    obtain ⟨b, eb, hw1, hw2⟩ := hw
    obtain ⟨oe, vs, e1, z, e2, su⟩ := enter L
    refine wpAny_handleBy_cons ?_ (by intro h; cases h)
    refine codeAny_handlers_test (ld_glob (su L.I e1) hc hm ?_ hdb)
    refine look L eb _ _ _ _ (fun _ _ e => e) ?_
    cases b with
    | false => exact ih (hw2 rfl) s L
    | true =>
      refine codeAny_handlers_suite_as (HandSPX.lands_againZ L.fl fun h' fl' up' => ?_)
      have L' := again L fl' up'
      obtain ⟨oe', vs', e1', z', e2', su'⟩ := enter L'
      refine store_ok2 L'.I hN hi (.inl hn) (show RelV (.ref a) (.ref a) from rfl) (fun s'' J sb => ?_) (.inr hn)
      have e3 : s''.heap.get? a = some oe' := by
        obtain ⟨a2, sb, hor⟩ := sb
        have ne : a ≠ a2 := by
          rcases hor with e | e
          · rw [e]
            exact not_env L'.I e1' e2'
          · intro e3
            obtain ⟨v, o, c1, c2⟩ := L'.I.cell _ _ e
            rw [← e3] at c1
            have c3 : some oe' = some o := e1'.symm.trans c1
            cases c3
            rw [e2'] at c2
            cases c2
        rw [sb.2 a ne]
        exact e1'
      refine wpAny_mono ((hsu a oe' cls d (X.pn ++ pins) z' ⟨_, e2'⟩).run [] _ (σ.set i (some (.ref a))) H (asEnds D (some i)) (su' J e3) (hw1 rfl a ha)) (fun f s₂ q => ?_) fun _ _ q => q.elim
      cases f with
      | ret u =>
        obtain ⟨v, σ', H', J', rv, k⟩ := q
        exact gone_ok (J'.unsuite ok) hN hi hn fun s3 J3 => ⟨v, _, H', J3, rv, k⟩
      | next =>
        obtain ⟨σ', H', J', k⟩ := q
        exact gone_ok (J'.unsuite ok) hN hi hn fun s3 J3 => ⟨_, H', J3, k⟩
      | brk =>
        obtain ⟨σ', H', J', k⟩ := q
        exact gone_ok (J'.unsuite ok) hN hi hn fun s3 J3 => ⟨_, H', J3, k⟩
      | cont =>
        obtain ⟨σ', H', J', k⟩ := q
        exact gone_ok (J'.unsuite ok) hN hi hn fun s3 J3 => ⟨_, H', J3, k⟩
/-- try: body except A as x: .. except B: .. -/
theorem ps_try_g {body : List Stmt} {h₀ : ExceptHandler} {hds : List ExceptHandler} {l : List (Value × Option Nat × Suite)} {pos : Pos} {tb : WX → TS} {Wout : WX} (hs : X.stack = X.env :: X.outer) (hf : X.env.frame = some X.env.locals) (hN : X.N.Nodup) (tk : Takes X Wout)
    (hb : ∀ (W : WX) (pn : List (Addr × Obj)) (xe : Value → Shared → Prop), Takes (X.tr pn xe) W → PassesOwn (model X.prog X.w) X.A X.env xe → PSs (X.tr pn xe) body (tb W)) (hh : Hds X (h₀ :: hds) l) :
    PS X (.Try body (h₀ :: hds) [] [] pos) (fun D σ H => tb (wHds X.K Wout D l) D σ H) := by
  refine ⟨fun pins s σ H D I h => ?_⟩
  have ok := I.ok
  refine wpAny_Try_except ?_
  have fr : X.A.frames = some (X.env :: X.outer) := by
    rw [ok.frames, hs]
  have tkW : Takes (X.tr (X.pn ++ pins) (fun e s₁ => wpAny (model X.prog X.w) X.A (noteFrame e X.env) (fun _ s₂ => wpAny (model X.prog X.w) X.A (setFlight e none) (fun _ s₃ => wpAny (model X.prog X.w) X.A (handleBy e X.env (h₀ :: hds)) (SP X pins D) X.xe s₃) X.xe s₂) X.xe s₁)) (wHds X.K Wout D l) := fun u s' z => by
    obtain ⟨a, B, sI, pn', σ', H', cls, d, rfl, I', keep, up, sky, ha, os, bare, hw⟩ := z
    have II : Inv X pins σ' H' sI := I'.ofTry ok
    have sky' : Sky B (X.env :: X.outer) a (Zc cls d) X.env.locals s'.heap := by
      rw [← hs]
      exact sky
    refine Sky.land Zc.steady fr hf sky' fun h' fl up2 => ?_
    rw [← hs] at fl
    exact handle ok hs hf hN tk ha keep II hh hw _ ⟨II.landed keep fl.1 (up.trans up2) os bare, fl, up.trans up2, os, bare⟩
  refine wpAny_mono ((hb _ (X.pn ++ pins) _ tkW PassesOwn.looking).run [] s σ H D (I.toTry _) h) (fun f s1 q => ?_) fun e s1 q => q
  cases f with
  | ret u =>
    obtain ⟨v, σ', H', J, rv, k⟩ := q
    exact ⟨v, σ', H', J.ofTry ok, rv, k⟩
  | next =>
    obtain ⟨σ', H', J, k⟩ := q
    exact (pss_nil (X := X)).run pins s1 σ' H' D (J.ofTry ok) k
  | brk =>
    obtain ⟨σ', H', J, k⟩ := q
    exact ⟨σ', H', J.ofTry ok, k⟩
  | cont =>
    obtain ⟨σ', H', J, k⟩ := q
    exact ⟨σ', H', J.ofTry ok, k⟩
end
end GT

namespace KX
open PySem L2
/-! ### the text by places -/
def top (i : Nat) : Stmt := PySem.Challenge.pw_exactbeats_k05_whole_lives_of_ideal_outp.main.body.getD i (.Pass ⟨0, 0, 0, 0⟩)
abbrev s_is_integer : Stmt := top 8
abbrev N_is_integer : List Str := ["thing"]
abbrev P_is_integer : List Str := ["thing"]
theorem sc_is_integer : FnScope N_is_integer P_is_integer (defScope s_is_integer) := ⟨rfl, rfl, rfl, by decide +kernel, rfl, by decide +kernel, by decide +kernel⟩
abbrev s_is_integer_from : Stmt := top 9
abbrev N_is_integer_from : List Str := ["least", "greatest", "thing"]
abbrev P_is_integer_from : List Str := ["least", "greatest", "thing"]
theorem sc_is_integer_from : FnScope N_is_integer_from P_is_integer_from (defScope s_is_integer_from) := ⟨rfl, rfl, rfl, by decide +kernel, rfl, by decide +kernel, by decide +kernel⟩
abbrev s_is_number_below : Stmt := top 10
abbrev N_is_number_below : List Str := ["bound", "thing"]
abbrev P_is_number_below : List Str := ["bound", "thing"]
theorem sc_is_number_below : FnScope N_is_number_below P_is_number_below (defScope s_is_number_below) := ⟨rfl, rfl, rfl, by decide +kernel, rfl, by decide +kernel, by decide +kernel⟩
abbrev s_is_tuple_of : Stmt := top 11
abbrev N_is_tuple_of : List Str := ["many", "thing"]
abbrev P_is_tuple_of : List Str := ["many", "thing"]
theorem sc_is_tuple_of : FnScope N_is_tuple_of P_is_tuple_of (defScope s_is_tuple_of) := ⟨rfl, rfl, rfl, by decide +kernel, rfl, by decide +kernel, by decide +kernel⟩
abbrev s_check_lines : Stmt := top 15
abbrev N_check_lines : List Str := ["lines"]
abbrev P_check_lines : List Str := ["lines"]
theorem sc_check_lines : FnScope N_check_lines P_check_lines (defScope s_check_lines) := ⟨rfl, rfl, rfl, by decide +kernel, rfl, by decide +kernel, by decide +kernel⟩
abbrev s_is_cell_number : Stmt := top 16
abbrev N_is_cell_number : List Str := ["thing"]
abbrev P_is_cell_number : List Str := ["thing"]
theorem sc_is_cell_number : FnScope N_is_cell_number P_is_cell_number (defScope s_is_cell_number) := ⟨rfl, rfl, rfl, by decide +kernel, rfl, by decide +kernel, by decide +kernel⟩
abbrev s_is_rank : Stmt := top 19
abbrev N_is_rank : List Str := ["thing"]
abbrev P_is_rank : List Str := ["thing"]
theorem sc_is_rank : FnScope N_is_rank P_is_rank (defScope s_is_rank) := ⟨rfl, rfl, rfl, by decide +kernel, rfl, by decide +kernel, by decide +kernel⟩
abbrev s_is_key : Stmt := top 20
abbrev N_is_key : List Str := ["thing"]
abbrev P_is_key : List Str := ["thing"]
theorem sc_is_key : FnScope N_is_key P_is_key (defScope s_is_key) := ⟨rfl, rfl, rfl, by decide +kernel, rfl, by decide +kernel, by decide +kernel⟩
abbrev s_check_key : Stmt := top 21
abbrev N_check_key : List Str := ["key"]
abbrev P_check_key : List Str := ["key"]
theorem sc_check_key : FnScope N_check_key P_check_key (defScope s_check_key) := ⟨rfl, rfl, rfl, by decide +kernel, rfl, by decide +kernel, by decide +kernel⟩
abbrev s_how_many_less : Stmt := top 22
abbrev N_how_many_less : List Str := ["keys", "key", "low", "high", "middle"]
abbrev P_how_many_less : List Str := ["keys", "key"]
theorem sc_how_many_less : FnScope N_how_many_less P_how_many_less (defScope s_how_many_less) := ⟨rfl, rfl, rfl, by decide +kernel, rfl, by decide +kernel, by decide +kernel⟩
abbrev s_Ideal___init__ : Stmt := inClass (top 23) 0
abbrev N_Ideal___init__ : List Str := ["self", "outputs", "_"]
abbrev P_Ideal___init__ : List Str := ["self", "outputs"]
theorem sc_Ideal___init__ : FnScope N_Ideal___init__ P_Ideal___init__ (defScope s_Ideal___init__) := ⟨rfl, rfl, rfl, by decide +kernel, rfl, by decide +kernel, by decide +kernel⟩
abbrev s_Ideal__row : Stmt := inClass (top 23) 1
abbrev N_Ideal__row : List Str := ["self", "output"]
abbrev P_Ideal__row : List Str := ["self", "output"]
theorem sc_Ideal__row : FnScope N_Ideal__row P_Ideal__row (defScope s_Ideal__row) := ⟨rfl, rfl, rfl, by decide +kernel, rfl, by decide +kernel, by decide +kernel⟩
abbrev s_Ideal_push : Stmt := inClass (top 23) 2
abbrev N_Ideal_push : List Str := ["self", "output", "key", "row", "_", "number"]
abbrev P_Ideal_push : List Str := ["self", "output", "key"]
theorem sc_Ideal_push : FnScope N_Ideal_push P_Ideal_push (defScope s_Ideal_push) := ⟨rfl, rfl, rfl, by decide +kernel, rfl, by decide +kernel, by decide +kernel⟩
abbrev s_Ideal_due : Stmt := inClass (top 23) 3
abbrev N_Ideal_due : List Str := ["self", "output", "row"]
abbrev P_Ideal_due : List Str := ["self", "output"]
theorem sc_Ideal_due : FnScope N_Ideal_due P_Ideal_due (defScope s_Ideal_due) := ⟨rfl, rfl, rfl, by decide +kernel, rfl, by decide +kernel, by decide +kernel⟩
abbrev s_Ideal_let_go : Stmt := inClass (top 23) 4
abbrev N_Ideal_let_go : List Str := ["self", "output", "row"]
abbrev P_Ideal_let_go : List Str := ["self", "output"]
theorem sc_Ideal_let_go : FnScope N_Ideal_let_go P_Ideal_let_go (defScope s_Ideal_let_go) := ⟨rfl, rfl, rfl, by decide +kernel, rfl, by decide +kernel, by decide +kernel⟩
abbrev s_Ideal_held : Stmt := inClass (top 23) 5
abbrev N_Ideal_held : List Str := ["self", "output"]
abbrev P_Ideal_held : List Str := ["self", "output"]
theorem sc_Ideal_held : FnScope N_Ideal_held P_Ideal_held (defScope s_Ideal_held) := ⟨rfl, rfl, rfl, by decide +kernel, rfl, by decide +kernel, by decide +kernel⟩
abbrev s_Ideal_ahead : Stmt := inClass (top 23) 6
abbrev N_Ideal_ahead : List Str := ["self", "output", "key", "row"]
abbrev P_Ideal_ahead : List Str := ["self", "output", "key"]
theorem sc_Ideal_ahead : FnScope N_Ideal_ahead P_Ideal_ahead (defScope s_Ideal_ahead) := ⟨rfl, rfl, rfl, by decide +kernel, rfl, by decide +kernel, by decide +kernel⟩
abbrev s_Ideal_copy : Stmt := inClass (top 23) 7
abbrev N_Ideal_copy : List Str := ["self", "other", "row"]
abbrev P_Ideal_copy : List Str := ["self"]
theorem sc_Ideal_copy : FnScope N_Ideal_copy P_Ideal_copy (defScope s_Ideal_copy) := ⟨rfl, rfl, rfl, by decide +kernel, rfl, by decide +kernel, by decide +kernel⟩
abbrev s_law_hand : Stmt := top 25
abbrev N_law_hand : List Str := ["_law_script", "_law_given", "_law_cell"]
abbrev P_law_hand : List Str := ["_law_script"]
theorem sc_law_hand : FnScope N_law_hand P_law_hand (defScope s_law_hand) := ⟨rfl, rfl, rfl, by decide +kernel, rfl, by decide +kernel, by decide +kernel⟩
abbrev s_law_draw : Stmt := top 26
abbrev N_law_draw : List Str := ["_law_hand_here", "_law_many", "_law_cell", "_law_digit", "_law_number"]
abbrev P_law_draw : List Str := ["_law_hand_here", "_law_many"]
theorem sc_law_draw : FnScope N_law_draw P_law_draw (defScope s_law_draw) := ⟨rfl, rfl, rfl, by decide +kernel, rfl, by decide +kernel, by decide +kernel⟩
abbrev s_law_any : Stmt := top 27
abbrev N_law_any : List Str := ["_law_hand_here", "_law_some"]
abbrev P_law_any : List Str := ["_law_hand_here", "_law_some"]
theorem sc_law_any : FnScope N_law_any P_law_any (defScope s_law_any) := ⟨rfl, rfl, rfl, by decide +kernel, rfl, by decide +kernel, by decide +kernel⟩
abbrev s_law_key : Stmt := top 28
abbrev N_law_key : List Str := ["_law_hand_here", "_law_many", "_law_rank"]
abbrev P_law_key : List Str := ["_law_hand_here", "_law_many"]
theorem sc_law_key : FnScope N_law_key P_law_key (defScope s_law_key) := ⟨rfl, rfl, rfl, by decide +kernel, rfl, by decide +kernel, by decide +kernel⟩
abbrev s_law_inserted : Stmt := top 29
abbrev N_law_inserted : List Str := ["_law_row", "_law_key_here", "_law_at", "_law_one"]
abbrev P_law_inserted : List Str := ["_law_row", "_law_key_here"]
theorem sc_law_inserted : FnScope N_law_inserted P_law_inserted (defScope s_law_inserted) := ⟨rfl, rfl, rfl, by decide +kernel, rfl, by decide +kernel, by decide +kernel⟩
abbrev s_law_word : Stmt := top 30
abbrev N_law_word : List Str := ["_law_call", "_law_told", "e"]
abbrev P_law_word : List Str := ["_law_call"]
theorem sc_law_word : FnScope N_law_word P_law_word (defScope s_law_word) := ⟨rfl, rfl, rfl, by decide +kernel, rfl, by decide +kernel, by decide +kernel⟩
abbrev s_law_shows : Stmt := top 31
abbrev N_law_shows : List Str := ["_law_hand_here", "_law_ideal", "_law_rows", "_law_output", "_law_row", "_law_key_here", "_law_one"]
abbrev P_law_shows : List Str := ["_law_hand_here", "_law_ideal", "_law_rows"]
theorem sc_law_shows : FnScope N_law_shows P_law_shows (defScope s_law_shows) := ⟨rfl, rfl, rfl, by decide +kernel, rfl, by decide +kernel, by decide +kernel⟩
abbrev s_law_deed : Stmt := top 32
abbrev N_law_deed : List Str := ["_law_hand_here", "_law_ideal", "_law_rows", "_law_is_there", "_law_due", "_law_key_here", "_law_output", "_law_rank", "_law_cell"]
abbrev P_law_deed : List Str := ["_law_hand_here", "_law_ideal", "_law_rows"]
theorem sc_law_deed : FnScope N_law_deed P_law_deed (defScope s_law_deed) := ⟨rfl, rfl, rfl, by decide +kernel, rfl, by decide +kernel, by decide +kernel⟩
abbrev s_law : Stmt := top 33
abbrev N_law : List Str := ["_law_script", "_law_hand_here", "_law_outputs", "_law_ideal", "_law_rows", "_law_apart", "_law_turn", "_law_output", "_law_other", "_law_more"]
abbrev P_law : List Str := ["_law_script"]
theorem sc_law : FnScope N_law P_law (defScope s_law) := ⟨rfl, rfl, rfl, by decide +kernel, rfl, by decide +kernel, by decide +kernel⟩
/-! ### what the top has left -/
structure Adr where
  a_is_integer : Addr
  d_is_integer : FuncData
  a_is_integer_from : Addr
  d_is_integer_from : FuncData
  a_is_number_below : Addr
  d_is_number_below : FuncData
  a_is_tuple_of : Addr
  d_is_tuple_of : FuncData
  a_check_lines : Addr
  d_check_lines : FuncData
  a_is_cell_number : Addr
  d_is_cell_number : FuncData
  a_is_rank : Addr
  d_is_rank : FuncData
  a_is_key : Addr
  d_is_key : FuncData
  a_check_key : Addr
  d_check_key : FuncData
  a_how_many_less : Addr
  d_how_many_less : FuncData
  a_Ideal___init__ : Addr
  d_Ideal___init__ : FuncData
  a_Ideal__row : Addr
  d_Ideal__row : FuncData
  a_Ideal_push : Addr
  d_Ideal_push : FuncData
  a_Ideal_due : Addr
  d_Ideal_due : FuncData
  a_Ideal_let_go : Addr
  d_Ideal_let_go : FuncData
  a_Ideal_held : Addr
  d_Ideal_held : FuncData
  a_Ideal_ahead : Addr
  d_Ideal_ahead : FuncData
  a_Ideal_copy : Addr
  d_Ideal_copy : FuncData
  a_law_hand : Addr
  d_law_hand : FuncData
  a_law_draw : Addr
  d_law_draw : FuncData
  a_law_any : Addr
  d_law_any : FuncData
  a_law_key : Addr
  d_law_key : FuncData
  a_law_inserted : Addr
  d_law_inserted : FuncData
  a_law_word : Addr
  d_law_word : FuncData
  a_law_shows : Addr
  d_law_shows : FuncData
  a_law_deed : Addr
  d_law_deed : FuncData
  a_law : Addr
  d_law : FuncData
  c_Ideal : Addr
  c_FabricError : Addr
  c_KeyThere : Addr
  c_NothingThere : Addr
  cd_law_deed : Addr
  tb_law_deed : Addr
structure Top (K : PySem.W.Frag) (mg : Str → Option Value) (A : Adr) : Prop where
  F_is_integer : Fun K "is_integer" "is_integer" s_is_integer A.a_is_integer A.d_is_integer
  g_is_integer : mg "is_integer" = some (.ref A.a_is_integer)
  b_is_integer : Binds K A.d_is_integer P_is_integer []
  F_is_integer_from : Fun K "is_integer_from" "is_integer_from" s_is_integer_from A.a_is_integer_from A.d_is_integer_from
  g_is_integer_from : mg "is_integer_from" = some (.ref A.a_is_integer_from)
  b_is_integer_from : Binds K A.d_is_integer_from P_is_integer_from []
  F_is_number_below : Fun K "is_number_below" "is_number_below" s_is_number_below A.a_is_number_below A.d_is_number_below
  g_is_number_below : mg "is_number_below" = some (.ref A.a_is_number_below)
  b_is_number_below : Binds K A.d_is_number_below P_is_number_below []
  F_is_tuple_of : Fun K "is_tuple_of" "is_tuple_of" s_is_tuple_of A.a_is_tuple_of A.d_is_tuple_of
  g_is_tuple_of : mg "is_tuple_of" = some (.ref A.a_is_tuple_of)
  b_is_tuple_of : Binds K A.d_is_tuple_of P_is_tuple_of []
  F_check_lines : Fun K "check_lines" "check_lines" s_check_lines A.a_check_lines A.d_check_lines
  g_check_lines : mg "check_lines" = some (.ref A.a_check_lines)
  b_check_lines : Binds K A.d_check_lines P_check_lines []
  F_is_cell_number : Fun K "is_cell_number" "is_cell_number" s_is_cell_number A.a_is_cell_number A.d_is_cell_number
  g_is_cell_number : mg "is_cell_number" = some (.ref A.a_is_cell_number)
  b_is_cell_number : Binds K A.d_is_cell_number P_is_cell_number []
  F_is_rank : Fun K "is_rank" "is_rank" s_is_rank A.a_is_rank A.d_is_rank
  g_is_rank : mg "is_rank" = some (.ref A.a_is_rank)
  b_is_rank : Binds K A.d_is_rank P_is_rank []
  F_is_key : Fun K "is_key" "is_key" s_is_key A.a_is_key A.d_is_key
  g_is_key : mg "is_key" = some (.ref A.a_is_key)
  b_is_key : Binds K A.d_is_key P_is_key []
  F_check_key : Fun K "check_key" "check_key" s_check_key A.a_check_key A.d_check_key
  g_check_key : mg "check_key" = some (.ref A.a_check_key)
  b_check_key : Binds K A.d_check_key P_check_key []
  F_how_many_less : Fun K "how_many_less" "how_many_less" s_how_many_less A.a_how_many_less A.d_how_many_less
  g_how_many_less : mg "how_many_less" = some (.ref A.a_how_many_less)
  b_how_many_less : Binds K A.d_how_many_less P_how_many_less []
  F_Ideal___init__ : Fun K "__init__" "Ideal.__init__" s_Ideal___init__ A.a_Ideal___init__ A.d_Ideal___init__
  b_Ideal___init__ : Binds K A.d_Ideal___init__ P_Ideal___init__ []
  F_Ideal__row : Fun K "_row" "Ideal._row" s_Ideal__row A.a_Ideal__row A.d_Ideal__row
  b_Ideal__row : Binds K A.d_Ideal__row P_Ideal__row []
  F_Ideal_push : Fun K "push" "Ideal.push" s_Ideal_push A.a_Ideal_push A.d_Ideal_push
  b_Ideal_push : Binds K A.d_Ideal_push P_Ideal_push []
  F_Ideal_due : Fun K "due" "Ideal.due" s_Ideal_due A.a_Ideal_due A.d_Ideal_due
  b_Ideal_due : Binds K A.d_Ideal_due P_Ideal_due []
  F_Ideal_let_go : Fun K "let_go" "Ideal.let_go" s_Ideal_let_go A.a_Ideal_let_go A.d_Ideal_let_go
  b_Ideal_let_go : Binds K A.d_Ideal_let_go P_Ideal_let_go []
  F_Ideal_held : Fun K "held" "Ideal.held" s_Ideal_held A.a_Ideal_held A.d_Ideal_held
  b_Ideal_held : Binds K A.d_Ideal_held P_Ideal_held []
  F_Ideal_ahead : Fun K "ahead" "Ideal.ahead" s_Ideal_ahead A.a_Ideal_ahead A.d_Ideal_ahead
  b_Ideal_ahead : Binds K A.d_Ideal_ahead P_Ideal_ahead []
  F_Ideal_copy : Fun K "copy" "Ideal.copy" s_Ideal_copy A.a_Ideal_copy A.d_Ideal_copy
  b_Ideal_copy : Binds K A.d_Ideal_copy P_Ideal_copy []
  F_law_hand : Fun K "_law_hand" "_law_hand" s_law_hand A.a_law_hand A.d_law_hand
  g_law_hand : mg "_law_hand" = some (.ref A.a_law_hand)
  b_law_hand : Binds K A.d_law_hand P_law_hand []
  F_law_draw : Fun K "_law_draw" "_law_draw" s_law_draw A.a_law_draw A.d_law_draw
  g_law_draw : mg "_law_draw" = some (.ref A.a_law_draw)
  b_law_draw : Binds K A.d_law_draw P_law_draw []
  F_law_any : Fun K "_law_any" "_law_any" s_law_any A.a_law_any A.d_law_any
  g_law_any : mg "_law_any" = some (.ref A.a_law_any)
  b_law_any : Binds K A.d_law_any P_law_any []
  F_law_key : Fun K "_law_key" "_law_key" s_law_key A.a_law_key A.d_law_key
  g_law_key : mg "_law_key" = some (.ref A.a_law_key)
  b_law_key : Binds K A.d_law_key P_law_key []
  F_law_inserted : Fun K "_law_inserted" "_law_inserted" s_law_inserted A.a_law_inserted A.d_law_inserted
  g_law_inserted : mg "_law_inserted" = some (.ref A.a_law_inserted)
  b_law_inserted : Binds K A.d_law_inserted P_law_inserted []
  F_law_word : Fun K "_law_word" "_law_word" s_law_word A.a_law_word A.d_law_word
  g_law_word : mg "_law_word" = some (.ref A.a_law_word)
  b_law_word : Binds K A.d_law_word P_law_word []
  F_law_shows : Fun K "_law_shows" "_law_shows" s_law_shows A.a_law_shows A.d_law_shows
  g_law_shows : mg "_law_shows" = some (.ref A.a_law_shows)
  b_law_shows : Binds K A.d_law_shows P_law_shows []
  F_law_deed : Fun K "_law_deed" "_law_deed" s_law_deed A.a_law_deed A.d_law_deed
  g_law_deed : mg "_law_deed" = some (.ref A.a_law_deed)
  b_law_deed : Binds K A.d_law_deed P_law_deed []
  F_law : Fun K "law" "law" s_law A.a_law A.d_law
  g_law : mg "law" = some (.ref A.a_law)
  b_law : Binds K A.d_law P_law []
  cl_Ideal : Cls K A.c_Ideal
  gc_Ideal : mg "Ideal" = some (.ref A.c_Ideal)
  mk_Ideal : Mk K A.c_Ideal A.a_Ideal___init__
  m_Ideal__row : Meth K A.c_Ideal "_row" A.a_Ideal__row
  m_Ideal_push : Meth K A.c_Ideal "push" A.a_Ideal_push
  m_Ideal_due : Meth K A.c_Ideal "due" A.a_Ideal_due
  m_Ideal_let_go : Meth K A.c_Ideal "let_go" A.a_Ideal_let_go
  m_Ideal_held : Meth K A.c_Ideal "held" A.a_Ideal_held
  m_Ideal_ahead : Meth K A.c_Ideal "ahead" A.a_Ideal_ahead
  m_Ideal_copy : Meth K A.c_Ideal "copy" A.a_Ideal_copy
  n_Ideal__rows : NoAttr K A.c_Ideal "_rows"
  em_Ideal : PySem.W.mroIn K A.c_Ideal (.type "object") = some true
  es_Ideal : PySem.W.findIn K (.ref A.c_Ideal) "__eq__" = some (some (.builtin "object.__eq__"))
  gc_FabricError : mg "FabricError" = some (.ref A.c_FabricError)
  gc_KeyThere : mg "KeyThere" = some (.ref A.c_KeyThere)
  gc_NothingThere : mg "NothingThere" = some (.ref A.c_NothingThere)
  x_KeyThere : PySem.W.excIn K A.c_KeyThere [.type "ValueError", .type "Exception", .type "BaseException", .type "object"] "ValueError.__new__" = true
  kp_KeyThere : PySem.W.keepIn K (.ref A.c_KeyThere) = true
  s_KeyThere : PySem.W.subIn K (.ref A.c_KeyThere) (.type "BaseException") = some true
  t_KeyThere : PySem.W.typeIn K (.ref A.c_KeyThere) = some (.type "type")
  e1_KeyThere : PySem.W.findIn K (.ref A.c_KeyThere) "__getattribute__" = some (some (.builtin "BaseException.__getattribute__"))
  e2_KeyThere : PySem.W.findIn K (.ref A.c_KeyThere) "__getattr__" = some none
  e3_KeyThere : PySem.W.hasDictIn K A.c_KeyThere = true
  e4_KeyThere : PySem.W.findIn K (.ref A.c_KeyThere) "__class__" = some (some (.builtin "object.__class__"))
  e5_KeyThere : PySem.W.mroIn K A.c_KeyThere (.type "object") = some true
  x_NothingThere : PySem.W.excIn K A.c_NothingThere [.type "ValueError", .type "Exception", .type "BaseException", .type "object"] "ValueError.__new__" = true
  kp_NothingThere : PySem.W.keepIn K (.ref A.c_NothingThere) = true
  s_NothingThere : PySem.W.subIn K (.ref A.c_NothingThere) (.type "BaseException") = some true
  t_NothingThere : PySem.W.typeIn K (.ref A.c_NothingThere) = some (.type "type")
  e1_NothingThere : PySem.W.findIn K (.ref A.c_NothingThere) "__getattribute__" = some (some (.builtin "BaseException.__getattribute__"))
  e2_NothingThere : PySem.W.findIn K (.ref A.c_NothingThere) "__getattr__" = some none
  e3_NothingThere : PySem.W.hasDictIn K A.c_NothingThere = true
  e4_NothingThere : PySem.W.findIn K (.ref A.c_NothingThere) "__class__" = some (some (.builtin "object.__class__"))
  e5_NothingThere : PySem.W.mroIn K A.c_NothingThere (.type "object") = some true
  en1 : PySem.W.specialIn K (.builtin "object.__class__") "__get__" = some (some (.builtin "getset_descriptor.__get__"))
  en2 : PySem.W.takesIn K (.builtin "object.__class__") = some true
  kt_KeyThere_NothingThere : PySem.W.kitOne K (.ref A.c_KeyThere) (.ref A.c_NothingThere) = some false
  xm_KeyThere_NothingThere : PySem.W.exmOne K (.ref A.c_KeyThere) (.ref A.c_NothingThere) = some false
  kt_KeyThere_ValueError : PySem.W.kitOne K (.ref A.c_KeyThere) (.type "ValueError") = some true
  kt_KeyThere_FabricError : PySem.W.kitOne K (.ref A.c_KeyThere) (.ref A.c_FabricError) = some true
  xm_KeyThere_FabricError : PySem.W.exmOne K (.ref A.c_KeyThere) (.ref A.c_FabricError) = some true
  kt_KeyThere_KeyThere : PySem.W.kitOne K (.ref A.c_KeyThere) (.ref A.c_KeyThere) = some true
  xm_KeyThere_KeyThere : PySem.W.exmOne K (.ref A.c_KeyThere) (.ref A.c_KeyThere) = some true
  kt_NothingThere_NothingThere : PySem.W.kitOne K (.ref A.c_NothingThere) (.ref A.c_NothingThere) = some true
  xm_NothingThere_NothingThere : PySem.W.exmOne K (.ref A.c_NothingThere) (.ref A.c_NothingThere) = some true
  kt_NothingThere_ValueError : PySem.W.kitOne K (.ref A.c_NothingThere) (.type "ValueError") = some true
  kt_NothingThere_FabricError : PySem.W.kitOne K (.ref A.c_NothingThere) (.ref A.c_FabricError) = some true
  xm_NothingThere_FabricError : PySem.W.exmOne K (.ref A.c_NothingThere) (.ref A.c_FabricError) = some true
  kt_NothingThere_KeyThere : PySem.W.kitOne K (.ref A.c_NothingThere) (.ref A.c_KeyThere) = some false
  xm_NothingThere_KeyThere : PySem.W.exmOne K (.ref A.c_NothingThere) (.ref A.c_KeyThere) = some false
  L_law_deed : GX.FunC K "_law_deed" "_law_deed" s_law_deed A.a_law_deed A.d_law_deed A.cd_law_deed
  k_MOST_LINES : ∃ t, mg "MOST_LINES" = some (.int 12 t)
  k_GREATEST_CELL : ∃ t, mg "GREATEST_CELL" = some (.int 1000000000 t)
  k_GREATEST_RANK : ∃ t, mg "GREATEST_RANK" = some (.int 1000000000000000000 t)
  z_ValueError : mg "ValueError" = none
  z_abs : mg "abs" = none
  z_all : mg "all" = none
  z_bool : mg "bool" = none
  z_enumerate : mg "enumerate" = none
  z_int : mg "int" = none
  z_isinstance : mg "isinstance" = none
  z_len : mg "len" = none
  z_list : mg "list" = none
  z_range : mg "range" = none
  z_tuple : mg "tuple" = none
abbrev qlam_law_deed : Str := (("_law_deed" : Str) ++ (".<locals>." : Str)) ++ ("<lambda>" : Str)
structure Tbs (base : Heap) (mg : Str → Option Value) (A : Adr) : Prop where
  t_law_deed : LamX.TabB base mg A.cd_law_deed A.tb_law_deed
theorem top_mk {l : PySem.W.OpenLaw} {w : World} {K : PySem.W.Frag} {h : Heap} {mg : Str → Option Value} (X : K.In h) (G : h.Ns mainGlobals mg)
    {f_is_integer : Addr} {od_is_integer an_is_integer : Option Addr} {sl_is_integer : Array (Option Value)} {oc_is_integer kV_is_integer dc_is_integer pm_is_integer cd_is_integer ct_is_integer : Value}
    {f_is_integer_from : Addr} {od_is_integer_from an_is_integer_from : Option Addr} {sl_is_integer_from : Array (Option Value)} {oc_is_integer_from kV_is_integer_from dc_is_integer_from pm_is_integer_from cd_is_integer_from ct_is_integer_from : Value}
    {f_is_number_below : Addr} {od_is_number_below an_is_number_below : Option Addr} {sl_is_number_below : Array (Option Value)} {oc_is_number_below kV_is_number_below dc_is_number_below pm_is_number_below cd_is_number_below ct_is_number_below : Value}
    {f_is_tuple_of : Addr} {od_is_tuple_of an_is_tuple_of : Option Addr} {sl_is_tuple_of : Array (Option Value)} {oc_is_tuple_of kV_is_tuple_of dc_is_tuple_of pm_is_tuple_of cd_is_tuple_of ct_is_tuple_of : Value}
    {f_check_lines : Addr} {od_check_lines an_check_lines : Option Addr} {sl_check_lines : Array (Option Value)} {oc_check_lines kV_check_lines dc_check_lines pm_check_lines cd_check_lines ct_check_lines : Value}
    {f_is_cell_number : Addr} {od_is_cell_number an_is_cell_number : Option Addr} {sl_is_cell_number : Array (Option Value)} {oc_is_cell_number kV_is_cell_number dc_is_cell_number pm_is_cell_number cd_is_cell_number ct_is_cell_number : Value}
    {f_is_rank : Addr} {od_is_rank an_is_rank : Option Addr} {sl_is_rank : Array (Option Value)} {oc_is_rank kV_is_rank dc_is_rank pm_is_rank cd_is_rank ct_is_rank : Value}
    {f_is_key : Addr} {od_is_key an_is_key : Option Addr} {sl_is_key : Array (Option Value)} {oc_is_key kV_is_key dc_is_key pm_is_key cd_is_key ct_is_key : Value}
    {f_check_key : Addr} {od_check_key an_check_key : Option Addr} {sl_check_key : Array (Option Value)} {oc_check_key kV_check_key dc_check_key pm_check_key cd_check_key ct_check_key : Value}
    {f_how_many_less : Addr} {od_how_many_less an_how_many_less : Option Addr} {sl_how_many_less : Array (Option Value)} {oc_how_many_less kV_how_many_less dc_how_many_less pm_how_many_less cd_how_many_less ct_how_many_less : Value}
    {f_Ideal___init__ : Addr} {od_Ideal___init__ an_Ideal___init__ : Option Addr} {sl_Ideal___init__ : Array (Option Value)} {oc_Ideal___init__ kV_Ideal___init__ dc_Ideal___init__ pm_Ideal___init__ cd_Ideal___init__ ct_Ideal___init__ : Value}
    {f_Ideal__row : Addr} {od_Ideal__row an_Ideal__row : Option Addr} {sl_Ideal__row : Array (Option Value)} {oc_Ideal__row kV_Ideal__row dc_Ideal__row pm_Ideal__row cd_Ideal__row ct_Ideal__row : Value}
    {f_Ideal_push : Addr} {od_Ideal_push an_Ideal_push : Option Addr} {sl_Ideal_push : Array (Option Value)} {oc_Ideal_push kV_Ideal_push dc_Ideal_push pm_Ideal_push cd_Ideal_push ct_Ideal_push : Value}
    {f_Ideal_due : Addr} {od_Ideal_due an_Ideal_due : Option Addr} {sl_Ideal_due : Array (Option Value)} {oc_Ideal_due kV_Ideal_due dc_Ideal_due pm_Ideal_due cd_Ideal_due ct_Ideal_due : Value}
    {f_Ideal_let_go : Addr} {od_Ideal_let_go an_Ideal_let_go : Option Addr} {sl_Ideal_let_go : Array (Option Value)} {oc_Ideal_let_go kV_Ideal_let_go dc_Ideal_let_go pm_Ideal_let_go cd_Ideal_let_go ct_Ideal_let_go : Value}
    {f_Ideal_held : Addr} {od_Ideal_held an_Ideal_held : Option Addr} {sl_Ideal_held : Array (Option Value)} {oc_Ideal_held kV_Ideal_held dc_Ideal_held pm_Ideal_held cd_Ideal_held ct_Ideal_held : Value}
    {f_Ideal_ahead : Addr} {od_Ideal_ahead an_Ideal_ahead : Option Addr} {sl_Ideal_ahead : Array (Option Value)} {oc_Ideal_ahead kV_Ideal_ahead dc_Ideal_ahead pm_Ideal_ahead cd_Ideal_ahead ct_Ideal_ahead : Value}
    {f_Ideal_copy : Addr} {od_Ideal_copy an_Ideal_copy : Option Addr} {sl_Ideal_copy : Array (Option Value)} {oc_Ideal_copy kV_Ideal_copy dc_Ideal_copy pm_Ideal_copy cd_Ideal_copy ct_Ideal_copy : Value}
    {f_law_hand : Addr} {od_law_hand an_law_hand : Option Addr} {sl_law_hand : Array (Option Value)} {oc_law_hand kV_law_hand dc_law_hand pm_law_hand cd_law_hand ct_law_hand : Value}
    {f_law_draw : Addr} {od_law_draw an_law_draw : Option Addr} {sl_law_draw : Array (Option Value)} {oc_law_draw kV_law_draw dc_law_draw pm_law_draw cd_law_draw ct_law_draw : Value}
    {f_law_any : Addr} {od_law_any an_law_any : Option Addr} {sl_law_any : Array (Option Value)} {oc_law_any kV_law_any dc_law_any pm_law_any cd_law_any ct_law_any : Value}
    {f_law_key : Addr} {od_law_key an_law_key : Option Addr} {sl_law_key : Array (Option Value)} {oc_law_key kV_law_key dc_law_key pm_law_key cd_law_key ct_law_key : Value}
    {f_law_inserted : Addr} {od_law_inserted an_law_inserted : Option Addr} {sl_law_inserted : Array (Option Value)} {oc_law_inserted kV_law_inserted dc_law_inserted pm_law_inserted cd_law_inserted ct_law_inserted : Value}
    {f_law_word : Addr} {od_law_word an_law_word : Option Addr} {sl_law_word : Array (Option Value)} {oc_law_word kV_law_word dc_law_word pm_law_word cd_law_word ct_law_word : Value}
    {f_law_shows : Addr} {od_law_shows an_law_shows : Option Addr} {sl_law_shows : Array (Option Value)} {oc_law_shows kV_law_shows dc_law_shows pm_law_shows cd_law_shows ct_law_shows : Value}
    {f_law_deed : Addr} {od_law_deed an_law_deed : Option Addr} {sl_law_deed : Array (Option Value)} {oc_law_deed kV_law_deed dc_law_deed pm_law_deed ct_law_deed : Value}
    {f_law : Addr} {od_law an_law : Option Addr} {sl_law : Array (Option Value)} {oc_law kV_law dc_law pm_law cd_law ct_law : Value}
    {c_Ideal : Addr}
    {c_FabricError : Addr}
    {c_KeyThere : Addr}
    {c_NothingThere : Addr}
    {co_law_deed tb_law_deed : Addr}
    {t_MOST_LINES : Tok}
    {t_GREATEST_CELL : Tok}
    {t_GREATEST_RANK : Tok}
    (ac_Ideal : PySem.W.nsIn K mainGlobals "Ideal" = some (some (.ref c_Ideal)))
    (ac_FabricError : PySem.W.nsIn K mainGlobals "FabricError" = some (some (.ref c_FabricError)))
    (ac_KeyThere : PySem.W.nsIn K mainGlobals "KeyThere" = some (some (.ref c_KeyThere)))
    (ac_NothingThere : PySem.W.nsIn K mainGlobals "NothingThere" = some (some (.ref c_NothingThere)))
    (a_is_integer : PySem.W.nsIn K mainGlobals "is_integer" = some (some (.ref f_is_integer)))
    (l_is_integer : K.lookup f_is_integer = some ⟨oc_is_integer, od_is_integer, .func (PySem.W.fnOf "is_integer" "is_integer" (defArgs s_is_integer) (defBody s_is_integer) (defScope s_is_integer) .none kV_is_integer dc_is_integer pm_is_integer an_is_integer cd_is_integer ct_is_integer), sl_is_integer⟩)
    (q_is_integer : PySem.W.codeIn K cd_is_integer "is_integer" = true)
    (p_is_integer : PySem.W.keepIn K (.ref f_is_integer) = true)
    (a_is_integer_from : PySem.W.nsIn K mainGlobals "is_integer_from" = some (some (.ref f_is_integer_from)))
    (l_is_integer_from : K.lookup f_is_integer_from = some ⟨oc_is_integer_from, od_is_integer_from, .func (PySem.W.fnOf "is_integer_from" "is_integer_from" (defArgs s_is_integer_from) (defBody s_is_integer_from) (defScope s_is_integer_from) .none kV_is_integer_from dc_is_integer_from pm_is_integer_from an_is_integer_from cd_is_integer_from ct_is_integer_from), sl_is_integer_from⟩)
    (q_is_integer_from : PySem.W.codeIn K cd_is_integer_from "is_integer_from" = true)
    (p_is_integer_from : PySem.W.keepIn K (.ref f_is_integer_from) = true)
    (a_is_number_below : PySem.W.nsIn K mainGlobals "is_number_below" = some (some (.ref f_is_number_below)))
    (l_is_number_below : K.lookup f_is_number_below = some ⟨oc_is_number_below, od_is_number_below, .func (PySem.W.fnOf "is_number_below" "is_number_below" (defArgs s_is_number_below) (defBody s_is_number_below) (defScope s_is_number_below) .none kV_is_number_below dc_is_number_below pm_is_number_below an_is_number_below cd_is_number_below ct_is_number_below), sl_is_number_below⟩)
    (q_is_number_below : PySem.W.codeIn K cd_is_number_below "is_number_below" = true)
    (p_is_number_below : PySem.W.keepIn K (.ref f_is_number_below) = true)
    (a_is_tuple_of : PySem.W.nsIn K mainGlobals "is_tuple_of" = some (some (.ref f_is_tuple_of)))
    (l_is_tuple_of : K.lookup f_is_tuple_of = some ⟨oc_is_tuple_of, od_is_tuple_of, .func (PySem.W.fnOf "is_tuple_of" "is_tuple_of" (defArgs s_is_tuple_of) (defBody s_is_tuple_of) (defScope s_is_tuple_of) .none kV_is_tuple_of dc_is_tuple_of pm_is_tuple_of an_is_tuple_of cd_is_tuple_of ct_is_tuple_of), sl_is_tuple_of⟩)
    (q_is_tuple_of : PySem.W.codeIn K cd_is_tuple_of "is_tuple_of" = true)
    (p_is_tuple_of : PySem.W.keepIn K (.ref f_is_tuple_of) = true)
    (a_check_lines : PySem.W.nsIn K mainGlobals "check_lines" = some (some (.ref f_check_lines)))
    (l_check_lines : K.lookup f_check_lines = some ⟨oc_check_lines, od_check_lines, .func (PySem.W.fnOf "check_lines" "check_lines" (defArgs s_check_lines) (defBody s_check_lines) (defScope s_check_lines) .none kV_check_lines dc_check_lines pm_check_lines an_check_lines cd_check_lines ct_check_lines), sl_check_lines⟩)
    (q_check_lines : PySem.W.codeIn K cd_check_lines "check_lines" = true)
    (p_check_lines : PySem.W.keepIn K (.ref f_check_lines) = true)
    (a_is_cell_number : PySem.W.nsIn K mainGlobals "is_cell_number" = some (some (.ref f_is_cell_number)))
    (l_is_cell_number : K.lookup f_is_cell_number = some ⟨oc_is_cell_number, od_is_cell_number, .func (PySem.W.fnOf "is_cell_number" "is_cell_number" (defArgs s_is_cell_number) (defBody s_is_cell_number) (defScope s_is_cell_number) .none kV_is_cell_number dc_is_cell_number pm_is_cell_number an_is_cell_number cd_is_cell_number ct_is_cell_number), sl_is_cell_number⟩)
    (q_is_cell_number : PySem.W.codeIn K cd_is_cell_number "is_cell_number" = true)
    (p_is_cell_number : PySem.W.keepIn K (.ref f_is_cell_number) = true)
    (a_is_rank : PySem.W.nsIn K mainGlobals "is_rank" = some (some (.ref f_is_rank)))
    (l_is_rank : K.lookup f_is_rank = some ⟨oc_is_rank, od_is_rank, .func (PySem.W.fnOf "is_rank" "is_rank" (defArgs s_is_rank) (defBody s_is_rank) (defScope s_is_rank) .none kV_is_rank dc_is_rank pm_is_rank an_is_rank cd_is_rank ct_is_rank), sl_is_rank⟩)
    (q_is_rank : PySem.W.codeIn K cd_is_rank "is_rank" = true)
    (p_is_rank : PySem.W.keepIn K (.ref f_is_rank) = true)
    (a_is_key : PySem.W.nsIn K mainGlobals "is_key" = some (some (.ref f_is_key)))
    (l_is_key : K.lookup f_is_key = some ⟨oc_is_key, od_is_key, .func (PySem.W.fnOf "is_key" "is_key" (defArgs s_is_key) (defBody s_is_key) (defScope s_is_key) .none kV_is_key dc_is_key pm_is_key an_is_key cd_is_key ct_is_key), sl_is_key⟩)
    (q_is_key : PySem.W.codeIn K cd_is_key "is_key" = true)
    (p_is_key : PySem.W.keepIn K (.ref f_is_key) = true)
    (a_check_key : PySem.W.nsIn K mainGlobals "check_key" = some (some (.ref f_check_key)))
    (l_check_key : K.lookup f_check_key = some ⟨oc_check_key, od_check_key, .func (PySem.W.fnOf "check_key" "check_key" (defArgs s_check_key) (defBody s_check_key) (defScope s_check_key) .none kV_check_key dc_check_key pm_check_key an_check_key cd_check_key ct_check_key), sl_check_key⟩)
    (q_check_key : PySem.W.codeIn K cd_check_key "check_key" = true)
    (p_check_key : PySem.W.keepIn K (.ref f_check_key) = true)
    (a_how_many_less : PySem.W.nsIn K mainGlobals "how_many_less" = some (some (.ref f_how_many_less)))
    (l_how_many_less : K.lookup f_how_many_less = some ⟨oc_how_many_less, od_how_many_less, .func (PySem.W.fnOf "how_many_less" "how_many_less" (defArgs s_how_many_less) (defBody s_how_many_less) (defScope s_how_many_less) .none kV_how_many_less dc_how_many_less pm_how_many_less an_how_many_less cd_how_many_less ct_how_many_less), sl_how_many_less⟩)
    (q_how_many_less : PySem.W.codeIn K cd_how_many_less "how_many_less" = true)
    (p_how_many_less : PySem.W.keepIn K (.ref f_how_many_less) = true)
    (a_Ideal___init__ : PySem.W.findIn K (.ref c_Ideal) "__init__" = some (some (.ref f_Ideal___init__)))
    (i_Ideal___init__ : PySem.W.isFn K (.ref f_Ideal___init__) = true)
    (l_Ideal___init__ : K.lookup f_Ideal___init__ = some ⟨oc_Ideal___init__, od_Ideal___init__, .func (PySem.W.fnOf "__init__" "Ideal.__init__" (defArgs s_Ideal___init__) (defBody s_Ideal___init__) (defScope s_Ideal___init__) .none kV_Ideal___init__ dc_Ideal___init__ pm_Ideal___init__ an_Ideal___init__ cd_Ideal___init__ ct_Ideal___init__), sl_Ideal___init__⟩)
    (q_Ideal___init__ : PySem.W.codeIn K cd_Ideal___init__ "Ideal.__init__" = true)
    (p_Ideal___init__ : PySem.W.keepIn K (.ref f_Ideal___init__) = true)
    (a_Ideal__row : PySem.W.findIn K (.ref c_Ideal) "_row" = some (some (.ref f_Ideal__row)))
    (i_Ideal__row : PySem.W.isFn K (.ref f_Ideal__row) = true)
    (l_Ideal__row : K.lookup f_Ideal__row = some ⟨oc_Ideal__row, od_Ideal__row, .func (PySem.W.fnOf "_row" "Ideal._row" (defArgs s_Ideal__row) (defBody s_Ideal__row) (defScope s_Ideal__row) .none kV_Ideal__row dc_Ideal__row pm_Ideal__row an_Ideal__row cd_Ideal__row ct_Ideal__row), sl_Ideal__row⟩)
    (q_Ideal__row : PySem.W.codeIn K cd_Ideal__row "Ideal._row" = true)
    (p_Ideal__row : PySem.W.keepIn K (.ref f_Ideal__row) = true)
    (a_Ideal_push : PySem.W.findIn K (.ref c_Ideal) "push" = some (some (.ref f_Ideal_push)))
    (i_Ideal_push : PySem.W.isFn K (.ref f_Ideal_push) = true)
    (l_Ideal_push : K.lookup f_Ideal_push = some ⟨oc_Ideal_push, od_Ideal_push, .func (PySem.W.fnOf "push" "Ideal.push" (defArgs s_Ideal_push) (defBody s_Ideal_push) (defScope s_Ideal_push) .none kV_Ideal_push dc_Ideal_push pm_Ideal_push an_Ideal_push cd_Ideal_push ct_Ideal_push), sl_Ideal_push⟩)
    (q_Ideal_push : PySem.W.codeIn K cd_Ideal_push "Ideal.push" = true)
    (p_Ideal_push : PySem.W.keepIn K (.ref f_Ideal_push) = true)
    (a_Ideal_due : PySem.W.findIn K (.ref c_Ideal) "due" = some (some (.ref f_Ideal_due)))
    (i_Ideal_due : PySem.W.isFn K (.ref f_Ideal_due) = true)
    (l_Ideal_due : K.lookup f_Ideal_due = some ⟨oc_Ideal_due, od_Ideal_due, .func (PySem.W.fnOf "due" "Ideal.due" (defArgs s_Ideal_due) (defBody s_Ideal_due) (defScope s_Ideal_due) .none kV_Ideal_due dc_Ideal_due pm_Ideal_due an_Ideal_due cd_Ideal_due ct_Ideal_due), sl_Ideal_due⟩)
    (q_Ideal_due : PySem.W.codeIn K cd_Ideal_due "Ideal.due" = true)
    (p_Ideal_due : PySem.W.keepIn K (.ref f_Ideal_due) = true)
    (a_Ideal_let_go : PySem.W.findIn K (.ref c_Ideal) "let_go" = some (some (.ref f_Ideal_let_go)))
    (i_Ideal_let_go : PySem.W.isFn K (.ref f_Ideal_let_go) = true)
    (l_Ideal_let_go : K.lookup f_Ideal_let_go = some ⟨oc_Ideal_let_go, od_Ideal_let_go, .func (PySem.W.fnOf "let_go" "Ideal.let_go" (defArgs s_Ideal_let_go) (defBody s_Ideal_let_go) (defScope s_Ideal_let_go) .none kV_Ideal_let_go dc_Ideal_let_go pm_Ideal_let_go an_Ideal_let_go cd_Ideal_let_go ct_Ideal_let_go), sl_Ideal_let_go⟩)
    (q_Ideal_let_go : PySem.W.codeIn K cd_Ideal_let_go "Ideal.let_go" = true)
    (p_Ideal_let_go : PySem.W.keepIn K (.ref f_Ideal_let_go) = true)
    (a_Ideal_held : PySem.W.findIn K (.ref c_Ideal) "held" = some (some (.ref f_Ideal_held)))
    (i_Ideal_held : PySem.W.isFn K (.ref f_Ideal_held) = true)
    (l_Ideal_held : K.lookup f_Ideal_held = some ⟨oc_Ideal_held, od_Ideal_held, .func (PySem.W.fnOf "held" "Ideal.held" (defArgs s_Ideal_held) (defBody s_Ideal_held) (defScope s_Ideal_held) .none kV_Ideal_held dc_Ideal_held pm_Ideal_held an_Ideal_held cd_Ideal_held ct_Ideal_held), sl_Ideal_held⟩)
    (q_Ideal_held : PySem.W.codeIn K cd_Ideal_held "Ideal.held" = true)
    (p_Ideal_held : PySem.W.keepIn K (.ref f_Ideal_held) = true)
    (a_Ideal_ahead : PySem.W.findIn K (.ref c_Ideal) "ahead" = some (some (.ref f_Ideal_ahead)))
    (i_Ideal_ahead : PySem.W.isFn K (.ref f_Ideal_ahead) = true)
    (l_Ideal_ahead : K.lookup f_Ideal_ahead = some ⟨oc_Ideal_ahead, od_Ideal_ahead, .func (PySem.W.fnOf "ahead" "Ideal.ahead" (defArgs s_Ideal_ahead) (defBody s_Ideal_ahead) (defScope s_Ideal_ahead) .none kV_Ideal_ahead dc_Ideal_ahead pm_Ideal_ahead an_Ideal_ahead cd_Ideal_ahead ct_Ideal_ahead), sl_Ideal_ahead⟩)
    (q_Ideal_ahead : PySem.W.codeIn K cd_Ideal_ahead "Ideal.ahead" = true)
    (p_Ideal_ahead : PySem.W.keepIn K (.ref f_Ideal_ahead) = true)
    (a_Ideal_copy : PySem.W.findIn K (.ref c_Ideal) "copy" = some (some (.ref f_Ideal_copy)))
    (i_Ideal_copy : PySem.W.isFn K (.ref f_Ideal_copy) = true)
    (l_Ideal_copy : K.lookup f_Ideal_copy = some ⟨oc_Ideal_copy, od_Ideal_copy, .func (PySem.W.fnOf "copy" "Ideal.copy" (defArgs s_Ideal_copy) (defBody s_Ideal_copy) (defScope s_Ideal_copy) .none kV_Ideal_copy dc_Ideal_copy pm_Ideal_copy an_Ideal_copy cd_Ideal_copy ct_Ideal_copy), sl_Ideal_copy⟩)
    (q_Ideal_copy : PySem.W.codeIn K cd_Ideal_copy "Ideal.copy" = true)
    (p_Ideal_copy : PySem.W.keepIn K (.ref f_Ideal_copy) = true)
    (a_law_hand : PySem.W.nsIn K mainGlobals "_law_hand" = some (some (.ref f_law_hand)))
    (l_law_hand : K.lookup f_law_hand = some ⟨oc_law_hand, od_law_hand, .func (PySem.W.fnOf "_law_hand" "_law_hand" (defArgs s_law_hand) (defBody s_law_hand) (defScope s_law_hand) .none kV_law_hand dc_law_hand pm_law_hand an_law_hand cd_law_hand ct_law_hand), sl_law_hand⟩)
    (q_law_hand : PySem.W.codeIn K cd_law_hand "_law_hand" = true)
    (p_law_hand : PySem.W.keepIn K (.ref f_law_hand) = true)
    (a_law_draw : PySem.W.nsIn K mainGlobals "_law_draw" = some (some (.ref f_law_draw)))
    (l_law_draw : K.lookup f_law_draw = some ⟨oc_law_draw, od_law_draw, .func (PySem.W.fnOf "_law_draw" "_law_draw" (defArgs s_law_draw) (defBody s_law_draw) (defScope s_law_draw) .none kV_law_draw dc_law_draw pm_law_draw an_law_draw cd_law_draw ct_law_draw), sl_law_draw⟩)
    (q_law_draw : PySem.W.codeIn K cd_law_draw "_law_draw" = true)
    (p_law_draw : PySem.W.keepIn K (.ref f_law_draw) = true)
    (a_law_any : PySem.W.nsIn K mainGlobals "_law_any" = some (some (.ref f_law_any)))
    (l_law_any : K.lookup f_law_any = some ⟨oc_law_any, od_law_any, .func (PySem.W.fnOf "_law_any" "_law_any" (defArgs s_law_any) (defBody s_law_any) (defScope s_law_any) .none kV_law_any dc_law_any pm_law_any an_law_any cd_law_any ct_law_any), sl_law_any⟩)
    (q_law_any : PySem.W.codeIn K cd_law_any "_law_any" = true)
    (p_law_any : PySem.W.keepIn K (.ref f_law_any) = true)
    (a_law_key : PySem.W.nsIn K mainGlobals "_law_key" = some (some (.ref f_law_key)))
    (l_law_key : K.lookup f_law_key = some ⟨oc_law_key, od_law_key, .func (PySem.W.fnOf "_law_key" "_law_key" (defArgs s_law_key) (defBody s_law_key) (defScope s_law_key) .none kV_law_key dc_law_key pm_law_key an_law_key cd_law_key ct_law_key), sl_law_key⟩)
    (q_law_key : PySem.W.codeIn K cd_law_key "_law_key" = true)
    (p_law_key : PySem.W.keepIn K (.ref f_law_key) = true)
    (a_law_inserted : PySem.W.nsIn K mainGlobals "_law_inserted" = some (some (.ref f_law_inserted)))
    (l_law_inserted : K.lookup f_law_inserted = some ⟨oc_law_inserted, od_law_inserted, .func (PySem.W.fnOf "_law_inserted" "_law_inserted" (defArgs s_law_inserted) (defBody s_law_inserted) (defScope s_law_inserted) .none kV_law_inserted dc_law_inserted pm_law_inserted an_law_inserted cd_law_inserted ct_law_inserted), sl_law_inserted⟩)
    (q_law_inserted : PySem.W.codeIn K cd_law_inserted "_law_inserted" = true)
    (p_law_inserted : PySem.W.keepIn K (.ref f_law_inserted) = true)
    (a_law_word : PySem.W.nsIn K mainGlobals "_law_word" = some (some (.ref f_law_word)))
    (l_law_word : K.lookup f_law_word = some ⟨oc_law_word, od_law_word, .func (PySem.W.fnOf "_law_word" "_law_word" (defArgs s_law_word) (defBody s_law_word) (defScope s_law_word) .none kV_law_word dc_law_word pm_law_word an_law_word cd_law_word ct_law_word), sl_law_word⟩)
    (q_law_word : PySem.W.codeIn K cd_law_word "_law_word" = true)
    (p_law_word : PySem.W.keepIn K (.ref f_law_word) = true)
    (a_law_shows : PySem.W.nsIn K mainGlobals "_law_shows" = some (some (.ref f_law_shows)))
    (l_law_shows : K.lookup f_law_shows = some ⟨oc_law_shows, od_law_shows, .func (PySem.W.fnOf "_law_shows" "_law_shows" (defArgs s_law_shows) (defBody s_law_shows) (defScope s_law_shows) .none kV_law_shows dc_law_shows pm_law_shows an_law_shows cd_law_shows ct_law_shows), sl_law_shows⟩)
    (q_law_shows : PySem.W.codeIn K cd_law_shows "_law_shows" = true)
    (p_law_shows : PySem.W.keepIn K (.ref f_law_shows) = true)
    (a_law_deed : PySem.W.nsIn K mainGlobals "_law_deed" = some (some (.ref f_law_deed)))
    (l_law_deed : K.lookup f_law_deed = some ⟨oc_law_deed, od_law_deed, .func (PySem.W.fnOf "_law_deed" "_law_deed" (defArgs s_law_deed) (defBody s_law_deed) (defScope s_law_deed) .none kV_law_deed dc_law_deed pm_law_deed an_law_deed (.ref co_law_deed) ct_law_deed), sl_law_deed⟩)
    (q_law_deed : PySem.W.codeIn K (.ref co_law_deed) "_law_deed" = true)
    (p_law_deed : PySem.W.keepIn K (.ref f_law_deed) = true)
    (a_law : PySem.W.nsIn K mainGlobals "law" = some (some (.ref f_law)))
    (l_law : K.lookup f_law = some ⟨oc_law, od_law, .func (PySem.W.fnOf "law" "law" (defArgs s_law) (defBody s_law) (defScope s_law) .none kV_law dc_law pm_law an_law cd_law ct_law), sl_law⟩)
    (q_law : PySem.W.codeIn K cd_law "law" = true)
    (p_law : PySem.W.keepIn K (.ref f_law) = true)
    (pg_Ideal : PySem.W.plainGet K c_Ideal Str.empty = true)
    (hd_Ideal : PySem.W.hasDictIn K c_Ideal = true)
    (po_Ideal : PySem.W.plainOver K c_Ideal = true)
    (sa_Ideal : PySem.W.findIn K (.ref c_Ideal) "__setattr__" = some (some (.builtin "object.__setattr__")))
    (mk_Ideal : PySem.W.makesIn K c_Ideal = true)
    (kc_Ideal : PySem.W.keepIn K (.ref c_Ideal) = true)
    (n_Ideal__rows : PySem.W.findIn K (.ref c_Ideal) "_rows" = some none)
    (em_Ideal : PySem.W.mroIn K c_Ideal (.type "object") = some true)
    (es_Ideal : PySem.W.findIn K (.ref c_Ideal) "__eq__" = some (some (.builtin "object.__eq__")))
    (x_KeyThere : PySem.W.excIn K c_KeyThere [.type "ValueError", .type "Exception", .type "BaseException", .type "object"] "ValueError.__new__" = true)
    (kp_KeyThere : PySem.W.keepIn K (.ref c_KeyThere) = true)
    (s_KeyThere : PySem.W.subIn K (.ref c_KeyThere) (.type "BaseException") = some true)
    (t_KeyThere : PySem.W.typeIn K (.ref c_KeyThere) = some (.type "type"))
    (e1_KeyThere : PySem.W.findIn K (.ref c_KeyThere) "__getattribute__" = some (some (.builtin "BaseException.__getattribute__")))
    (e2_KeyThere : PySem.W.findIn K (.ref c_KeyThere) "__getattr__" = some none)
    (e3_KeyThere : PySem.W.hasDictIn K c_KeyThere = true)
    (e4_KeyThere : PySem.W.findIn K (.ref c_KeyThere) "__class__" = some (some (.builtin "object.__class__")))
    (e5_KeyThere : PySem.W.mroIn K c_KeyThere (.type "object") = some true)
    (x_NothingThere : PySem.W.excIn K c_NothingThere [.type "ValueError", .type "Exception", .type "BaseException", .type "object"] "ValueError.__new__" = true)
    (kp_NothingThere : PySem.W.keepIn K (.ref c_NothingThere) = true)
    (s_NothingThere : PySem.W.subIn K (.ref c_NothingThere) (.type "BaseException") = some true)
    (t_NothingThere : PySem.W.typeIn K (.ref c_NothingThere) = some (.type "type"))
    (e1_NothingThere : PySem.W.findIn K (.ref c_NothingThere) "__getattribute__" = some (some (.builtin "BaseException.__getattribute__")))
    (e2_NothingThere : PySem.W.findIn K (.ref c_NothingThere) "__getattr__" = some none)
    (e3_NothingThere : PySem.W.hasDictIn K c_NothingThere = true)
    (e4_NothingThere : PySem.W.findIn K (.ref c_NothingThere) "__class__" = some (some (.builtin "object.__class__")))
    (e5_NothingThere : PySem.W.mroIn K c_NothingThere (.type "object") = some true)
    (en1 : PySem.W.specialIn K (.builtin "object.__class__") "__get__" = some (some (.builtin "getset_descriptor.__get__")))
    (en2 : PySem.W.takesIn K (.builtin "object.__class__") = some true)
    (s_FabricError : PySem.W.subIn K (.ref c_FabricError) (.type "BaseException") = some true)
    (t_FabricError : PySem.W.typeIn K (.ref c_FabricError) = some (.type "type"))
    (e3_FabricError : PySem.W.hasDictIn K c_FabricError = true)
    (su_FabricError_FabricError : PySem.W.subIn K (.ref c_FabricError) (.ref c_FabricError) = some true)
    (su_KeyThere_NothingThere : PySem.W.subIn K (.ref c_KeyThere) (.ref c_NothingThere) = some false)
    (su_KeyThere_ValueError : PySem.W.subIn K (.ref c_KeyThere) (.type "ValueError") = some true)
    (su_KeyThere_FabricError : PySem.W.subIn K (.ref c_KeyThere) (.ref c_FabricError) = some true)
    (su_KeyThere_KeyThere : PySem.W.subIn K (.ref c_KeyThere) (.ref c_KeyThere) = some true)
    (su_NothingThere_NothingThere : PySem.W.subIn K (.ref c_NothingThere) (.ref c_NothingThere) = some true)
    (su_NothingThere_ValueError : PySem.W.subIn K (.ref c_NothingThere) (.type "ValueError") = some true)
    (su_NothingThere_FabricError : PySem.W.subIn K (.ref c_NothingThere) (.ref c_FabricError) = some true)
    (su_NothingThere_KeyThere : PySem.W.subIn K (.ref c_NothingThere) (.ref c_KeyThere) = some false)
    (k_MOST_LINES : PySem.W.nsIn K mainGlobals "MOST_LINES" = some (some (.int 12 t_MOST_LINES)))
    (k_GREATEST_CELL : PySem.W.nsIn K mainGlobals "GREATEST_CELL" = some (some (.int 1000000000 t_GREATEST_CELL)))
    (k_GREATEST_RANK : PySem.W.nsIn K mainGlobals "GREATEST_RANK" = some (some (.int 1000000000000000000 t_GREATEST_RANK)))
    (z_ValueError : PySem.W.nsIn K mainGlobals "ValueError" = some none)
    (z_abs : PySem.W.nsIn K mainGlobals "abs" = some none)
    (z_all : PySem.W.nsIn K mainGlobals "all" = some none)
    (z_bool : PySem.W.nsIn K mainGlobals "bool" = some none)
    (z_enumerate : PySem.W.nsIn K mainGlobals "enumerate" = some none)
    (z_int : PySem.W.nsIn K mainGlobals "int" = some none)
    (z_isinstance : PySem.W.nsIn K mainGlobals "isinstance" = some none)
    (z_len : PySem.W.nsIn K mainGlobals "len" = some none)
    (z_list : PySem.W.nsIn K mainGlobals "list" = some none)
    (z_range : PySem.W.nsIn K mainGlobals "range" = some none)
    (z_tuple : PySem.W.nsIn K mainGlobals "tuple" = some none)
    : ∃ A : Adr, Top K mg A ∧ A.d_law = PySem.W.fnOf "law" "law" (defArgs s_law) (defBody s_law) (defScope s_law) .none kV_law dc_law pm_law an_law cd_law ct_law ∧ A.a_law = f_law ∧ A.cd_law_deed = co_law_deed ∧ A.tb_law_deed = tb_law_deed := by
  have F_is_integer := fun_mk (st := s_is_integer) l_is_integer q_is_integer p_is_integer
  have F_is_integer_from := fun_mk (st := s_is_integer_from) l_is_integer_from q_is_integer_from p_is_integer_from
  have F_is_number_below := fun_mk (st := s_is_number_below) l_is_number_below q_is_number_below p_is_number_below
  have F_is_tuple_of := fun_mk (st := s_is_tuple_of) l_is_tuple_of q_is_tuple_of p_is_tuple_of
  have F_check_lines := fun_mk (st := s_check_lines) l_check_lines q_check_lines p_check_lines
  have F_is_cell_number := fun_mk (st := s_is_cell_number) l_is_cell_number q_is_cell_number p_is_cell_number
  have F_is_rank := fun_mk (st := s_is_rank) l_is_rank q_is_rank p_is_rank
  have F_is_key := fun_mk (st := s_is_key) l_is_key q_is_key p_is_key
  have F_check_key := fun_mk (st := s_check_key) l_check_key q_check_key p_check_key
  have F_how_many_less := fun_mk (st := s_how_many_less) l_how_many_less q_how_many_less p_how_many_less
  have F_Ideal___init__ := fun_mk (st := s_Ideal___init__) l_Ideal___init__ q_Ideal___init__ p_Ideal___init__
  have F_Ideal__row := fun_mk (st := s_Ideal__row) l_Ideal__row q_Ideal__row p_Ideal__row
  have F_Ideal_push := fun_mk (st := s_Ideal_push) l_Ideal_push q_Ideal_push p_Ideal_push
  have F_Ideal_due := fun_mk (st := s_Ideal_due) l_Ideal_due q_Ideal_due p_Ideal_due
  have F_Ideal_let_go := fun_mk (st := s_Ideal_let_go) l_Ideal_let_go q_Ideal_let_go p_Ideal_let_go
  have F_Ideal_held := fun_mk (st := s_Ideal_held) l_Ideal_held q_Ideal_held p_Ideal_held
  have F_Ideal_ahead := fun_mk (st := s_Ideal_ahead) l_Ideal_ahead q_Ideal_ahead p_Ideal_ahead
  have F_Ideal_copy := fun_mk (st := s_Ideal_copy) l_Ideal_copy q_Ideal_copy p_Ideal_copy
  have F_law_hand := fun_mk (st := s_law_hand) l_law_hand q_law_hand p_law_hand
  have F_law_draw := fun_mk (st := s_law_draw) l_law_draw q_law_draw p_law_draw
  have F_law_any := fun_mk (st := s_law_any) l_law_any q_law_any p_law_any
  have F_law_key := fun_mk (st := s_law_key) l_law_key q_law_key p_law_key
  have F_law_inserted := fun_mk (st := s_law_inserted) l_law_inserted q_law_inserted p_law_inserted
  have F_law_word := fun_mk (st := s_law_word) l_law_word q_law_word p_law_word
  have F_law_shows := fun_mk (st := s_law_shows) l_law_shows q_law_shows p_law_shows
  have F_law_deed := fun_mk (st := s_law_deed) l_law_deed q_law_deed p_law_deed
  have F_law := fun_mk (st := s_law) l_law q_law p_law
  refine ⟨⟨f_is_integer, PySem.W.fnOf "is_integer" "is_integer" (defArgs s_is_integer) (defBody s_is_integer) (defScope s_is_integer) .none kV_is_integer dc_is_integer pm_is_integer an_is_integer cd_is_integer ct_is_integer, f_is_integer_from, PySem.W.fnOf "is_integer_from" "is_integer_from" (defArgs s_is_integer_from) (defBody s_is_integer_from) (defScope s_is_integer_from) .none kV_is_integer_from dc_is_integer_from pm_is_integer_from an_is_integer_from cd_is_integer_from ct_is_integer_from, f_is_number_below, PySem.W.fnOf "is_number_below" "is_number_below" (defArgs s_is_number_below) (defBody s_is_number_below) (defScope s_is_number_below) .none kV_is_number_below dc_is_number_below pm_is_number_below an_is_number_below cd_is_number_below ct_is_number_below, f_is_tuple_of, PySem.W.fnOf "is_tuple_of" "is_tuple_of" (defArgs s_is_tuple_of) (defBody s_is_tuple_of) (defScope s_is_tuple_of) .none kV_is_tuple_of dc_is_tuple_of pm_is_tuple_of an_is_tuple_of cd_is_tuple_of ct_is_tuple_of, f_check_lines, PySem.W.fnOf "check_lines" "check_lines" (defArgs s_check_lines) (defBody s_check_lines) (defScope s_check_lines) .none kV_check_lines dc_check_lines pm_check_lines an_check_lines cd_check_lines ct_check_lines, f_is_cell_number, PySem.W.fnOf "is_cell_number" "is_cell_number" (defArgs s_is_cell_number) (defBody s_is_cell_number) (defScope s_is_cell_number) .none kV_is_cell_number dc_is_cell_number pm_is_cell_number an_is_cell_number cd_is_cell_number ct_is_cell_number, f_is_rank, PySem.W.fnOf "is_rank" "is_rank" (defArgs s_is_rank) (defBody s_is_rank) (defScope s_is_rank) .none kV_is_rank dc_is_rank pm_is_rank an_is_rank cd_is_rank ct_is_rank, f_is_key, PySem.W.fnOf "is_key" "is_key" (defArgs s_is_key) (defBody s_is_key) (defScope s_is_key) .none kV_is_key dc_is_key pm_is_key an_is_key cd_is_key ct_is_key, f_check_key, PySem.W.fnOf "check_key" "check_key" (defArgs s_check_key) (defBody s_check_key) (defScope s_check_key) .none kV_check_key dc_check_key pm_check_key an_check_key cd_check_key ct_check_key, f_how_many_less, PySem.W.fnOf "how_many_less" "how_many_less" (defArgs s_how_many_less) (defBody s_how_many_less) (defScope s_how_many_less) .none kV_how_many_less dc_how_many_less pm_how_many_less an_how_many_less cd_how_many_less ct_how_many_less, f_Ideal___init__, PySem.W.fnOf "__init__" "Ideal.__init__" (defArgs s_Ideal___init__) (defBody s_Ideal___init__) (defScope s_Ideal___init__) .none kV_Ideal___init__ dc_Ideal___init__ pm_Ideal___init__ an_Ideal___init__ cd_Ideal___init__ ct_Ideal___init__, f_Ideal__row, PySem.W.fnOf "_row" "Ideal._row" (defArgs s_Ideal__row) (defBody s_Ideal__row) (defScope s_Ideal__row) .none kV_Ideal__row dc_Ideal__row pm_Ideal__row an_Ideal__row cd_Ideal__row ct_Ideal__row, f_Ideal_push, PySem.W.fnOf "push" "Ideal.push" (defArgs s_Ideal_push) (defBody s_Ideal_push) (defScope s_Ideal_push) .none kV_Ideal_push dc_Ideal_push pm_Ideal_push an_Ideal_push cd_Ideal_push ct_Ideal_push, f_Ideal_due, PySem.W.fnOf "due" "Ideal.due" (defArgs s_Ideal_due) (defBody s_Ideal_due) (defScope s_Ideal_due) .none kV_Ideal_due dc_Ideal_due pm_Ideal_due an_Ideal_due cd_Ideal_due ct_Ideal_due, f_Ideal_let_go, PySem.W.fnOf "let_go" "Ideal.let_go" (defArgs s_Ideal_let_go) (defBody s_Ideal_let_go) (defScope s_Ideal_let_go) .none kV_Ideal_let_go dc_Ideal_let_go pm_Ideal_let_go an_Ideal_let_go cd_Ideal_let_go ct_Ideal_let_go, f_Ideal_held, PySem.W.fnOf "held" "Ideal.held" (defArgs s_Ideal_held) (defBody s_Ideal_held) (defScope s_Ideal_held) .none kV_Ideal_held dc_Ideal_held pm_Ideal_held an_Ideal_held cd_Ideal_held ct_Ideal_held, f_Ideal_ahead, PySem.W.fnOf "ahead" "Ideal.ahead" (defArgs s_Ideal_ahead) (defBody s_Ideal_ahead) (defScope s_Ideal_ahead) .none kV_Ideal_ahead dc_Ideal_ahead pm_Ideal_ahead an_Ideal_ahead cd_Ideal_ahead ct_Ideal_ahead, f_Ideal_copy, PySem.W.fnOf "copy" "Ideal.copy" (defArgs s_Ideal_copy) (defBody s_Ideal_copy) (defScope s_Ideal_copy) .none kV_Ideal_copy dc_Ideal_copy pm_Ideal_copy an_Ideal_copy cd_Ideal_copy ct_Ideal_copy, f_law_hand, PySem.W.fnOf "_law_hand" "_law_hand" (defArgs s_law_hand) (defBody s_law_hand) (defScope s_law_hand) .none kV_law_hand dc_law_hand pm_law_hand an_law_hand cd_law_hand ct_law_hand, f_law_draw, PySem.W.fnOf "_law_draw" "_law_draw" (defArgs s_law_draw) (defBody s_law_draw) (defScope s_law_draw) .none kV_law_draw dc_law_draw pm_law_draw an_law_draw cd_law_draw ct_law_draw, f_law_any, PySem.W.fnOf "_law_any" "_law_any" (defArgs s_law_any) (defBody s_law_any) (defScope s_law_any) .none kV_law_any dc_law_any pm_law_any an_law_any cd_law_any ct_law_any, f_law_key, PySem.W.fnOf "_law_key" "_law_key" (defArgs s_law_key) (defBody s_law_key) (defScope s_law_key) .none kV_law_key dc_law_key pm_law_key an_law_key cd_law_key ct_law_key, f_law_inserted, PySem.W.fnOf "_law_inserted" "_law_inserted" (defArgs s_law_inserted) (defBody s_law_inserted) (defScope s_law_inserted) .none kV_law_inserted dc_law_inserted pm_law_inserted an_law_inserted cd_law_inserted ct_law_inserted, f_law_word, PySem.W.fnOf "_law_word" "_law_word" (defArgs s_law_word) (defBody s_law_word) (defScope s_law_word) .none kV_law_word dc_law_word pm_law_word an_law_word cd_law_word ct_law_word, f_law_shows, PySem.W.fnOf "_law_shows" "_law_shows" (defArgs s_law_shows) (defBody s_law_shows) (defScope s_law_shows) .none kV_law_shows dc_law_shows pm_law_shows an_law_shows cd_law_shows ct_law_shows, f_law_deed, PySem.W.fnOf "_law_deed" "_law_deed" (defArgs s_law_deed) (defBody s_law_deed) (defScope s_law_deed) .none kV_law_deed dc_law_deed pm_law_deed an_law_deed (.ref co_law_deed) ct_law_deed, f_law, PySem.W.fnOf "law" "law" (defArgs s_law) (defBody s_law) (defScope s_law) .none kV_law dc_law pm_law an_law cd_law ct_law, c_Ideal, c_FabricError, c_KeyThere, c_NothingThere, co_law_deed, tb_law_deed⟩, ?_, rfl, rfl, rfl, rfl⟩
  exact ⟨F_is_integer,
    PySem.W.mg_of X G a_is_integer,
    F_is_integer.binds (fun _ _ _ _ _ _ us hl => match us, hl with | [_], _ => rfl),
    F_is_integer_from,
    PySem.W.mg_of X G a_is_integer_from,
    F_is_integer_from.binds (fun _ _ _ _ _ _ us hl => match us, hl with | [_, _, _], _ => rfl),
    F_is_number_below,
    PySem.W.mg_of X G a_is_number_below,
    F_is_number_below.binds (fun _ _ _ _ _ _ us hl => match us, hl with | [_, _], _ => rfl),
    F_is_tuple_of,
    PySem.W.mg_of X G a_is_tuple_of,
    F_is_tuple_of.binds (fun _ _ _ _ _ _ us hl => match us, hl with | [_, _], _ => rfl),
    F_check_lines,
    PySem.W.mg_of X G a_check_lines,
    F_check_lines.binds (fun _ _ _ _ _ _ us hl => match us, hl with | [_], _ => rfl),
    F_is_cell_number,
    PySem.W.mg_of X G a_is_cell_number,
    F_is_cell_number.binds (fun _ _ _ _ _ _ us hl => match us, hl with | [_], _ => rfl),
    F_is_rank,
    PySem.W.mg_of X G a_is_rank,
    F_is_rank.binds (fun _ _ _ _ _ _ us hl => match us, hl with | [_], _ => rfl),
    F_is_key,
    PySem.W.mg_of X G a_is_key,
    F_is_key.binds (fun _ _ _ _ _ _ us hl => match us, hl with | [_], _ => rfl),
    F_check_key,
    PySem.W.mg_of X G a_check_key,
    F_check_key.binds (fun _ _ _ _ _ _ us hl => match us, hl with | [_], _ => rfl),
    F_how_many_less,
    PySem.W.mg_of X G a_how_many_less,
    F_how_many_less.binds (fun _ _ _ _ _ _ us hl => match us, hl with | [_, _], _ => rfl),
    F_Ideal___init__,
    F_Ideal___init__.binds (fun _ _ _ _ _ _ us hl => match us, hl with | [_, _], _ => rfl),
    F_Ideal__row,
    F_Ideal__row.binds (fun _ _ _ _ _ _ us hl => match us, hl with | [_, _], _ => rfl),
    F_Ideal_push,
    F_Ideal_push.binds (fun _ _ _ _ _ _ us hl => match us, hl with | [_, _, _], _ => rfl),
    F_Ideal_due,
    F_Ideal_due.binds (fun _ _ _ _ _ _ us hl => match us, hl with | [_, _], _ => rfl),
    F_Ideal_let_go,
    F_Ideal_let_go.binds (fun _ _ _ _ _ _ us hl => match us, hl with | [_, _], _ => rfl),
    F_Ideal_held,
    F_Ideal_held.binds (fun _ _ _ _ _ _ us hl => match us, hl with | [_, _], _ => rfl),
    F_Ideal_ahead,
    F_Ideal_ahead.binds (fun _ _ _ _ _ _ us hl => match us, hl with | [_, _, _], _ => rfl),
    F_Ideal_copy,
    F_Ideal_copy.binds (fun _ _ _ _ _ _ us hl => match us, hl with | [_], _ => rfl),
    F_law_hand,
    PySem.W.mg_of X G a_law_hand,
    F_law_hand.binds (fun _ _ _ _ _ _ us hl => match us, hl with | [_], _ => rfl),
    F_law_draw,
    PySem.W.mg_of X G a_law_draw,
    F_law_draw.binds (fun _ _ _ _ _ _ us hl => match us, hl with | [_, _], _ => rfl),
    F_law_any,
    PySem.W.mg_of X G a_law_any,
    F_law_any.binds (fun _ _ _ _ _ _ us hl => match us, hl with | [_, _], _ => rfl),
    F_law_key,
    PySem.W.mg_of X G a_law_key,
    F_law_key.binds (fun _ _ _ _ _ _ us hl => match us, hl with | [_, _], _ => rfl),
    F_law_inserted,
    PySem.W.mg_of X G a_law_inserted,
    F_law_inserted.binds (fun _ _ _ _ _ _ us hl => match us, hl with | [_, _], _ => rfl),
    F_law_word,
    PySem.W.mg_of X G a_law_word,
    F_law_word.binds (fun _ _ _ _ _ _ us hl => match us, hl with | [_], _ => rfl),
    F_law_shows,
    PySem.W.mg_of X G a_law_shows,
    F_law_shows.binds (fun _ _ _ _ _ _ us hl => match us, hl with | [_, _, _], _ => rfl),
    F_law_deed,
    PySem.W.mg_of X G a_law_deed,
    F_law_deed.binds (fun _ _ _ _ _ _ us hl => match us, hl with | [_, _, _], _ => rfl),
    F_law,
    PySem.W.mg_of X G a_law,
    F_law.binds (fun _ _ _ _ _ _ us hl => match us, hl with | [_], _ => rfl),
    ⟨pg_Ideal, hd_Ideal, po_Ideal, sa_Ideal⟩,
    PySem.W.mg_of X G ac_Ideal,
    ⟨mk_Ideal, a_Ideal___init__, i_Ideal___init__, kc_Ideal⟩,
    ⟨a_Ideal__row, i_Ideal__row, p_Ideal__row⟩,
    ⟨a_Ideal_push, i_Ideal_push, p_Ideal_push⟩,
    ⟨a_Ideal_due, i_Ideal_due, p_Ideal_due⟩,
    ⟨a_Ideal_let_go, i_Ideal_let_go, p_Ideal_let_go⟩,
    ⟨a_Ideal_held, i_Ideal_held, p_Ideal_held⟩,
    ⟨a_Ideal_ahead, i_Ideal_ahead, p_Ideal_ahead⟩,
    ⟨a_Ideal_copy, i_Ideal_copy, p_Ideal_copy⟩,
    n_Ideal__rows,
    em_Ideal,
    es_Ideal,
    PySem.W.mg_of X G ac_FabricError,
    PySem.W.mg_of X G ac_KeyThere,
    PySem.W.mg_of X G ac_NothingThere,
    x_KeyThere,
    kp_KeyThere,
    s_KeyThere,
    t_KeyThere,
    e1_KeyThere,
    e2_KeyThere,
    e3_KeyThere,
    e4_KeyThere,
    e5_KeyThere,
    x_NothingThere,
    kp_NothingThere,
    s_NothingThere,
    t_NothingThere,
    e1_NothingThere,
    e2_NothingThere,
    e3_NothingThere,
    e4_NothingThere,
    e5_NothingThere,
    en1,
    en2,
    GX.kit_no (PySem.W.exm_ref s_NothingThere e3_NothingThere t_NothingThere su_KeyThere_NothingThere) su_NothingThere_NothingThere su_KeyThere_NothingThere,
    (PySem.W.exm_ref s_NothingThere e3_NothingThere t_NothingThere su_KeyThere_NothingThere),
    GX.kit_bi (by decide) su_KeyThere_ValueError,
    GX.kit_yes (PySem.W.exm_ref s_FabricError e3_FabricError t_FabricError su_KeyThere_FabricError),
    (PySem.W.exm_ref s_FabricError e3_FabricError t_FabricError su_KeyThere_FabricError),
    GX.kit_yes (PySem.W.exm_ref s_KeyThere e3_KeyThere t_KeyThere su_KeyThere_KeyThere),
    (PySem.W.exm_ref s_KeyThere e3_KeyThere t_KeyThere su_KeyThere_KeyThere),
    GX.kit_yes (PySem.W.exm_ref s_NothingThere e3_NothingThere t_NothingThere su_NothingThere_NothingThere),
    (PySem.W.exm_ref s_NothingThere e3_NothingThere t_NothingThere su_NothingThere_NothingThere),
    GX.kit_bi (by decide) su_NothingThere_ValueError,
    GX.kit_yes (PySem.W.exm_ref s_FabricError e3_FabricError t_FabricError su_NothingThere_FabricError),
    (PySem.W.exm_ref s_FabricError e3_FabricError t_FabricError su_NothingThere_FabricError),
    GX.kit_no (PySem.W.exm_ref s_KeyThere e3_KeyThere t_KeyThere su_NothingThere_KeyThere) su_KeyThere_KeyThere su_NothingThere_KeyThere,
    (PySem.W.exm_ref s_KeyThere e3_KeyThere t_KeyThere su_NothingThere_KeyThere),
    ⟨⟨_, _, _, _, _, _, _, _, rfl, l_law_deed, q_law_deed⟩⟩,
    ⟨_, PySem.W.mg_of X G k_MOST_LINES⟩,
    ⟨_, PySem.W.mg_of X G k_GREATEST_CELL⟩,
    ⟨_, PySem.W.mg_of X G k_GREATEST_RANK⟩,
    PySem.W.mg_none_of X G z_ValueError,
    PySem.W.mg_none_of X G z_abs,
    PySem.W.mg_none_of X G z_all,
    PySem.W.mg_none_of X G z_bool,
    PySem.W.mg_none_of X G z_enumerate,
    PySem.W.mg_none_of X G z_int,
    PySem.W.mg_none_of X G z_isinstance,
    PySem.W.mg_none_of X G z_len,
    PySem.W.mg_none_of X G z_list,
    PySem.W.mg_none_of X G z_range,
    PySem.W.mg_none_of X G z_tuple⟩

section
variable {P : Program} {w : World} {K : PySem.W.Frag} {mg : Str → Option Value} {base : Heap} {A : Adr}
/-! ### what counts as an integer -/
def IsI (K : PySem.W.Frag) (H : Hp) (x : V) (b : Bool) : Prop := ∃ t b1 b2, TyX K H x t ∧ PySem.W.kitOne K t (.type "int") = some b1 ∧ PySem.W.kitOne K t (.type "bool") = some b2 ∧ b = (b1 && !b2)
theorem isI_int {H : Hp} {i : Int} : IsI K H (.int i) true := ⟨.type "int", true, false, .base (.int _), kit_ty (by decide +kernel), kit_ty (by decide +kernel), rfl⟩
def spIsInteger (K : PySem.W.Frag) : Sp := fun vs H Q _ => ∃ x b, vs = [x] ∧ IsI K H x b ∧ Q (.bl b) H
theorem ok_is_integer (T : Top K mg A) : FnOk P w K mg base CX0 1 A.a_is_integer A.d_is_integer P_is_integer (spIsInteger K) := by
  refine T.F_is_integer.ok sc_is_integer (fun vs H Q E h => ?_) (fun cdv A outer s H vs Q E hr h => ?_)
  · obtain ⟨x, b, rfl, _⟩ := h
    rfl
  · obtain ⟨x, b, rfl, ⟨t, b1, b2, ty, e1, e2, rfl⟩, k⟩ := h
    refine ⟨_, (pss_one (ps_ret (pe_and (pe_callB call_isi (by rfl) T.z_isinstance (by decide +kernel) (pa_cons (pv 0) (pa_cons (pe_bltn (v := .ty "int") (by rfl) T.z_int (by decide +kernel) rfl) pa_nil))) (pe_one (pe_not (pe_callB call_isi (by rfl) T.z_isinstance (by decide +kernel) (pa_cons (pv 0) (pa_cons (pe_bltn (v := .ty "bool") (by rfl) T.z_bool (by decide +kernel) rfl) pa_nil)))))))), ?_⟩
    refine ⟨_, rfl, _, _, _, _, _, rfl, .ty "int", ty, e1, b1, rfl, ?_⟩
    cases b1 with
    | false => exact iteF k
    | true =>
      refine iteT ?_
      refine ⟨_, rfl, _, _, _, _, _, rfl, .ty "bool", ty, e2, b2, rfl, ?_⟩
      exact k
def spIIF (K : PySem.W.Frag) : Sp := fun vs H Q _ => ∃ (lo hi : Int) (x : V), vs = [.int lo, .int hi, x] ∧ ((∃ i, x = .int i ∧ Q (.bl (decide (lo ≤ i) && decide (i ≤ hi))) H) ∨ (IsI K H x false ∧ Q (.bl false) H))
theorem ok_is_integer_from (T : Top K mg A) : FnOk P w K mg base CX0 2 A.a_is_integer_from A.d_is_integer_from P_is_integer_from (spIIF K) := by
  refine T.F_is_integer_from.ok sc_is_integer_from (fun vs H Q E h => ?_) (fun cdv A outer s H vs Q E hr h => ?_)
  · obtain ⟨lo, hi, x, rfl, _⟩ := h
    rfl
  · obtain ⟨lo, hi, x, rfl, k⟩ := h
    refine ⟨_, (pss_one (ps_ret (pe_and (pe_call (ok_is_integer T) (hr.mono (by decide)) (by rfl) T.g_is_integer T.F_is_integer.kp T.b_is_integer .nil pass0 (pa_cons (pv 2) pa_nil)) (pe_one (pe_chain op_le op_le (pv 0) (pv 2) (pv 1)))))), ?_⟩
    refine ⟨_, rfl, x, ?_⟩
    rcases k with ⟨i, rfl, k⟩ | ⟨hI, k⟩
    · refine ⟨true, rfl, isI_int, true, rfl, iteT ?_⟩
      refine ⟨_, rfl, _, rfl, _, _, rfl, rfl, _, rfl, ?_⟩
      by_cases c : lo ≤ i
      · rw [decide_eq_true c] at k ⊢
        refine iteT ⟨_, rfl, _, _, rfl, rfl, k⟩
      · rw [decide_eq_false c] at k ⊢
        exact iteF k
    · exact ⟨false, rfl, hI, false, rfl, iteF k⟩
def spINB (K : PySem.W.Frag) : Sp := fun vs H Q _ => ∃ (n : Int) (x : V), vs = [.int n, x] ∧ ((∃ i, x = .int i ∧ Q (.bl (decide (0 ≤ i) && decide (i ≤ n - 1))) H) ∨ (IsI K H x false ∧ Q (.bl false) H))
theorem ok_is_number_below (T : Top K mg A) : FnOk P w K mg base CX0 3 A.a_is_number_below A.d_is_number_below P_is_number_below (spINB K) := by
  refine T.F_is_number_below.ok sc_is_number_below (fun vs H Q E h => ?_) (fun cdv A outer s H vs Q E hr h => ?_)
  · obtain ⟨n, x, rfl, _⟩ := h
    rfl
  · obtain ⟨n, x, rfl, k⟩ := h
    refine ⟨_, (pss_one (ps_ret (pe_call (ok_is_integer_from T) (hr.mono (by decide)) (by rfl) T.g_is_integer_from T.F_is_integer_from.kp T.b_is_integer_from .nil pass0 (pa_cons pe_int (pa_cons (pe_op op_sub (pv 0) pe_int) (pa_cons (pv 1) pa_nil)))))), ?_⟩
    exact ⟨_, rfl, _, _, rfl, rfl, _, rfl, _, _, _, rfl, k⟩
end

section
variable {P : Program} {w : World} {K : PySem.W.Frag} {mg : Str → Option Value} {base : Heap} {A : Adr}
/-! ### keys -/
theorem dec_int {a b : Int} : decide (V.int a = V.int b) = decide (a = b) := decide_eq_decide.mpr ⟨fun e => V.int.inj e, fun e => by rw [e]⟩
theorem dec_self {a : V} : decide (a = a) = true := decide_eq_true rfl
/-- the tuple of two ints at a -/
abbrev Tup2 (H : Hp) (a : Addr) (p : Int × Int) : Prop := H a = some (.tup [.int p.1, .int p.2])
def spITO (K : PySem.W.Frag) : Sp := fun vs H Q _ => ∃ (n : Int) (a : Addr) (xs : List V), vs = [.int n, .ref a] ∧ H a = some (.tup xs) ∧ Q (.bl (decide ((xs.length : Int) = n))) H
theorem ok_is_tuple_of (T : Top K mg A) : FnOk P w K mg base CX0 1 A.a_is_tuple_of A.d_is_tuple_of P_is_tuple_of (spITO K) := by
  refine T.F_is_tuple_of.ok sc_is_tuple_of (fun vs H Q E h => ?_) (fun cdv A outer s H vs Q E hr h => ?_)
  · obtain ⟨n, a, xs, rfl, _⟩ := h
    rfl
  · obtain ⟨n, a, xs, rfl, ha, k⟩ := h
    refine ⟨_, (pss_one (ps_ret (pe_and (pe_callB call_isi (by rfl) T.z_isinstance (by decide +kernel) (pa_cons (pv 1) (pa_cons (pe_bltn (v := .ty "tuple") (by rfl) T.z_tuple (by decide +kernel) rfl) pa_nil))) (pe_one (pe_cmpR op_eq (pe_callB call_len_seq (by rfl) T.z_len (by decide +kernel) (pa_cons (pv 1) pa_nil)) (pv 0) (nomark _)))))), ?_⟩
    refine ⟨_, rfl, _, _, _, _, _, rfl, .ty "tuple", .base (.tup ha), kit_ty (b := "tuple") (r := true) (by decide +kernel), true, rfl, iteT ?_⟩
    refine ⟨_, rfl, _, _, rfl, .inr (SqT.of ha), _, rfl, rfl, ?_⟩
    rw [dec_int]
    exact k
def spCheckLines : Sp := fun vs H Q _ => ∃ (n : Int), vs = [.int n] ∧ 1 ≤ n ∧ n ≤ 12 ∧ Q .non H
theorem ok_check_lines (T : Top K mg A) : FnOk P w K mg base CX0 3 A.a_check_lines A.d_check_lines P_check_lines spCheckLines := by
  refine T.F_check_lines.ok sc_check_lines (fun vs H Q E h => ?_) (fun cdv A outer s H vs Q E hr h => ?_)
  · obtain ⟨n, rfl, _⟩ := h
    rfl
  · obtain ⟨n, rfl, h1, h2, k⟩ := h
    obtain ⟨t, kt⟩ := T.k_MOST_LINES
    refine ⟨_, (pss_one (ps_if (pt_not (pt_val (pe_call (ok_is_integer_from T) (hr.mono (by decide)) (by rfl) T.g_is_integer_from T.F_is_integer_from.kp T.b_is_integer_from .nil pass0 (pa_cons pe_int (pa_cons (pe_glob (v := .int 12) rfl kt ⟨_, rfl⟩) (pa_cons (pv 0) pa_nil)))))) (pss_one ps_never) pss_nil)), ?_⟩
    refine ⟨_, rfl, _, _, _, rfl, .inl ⟨n, rfl, ?_⟩⟩
    rw [decide_eq_true h1, decide_eq_true h2]
    exact ⟨true, rfl, iteF k⟩
def spICN (K : PySem.W.Frag) : Sp := fun vs H Q _ => ∃ (n : Int), vs = [.int n] ∧ Q (.bl (decide (0 ≤ n) && decide (n ≤ 1000000000))) H
theorem ok_is_cell_number (T : Top K mg A) : FnOk P w K mg base CX0 3 A.a_is_cell_number A.d_is_cell_number P_is_cell_number (spICN K) := by
  refine T.F_is_cell_number.ok sc_is_cell_number (fun vs H Q E h => ?_) (fun cdv A outer s H vs Q E hr h => ?_)
  · obtain ⟨n, rfl, _⟩ := h
    rfl
  · obtain ⟨n, rfl, k⟩ := h
    obtain ⟨t, kt⟩ := T.k_GREATEST_CELL
    refine ⟨_, (pss_one (ps_ret (pe_call (ok_is_integer_from T) (hr.mono (by decide)) (by rfl) T.g_is_integer_from T.F_is_integer_from.kp T.b_is_integer_from .nil pass0 (pa_cons pe_int (pa_cons (pe_glob (v := .int 1000000000) rfl kt ⟨_, rfl⟩) (pa_cons (pv 0) pa_nil)))))), ?_⟩
    exact ⟨_, rfl, _, _, _, rfl, .inl ⟨n, rfl, k⟩⟩
def spIR (K : PySem.W.Frag) : Sp := fun vs H Q _ => ∃ (n : Int), vs = [.int n] ∧ Q (.bl (decide (-1000000000000000000 ≤ n) && decide (n ≤ 1000000000000000000))) H
theorem ok_is_rank (T : Top K mg A) : FnOk P w K mg base CX0 3 A.a_is_rank A.d_is_rank P_is_rank (spIR K) := by
  refine T.F_is_rank.ok sc_is_rank (fun vs H Q E h => ?_) (fun cdv A outer s H vs Q E hr h => ?_)
  · obtain ⟨n, rfl, _⟩ := h
    rfl
  · obtain ⟨n, rfl, k⟩ := h
    obtain ⟨t, kt⟩ := T.k_GREATEST_RANK
    refine ⟨_, (pss_one (ps_ret (pe_call (ok_is_integer_from T) (hr.mono (by decide)) (by rfl) T.g_is_integer_from T.F_is_integer_from.kp T.b_is_integer_from .nil pass0 (pa_cons (pe_un un_neg (pe_glob (v := .int 1000000000000000000) rfl kt ⟨_, rfl⟩)) (pa_cons (pe_glob (v := .int 1000000000000000000) rfl kt ⟨_, rfl⟩) (pa_cons (pv 0) pa_nil)))))), ?_⟩
    exact ⟨_, rfl, _, rfl, _, _, _, rfl, .inl ⟨n, rfl, k⟩⟩
/-- a key that holds: its rank and its cell's number lie within their bounds -/
def KeyOk (p : Int × Int) : Prop := -1000000000000000000 ≤ p.1 ∧ p.1 ≤ 1000000000000000000 ∧ 0 ≤ p.2 ∧ p.2 ≤ 1000000000
def spIK (K : PySem.W.Frag) : Sp := fun vs H Q _ => ∃ (a : Addr) (p : Int × Int), vs = [.ref a] ∧ Tup2 H a p ∧ KeyOk p ∧ Q (.bl true) H
theorem ok_is_key (T : Top K mg A) : FnOk P w K mg base CX0 4 A.a_is_key A.d_is_key P_is_key (spIK K) := by
  refine T.F_is_key.ok sc_is_key (fun vs H Q E h => ?_) (fun cdv A outer s H vs Q E hr h => ?_)
  · obtain ⟨a, p, rfl, _⟩ := h
    rfl
  · obtain ⟨a, p, rfl, ha, ⟨h1, h2, h3, h4⟩, k⟩ := h
    refine ⟨_, (pss_one (ps_ret (pe_and (pe_call (ok_is_tuple_of T) (hr.mono (by decide)) (by rfl) T.g_is_tuple_of T.F_is_tuple_of.kp T.b_is_tuple_of .nil pass0 (pa_cons pe_int (pa_cons (pv 0) pa_nil))) (pe_and (pe_call (ok_is_rank T) (hr.mono (by decide)) (by rfl) T.g_is_rank T.F_is_rank.kp T.b_is_rank .nil pass0 (pa_cons (pe_ix ix_tup (pv 0) pe_int (fun _ _ => rfl)) pa_nil)) (pe_one (pe_call (ok_is_cell_number T) (hr.mono (by decide)) (by rfl) T.g_is_cell_number T.F_is_cell_number.kp T.b_is_cell_number .nil pass0 (pa_cons (pe_ix ix_tup (pv 0) pe_int (fun _ _ => rfl)) pa_nil))))))), ?_⟩
    refine ⟨_, rfl, _, _, _, rfl, ha, true, rfl, iteT ?_⟩
    refine ⟨_, rfl, _, _, _, _, rfl, rfl, SqT.of ha, atI_nat (j := 0) rfl, _, rfl, ?_⟩
    rw [decide_eq_true h1, decide_eq_true h2]
    refine ⟨true, rfl, iteT ?_⟩
    refine ⟨_, rfl, _, _, _, _, rfl, rfl, SqT.of ha, atI_nat (j := 1) rfl, _, rfl, ?_⟩
    rw [decide_eq_true h3, decide_eq_true h4]
    exact k
def spCK (K : PySem.W.Frag) : Sp := fun vs H Q _ => ∃ (a : Addr) (p : Int × Int), vs = [.ref a] ∧ Tup2 H a p ∧ KeyOk p ∧ Q .non H
theorem ok_check_key (T : Top K mg A) : FnOk P w K mg base CX0 5 A.a_check_key A.d_check_key P_check_key (spCK K) := by
  refine T.F_check_key.ok sc_check_key (fun vs H Q E h => ?_) (fun cdv A outer s H vs Q E hr h => ?_)
  · obtain ⟨a, p, rfl, _⟩ := h
    rfl
  · obtain ⟨a, p, rfl, ha, hk, k⟩ := h
    refine ⟨_, (pss_one (ps_if (pt_not (pt_val (pe_call (ok_is_key T) (hr.mono (by decide)) (by rfl) T.g_is_key T.F_is_key.kp T.b_is_key .nil pass0 (pa_cons (pv 0) pa_nil)))) (pss_one ps_never) pss_nil)), ?_⟩
    exact ⟨_, rfl, _, _, rfl, ha, hk, true, rfl, iteF k⟩
/-! ### how many keys are less -/
def KeysAt (H : Hp) (kd : V → Int × Int) (xs : List V) : Prop := ∀ v ∈ xs, ∃ a, v = .ref a ∧ Tup2 H a (kd v)
theorem KeysAt.same {H H' : Hp} {kd : V → Int × Int} {xs : List V} (e : Same H H') (h : KeysAt H kd xs) : KeysAt H' kd xs := fun v hv => by
  obtain ⟨a, e1, e2⟩ := h v hv
  exact ⟨a, e1, e _ _ e2⟩
def ltK (kd : V → Int × Int) (k v : V) : Bool := HT.lexLt [(kd v).1, (kd v).2] [(kd k).1, (kd k).2]
def less (kd : V → Int × Int) (k : V) (xs : List V) : Nat := (xs.filter (ltK kd k)).length
theorem less_le (kd : V → Int × Int) (k : V) (xs : List V) : less kd k xs ≤ xs.length := List.length_filter_le _ _
theorem same_upd {H : Hp} {p : Addr} {o : HO} (h : H p = none) : Same H (upd H p o) := fun b x e => by
  rw [upd_ne (ne_of_none e h)]
  exact e
theorem same_to {H H1 : Hp} {p : Addr} {o : HO} (s : Same H H1) (h : H p = none) : Same H (upd H1 p o) := fun b x e => by
  rw [upd_ne (ne_of_none e h)]
  exact s _ _ e
theorem take_fil {xs : List V} {i : Nat} {x : V} (f : V → Bool) (h : xs[i]? = some x) : (xs.take (i + 1)).filter f = (xs.take i).filter f ++ (if f x = true then [x] else []) := by
  rw [List.take_add_one, h, List.filter_append]
  congr 1
  show List.filter f [x] = _
  by_cases c : f x = true
  · rw [if_pos c, List.filter_cons_of_pos c]
    rfl
  · rw [if_neg c, List.filter_cons_of_neg c]
    rfl
theorem fil_lt {xs : List V} {f : V → Bool} {i : Nat} (h : xs.length ≤ 100000) : ((xs.take i).filter f).length < sizeLine := by
  have h1 : ((xs.take i).filter f).length ≤ (xs.take i).length := List.length_filter_le _ _
  rw [List.length_take] at h1
  exact Nat.lt_of_le_of_lt (Nat.le_trans h1 (Nat.le_trans (Nat.min_le_right _ _) h)) (by decide)
theorem lt2 {a b c d : Int} : (HT.lexLt [a, b] [c, d] = true) ↔ (a < c ∨ (a = c ∧ b < d)) := by
  simp [HT.lexLt]
  by_cases h : a = c
  · rw [if_pos h]
    omega
  · rw [if_neg h]
    omega
/-- u < v -/
def LtV (kd : V → Int × Int) (u v : V) : Prop := (kd u).1 < (kd v).1 ∨ ((kd u).1 = (kd v).1 ∧ (kd u).2 < (kd v).2)
theorem ltK_iff {kd : V → Int × Int} {k v : V} : ltK kd k v = true ↔ LtV kd v k := lt2
def Pw (kd : V → Int × Int) (xs : List V) : Prop := xs.Pairwise (LtV kd)
theorem less_split {kd : V → Int × Int} {k : V} : ∀ {xs : List V}, Pw kd xs → (∀ v ∈ xs.take (less kd k xs), LtV kd v k) ∧ ∀ v ∈ xs.drop (less kd k xs), ¬ LtV kd v k
  | [], _ => ⟨fun v hv => by simp at hv, fun v hv => by simp at hv⟩
  | u :: r, h => by
    obtain ⟨h1, h2⟩ := List.pairwise_cons.mp h
    obtain ⟨i1, i2⟩ := less_split (k := k) h2
    by_cases c : LtV kd u k
    · have e : less kd k (u :: r) = less kd k r + 1 := by
        unfold less
        rw [List.filter_cons_of_pos (ltK_iff.mpr c), List.length_cons]
      rw [e, List.take_succ_cons, List.drop_succ_cons]
      refine ⟨fun v hv => ?_, i2⟩
      rcases List.mem_cons.mp hv with z | hv
      · rw [z]
        exact c
      · exact i1 v hv
    · have no : ∀ v ∈ r, ¬ LtV kd v k := fun v hv z => c (by
        have q := h1 v hv
        unfold LtV at q z ⊢
        omega)
      have e : less kd k (u :: r) = 0 := by
        unfold less
        rw [List.filter_cons_of_neg (fun z => c (ltK_iff.mp z)), List.filter_eq_nil_iff.mpr fun v hv z => no v hv (ltK_iff.mp z)]
        rfl
      rw [e]
      refine ⟨fun v hv => by simp at hv, fun v hv => ?_⟩
      rcases List.mem_cons.mp hv with z | hv
      · rw [z]
        exact c
      · exact no v hv
def spHML (K : PySem.W.Frag) : Sp := fun vs H Q _ => ∃ (l : Addr) (xs : List V) (kv : V) (kd : V → Int × Int), vs = [.ref l, kv] ∧ SqL K H l xs ∧ KeysAt H kd (kv :: xs) ∧ Pw kd xs ∧ xs.length ≤ 100000 ∧ ∀ H', Same H H' → Q (.int (less kd kv xs : Nat)) H'
theorem split_lo {kd : V → Int × Int} {k : V} {xs : List V} (h : Pw kd xs) {i : Nat} {v : V} (e : xs[i]? = some v) : (i < less kd k xs → ltK kd k v = true) ∧ (less kd k xs ≤ i → ltK kd k v = false) := by
  obtain ⟨h1, h2⟩ := less_split (k := k) h
  constructor
  · intro c
    refine ltK_iff.mpr (h1 v ?_)
    refine List.mem_of_getElem? (i := i) ?_
    rw [List.getElem?_take_of_lt c]
    exact e
  · intro c
    cases q : ltK kd k v with
    | false => rfl
    | true =>
      refine absurd (ltK_iff.mp q) (h2 v ?_)
      refine List.mem_of_getElem? (i := i - less kd k xs) ?_
      rw [List.getElem?_drop, show less kd k xs + (i - less kd k xs) = i by omega]
      exact e
theorem ok_how_many_less (T : Top K mg A) : FnOk P w K mg base CX0 1 A.a_how_many_less A.d_how_many_less P_how_many_less (spHML K) := by
  refine T.F_how_many_less.ok sc_how_many_less (fun vs H Q E h => ?_) (fun cdv A outer s H vs Q E hr h => ?_)
  · obtain ⟨l, xs, kv, kd, rfl, _⟩ := h
    rfl
  · obtain ⟨l, xs, kv, kd, rfl, hl, hk, hs, hn, k⟩ := h
    obtain ⟨ak, rfl, hak⟩ := hk kv (by simp)
    refine ⟨_, (pss_cons (ps_set (i := 2) sc_how_many_less.nd rfl (.inl rfl) pe_int)
    (pss_cons (ps_set (i := 3) sc_how_many_less.nd rfl (.inl rfl) (pe_callB call_len_seq (by rfl) T.z_len (by decide +kernel) (pa_cons (pv 0) pa_nil)))
    (pss_cons (ps_while PassesOwn.never (pt_cmpR op_lt (pv 2) (pv 3) (nomark _)) (pss_cons (ps_set (i := 4) sc_how_many_less.nd rfl (.inl rfl) (pe_op op_fdiv (pe_op op_add (pv 2) (pv 3)) pe_int))
    (pss_one (ps_if (pt_cmpR (op_ltT hr.units0) (pe_ix ix_list (pv 0) (pv 4) (fun _ _ => rfl)) (pv 1) (nomark _)) (pss_one (ps_set (i := 2) sc_how_many_less.nd rfl (.inl rfl) (pe_op op_add (pv 4) pe_int))) (pss_one (ps_set (i := 3) sc_how_many_less.nd rfl (.inl rfl) (pv 4)))))))
    (pss_one (ps_ret (pv 2)))))), ?_⟩
    refine ⟨_, rfl, l, xs, rfl, .inl hl, ?_⟩
    refine ⟨fun m σ H' => ∃ (lo hi : Nat) (y4 : Option V), σ = [some (.ref l), some (.ref ak), some (.int (lo : Int)), some (.int (hi : Int)), y4] ∧ H' = H ∧ lo ≤ less kd (.ref ak) xs ∧ less kd (.ref ak) xs ≤ hi ∧ hi ≤ xs.length ∧ m = hi - lo, ⟨_, 0, xs.length, none, rfl, rfl, Nat.zero_le _, less_le _ _ _, Nat.le_refl _, rfl⟩, ?_⟩
    rintro m σ H' ⟨lo, hi, y4, rfl, rfl, h1, h2, h3, rfl⟩
    refine ⟨_, rfl, _, rfl, _, _, rfl, rfl, _, rfl, ite2 (fun c => ?_) (fun c => ?_)⟩
    · have c := of_decide_eq_true c
      refine ⟨fun σ' H'' => ∃ (lo' hi' : Nat) (y4 : Option V), σ' = [some (.ref l), some (.ref ak), some (.int (lo' : Int)), some (.int (hi' : Int)), y4] ∧ H'' = H' ∧ lo' ≤ less kd (.ref ak) xs ∧ less kd (.ref ak) xs ≤ hi' ∧ hi' ≤ xs.length ∧ hi' - lo' < hi - lo, fun σ' H'' ⟨lo', hi', y, e1, e2, e3, e4, e5, e6⟩ => ⟨_, e6, lo', hi', y, e1, e2, e3, e4, e5, rfl⟩, ?_⟩
      refine ⟨_, rfl, _, rfl, _, _, rfl, rfl, _, _, rfl, rfl, ⟨by decide, by decide⟩, ?_⟩
      have em : ((lo : Int) + (hi : Int)) / 2 = (((lo + hi) / 2 : Nat) : Int) := by omega
      have hm : (lo + hi) / 2 < xs.length := by omega
      have ex : xs[(lo + hi) / 2]? = some xs[(lo + hi) / 2] := List.getElem?_eq_getElem hm
      obtain ⟨b, eb, hb⟩ := hk xs[(lo + hi) / 2] (List.mem_cons_of_mem _ (List.mem_of_getElem? ex))
      obtain ⟨g1, g2⟩ := split_lo (k := .ref ak) hs ex
      show tSeq _ _ _ ([some (.ref l), some (.ref ak), some (.int (lo : Int)), some (.int (hi : Int)), some (.int (((lo : Int) + (hi : Int)) / 2))] : L2.St) _
      rw [em]
      refine ⟨_, rfl, _, rfl, l, xs, _, xs[(lo + hi) / 2], rfl, rfl, hl, atI_nat ex, ?_⟩
      rw [eb] at hb g1 g2 ⊢
      refine ⟨_, rfl, b, ak, [(kd (.ref b)).1, (kd (.ref b)).2], [(kd (.ref ak)).1, (kd (.ref ak)).2], rfl, rfl, SqT.of hb, SqT.of hak, _, rfl, ?_⟩
      show (if ltK kd (.ref ak) (.ref b) = true then _ else _)
      by_cases c2 : (lo + hi) / 2 < less kd (.ref ak) xs
      · rw [g1 c2]
        refine iteT ?_
        refine ⟨_, rfl, _, _, rfl, rfl, (lo + hi) / 2 + 1, hi, _, rfl, rfl, by omega, h2, h3, by omega⟩
      · rw [g2 (by omega)]
        refine iteF ?_
        exact ⟨_, rfl, lo, (lo + hi) / 2, _, rfl, rfl, h1, by omega, by omega, by omega⟩
    · have c : ¬ ((lo : Int) < (hi : Int)) := fun z => c (decide_eq_true z)
      refine ⟨_, rfl, ?_⟩
      have e : lo = less kd (.ref ak) xs := by omega
      rw [e]
      exact k _ fun _ _ q => q
end

section
variable {P : Program} {w : World} {K : PySem.W.Frag} {mg : Str → Option Value} {base : Heap} {A : Adr}
/-! ### the hand: a list of five, [the script's numbers, place, rest, mix, turns] -/
theorem upd_upd {H : Hp} {a : Addr} {o u : HO} : upd (upd H a o) a u = upd H a u := by
  funext b
  by_cases h : b = a
  · subst h
    rw [upd_same, upd_same]
  · rw [upd_ne h, upd_ne h, upd_ne h]
def handO (g : Addr) (i m s t : Int) : HO := .lst [.ref g, .int i, .int m, .int s, .int t]
/-- the hand stands at h, its numbers at g -/
structure HandAt (H : Hp) (h g : Addr) : Prop where
  cells : ∃ ns : List Int, H g = some (.lst (ns.map V.int))
  five : ∃ i m s t, H h = some (handO g i m s t) ∧ 0 ≤ i ∧ -(2 ^ 64) < s ∧ s < 2 ^ 64
  ne : h ≠ g
/-- as H but at h -/
def But (h : Addr) (H H' : Hp) : Prop := ∀ b, b ≠ h → H' b = H b
theorem But.upd {h : Addr} {H : Hp} {o : HO} : But h H (upd H h o) := fun _ hb => upd_ne hb
theorem But.trans {h : Addr} {H H1 H2 : Hp} (a : But h H H1) (b : But h H1 H2) : But h H H2 := fun c hc => (b c hc).trans (a c hc)
theorem But.refl (h : Addr) (H : Hp) : But h H H := fun _ _ => rfl
theorem hand_upd {H : Hp} {h g : Addr} (a : HandAt H h g) {i m s t : Int} (hi : 0 ≤ i) (hs : -(2 ^ 64) < s) (hs2 : s < 2 ^ 64) : HandAt (upd H h (handO g i m s t)) h g :=
  ⟨by
    obtain ⟨ns, e⟩ := a.cells
    exact ⟨ns, by rw [upd_ne a.ne.symm]; exact e⟩, ⟨i, m, s, t, upd_same, hi, hs, hs2⟩, a.ne⟩
def spDraw : Sp := fun vs H Q _ => ∃ (h g : Addr) (n : Int), vs = [.ref h, .int n] ∧ HandAt H h g ∧ 0 < n ∧ n < 1073741824 ∧ ∀ (H' : Hp) (d : Int), But h H H' → HandAt H' h g → 0 ≤ d → d < n → Q (.int d) H'
theorem ixn5 {g : Addr} {i m s t : Int} {v : V} : ∀ j : Nat, [V.ref g, V.int i, V.int m, V.int s, V.int t][j]? = some v → atI [V.ref g, V.int i, V.int m, V.int s, V.int t] (j : Int) = some v := fun j h => atI_nat h
theorem ok_law_draw (T : Top K mg A) : FnOk P w K mg base CX0 1 A.a_law_draw A.d_law_draw P_law_draw spDraw := by
  refine T.F_law_draw.ok sc_law_draw (fun vs H Q E h => ?_) (fun cdv A outer s H vs Q E hr h => ?_)
  · obtain ⟨h, g, n, rfl, _⟩ := h
    rfl
  · obtain ⟨h, g, n, rfl, ha, hn, hn2, k⟩ := h
    obtain ⟨ns, eg⟩ := ha.cells
    obtain ⟨i, m, sd, t, eh, hi, hs1, hs2⟩ := ha.five
    have hne := ha.ne
    refine ⟨_, (Evl.pss_cut (ps_if (PW.pt (pw_and (pt_cmpR op_eq (pe_ix ix_list (pv 0) pe_int (fun _ _ => rfl)) pe_int (nomark _)) (pw_and1 (pt_cmpR op_lt (pe_ix ix_list (pv 0) pe_int (fun _ _ => rfl)) (pe_callB call_len_seq (by rfl) T.z_len (by decide +kernel) (pa_cons (pe_ix ix_list (pv 0) pe_int (fun _ _ => rfl)) pa_nil)) (nomark _))))) (pss_cons (ps_set (i := 2) sc_law_draw.nd rfl (.inl rfl) (pe_ix ix_list (pe_ix ix_list (pv 0) pe_int (fun _ _ => rfl)) (pe_ix ix_list (pv 0) pe_int (fun _ _ => rfl)) (fun _ _ => rfl)))
    (pss_cons (ps_asg (pe_op op_add (pe_ix ix_list (pv 0) pe_int (fun _ _ => rfl)) pe_int) (pg_sub (pv 0) pe_int set_list))
    (pss_cons (ps_asg (pe_op op_mod (pe_callTy call_int1 (by rfl) T.z_int (by decide +kernel) (pa_cons (pe_op op_add (pe_op op_add (pe_op op_mul (pe_ix ix_list (pv 0) pe_int (fun _ _ => rfl)) pe_int) (pv 2)) pe_int) pa_nil)) pe_int) (pg_sub (pv 0) pe_int set_list))
    (pss_one (ps_if (pt_cmpR op_ge (pv 2) (pe_op op_pow pe_int pe_int) (nomark _)) (pss_one (ps_asg (pv 2) (pg_sub (pv 0) pe_int set_list))) pss_nil))))) pss_nil)
    (pss_cons (ps_if (pt_cmpR op_gt (pe_ix ix_list (pv 0) pe_int (fun _ _ => rfl)) pe_int (nomark _)) (pss_cons (ps_set (i := 3) sc_law_draw.nd rfl (.inl rfl) (pe_op op_mod (pe_callTy call_int1 (by rfl) T.z_int (by decide +kernel) (pa_cons (pe_ix ix_list (pv 0) pe_int (fun _ _ => rfl)) pa_nil)) (pv 1)))
    (pss_cons (ps_asg (pe_op op_fdiv (pe_ix ix_list (pv 0) pe_int (fun _ _ => rfl)) (pv 1)) (pg_sub (pv 0) pe_int set_list))
    (pss_one (ps_ret (pv 3))))) pss_nil)
    (pss_cons (ps_asg (pe_op op_add (pe_ix ix_list (pv 0) pe_int (fun _ _ => rfl)) pe_int) (pg_sub (pv 0) pe_int set_list))
    (pss_cons (ps_set (i := 4) sc_law_draw.nd rfl (.inl rfl) (pe_op op_mod (pe_callTy call_int1 (by rfl) T.z_int (by decide +kernel) (pa_cons (pe_op op_mul (pe_callTy call_int1 (by rfl) T.z_int (by decide +kernel) (pa_cons (pe_op op_add (pe_ix ix_list (pv 0) pe_int (fun _ _ => rfl)) (pe_op op_mul pe_int (pe_ix ix_list (pv 0) pe_int (fun _ _ => rfl)))) pa_nil)) pe_int) pa_nil)) pe_int))
    (pss_cons (ps_set (i := 4) sc_law_draw.nd rfl (.inl rfl) (pe_op op_mod (pe_callTy call_int1 (by rfl) T.z_int (by decide +kernel) (pa_cons (pe_op op_mul (pv 4) (pe_op op_add (pe_op op_fdiv (pv 4) pe_int) pe_int)) pa_nil)) pe_int))
    (pss_cons (ps_set (i := 4) sc_law_draw.nd rfl (.inl rfl) (pe_op op_mod (pe_callTy call_int1 (by rfl) T.z_int (by decide +kernel) (pa_cons (pe_op op_mul (pv 4) (pe_op op_add (pe_op op_fdiv (pv 4) pe_int) pe_int)) pa_nil)) pe_int))
    (pss_one (ps_ret (pe_op op_mod (pe_callTy call_int1 (by rfl) T.z_int (by decide +kernel) (pa_cons (pe_op op_fdiv (pv 4) pe_int) pa_nil)) (pv 1)))))))))), ?_⟩
    refine ⟨fun σ' H' => ∃ y2, σ' = [some (.ref h), some (.int n), y2, none, none] ∧ But h H H' ∧ HandAt H' h g, ?_, ?_⟩
    · -- the first if
      have stay : ∃ y2, (start N_law_draw [V.ref h, V.int n]) = [some (.ref h), some (.int n), y2, none, none] ∧ But h H H ∧ HandAt H h g := ⟨none, rfl, But.refl h H, ha⟩
      refine ⟨_, rfl, h, _, 2, _, rfl, rfl, SqL.of eh, atI_nat (j := 2) rfl, rfl, _, rfl, ite2 (fun c1 => ?_) (fun _ => iteF stay)⟩
      refine ⟨_, rfl, h, _, 1, _, rfl, rfl, SqL.of eh, atI_nat (j := 1) rfl, _, rfl, h, _, 0, _, rfl, rfl, SqL.of eh, atI_nat (j := 0) rfl, g, _, rfl, .inl (SqL.of eg), _, _, rfl, rfl, _, rfl, ite2 (fun c2 => ?_) (fun _ => stay)⟩
      have c3 : i < (ns.length : Int) := by
        have q := of_decide_eq_true c2
        rw [List.length_map] at q
        exact q
      have hj : i.toNat < ns.length := by omega
      have ej : (ns.map V.int)[i.toNat]? = some (.int ns[i.toNat]) := by
        rw [List.getElem?_map, List.getElem?_eq_getElem hj]
        rfl
      -- cell = hand[0][hand[1]]
      refine ⟨_, rfl, h, _, 0, _, rfl, rfl, SqL.of eh, atI_nat (j := 0) rfl, _, rfl, h, _, 1, _, rfl, rfl, SqL.of eh, atI_nat (j := 1) rfl, g, _, i, _, rfl, rfl, SqL.of eg, at_of (by omega) ej, ?_⟩
      -- hand[1] = hand[1] + 1
      refine ⟨_, rfl, h, _, 1, _, rfl, rfl, SqL.of eh, atI_nat (j := 1) rfl, i, 1, rfl, rfl, _, rfl, h, _, _, 1, rfl, rfl, eh, rfl, ?_⟩
      have eh1 : (upd H h (handO g (i + 1) m sd t)) h = some (handO g (i + 1) m sd t) := upd_same
      -- hand[3] = int(hand[3] * 69621 + cell + 11) % 2147483629
      refine ⟨_, rfl, h, _, 3, _, rfl, rfl, SqL.of eh1, atI_nat (j := 3) rfl, _, _, rfl, rfl, .inl ⟨hs1, hs2⟩, _, rfl, _, _, rfl, rfl, _, _, rfl, rfl, .inl ⟨_, rfl, _, _, rfl, rfl, (by show (0 : Int) < 2147483629; decide), _, rfl, h, _, _, 3, rfl, rfl, eh1, rfl, ?_⟩⟩
      have hm0 := Int.emod_nonneg (sd * 69621 + ns[i.toNat] + 11) (show (2147483629 : Int) ≠ 0 by decide)
      have hm1 := Int.emod_lt_of_pos (sd * 69621 + ns[i.toNat] + 11) (show (0 : Int) < 2147483629 by decide)
      obtain ⟨s2, es⟩ : ∃ s2, (sd * 69621 + ns[i.toNat] + 11) % 2147483629 = s2 := ⟨_, rfl⟩
      rw [es] at hm0 hm1
      rw [show ((fun i j => V.int (i % j)) (sd * 69621 + ns[i.toNat] + 11) 2147483629) = V.int s2 from congrArg V.int es]
      have eh2 : (upd (upd H h (handO g (i + 1) m sd t)) h (handO g (i + 1) m s2 t)) h = some (handO g (i + 1) m s2 t) := upd_same
      have h2 : HandAt (upd (upd H h (handO g (i + 1) m sd t)) h (handO g (i + 1) m s2 t)) h g := by
        rw [upd_upd]
        exact hand_upd ha (by omega) (by omega) (by omega)
      have b2 : But h H (upd (upd H h (handO g (i + 1) m sd t)) h (handO g (i + 1) m s2 t)) := But.upd.trans But.upd
      -- if cell >= 10 ** 18: hand[2] = cell
      refine ⟨_, rfl, 10, 18, rfl, rfl, ⟨by decide, by decide, by decide⟩, _, _, rfl, rfl, _, rfl, ite2 (fun _ => ?_) (fun _ => ⟨_, rfl, b2, h2⟩)⟩
      refine ⟨_, rfl, _, rfl, h, _, _, 2, rfl, rfl, eh2, rfl, ?_⟩
      exact ⟨_, rfl, b2.trans But.upd, hand_upd h2 (by omega) (by omega) (by omega)⟩
    · rintro σ' H1 ⟨y2, rfl, b1, h1⟩
      obtain ⟨i, m, sd, t, eh, hi, hs1, hs2⟩ := h1.five
      -- if hand[2] > 0
      refine ⟨_, rfl, h, _, 2, _, rfl, rfl, SqL.of eh, atI_nat (j := 2) rfl, _, _, rfl, rfl, _, rfl, ite2 (fun c => ?_) (fun _ => ?_)⟩
      · refine ⟨_, rfl, h, _, 2, _, rfl, rfl, SqL.of eh, atI_nat (j := 2) rfl, .inl ⟨_, rfl, _, rfl, _, _, rfl, rfl, hn, ?_⟩⟩
        refine ⟨_, rfl, h, _, 2, _, rfl, rfl, SqL.of eh, atI_nat (j := 2) rfl, _, rfl, _, _, rfl, rfl, ⟨hn, hn2⟩, _, rfl, h, _, _, 2, rfl, rfl, eh, rfl, ?_⟩
        exact ⟨_, rfl, k _ _ (b1.trans But.upd) (hand_upd h1 hi hs1 hs2) (Int.emod_nonneg _ (by omega)) (Int.emod_lt_of_pos _ hn)⟩
      · -- hand[4] = hand[4] + 1
        refine ⟨_, rfl, h, _, 4, _, rfl, rfl, SqL.of eh, atI_nat (j := 4) rfl, _, _, rfl, rfl, _, rfl, h, _, _, 4, rfl, rfl, eh, rfl, ?_⟩
        have eh1 : (upd H1 h (handO g i m sd (t + 1))) h = some (handO g i m sd (t + 1)) := upd_same
        have h3 : HandAt (upd H1 h (handO g i m sd (t + 1))) h g := hand_upd h1 hi hs1 hs2
        -- number = int(int(hand[3] + 7919 * hand[4]) * 48271) % 2147483647
        refine ⟨_, rfl, h, _, 3, _, rfl, rfl, SqL.of eh1, atI_nat (j := 3) rfl, _, rfl, h, _, 4, _, rfl, rfl, SqL.of eh1, atI_nat (j := 4) rfl, _, _, rfl, rfl, .inl ⟨by decide, by decide⟩, _, _, rfl, rfl, .inl ⟨_, rfl, _, _, rfl, rfl, .inr ⟨by decide, by decide⟩, .inl ⟨_, rfl, _, _, rfl, rfl, (by show (0 : Int) < 2147483647; decide), ?_⟩⟩⟩
        have hm0 := Int.emod_nonneg ((sd + 7919 * (t + 1)) * 48271) (show (2147483647 : Int) ≠ 0 by decide)
        have hm1 := Int.emod_lt_of_pos ((sd + 7919 * (t + 1)) * 48271) (show (0 : Int) < 2147483647 by decide)
        generalize ((sd + 7919 * (t + 1)) * 48271) % 2147483647 = x1 at hm0 hm1 ⊢
        refine ⟨_, rfl, _, rfl, _, _, rfl, rfl, ⟨by decide, by decide⟩, _, _, rfl, rfl, _, _, rfl, rfl, .inl ⟨by omega, by omega⟩, .inl ⟨_, rfl, _, _, rfl, rfl, (by show (0 : Int) < 2147483647; decide), ?_⟩⟩
        have hn0 := Int.emod_nonneg (x1 * (x1 / 1009 + 69621)) (show (2147483647 : Int) ≠ 0 by decide)
        have hn1 := Int.emod_lt_of_pos (x1 * (x1 / 1009 + 69621)) (show (0 : Int) < 2147483647 by decide)
        generalize (x1 * (x1 / 1009 + 69621)) % 2147483647 = x2 at hn0 hn1 ⊢
        refine ⟨_, rfl, _, rfl, _, _, rfl, rfl, ⟨by decide, by decide⟩, _, _, rfl, rfl, _, _, rfl, rfl, .inl ⟨by omega, by omega⟩, .inl ⟨_, rfl, _, _, rfl, rfl, (by show (0 : Int) < 2147483399; decide), ?_⟩⟩
        refine ⟨_, rfl, _, _, rfl, rfl, ⟨by decide, by decide⟩, .inl ⟨_, rfl, _, rfl, _, _, rfl, rfl, hn, ?_⟩⟩
        exact k _ _ (b1.trans But.upd) h3 (Int.emod_nonneg _ (by omega)) (Int.emod_lt_of_pos _ hn)
end

section
variable {P : Program} {w : World} {K : PySem.W.Frag} {mg : Str → Option Value} {base : Heap} {A : Adr}
theorem cut_mem {xs : List V} {lo hi : Option Int} {v : V} (h : v ∈ cutV xs lo hi) : v ∈ xs := by
  unfold cutV at h
  first
    | exact List.mem_of_mem_drop (List.mem_of_mem_take h)
    | exact List.mem_of_mem_take (List.mem_of_mem_drop h)
theorem take_map_more {xs : List V} {f : V → Int} {i : Nat} {x : V} (h : xs[i]? = some x) : ((xs.take (i + 1)).map f).map V.int = ((xs.take i).map f).map V.int ++ [V.int (f x)] := by
  rw [List.take_add_one, h, List.map_append, List.map_append]
  rfl
theorem len_cut {xs : List V} {lo hi : Option Int} : (cutV xs lo hi).length ≤ xs.length := by
  unfold cutV
  first
    | (rw [List.length_take, List.length_drop]; omega)
    | (rw [List.length_drop, List.length_take]; omega)
def vInt : V → Int
  | .int n => n
  | _ => 0
def spHand (K : PySem.W.Frag) : Sp := fun vs H Q _ => ∃ (a : Addr) (ns : List Int), vs = [.ref a] ∧ SqL K H a (ns.map V.int) ∧ ns.length ≤ 63 ∧ ∀ (H' : Hp) (h g : Addr), Same H H' → H h = none → H g = none → HandAt H' h g → Q (.ref h) H'
theorem ok_law_hand (T : Top K mg A) : FnOk P w K mg base CX0 1 A.a_law_hand A.d_law_hand P_law_hand (spHand K) := by
  refine T.F_law_hand.ok sc_law_hand (fun vs H Q E h => ?_) (fun cdv A outer s H vs Q E hr h => ?_)
  · obtain ⟨a, ns, rfl, _⟩ := h
    rfl
  · obtain ⟨a, ns, rfl, ha, hn, k⟩ := h
    refine ⟨_, (pss_cons (ps_setLc (i := 1) (own := [("_law_cell", 2)]) (by rfl) sc_law_hand.nd rfl rfl (sw_true rfl rfl rfl (by decide +kernel)) (pi_list (pe_slice sl_list (pv 0) po_none (po_some pe_int))) (blkOk_by (own := [("_law_cell", 2)]) (N := N_law_hand) (sc := defScope s_law_hand) (by decide +kernel)) (fun _ _ _ _ _ => (pg_name (i := 2) sc_law_hand.nd rfl (.inl rfl))) (fun _ _ _ _ _ => pts_nil) (fun _ _ _ _ _ => (pe_callB call_abs (by rfl) T.z_abs (by decide +kernel) (pa_cons (pe_callTy call_int1 (by rfl) T.z_int (by decide +kernel) (pa_cons (pv 2) pa_nil)) pa_nil))))
    (pss_one (ps_ret (pe_lst (pa_cons (pv 1) (pa_cons pe_int (pa_cons pe_int (pa_cons (pe_op op_add pe_int (pe_callB call_len_seq (by rfl) T.z_len (by decide +kernel) (pa_cons (pv 1) pa_nil))) (pa_cons pe_int pa_nil))))))))), ?_⟩
    refine ⟨_, rfl, _, rfl, a, _, rfl, ha, fun p np => ?_⟩
    have sp : Same H (upd H p (.lst (cutV (ns.map V.int) none (some 63)))) := same_upd np
    refine ⟨p, rfl, ⟨_, SqL.of upd_same⟩, fun D hD => ?_⟩
    have hpD : p ≠ D := fun e => by
      rw [← e, upd_same] at hD
      cases hD
    have hDn := sp.free hD
    refine lc_list (K := K) (a := p) (xs := cutV (ns.map V.int) none (some 63)) (fun i H' => Same H H' ∧ H' p = some (.lst (cutV (ns.map V.int) none (some 63))) ∧ ∃ zs : List Int, H' D = some (.lst (zs.map V.int)) ∧ zs.length ≤ i)
      ⟨same_to sp hDn, by rw [upd_ne hpD]; exact upd_same, [], upd_same, Nat.le_refl _⟩ (fun i H' _ h => SqL.of h.2.1) ?_ ?_
    · rintro i x H' hi ⟨s1, p1, zs, d1, l1⟩
      obtain ⟨n, _, rfl⟩ := List.mem_map.mp (cut_mem (List.mem_of_getElem? hi))
      have hi2 : i < 63 := by
        have q := (List.getElem?_eq_some_iff.mp hi).1
        have q2 := len_cut (xs := ns.map V.int) (lo := none) (hi := some 63)
        rw [List.length_map] at q2
        omega
      refine ⟨rfl, ?_⟩
      refine ⟨_, rfl, .inl ⟨_, rfl, _, rfl, _, d1, ?_, same_to s1 hDn, ?_, zs ++ [if n < 0 then -n else n], ?_, ?_⟩⟩
      · rw [List.length_map]
        exact small1000 (by omega)
      · rw [upd_ne hpD]
        exact p1
      · rw [upd_same, List.map_append]
        rfl
      · rw [List.length_append, List.length_singleton]
        omega
    · rintro H' ⟨s1, p1, zs, d1, l1⟩
      have lz : zs.length ≤ 63 := by
        have q2 := len_cut (xs := ns.map V.int) (lo := none) (hi := some 63)
        rw [List.length_map] at q2
        omega
      -- return [given, 0, 0, 1 + len(given), 0]
      refine ⟨_, rfl, _, rfl, D, _, rfl, .inl (SqL.of d1), 1, _, rfl, rfl, (by show 5 ≤ sizeLine; decide), fun h hh => ?_⟩
      have hhD : h ≠ D := fun e => by
        rw [e, d1] at hh
        cases hh
      refine k _ h D (same_to s1 (s1.free hh)) (s1.free hh) hDn ⟨⟨zs, by rw [upd_ne hhD.symm]; exact d1⟩, ⟨0, 0, 1 + (zs.length : Int), 0, ?_, Int.le_refl _, by omega, by omega⟩, hhD⟩
      rw [upd_same, List.length_map]
      rfl
def spAny (K : PySem.W.Frag) : Sp := fun vs H Q _ => ∃ (h g l : Addr) (xs : List V), vs = [.ref h, .ref l] ∧ HandAt H h g ∧ SqL K H l xs ∧ (∀ H', But h H H' → SqL K H' l xs) ∧ 0 < xs.length ∧ xs.length ≤ 100000 ∧ ∀ (H' : Hp) (j : Nat) (v : V), But h H H' → HandAt H' h g → xs[j]? = some v → Q v H'
theorem ok_law_any (T : Top K mg A) : FnOk P w K mg base CX0 2 A.a_law_any A.d_law_any P_law_any (spAny K) := by
  refine T.F_law_any.ok sc_law_any (fun vs H Q E h => ?_) (fun cdv A outer s H vs Q E hr h => ?_)
  · obtain ⟨h, g, l, xs, rfl, _⟩ := h
    rfl
  · obtain ⟨h, g, l, xs, rfl, ha, hl, hst, h0, h1, k⟩ := h
    refine ⟨_, (pss_one (ps_ret (pe_ix ix_list (pv 1) (pe_call (ok_law_draw T) (hr.mono (by decide)) (by rfl) T.g_law_draw T.F_law_draw.kp T.b_law_draw .nil pass0 (pa_cons (pv 0) (pa_cons (pe_callB call_len_seq (by rfl) T.z_len (by decide +kernel) (pa_cons (pv 1) pa_nil)) pa_nil))) (fun _ _ => rfl)))), ?_⟩
    refine ⟨_, rfl, _, rfl, _, rfl, l, _, rfl, .inl hl, h, g, _, rfl, ha, by omega, by omega, fun H' d hb hh d0 d1 => ?_⟩
    have hj : d.toNat < xs.length := by omega
    exact ⟨l, xs, d, _, rfl, rfl, hst H' hb, at_of (by omega) (List.getElem?_eq_getElem hj), k H' _ _ hb hh (List.getElem?_eq_getElem hj)⟩
end

section
variable {P : Program} {w : World} {K : PySem.W.Frag} {mg : Str → Option Value} {base : Heap} {A : Adr}
/-! ### the ideal switch -/
def rowsV (n : Nat) (b : Nat → Addr) : List V := (List.range n).map fun j => V.ref (b j)
theorem rowsV_len (n : Nat) (b : Nat → Addr) : (rowsV n b).length = n := by
  unfold rowsV
  rw [List.length_map, List.length_range]
theorem rowsV_at {n : Nat} {b : Nat → Addr} {j : Nat} (h : j < n) : (rowsV n b)[j]? = some (.ref (b j)) := by
  unfold rowsV
  rw [List.getElem?_map, List.getElem?_range h]
  rfl
theorem rowsV_succ (n : Nat) (b : Nat → Addr) : rowsV (n + 1) b = rowsV n b ++ [.ref (b n)] := by
  unfold rowsV
  rw [List.range_succ, List.map_append]
  rfl
theorem rowsV_congr {n : Nat} {b b' : Nat → Addr} (h : ∀ j, j < n → b j = b' j) : rowsV n b = rowsV n b' := by
  unfold rowsV
  refine List.map_congr_left fun j hj => ?_
  rw [h j (List.mem_range.mp hj)]
structure RowsAt (C : Addr) (H : Hp) (x R : Addr) (n : Nat) (b : Nat → Addr) (c : Nat → List V) : Prop where
  ins : ∃ dx, H x = some (.ins C dx [("_rows", .ref R)])
  rows : H R = some (.lst (rowsV n b))
  row : ∀ j, j < n → H (b j) = some (.lst (c j))
/-- as H but at x, new objects apart -/
def Kp (x : Addr) (H H' : Hp) : Prop := ∀ q o, q ≠ x → H q = some o → H' q = some o
theorem Kp.same {x : Addr} {H H1 H2 : Hp} (a : Kp x H H1) (b : Same H1 H2) : Kp x H H2 := fun q o hq h => b _ _ (a q o hq h)
theorem kp_of {H H' : Hp} (a : Same H H') (x : Addr) : Kp x H H' := fun q o _ h => a q o h
theorem Kp.upd {x : Addr} {H H1 : Hp} {o : HO} (a : Kp x H H1) : Kp x H (upd H1 x o) := fun q u hq h => by
  rw [upd_ne hq]
  exact a q u hq h
def spInit (C : Addr) : Sp := fun vs H Q _ => ∃ (x dx : Addr) (n : Nat), vs = [.ref x, .int (n : Int)] ∧ 1 ≤ n ∧ n ≤ 12 ∧ H x = some (.ins C dx []) ∧
  ∀ (H' : Hp) (R : Addr) (b : Nat → Addr), Kp x H H' → H R = none → (∀ j, j < n → H (b j) = none ∧ b j ≠ R) → (∀ i j, i < n → j < n → b i = b j → i = j) → H' x = some (.ins C dx [("_rows", .ref R)]) →
    H' R = some (.lst (rowsV n b)) → (∀ j, j < n → H' (b j) = some (.lst [])) → Q .non H'
theorem ok_Ideal___init__ (T : Top K mg A) : FnOk P w K mg base CX0 4 A.a_Ideal___init__ A.d_Ideal___init__ P_Ideal___init__ (spInit A.c_Ideal) := by
  refine T.F_Ideal___init__.ok sc_Ideal___init__ (fun vs H Q E h => ?_) (fun cdv A' outer s H vs Q E hr h => ?_)
  · obtain ⟨x, dx, n, rfl, _⟩ := h
    rfl
  · obtain ⟨x, dx, n, rfl, h1, h2, hx, k⟩ := h
    refine ⟨_, (pss_cons (ps_expr (pe_call (ok_check_lines T) (hr.mono (by decide)) (by rfl) T.g_check_lines T.F_check_lines.kp T.b_check_lines .nil pass0 (pa_cons (pv 1) pa_nil)))
    (pss_one (ps_fld (pv 0) (pe_lc (own := [("_", 2)]) (by rfl) sc_Ideal___init__.nd (pi_range1 rfl T.z_range (pa_cons (pv 1) pa_nil)) (blkOk_by (own := [("_", 2)]) (N := N_Ideal___init__) (sc := defScope s_Ideal___init__) (by decide +kernel)) (fun _ _ _ _ _ => (pg_name (i := 2) sc_Ideal___init__.nd rfl (.inl rfl))) (fun _ _ _ _ _ => pts_nil) (fun _ _ _ _ _ => (pe_lst pa_nil))) (by rfl)))), ?_⟩
    refine ⟨_, rfl, (n : Int), rfl, by omega, by omega, ?_⟩
    refine ⟨_, rfl, (n : Int), rfl, by omega, by omega, fun D hD => ?_⟩
    have hxD : x ≠ D := ne_of_none hx hD
    refine lc_range (lo := 0) (n := (n : Int).toNat) (fun i H' => ∃ b : Nat → Addr, Same H H' ∧ H' D = some (.lst (rowsV i b)) ∧ (∀ j, j < i → H (b j) = none ∧ b j ≠ D ∧ H' (b j) = some (.lst [])) ∧ ∀ p q, p < i → q < i → b p = b q → p = q)
      ⟨fun _ => 0, same_upd hD, upd_same, fun j hj => absurd hj (Nat.not_lt_zero _), fun p q hp => absurd hp (Nat.not_lt_zero _)⟩ ?_ ?_
    · rintro i H' hi ⟨b, s1, d1, hb, inj⟩
      refine ⟨rfl, ?_⟩
      refine ⟨Nat.zero_le _, fun p hp => ?_⟩
      have hpD : p ≠ D := fun e => by
        rw [e, d1] at hp
        cases hp
      have s2 : Same H (upd H' p (.lst [])) := same_to s1 (s1.free hp)
      refine ⟨_, by rw [upd_ne hpD.symm]; exact d1, ?_, fun j => if j = i then p else b j, same_to s2 hD, ?_, ?_, ?_⟩
      · rw [rowsV_len]
        exact small1000 (by omega)
      · rw [upd_same, rowsV_succ, if_pos rfl]
        congr 2
        congr 1
        exact rowsV_congr fun j hj => (if_neg (Nat.ne_of_lt hj)).symm
      · intro j hj
        dsimp only
        by_cases e : j = i
        · rw [if_pos e]
          exact ⟨s1.free hp, hpD, by rw [upd_ne hpD, upd_same]⟩
        · rw [if_neg e]
          obtain ⟨a1, a2, a3⟩ := hb j (by omega)
          exact ⟨a1, a2, by rw [upd_ne a2, upd_ne (ne_of_none a3 hp)]; exact a3⟩
      · intro u v hu hv
        dsimp only
        by_cases e1 : u = i <;> by_cases e2 : v = i
        · intro _
          rw [e1, e2]
        · rw [if_pos e1, if_neg e2]
          intro e
          have a3 := (hb v (by omega)).2.2
          rw [← e, hp] at a3
          cases a3
        · rw [if_neg e1, if_pos e2]
          intro e
          have a3 := (hb u (by omega)).2.2
          rw [e, hp] at a3
          cases a3
        · rw [if_neg e1, if_neg e2]
          exact inj u v (by omega) (by omega)
    · rintro H' ⟨b, s1, d1, hb, inj⟩
      have en : (n : Int).toNat = n := Int.toNat_natCast n
      rw [en] at d1 hb inj
      have hx' := s1 _ _ hx
      refine ⟨_, rfl, x, _, dx, _, rfl, hx', T.cl_Ideal, T.n_Ideal__rows, (by show 0 < 1000; decide), ?_⟩
      refine k _ D b (kp_of s1 x).upd hD (fun j hj => ⟨(hb j hj).1, (hb j hj).2.1⟩) inj upd_same ?_ ?_
      · rw [upd_ne hxD.symm]
        exact d1
      · intro j hj
        have q := hb j hj
        rw [upd_ne (ne_of_none hx q.1).symm]
        exact q.2.2
def spRow (C : Addr) : Sp := fun vs H Q _ => ∃ (x R : Addr) (n : Nat) (b : Nat → Addr) (c : Nat → List V) (j : Nat), vs = [.ref x, .int (j : Int)] ∧ RowsAt C H x R n b c ∧ j < n ∧ Q (.ref (b j)) H
theorem ok_Ideal__row (T : Top K mg A) : FnOk P w K mg base CX0 4 A.a_Ideal__row A.d_Ideal__row P_Ideal__row (spRow A.c_Ideal) := by
  refine T.F_Ideal__row.ok sc_Ideal__row (fun vs H Q E h => ?_) (fun cdv A' outer s H vs Q E hr h => ?_)
  · obtain ⟨x, R, n, b, c, j, rfl, _⟩ := h
    rfl
  · obtain ⟨x, R, n, b, c, j, rfl, ⟨⟨dx, hx⟩, hR, hb⟩, hj, k⟩ := h
    refine ⟨_, (pss_cons (ps_if (pt_not (pt_val (pe_call (ok_is_number_below T) (hr.mono (by decide)) (by rfl) T.g_is_number_below T.F_is_number_below.kp T.b_is_number_below .nil pass0 (pa_cons (pe_callB call_len_seq (by rfl) T.z_len (by decide +kernel) (pa_cons (pe_fld (pv 0) rfl) pa_nil)) (pa_cons (pv 1) pa_nil))))) (pss_one ps_never) pss_nil)
    (pss_one (ps_ret (pe_ix ix_list (pe_fld (pv 0) rfl) (pv 1) (fun _ _ => rfl))))), ?_⟩
    refine ⟨_, rfl, x, _, dx, _, .ref R, rfl, hx, T.cl_Ideal, T.n_Ideal__rows, rfl, R, _, rfl, .inl (SqL.of hR), _, rfl, _, _, rfl, .inl ⟨(j : Int), rfl, ?_⟩⟩
    rw [rowsV_len, decide_eq_true (by omega), decide_eq_true (by omega)]
    refine ⟨true, rfl, iteF ?_⟩
    exact ⟨_, rfl, x, _, dx, _, .ref R, rfl, hx, T.cl_Ideal, T.n_Ideal__rows, rfl, _, rfl, R, _, _, _, rfl, rfl, SqL.of hR, atI_nat (rowsV_at hj), k⟩
def insK (kd : V → Int × Int) (k : V) (xs : List V) : List V := xs.take (less kd k xs) ++ [k] ++ xs.drop (less kd k xs)
theorem notin_any {xs : List V} {kd : V → Int × Int} {z : Int} (h : ∀ v ∈ xs, (kd v).2 ≠ z) : inV (.int z) (xs.map fun v => V.int (kd v).2) = false := by
  unfold inV
  rw [List.any_eq_false]
  intro y hy
  obtain ⟨v, hv, rfl⟩ := List.mem_map.mp hy
  intro e
  exact h v hv (by simpa [eqV] using e)
theorem flat_ints {xs : List V} {kd : V → Int × Int} : (xs.map fun v => V.int (kd v).2).all flatV = true := by
  rw [List.all_eq_true]
  intro y hy
  obtain ⟨v, _, rfl⟩ := List.mem_map.mp hy
  rfl
theorem in_any {xs : List V} {kd : V → Int × Int} {z : Int} (h : ∃ v ∈ xs, (kd v).2 = z) : inV (.int z) (xs.map fun v => V.int (kd v).2) = true := by
  obtain ⟨v, hv, e⟩ := h
  unfold inV
  rw [List.any_eq_true]
  exact ⟨_, List.mem_map.mpr ⟨v, hv, rfl⟩, by rw [e]; simp [eqV]⟩
/-- a key's number is held in a row -/
def hasC (kd : V → Int × Int) (z : Int) (xs : List V) : Bool := xs.any fun v => decide ((kd v).2 = z)
theorem hasC_in {xs : List V} {kd : V → Int × Int} {z : Int} : inV (.int z) (xs.map fun v => V.int (kd v).2) = hasC kd z xs := by
  cases c : hasC kd z xs with
  | true =>
    obtain ⟨v, hv, e⟩ := List.any_eq_true.mp c
    exact in_any ⟨v, hv, of_decide_eq_true e⟩
  | false =>
    have q := List.any_eq_false.mp c
    exact notin_any fun v hv e => q v hv (decide_eq_true e)
def spPush (C KT : Addr) : Sp := fun vs H Q E => ∃ (x R : Addr) (n : Nat) (b : Nat → Addr) (c : Nat → List V) (j : Nat) (ka : Addr) (kd : V → Int × Int), vs = [.ref x, .int (j : Int), .ref ka] ∧ RowsAt C H x R n b c ∧ j < n ∧
  KeysAt H kd (.ref ka :: c j) ∧ Pw kd (c j) ∧ KeyOk (kd (.ref ka)) ∧ (c j).length < 100000 ∧ (hasC kd (kd (.ref ka)).2 (c j) = true → ∀ H', Same H H' → E (.ref KT) none H') ∧
  (hasC kd (kd (.ref ka)).2 (c j) = false → ∀ H', Kp (b j) H H' → H' (b j) = some (.lst (insK kd (.ref ka) (c j))) → Q .non H')
theorem ok_Ideal_push (T : Top K mg A) : FnOk P w K mg base (L2.CX P w) 6 A.a_Ideal_push A.d_Ideal_push P_Ideal_push (spPush A.c_Ideal A.c_KeyThere) := by
  refine T.F_Ideal_push.okX sc_Ideal_push (fun vs H Q E h => ?_) (fun cdv A' outer s H vs Q E hr h => ?_)
  · obtain ⟨x, R, n, b, c, j, ka, kd, rfl, _⟩ := h
    rfl
  · obtain ⟨x, R, n, b, c, j, ka, kd, rfl, hI, hj, hK, hsr, hok, hlen, kt, k⟩ := h
    obtain ⟨⟨dx, hx⟩, hR, hb⟩ := id hI
    have hbj := hb j hj
    obtain ⟨ka', e, hka⟩ := hK (.ref ka) List.mem_cons_self
    cases e
    refine ⟨_, (pss_cons (ps_set (i := 3) sc_Ideal_push.nd rfl (.inl rfl) (pe_meth (pv 0) T.cl_Ideal T.m_Ideal__row (ok_Ideal__row T) (hr.mono (by decide)) T.b_Ideal__row .nil pass0 (pa_cons (pv 1) pa_nil)))
    (pss_cons (ps_expr (pe_call (ok_check_key T) (hr.mono (by decide)) (by rfl) T.g_check_key T.F_check_key.kp T.b_check_key .nil pass0 (pa_cons (pv 2) pa_nil)))
    (pss_cons (ps_if (pt_cmpR op_in_seq (pe_ix ix_tup (pv 2) pe_int (fun _ _ => rfl)) (pe_lc (own := [("_", 4), ("number", 5)]) (by rfl) sc_Ideal_push.nd (pi_list (pv 3)) (blkOk_by (own := [("_", 4), ("number", 5)]) (N := N_Ideal_push) (sc := defScope s_Ideal_push) (by decide +kernel)) (fun _ _ _ _ _ => (show PG _ _ (gTup K 2 _) from (pg_tup rfl (pgs_cons (pg_name (i := 4) sc_Ideal_push.nd rfl (.inl rfl)) (pgs_cons (pg_name (i := 5) sc_Ideal_push.nd rfl (.inl rfl)) pgs_nil))))) (fun _ _ _ _ _ => pts_nil) (fun _ _ _ _ _ => (pv 5))) (by rfl)) (pss_one (ps_raise rfl (takes_of rfl rfl rfl rfl) (GX.pmk_own0 PySem.F.excBase_ValueError T.x_KeyThere T.gc_KeyThere T.kp_KeyThere (raises_own T.s_KeyThere T.t_KeyThere) rfl))) pss_nil)
    (pss_one (ps_expr (pe_bm PySem.F.plainAttrs_list PySem.F.slot_list_insert PySem.F.type_list_insert mt_insert (pv 3) (pa_cons (pe_call (ok_how_many_less T) (hr.mono (by decide)) (by rfl) T.g_how_many_less T.F_how_many_less.kp T.b_how_many_less .nil pass0 (pa_cons (pv 3) (pa_cons (pv 2) pa_nil))) (pa_cons (pv 2) pa_nil)))))))), ?_⟩
    -- row = self._row(output); check_key(key)
    refine ⟨_, rfl, x, dx, _, rfl, hx, rfl, _, rfl, x, R, n, b, c, j, rfl, hI, hj, ?_⟩
    refine ⟨_, rfl, ka, _, rfl, hka, hok, ?_⟩
    -- key[1] in [number for _, number in row]
    refine ⟨_, rfl, ka, _, 1, _, rfl, rfl, SqT.of hka, atI_nat (j := 1) rfl, _, rfl, b j, rfl, ⟨_, SqL.of hbj⟩, fun D hD => ?_⟩
    have hbD : b j ≠ D := ne_of_none hbj hD
    refine lc_list (K := K) (a := b j) (xs := c j) (fun i H' => Same H H' ∧ H' D = some (.lst (((c j).take i).map fun v => V.int (kd v).2))) ⟨same_upd hD, upd_same⟩ (fun i H' _ h => SqL.of (h.1 _ _ hbj)) ?_ ?_
    · rintro i y H' hi ⟨s1, d1⟩
      obtain ⟨a, rfl, ha⟩ := hK y (List.mem_cons_of_mem _ (List.mem_of_getElem? hi))
      have ha' := s1 _ _ ha
      refine ⟨a, _, rfl, SqT.of ha', rfl, _, _, rfl, _, _, rfl, rfl, rfl, ?_⟩
      refine ⟨_, rfl, _, d1, ?_, same_to s1 hD, ?_⟩
      · rw [List.length_map, List.length_take]
        exact Nat.lt_of_le_of_lt (Nat.le_trans (Nat.min_le_right _ _) (Nat.le_of_lt hlen)) (by decide)
      · rw [upd_same, List.take_add_one, hi, List.map_append]
        rfl
    · rintro H' ⟨s1, d1⟩
      rw [List.take_length] at d1
      refine ⟨D, _, rfl, .inl (SqL.of d1), rfl, flat_ints, _, rfl, ?_⟩
      show (if (if false = true then _ else inV (V.int (kd (.ref ka)).2) _) = true then _ else _)
      rw [if_neg Bool.false_ne_true, hasC_in]
      cases c3 : hasC kd (kd (.ref ka)).2 (c j) with
      | true => exact iteT (kt c3 H' s1)
      | false =>
        refine iteF ?_
        -- row.insert(how_many_less(row, key), key)
        have hbj' := s1 _ _ hbj
        refine ⟨_, rfl, .inl ⟨rfl, _, SqL.of hbj'⟩, _, rfl, _, rfl, b j, c j, .ref ka, kd, rfl, SqL.of hbj', hK.same s1, hsr, Nat.le_of_lt hlen, fun H2 s2 => ?_⟩
        have hle := less_le kd (.ref ka) (c j)
        refine ⟨_, rfl, b j, c j, _, .ref ka, rfl, rfl, s2 _ _ hbj', Nat.lt_trans hlen (by decide), by omega, by omega, ?_⟩
        refine k c3 _ (kp_of (s1.trans s2) (b j)).upd ?_
        rw [upd_same, Int.toNat_natCast]
        rfl
def spGo (C NT : Addr) : Sp := fun vs H Q E => ∃ (x R : Addr) (n : Nat) (b : Nat → Addr) (c : Nat → List V) (j : Nat), vs = [.ref x, .int (j : Int)] ∧ RowsAt C H x R n b c ∧ j < n ∧ (c j = [] → E (.ref NT) none H) ∧ ∀ v rest, c j = v :: rest → Q v (upd H (b j) (.lst rest))
theorem ok_Ideal_let_go (T : Top K mg A) : FnOk P w K mg base (L2.CX P w) 5 A.a_Ideal_let_go A.d_Ideal_let_go P_Ideal_let_go (spGo A.c_Ideal A.c_NothingThere) := by
  refine T.F_Ideal_let_go.okX sc_Ideal_let_go (fun vs H Q E h => ?_) (fun cdv A' outer s H vs Q E hr h => ?_)
  · obtain ⟨x, R, n, b, c, j, rfl, _⟩ := h
    rfl
  · obtain ⟨x, R, n, b, c, j, rfl, hI, hj, ke, k⟩ := h
    obtain ⟨⟨dx, hx⟩, hR, hb⟩ := id hI
    have hbj := hb j hj
    refine ⟨_, (pss_cons (ps_set (i := 2) sc_Ideal_let_go.nd rfl (.inl rfl) (pe_meth (pv 0) T.cl_Ideal T.m_Ideal__row (ok_Ideal__row T) (hr.mono (by decide)) T.b_Ideal__row .nil pass0 (pa_cons (pv 1) pa_nil)))
    (pss_cons (ps_if (pt_not (pt_truth (pv 2) (by intro _; rfl))) (pss_one (ps_raise rfl (takes_of rfl rfl rfl rfl) (GX.pmk_own0 PySem.F.excBase_ValueError T.x_NothingThere T.gc_NothingThere T.kp_NothingThere (raises_own T.s_NothingThere T.t_NothingThere) rfl))) pss_nil)
    (pss_one (ps_ret (pe_bm PySem.F.plainAttrs_list PySem.F.slot_list_pop PySem.F.type_list_pop mt_popAt (pv 2) (pa_cons pe_int pa_nil)))))), ?_⟩
    refine ⟨_, rfl, x, dx, _, rfl, hx, rfl, _, rfl, x, R, n, b, c, j, rfl, hI, hj, ?_⟩
    cases ec : c j with
    | nil =>
      rw [ec] at hbj
      exact ⟨_, rfl, false, .inl ⟨_, SqL.of hbj, rfl⟩, iteT (ke ec)⟩
    | cons v rest =>
      rw [ec] at hbj
      refine ⟨_, rfl, true, .inl ⟨_, SqL.of hbj, rfl⟩, iteF ?_⟩
      exact ⟨_, rfl, .inl ⟨rfl, _, SqL.of hbj⟩, b j, _, 0, 0, v, rfl, rfl, hbj, by decide, by decide, (ixN_seq (n := (v :: rest).length) (i := 0) (j := 0) (by unfold ixN; rw [if_pos (by decide), if_pos (by rw [List.length_cons]; omega)]; rfl)).1, rfl, k v rest ec⟩
def headV : List V → V
  | [] => .non
  | v :: _ => v
def spDue (C : Addr) : Sp := fun vs H Q _ => ∃ (x R : Addr) (n : Nat) (b : Nat → Addr) (c : Nat → List V) (j : Nat), vs = [.ref x, .int (j : Int)] ∧ RowsAt C H x R n b c ∧ j < n ∧ Q (headV (c j)) H
theorem ok_Ideal_due (T : Top K mg A) : FnOk P w K mg base CX0 5 A.a_Ideal_due A.d_Ideal_due P_Ideal_due (spDue A.c_Ideal) := by
  refine T.F_Ideal_due.ok sc_Ideal_due (fun vs H Q E h => ?_) (fun cdv A' outer s H vs Q E hr h => ?_)
  · obtain ⟨x, R, n, b, c, j, rfl, _⟩ := h
    rfl
  · obtain ⟨x, R, n, b, c, j, rfl, hI, hj, k⟩ := h
    obtain ⟨⟨dx, hx⟩, hR, hb⟩ := id hI
    refine ⟨_, (pss_cons (ps_set (i := 2) sc_Ideal_due.nd rfl (.inl rfl) (pe_meth (pv 0) T.cl_Ideal T.m_Ideal__row (ok_Ideal__row T) (hr.mono (by decide)) T.b_Ideal__row .nil pass0 (pa_cons (pv 1) pa_nil)))
    (pss_one (ps_ret (pe_ifExp (pt_truth (pv 2) (by intro _; rfl)) (pe_ix ix_list (pv 2) pe_int (fun _ _ => rfl)) pe_non)))), ?_⟩
    refine ⟨_, rfl, x, dx, _, rfl, hx, rfl, _, rfl, x, R, n, b, c, j, rfl, hI, hj, ?_⟩
    have hbj := hb j hj
    cases ec : c j with
    | nil =>
      rw [ec] at hbj k
      exact ⟨_, rfl, false, .inl ⟨_, SqL.of hbj, rfl⟩, iteF k⟩
    | cons v rest =>
      rw [ec] at hbj k
      exact ⟨_, rfl, true, .inl ⟨_, SqL.of hbj, rfl⟩, iteT ⟨_, rfl, b j, _, 0, v, rfl, rfl, SqL.of hbj, atI_nat (j := 0) rfl, k⟩⟩
def spAhead (C : Addr) : Sp := fun vs H Q _ => ∃ (x R : Addr) (n : Nat) (b : Nat → Addr) (c : Nat → List V) (j : Nat) (ka : Addr) (kd : V → Int × Int), vs = [.ref x, .int (j : Int), .ref ka] ∧ RowsAt C H x R n b c ∧ j < n ∧ KeysAt H kd (.ref ka :: c j) ∧ Pw kd (c j) ∧ KeyOk (kd (.ref ka)) ∧ (c j).length ≤ 100000 ∧ ∀ H', Same H H' → Q (.int (less kd (.ref ka) (c j) : Nat)) H'
theorem ok_Ideal_ahead (T : Top K mg A) : FnOk P w K mg base CX0 6 A.a_Ideal_ahead A.d_Ideal_ahead P_Ideal_ahead (spAhead A.c_Ideal) := by
  refine T.F_Ideal_ahead.ok sc_Ideal_ahead (fun vs H Q E h => ?_) (fun cdv A' outer s H vs Q E hr h => ?_)
  · obtain ⟨x, R, n, b, c, j, ka, kd, rfl, _⟩ := h
    rfl
  · obtain ⟨x, R, n, b, c, j, ka, kd, rfl, hI, hj, hK, hsr, hok, hlen, k⟩ := h
    obtain ⟨⟨dx, hx⟩, hR, hb⟩ := id hI
    obtain ⟨ka', e, hka⟩ := hK (.ref ka) List.mem_cons_self
    cases e
    refine ⟨_, (pss_cons (ps_set (i := 3) sc_Ideal_ahead.nd rfl (.inl rfl) (pe_meth (pv 0) T.cl_Ideal T.m_Ideal__row (ok_Ideal__row T) (hr.mono (by decide)) T.b_Ideal__row .nil pass0 (pa_cons (pv 1) pa_nil)))
    (pss_cons (ps_expr (pe_call (ok_check_key T) (hr.mono (by decide)) (by rfl) T.g_check_key T.F_check_key.kp T.b_check_key .nil pass0 (pa_cons (pv 2) pa_nil)))
    (pss_one (ps_ret (pe_call (ok_how_many_less T) (hr.mono (by decide)) (by rfl) T.g_how_many_less T.F_how_many_less.kp T.b_how_many_less .nil pass0 (pa_cons (pv 3) (pa_cons (pv 2) pa_nil))))))), ?_⟩
    refine ⟨_, rfl, x, dx, _, rfl, hx, rfl, _, rfl, x, R, n, b, c, j, rfl, hI, hj, ?_⟩
    refine ⟨_, rfl, ka, _, rfl, hka, hok, ?_⟩
    exact ⟨_, rfl, _, rfl, b j, c j, .ref ka, kd, rfl, SqL.of (hb j hj), hK, hsr, hlen, k⟩
def spHeld (C : Addr) : Sp := fun vs H Q _ => ∃ (x R : Addr) (n : Nat) (b : Nat → Addr) (c : Nat → List V) (j : Nat), vs = [.ref x, .int (j : Int)] ∧ RowsAt C H x R n b c ∧ j < n ∧ ∀ p, H p = none → Q (.ref p) (upd H p (.tup (c j)))
theorem ok_Ideal_held (T : Top K mg A) : FnOk P w K mg base CX0 5 A.a_Ideal_held A.d_Ideal_held P_Ideal_held (spHeld A.c_Ideal) := by
  refine T.F_Ideal_held.ok sc_Ideal_held (fun vs H Q E h => ?_) (fun cdv A' outer s H vs Q E hr h => ?_)
  · obtain ⟨x, R, n, b, c, j, rfl, _⟩ := h
    rfl
  · obtain ⟨x, R, n, b, c, j, rfl, hI, hj, k⟩ := h
    obtain ⟨⟨dx, hx⟩, hR, hb⟩ := id hI
    refine ⟨_, (pss_one (ps_ret (pe_callTy call_tuple_of (by rfl) T.z_tuple (by decide +kernel) (pa_cons (pe_meth (pv 0) T.cl_Ideal T.m_Ideal__row (ok_Ideal__row T) (hr.mono (by decide)) T.b_Ideal__row .nil pass0 (pa_cons (pv 1) pa_nil)) pa_nil)))), ?_⟩
    exact ⟨_, rfl, x, dx, _, rfl, hx, rfl, _, rfl, x, R, n, b, c, j, rfl, hI, hj, b j, _, rfl, .inl ⟨SqL.of (hb j hj), k⟩⟩
end

section
variable {P : Program} {w : World} {K : PySem.W.Frag} {mg : Str → Option Value} {base : Heap} {A : Adr}
def rListS (K : PySem.W.Frag) : List V → Hp → VK → Prop := fun xs H Q => ∃ p ys, xs = [.ref p] ∧ (SqL K H p ys ∨ SqT K H p ys) ∧ ∀ l, H l = none → Q (.ref l) (upd H l (.lst ys))
theorem putF_one {f : Str} {u v : V} : putF f v [(f, u)] = [(f, v)] := by
  show (if f = f then [(f, v)] else _) = _
  rw [if_pos rfl]
theorem rows_next {H H1 H' : Hp} {D p : Addr} {b : Nat → Addr} {c : Nat → List V} {i : Nat} (s1 : Same H1 H') (hD : H1 D = none) (d1 : H' D = some (.lst (rowsV i b)))
    (hb : ∀ j, j < i → H1 (b j) = none ∧ b j ≠ D ∧ H' (b j) = some (.lst (c j))) (inj : ∀ p q, p < i → q < i → b p = b q → p = q) (hp : H' p = none) :
    ∃ b' : Nat → Addr, Same H1 (upd (upd H' p (.lst (c i))) D (.lst (rowsV i b ++ [.ref p]))) ∧ (upd (upd H' p (.lst (c i))) D (.lst (rowsV i b ++ [.ref p]))) D = some (.lst (rowsV (i + 1) b')) ∧
      (∀ j, j < i + 1 → H1 (b' j) = none ∧ b' j ≠ D ∧ (upd (upd H' p (.lst (c i))) D (.lst (rowsV i b ++ [.ref p]))) (b' j) = some (.lst (c j))) ∧ ∀ p q, p < i + 1 → q < i + 1 → b' p = b' q → p = q := by
  have hpD : p ≠ D := fun e => by
    rw [e, d1] at hp
    cases hp
  refine ⟨fun j => if j = i then p else b j, same_to (same_to s1 (s1.free hp)) hD, ?_, ?_, ?_⟩
  · rw [upd_same, rowsV_succ, if_pos rfl]
    congr 2
    congr 1
    exact rowsV_congr fun j hj => (if_neg (Nat.ne_of_lt hj)).symm
  · intro j hj
    dsimp only
    by_cases e : j = i
    · rw [if_pos e, e]
      exact ⟨s1.free hp, hpD, by rw [upd_ne hpD, upd_same]⟩
    · rw [if_neg e]
      obtain ⟨a1, a2, a3⟩ := hb j (by omega)
      exact ⟨a1, a2, by rw [upd_ne a2, upd_ne (ne_of_none a3 hp)]; exact a3⟩
  · intro u v hu hv
    dsimp only
    by_cases e1 : u = i <;> by_cases e2 : v = i
    · intro _
      rw [e1, e2]
    · rw [if_pos e1, if_neg e2]
      intro e
      have a3 := (hb v (by omega)).2.2
      rw [← e, hp] at a3
      cases a3
    · rw [if_neg e1, if_pos e2]
      intro e
      have a3 := (hb u (by omega)).2.2
      rw [e, hp] at a3
      cases a3
    · rw [if_neg e1, if_neg e2]
      exact inj u v (by omega) (by omega)
def spCopy (C : Addr) : Sp := fun vs H Q _ => ∃ (x R : Addr) (n : Nat) (b : Nat → Addr) (c : Nat → List V), vs = [.ref x] ∧ RowsAt C H x R n b c ∧ 1 ≤ n ∧ n ≤ 12 ∧
  ∀ (H' : Hp) (x' R' : Addr) (b' : Nat → Addr), Same H H' → H x' = none → H R' = none → (∀ j, j < n → H (b' j) = none ∧ b' j ≠ R') → (∀ i j, i < n → j < n → b' i = b' j → i = j) → RowsAt C H' x' R' n b' c → Q (.ref x') H'
theorem ok_Ideal_copy (T : Top K mg A) : FnOk P w K mg base CX0 6 A.a_Ideal_copy A.d_Ideal_copy P_Ideal_copy (spCopy A.c_Ideal) := by
  refine T.F_Ideal_copy.ok sc_Ideal_copy (fun vs H Q E h => ?_) (fun cdv A' outer s H vs Q E hr h => ?_)
  · obtain ⟨x, R, n, b, c, rfl, _⟩ := h
    rfl
  · obtain ⟨x, R, n, b, c, rfl, ⟨⟨dx, hx⟩, hR, hb⟩, h1, h2, k⟩ := h
    refine ⟨_, (pss_cons (ps_set (i := 1) sc_Ideal_copy.nd rfl (.inl rfl) (pe_make T.mk_Ideal (ok_Ideal___init__ T) (hr.mono (by decide)) (by rfl) T.gc_Ideal T.b_Ideal___init__ .nil pass0 (pa_cons (pe_callB call_len_seq (by rfl) T.z_len (by decide +kernel) (pa_cons (pe_fld (pv 0) rfl) pa_nil)) pa_nil)))
    (pss_cons (ps_fld (pv 1) (pe_lc (own := [("row", 2)]) (by rfl) sc_Ideal_copy.nd (pi_list (pe_fld (pv 0) rfl)) (blkOk_by (own := [("row", 2)]) (N := N_Ideal_copy) (sc := defScope s_Ideal_copy) (by decide +kernel)) (fun _ _ _ _ _ => (pg_name (i := 2) sc_Ideal_copy.nd rfl (.inl rfl))) (fun _ _ _ _ _ => pts_nil) (fun _ _ _ _ _ => (pe_callTy (show CallR _ _ (Evl.rListS K) from call_list_of) (by rfl) T.z_list (by decide +kernel) (pa_cons (pv 2) pa_nil)))) (by rfl))
    (pss_one (ps_ret (pv 1))))), ?_⟩
    refine ⟨_, rfl, x, _, dx, _, .ref R, rfl, hx, T.cl_Ideal, T.n_Ideal__rows, rfl, R, _, rfl, .inl (SqL.of hR), ?_⟩
    rw [rowsV_len]
    intro y dy hy hdy hne
    have s0 : Same H (upd (upd H dy (.own y)) y (.ins A.c_Ideal dy [])) := fun q o e => by
      rw [upd_ne (ne_of_none e hy), upd_ne (ne_of_none e hdy)]
      exact e
    refine ⟨y, dy, n, rfl, h1, h2, upd_same, fun H1 R0 b0 k1 _ _ _ hy1 _ _ => ⟨rfl, ?_⟩⟩
    have s1 : Same H H1 := fun q o e => k1 q o (ne_of_none e hy) (s0 q o e)
    refine ⟨_, rfl, x, _, dx, _, .ref R, rfl, s1 _ _ hx, T.cl_Ideal, T.n_Ideal__rows, rfl, R, rfl, ⟨_, SqL.of (s1 _ _ hR)⟩, fun D hD => ?_⟩
    refine lc_list (K := K) (a := R) (xs := rowsV n b) (fun i H' => ∃ b' : Nat → Addr, Same H1 H' ∧ H' D = some (.lst (rowsV i b')) ∧ (∀ j, j < i → H1 (b' j) = none ∧ b' j ≠ D ∧ H' (b' j) = some (.lst (c j))) ∧ ∀ p q, p < i → q < i → b' p = b' q → p = q)
      ⟨fun _ => 0, same_upd hD, upd_same, fun j hj => absurd hj (Nat.not_lt_zero _), fun p q hp => absurd hp (Nat.not_lt_zero _)⟩ (fun i H' _ ⟨_, s2, _⟩ => SqL.of (s2 _ _ (s1 _ _ hR))) ?_ ?_
    · rintro i v H' hi ⟨b', s2, d1, hb', inj⟩
      have hin : i < n := by
        have q := (List.getElem?_eq_some_iff.mp hi).1
        rw [rowsV_len] at q
        exact q
      rw [rowsV_at hin] at hi
      cases hi
      refine ⟨rfl, ?_⟩
      refine ⟨_, rfl, b i, c i, rfl, .inl (SqL.of (s2 _ _ (s1 _ _ (hb i hin)))), fun p hp => ?_⟩
      have hpD : p ≠ D := fun e => by
        rw [e, d1] at hp
        cases hp
      refine ⟨_, by rw [upd_ne hpD.symm]; exact d1, by rw [rowsV_len]; exact small1000 (by omega), ?_⟩
      exact rows_next (H := H1) s2 hD d1 hb' inj hp
    · rintro H' ⟨b', s2, d1, hb', inj⟩
      rw [rowsV_len] at d1 hb' inj
      have s3 := s1.trans s2
      have hyD : y ≠ D := ne_of_none hy1 hD
      refine ⟨_, rfl, y, _, dy, _, rfl, s2 _ _ hy1, T.cl_Ideal, T.n_Ideal__rows, (by show 1 < 1000; decide), ?_⟩
      rw [putF_one]
      refine ⟨_, rfl, ?_⟩
      refine k _ y D b' (same_to s3 hy) hy (s1.free hD) (fun j hj => ⟨s1.free (hb' j hj).1, (hb' j hj).2.1⟩) inj ⟨⟨dy, upd_same⟩, by rw [upd_ne hyD.symm]; exact d1, fun j hj => ?_⟩
      have q := hb' j hj
      rw [upd_ne (ne_of_none hy1 q.1).symm]
      exact q.2.2
/-! ### the law's own keys and rows -/
def spKey : Sp := fun vs H Q _ => ∃ (h g : Addr) (m : Int), vs = [.ref h, .int m] ∧ HandAt H h g ∧ 0 < m ∧ m ≤ 1000000000 ∧
  ∀ (H' : Hp) (a : Addr) (p : Int × Int), Kp h H H' → HandAt H' h g → H a = none → Tup2 H' a p → KeyOk p → Q (.ref a) H'
theorem But.kp {h : Addr} {H H' : Hp} (b : But h H H') : Kp h H H' := fun q o hq e => (b q hq).trans e
theorem Kp.trans {h : Addr} {H H1 H2 : Hp} (a : Kp h H H1) (b : Kp h H1 H2) : Kp h H H2 := fun q o hq e => b q o hq (a q o hq e)
theorem Kp.free {h p : Addr} {H H' : Hp} (a : Kp h H H') (hp : p ≠ h) (e : H' p = none) : H p = none := by
  cases q : H p with
  | none => rfl
  | some o =>
    rw [a p o hp q] at e
    cases e
theorem HandAt.same {h g : Addr} {H H' : Hp} (s : Same H H') (a : HandAt H h g) : HandAt H' h g :=
  ⟨by obtain ⟨ns, e⟩ := a.cells; exact ⟨ns, s _ _ e⟩, by obtain ⟨i, m, s', t, e, q⟩ := a.five; exact ⟨i, m, s', t, s _ _ e, q⟩, a.ne⟩
theorem HandAt.some {h g : Addr} {H : Hp} (a : HandAt H h g) : ∃ o, H h = some o := by
  obtain ⟨i, m, s', t, e, q⟩ := a.five
  exact ⟨_, e⟩
theorem HandAt.ne_none {h g p : Addr} {H : Hp} (a : HandAt H h g) (hp : H p = none) : p ≠ h := by
  obtain ⟨o, e⟩ := a.some
  exact (ne_of_none e hp).symm
theorem ok_law_key (T : Top K mg A) : FnOk P w K mg base CX0 3 A.a_law_key A.d_law_key P_law_key spKey := by
  refine T.F_law_key.ok sc_law_key (fun vs H Q E h => ?_) (fun cdv A' outer s H vs Q E hr h => ?_)
  · obtain ⟨h, g, m, rfl, _⟩ := h
    rfl
  · obtain ⟨h, g, m, rfl, ha, hm, hm2, k⟩ := h
    refine ⟨_, (pss_cons (ps_set (i := 2) sc_law_key.nd rfl (.inl rfl) (pe_call (ok_law_any T) (hr.mono (by decide)) (by rfl) T.g_law_any T.F_law_any.kp T.b_law_any .nil pass0 (pa_cons (pv 0) (pa_cons (pe_lst (pa_cons pe_int (pa_cons pe_int (pa_cons pe_int (pa_cons pe_int (pa_cons (pe_un un_neg pe_int) (pa_cons (pe_op op_pow pe_int pe_int) (pa_cons (pe_un un_neg (pe_op op_pow pe_int pe_int)) (pa_cons (pe_op op_sub (pe_call (ok_law_draw T) (hr.mono (by decide)) (by rfl) T.g_law_draw T.F_law_draw.kp T.b_law_draw .nil pass0 (pa_cons (pv 0) (pa_cons pe_int pa_nil))) pe_int) pa_nil))))))))) pa_nil))))
    (pss_one (ps_ret (pe_tup (pa_cons (pv 2) (pa_cons (pe_call (ok_law_draw T) (hr.mono (by decide)) (by rfl) T.g_law_draw T.F_law_draw.kp T.b_law_draw .nil pass0 (pa_cons (pv 0) (pa_cons (pv 1) pa_nil))) pa_nil)))))), ?_⟩
    -- the list of ranks: its items from the left
    refine ⟨_, rfl, 1, rfl, 10, 18, rfl, rfl, ⟨by decide, by decide, by decide⟩, 10, 18, rfl, rfl, ⟨by decide, by decide, by decide⟩, _, rfl, ?_⟩
    refine ⟨_, rfl, h, g, 50, rfl, ha, by decide, by decide, fun H1 d b1 h1 d0 d1 => ?_⟩
    refine ⟨_, _, rfl, rfl, (by show 8 ≤ sizeLine; decide), fun l hl => ?_⟩
    have hlh := h1.ne_none hl
    refine ⟨h, g, l, _, rfl, h1.same (same_upd hl), SqL.of upd_same, fun H' b => SqL.of (by rw [b l hlh]; exact upd_same), by show 0 < 8; decide, by show 8 ≤ 100000; decide, fun H2 j v b2 h2 hv => ?_⟩
    have hmem := List.mem_of_getElem? hv
    obtain ⟨r, rfl, hr1, hr2⟩ : ∃ r : Int, v = .int r ∧ -1000000000000000000 ≤ r ∧ r ≤ 1000000000000000000 := by
      simp only [List.mem_cons, List.not_mem_nil, or_false] at hmem
      rcases hmem with e | e | e | e | e | e | e | e <;> subst e
      · exact ⟨_, rfl, by omega, by omega⟩
      · exact ⟨_, rfl, by omega, by omega⟩
      · exact ⟨_, rfl, by omega, by omega⟩
      · exact ⟨_, rfl, by omega, by omega⟩
      · exact ⟨_, rfl, by omega, by omega⟩
      · exact ⟨_, rfl, by decide, by decide⟩
      · exact ⟨_, rfl, by decide, by decide⟩
      · exact ⟨_, rfl, by omega, by omega⟩
    -- return (rank, draw(hand, many))
    refine ⟨_, rfl, _, rfl, _, rfl, h, g, m, rfl, h2, hm, by omega, fun H3 c b3 h3 c0 c1 => ?_⟩
    refine ⟨(by show 2 ≤ sizeLine; decide), fun p hp => ?_⟩
    have k3 : Kp h H H3 := (Kp.same b1.kp (same_upd hl)).trans (b2.kp.trans b3.kp)
    exact k _ p (r, c) (k3.same (same_upd hp)) (h3.same (same_upd hp)) (k3.free (h3.ne_none hp) hp) upd_same ⟨hr1, hr2, c0, by show c ≤ 1000000000; omega⟩
theorem cut_lo {xs : List V} {n : Nat} (h : n ≤ xs.length) : cutV xs none (some (n : Int)) = xs.take n := by
  unfold cutV
  rw [HT.sIx_none, HT.sIx_nat, Nat.min_eq_left h]
  rfl
theorem cut_hi {xs : List V} {n : Nat} (h : n ≤ xs.length) : cutV xs (some (n : Int)) none = xs.drop n := by
  unfold cutV
  rw [HT.sIx_none, HT.sIx_nat, Nat.min_eq_left h]
  exact List.take_of_length_le (by rw [List.length_drop]; omega)
def spInserted : Sp := fun vs H Q _ => ∃ (l ka : Addr) (xs : List V) (kd : V → Int × Int), vs = [.ref l, .ref ka] ∧ H l = some (.lst xs) ∧ KeysAt H kd (.ref ka :: xs) ∧ xs.length < 100000 ∧
  ∀ (H' : Hp) (p : Addr), Same H H' → H p = none → H' p = some (.lst (insK kd (.ref ka) xs)) → Q (.ref p) H'
theorem ok_law_inserted (T : Top K mg A) : FnOk P w K mg base CX0 1 A.a_law_inserted A.d_law_inserted P_law_inserted spInserted := by
  refine T.F_law_inserted.ok sc_law_inserted (fun vs H Q E h => ?_) (fun cdv A' outer s H vs Q E hr h => ?_)
  · obtain ⟨l, ka, xs, kd, rfl, _⟩ := h
    rfl
  · obtain ⟨l, ka, xs, kd, rfl, hl, hk, hn, k⟩ := h
    obtain ⟨ka', e, hak⟩ := hk (.ref ka) List.mem_cons_self
    cases e
    refine ⟨_, (pss_cons (ps_set (i := 2) sc_law_inserted.nd rfl (.inl rfl) (pe_callB call_len_seq (by rfl) T.z_len (by decide +kernel) (pa_cons (pe_lc (own := [("_law_one", 3)]) (by rfl) sc_law_inserted.nd (pi_list (pv 0)) (blkOk_by (own := [("_law_one", 3)]) (N := N_law_inserted) (sc := defScope s_law_inserted) (by decide +kernel)) (fun _ _ _ _ _ => (pg_name (i := 3) sc_law_inserted.nd rfl (.inl rfl))) (fun _ _ _ _ _ => (pts_one (pt_cmpR (show OpR _ _ (rLtT K) from (op_ltT hr.units0)) (pv 3) (pv 1) (nomark _)))) (fun _ _ _ _ _ => (pv 3))) pa_nil)))
    (pss_one (ps_ret (pe_op op_cat (pe_op op_cat (pe_slice sl_list (pv 0) po_none (po_some (pv 2))) (pe_lst (pa_cons (pv 1) pa_nil))) (pe_slice sl_list (pv 0) (po_some (pv 2)) po_none))))), ?_⟩
    refine ⟨_, rfl, l, rfl, ⟨_, SqL.of hl⟩, fun D hD => lc_list (K := K) (a := l) (xs := xs) (fun i H' => Same H H' ∧ H' D = some (.lst ((xs.take i).filter (ltK kd (.ref ka))))) ⟨same_upd hD, upd_same⟩ (fun i H' _ h => SqL.of (h.1 _ _ hl)) ?_ ?_⟩
    · rintro i x H' hi ⟨s1, d1⟩
      obtain ⟨a, rfl, ha⟩ := hk x (List.mem_cons_of_mem _ (List.mem_of_getElem? hi))
      have ha' := s1 _ _ ha
      have hak' := s1 _ _ hak
      refine ⟨rfl, ?_⟩
      refine ⟨_, rfl, _, rfl, a, ka, [(kd (.ref a)).1, (kd (.ref a)).2], [(kd (.ref ka)).1, (kd (.ref ka)).2], rfl, rfl, SqT.of ha', SqT.of hak', _, rfl, ?_⟩
      have et := take_fil (ltK kd (.ref ka)) hi
      show (if ltK kd (.ref ka) (.ref a) = true then _ else _)
      by_cases c : ltK kd (.ref ka) (.ref a) = true
      · rw [if_pos c] at et
        rw [c]
        refine iteT ⟨_, rfl, _, d1, fil_lt (Nat.le_of_lt hn), same_to s1 hD, ?_⟩
        rw [upd_same, et]
      · rw [if_neg c, List.append_nil] at et
        rw [Bool.not_eq_true] at c
        rw [c]
        refine iteF ⟨s1, ?_⟩
        rw [et]
        exact d1
    · rintro H' ⟨s1, d1⟩
      rw [List.take_length] at d1
      refine ⟨_, _, rfl, .inl (SqL.of d1), ?_⟩
      have hle := less_le kd (.ref ka) xs
      -- row[:at] + [key] + row[at:]
      have hl' := s1 _ _ hl
      refine ⟨_, rfl, _, rfl, _, rfl, l, xs, rfl, SqL.of hl', fun p1 n1 => ?_⟩
      have e1 : cutV xs none (some ((less kd (.ref ka) xs : Nat) : Int)) = xs.take (less kd (.ref ka) xs) := cut_lo hle
      show _
      have sp1 := same_to s1 (s1.free n1) (o := .lst (cutV xs none (some ((((xs.filter (ltK kd (.ref ka))).length : Nat)) : Int))))
      refine ⟨_, rfl, (by show 1 ≤ sizeLine; decide), fun p2 n2 => ?_⟩
      have hp12 : p1 ≠ p2 := fun e => by
        rw [← e, upd_same] at n2
        cases n2
      have sp2 := same_to sp1 (sp1.free n2) (o := .lst [.ref ka])
      refine ⟨p1, p2, _, _, rfl, rfl, by rw [upd_ne hp12]; exact upd_same, upd_same, ?_, fun p3 n3 => ?_⟩
      · have q := cutV_length xs none (some ((((xs.filter (ltK kd (.ref ka))).length : Nat)) : Int))
        exact Nat.le_trans (Nat.add_le_add_right q 1) (Nat.le_trans hn (by decide))
      have sp3 := same_to sp2 (sp2.free n3) (o := .lst (cutV xs none (some ((((xs.filter (ltK kd (.ref ka))).length : Nat)) : Int)) ++ [.ref ka]))
      refine ⟨_, rfl, _, rfl, _, rfl, l, xs, rfl, SqL.of (sp3 _ _ hl), fun p4 n4 => ?_⟩
      have hp34 : p3 ≠ p4 := fun e => by
        rw [← e, upd_same] at n4
        cases n4
      have sp4 := same_to sp3 (sp3.free n4) (o := .lst (cutV xs (some ((((xs.filter (ltK kd (.ref ka))).length : Nat)) : Int)) none))
      refine ⟨p3, p4, _, _, rfl, rfl, by rw [upd_ne hp34]; exact upd_same, upd_same, ?_, fun p5 n5 => ?_⟩
      · have q1 := cutV_length xs none (some ((((xs.filter (ltK kd (.ref ka))).length : Nat)) : Int))
        have q2 := cutV_length xs (some ((((xs.filter (ltK kd (.ref ka))).length : Nat)) : Int)) none
        rw [List.length_append, List.length_singleton]
        exact Nat.le_trans (by omega) (show 200001 ≤ sizeLine by decide)
      refine k _ p5 (same_to sp4 (sp4.free n5)) (sp4.free n5) ?_
      rw [upd_same]
      unfold insK
      rw [← e1, ← cut_hi hle]
      rfl
end

section
variable {P : Program} {w : World} {K : PySem.W.Frag} {mg : Str → Option Value} {base : Heap} {A : Adr}
/-! ### words -/
/-- the word for an error of a class -/
inductive WordOf (A : Adr) : Value → Str → Prop where
  | there : WordOf A (.ref A.c_KeyThere) "there"
  | nothing : WordOf A (.ref A.c_NothingThere) "nothing"
/-- what _law_word tells of a call -/
def ttWord (A : Adr) (tl : XK → Hp → VK → Prop) (H : Hp) (Q : VK) : Prop :=
  ∀ (E : XK) (Q' : VK), (∀ cls H' w, WordOf A cls w → Q (.str w) H' → E cls none H') → (∀ v H', Q v H' → Q' v H') → tl E H Q'
theorem word_aux (T : Top K mg A) {outer : List Env} {A' : Around} (cdv : Value) (f c' : Addr) (s : Shared) (H : Hp) (Q : VK) (q : Str) (tl : XK → Hp → VK → Prop)
    (hc : ∀ (W : WX) (pn : List (Addr × Obj)) (xe : Value → Shared → Prop) (E : XK) (p1 p2 : Pos), Takes ((cxOf C8.CX0 P w K mg base N_law_word "_law_word" (defScope s_law_word) A.a_law_word cdv A' outer s H C8.E0).tr pn xe) W →
      (∀ (cls : Value) (d : Option Addr) (σ' : L2.St) (H' : Hp), E cls d H' → W cls d σ' H') →
      PE ((cxOf C8.CX0 P w K mg base N_law_word "_law_word" (defScope s_law_word) A.a_law_word cdv A' outer s H C8.E0).tr pn xe) ((Expr.Name "_law_call" p1).Call [] [] p2) fun σZ HZ Q => σZ[0]? = some (some (V.ref f)) ∧ HZ c' = some (LamX.CodeO c' q) ∧ tl E HZ Q)
    (hC : H c' = some (LamX.CodeO c' q)) (hT : ttWord A tl H Q) :
    ∃ t, PSs (cxOf C8.CX0 P w K mg base N_law_word "_law_word" (defScope s_law_word) A.a_law_word cdv A' outer s H C8.E0).nox (defBody s_law_word) t ∧ t { nx := fun x H' => Q V.non H', rt := Q } (L2.start N_law_word [V.ref f]) H := by
  refine ⟨_, (pss_cons (ps_set (i := 1) sc_law_word.nd rfl (.inl rfl) pe_str)
    (pss_cons (GT.ps_try_g rfl rfl sc_law_word.nd LamX.takes0 (fun W pn xe tk _ => (pss_one (ps_set (i := 1) sc_law_word.nd rfl (.inl rfl) (hc (GX.WL 3 W) pn xe (GX.EE 3 W) _ _ (GX.takes_len tk) (fun _ _ _ _ h hl => h _ hl))))) (.as_ (i := 2) rfl (by decide) T.gc_KeyThere rfl rfl (fun a oe cls d pn hz hf => by exact (pss_one (ps_set (i := 1) sc_law_word.nd rfl (.inl rfl) (pe_ifExp (PW.pt (pw_and (pt_val (pe_callB (GX.call_isEg (a := a) (pn := pn) hz hf) (by rfl) T.z_isinstance (by decide +kernel) (pa_cons (pv 2) (pa_cons (pe_glob (v := .ref A.c_FabricError) (by rfl) T.gc_FabricError (by rfl)) pa_nil)))) (pw_and1 (pt_val (pe_callB (GX.call_isEg (a := a) (pn := pn) hz hf) (by rfl) T.z_isinstance (by decide +kernel) (pa_cons (pv 2) (pa_cons (pe_bltn (v := .ty "ValueError") (by rfl) T.z_ValueError (by decide +kernel) rfl) pa_nil))))))) pe_str pe_str)))) (.as_ (i := 2) rfl (by decide) T.gc_NothingThere rfl rfl (fun a oe cls d pn hz hf => by exact (pss_one (ps_set (i := 1) sc_law_word.nd rfl (.inl rfl) (pe_ifExp (PW.pt (pw_and (pt_val (pe_callB (GX.call_isEg (a := a) (pn := pn) hz hf) (by rfl) T.z_isinstance (by decide +kernel) (pa_cons (pv 2) (pa_cons (pe_glob (v := .ref A.c_FabricError) (by rfl) T.gc_FabricError (by rfl)) pa_nil)))) (pw_and1 (pt_val (pe_callB (GX.call_isEg (a := a) (pn := pn) hz hf) (by rfl) T.z_isinstance (by decide +kernel) (pa_cons (pv 2) (pa_cons (pe_bltn (v := .ty "ValueError") (by rfl) T.z_ValueError (by decide +kernel) rfl) pa_nil))))))) pe_str pe_str)))) .nil)))
    (pss_one (ps_ret (pv 1))))), ?_⟩
  refine ⟨rfl, hC, hT _ _ (fun cls H' w hw hQ => ?_) (fun v H' hQ => ⟨_, rfl, hQ⟩)⟩
  intro σ hσ
  obtain ⟨x0, x1, x2, rfl⟩ : ∃ x0 x1 x2, σ = [x0, x1, x2] := by
    match σ, hσ with
    | [x0, x1, x2], _ => exact ⟨x0, x1, x2, rfl⟩
  have x1 : ExcC K A.c_KeyThere := ⟨T.e1_KeyThere, T.e2_KeyThere, T.s_KeyThere, T.e3_KeyThere, T.e4_KeyThere, T.en1, T.en2, T.e5_KeyThere⟩
  have x2 : ExcC K A.c_NothingThere := ⟨T.e1_NothingThere, T.e2_NothingThere, T.s_NothingThere, T.e3_NothingThere, T.e4_NothingThere, T.en1, T.en2, T.e5_NothingThere⟩
  cases hw with
  | there =>
    refine ⟨true, T.xm_KeyThere_KeyThere, fun _ a ha => ?_, fun z => by cases z⟩
    refine ⟨_, rfl, _, rfl, rfl, x1, _, _, true, rfl, fun u r => r, T.kt_KeyThere_FabricError, true, rfl, iteT ?_⟩
    refine ⟨_, rfl, _, rfl, rfl, x1, _, _, true, rfl, fun u r => r, T.kt_KeyThere_ValueError, true, rfl, iteT ?_⟩
    exact ⟨_, rfl, hQ⟩
  | nothing =>
    refine ⟨false, T.xm_NothingThere_KeyThere, (fun z => by cases z), fun _ => ?_⟩
    refine ⟨true, T.xm_NothingThere_NothingThere, fun _ a ha => ?_, fun z => by cases z⟩
    refine ⟨_, rfl, _, rfl, rfl, x2, _, _, true, rfl, fun u r => r, T.kt_NothingThere_FabricError, true, rfl, iteT ?_⟩
    refine ⟨_, rfl, _, rfl, rfl, x2, _, _, true, rfl, fun u r => r, T.kt_NothingThere_ValueError, true, rfl, iteT ?_⟩
    exact ⟨_, rfl, hQ⟩
theorem gives_law_word (T : Top K mg A) {X : Cx} {q : Str} (hK : X.K = K) (hm : X.mg = mg) : ∀ cdv, LamX.GivesTo X N_law_word "_law_word" (defScope s_law_word) A.a_law_word cdv (defBody s_law_word) "_law_call" q (ttWord A) := by
  intro cdv f c' s H Q tl hc hC hT
  cases hK
  cases hm
  exact word_aux T cdv f c' s H Q q tl hc hC hT
end

/-! ### ascending rows -/
theorem pw_congr {kd kd' : V → Int × Int} {xs : List V} (h : Pw kd xs) (e : ∀ v ∈ xs, kd' v = kd v) : Pw kd' xs := by
  induction xs with
  | nil => exact .nil
  | cons u r ih =>
    obtain ⟨h1, h2⟩ := List.pairwise_cons.mp h
    refine List.pairwise_cons.mpr ⟨fun v hv => ?_, ih h2 fun v hv => e v (List.mem_cons_of_mem _ hv)⟩
    unfold LtV
    rw [e u List.mem_cons_self, e v (List.mem_cons_of_mem _ hv)]
    exact h1 v hv
theorem pw_ins {kd : V → Int × Int} {k : V} {xs : List V} (h : Pw kd xs) (hk : ∀ v ∈ xs, (kd v).2 ≠ (kd k).2) : Pw kd (insK kd k xs) := by
  obtain ⟨i1, i2⟩ := less_split (k := k) h
  unfold insK Pw
  rw [List.append_assoc, List.pairwise_append]
  refine ⟨List.Pairwise.sublist (List.take_sublist _ _) h, ?_, fun u hu v hv => ?_⟩
  · rw [List.singleton_append, List.pairwise_cons]
    refine ⟨fun v hv => ?_, List.Pairwise.sublist (List.drop_sublist _ _) h⟩
    have q1 := i2 v hv
    have q2 := hk v (List.mem_of_mem_drop hv)
    unfold LtV at q1 ⊢
    omega
  · have q1 := i1 u hu
    rw [List.singleton_append] at hv
    rcases List.mem_cons.mp hv with z | hv
    · rw [z]
      exact q1
    · have q2 := i2 v hv
      have q3 := hk v (List.mem_of_mem_drop hv)
      unfold LtV at q1 q2 ⊢
      omega
theorem less_last {kd : V → Int × Int} {k : V} {ys : List V} (h : Pw kd (ys ++ [k])) : less kd k (ys ++ [k]) = ys.length := by
  have q := (List.pairwise_append.mp h).2.2
  unfold less
  rw [List.filter_append, List.filter_eq_self.mpr fun v hv => ltK_iff.mpr (q v hv k List.mem_cons_self), List.filter_eq_nil_iff.mpr, List.append_nil]
  intro v hv z
  rw [List.mem_singleton.mp hv] at z
  have z := ltK_iff.mp z
  unfold LtV at z
  omega
theorem pw_tail {kd : V → Int × Int} {v : V} {rest : List V} (h : Pw kd (v :: rest)) : Pw kd rest := (List.pairwise_cons.mp h).2
theorem hasC_no {kd : V → Int × Int} {z : Int} {xs : List V} (h : hasC kd z xs = false) : ∀ v ∈ xs, (kd v).2 ≠ z := fun v hv e => by
  have q := List.any_eq_false.mp h v hv
  exact q (decide_eq_true e)
def Srt (kd : V → Int × Int) (xs : List V) : Prop := Pw kd xs ∧ ∀ v ∈ xs, KeyOk (kd v)
theorem srt_congr {kd kd' : V → Int × Int} {xs : List V} (h : Srt kd xs) (e : ∀ v ∈ xs, kd' v = kd v) : Srt kd' xs := ⟨pw_congr h.1 e, fun v hv => by rw [e v hv]; exact h.2 v hv⟩
theorem srt_ins {kd : V → Int × Int} {k : V} {xs : List V} (h : Srt kd xs) (hk : ∀ v ∈ xs, (kd v).2 ≠ (kd k).2) (ok : KeyOk (kd k)) : Srt kd (insK kd k xs) := ⟨pw_ins h.1 hk, fun v hv => by
  unfold insK at hv
  rw [List.append_assoc, List.mem_append, List.mem_append, List.mem_singleton] at hv
  rcases hv with hv | hv | hv
  · exact h.2 v (List.mem_of_mem_take hv)
  · rw [hv]
    exact ok
  · exact h.2 v (List.mem_of_mem_drop hv)⟩
theorem srt_tail {kd : V → Int × Int} {v : V} {rest : List V} (h : Srt kd (v :: rest)) : Srt kd rest := ⟨pw_tail h.1, fun u hu => h.2 u (List.mem_cons_of_mem _ hu)⟩
theorem srt_nil {kd : V → Int × Int} : Srt kd [] := ⟨.nil, fun v hv => by cases hv⟩

/-! ### data of keys -/
def keyD (p : Int × Int) : PyData := .tuple [.int p.1, .int p.2]
def rowD (kd : V → Int × Int) (xs : List V) : List PyData := xs.map fun v => keyD (kd v)
theorem lay_key (p : Int × Int) : (keyD p).canLay0 = true := rfl
theorem dep_key (p : Int × Int) : (keyD p).depth = 1 := rfl
theorem lay_row (kd : V → Int × Int) : ∀ xs : List V, PyData.canLayAll0 (rowD kd xs) = true
  | [] => rfl
  | x :: xs => by
    show (PyData.canLay0 (keyD (kd x)) && PyData.canLayAll0 (rowD kd xs)) = true
    rw [lay_key, lay_row kd xs]
    rfl
theorem dep_row (kd : V → Int × Int) : ∀ xs : List V, PyData.depthAll (rowD kd xs) ≤ 1
  | [] => Nat.zero_le _
  | x :: xs => by
    show max (PyData.depth (keyD (kd x))) (PyData.depthAll (rowD kd xs)) ≤ 1
    rw [dep_key]
    exact Nat.max_le.mpr ⟨Nat.le_refl _, dep_row kd xs⟩
theorem sh_key (p : Int × Int) : SeqAt.shaped (keyD p) = true := rfl
def tabD (kd : V → Int × Int) (c : Nat → List V) : List Nat → List PyData
  | [] => []
  | j :: js => .tuple (rowD kd (c j)) :: tabD kd c js
theorem lay_tab (kd : V → Int × Int) (c : Nat → List V) : ∀ js : List Nat, PyData.canLayAll0 (tabD kd c js) = true
  | [] => rfl
  | j :: js => by
    show (PyData.canLayAll0 (rowD kd (c j)) && PyData.canLayAll0 (tabD kd c js)) = true
    rw [lay_row, lay_tab kd c js]
    rfl
theorem dep_tab (kd : V → Int × Int) (c : Nat → List V) : ∀ js : List Nat, PyData.depthAll (tabD kd c js) ≤ 2
  | [] => Nat.zero_le _
  | j :: js => by
    show max (PyData.depthAll (rowD kd (c j)) + 1) (PyData.depthAll (tabD kd c js)) ≤ 2
    exact Nat.max_le.mpr ⟨Nat.succ_le_succ (dep_row kd _), dep_tab kd c js⟩
theorem sh_tab (kd : V → Int × Int) (c : Nat → List V) (js : List Nat) : SeqAt.shaped (.list (tabD kd c js)) = true := by
  unfold SeqAt.shaped
  have h1 : PyData.canLay0 (.list (tabD kd c js)) = true := lay_tab kd c js
  have h2 : PyData.depth (.list (tabD kd c js)) ≤ 64 := Nat.le_trans (Nat.succ_le_succ (dep_tab kd c js)) (by decide)
  rw [h1, decide_eq_true h2]
  rfl
theorem dp_key {K : PySem.W.Frag} {H : Hp} {a : Addr} {p : Int × Int} (h : Tup2 H a p) : Dp K H (.ref a) (keyD p) := .tup (SqT.of h) (.cons (.int _) (.cons (.int _) .nil))
theorem dp_row {K : PySem.W.Frag} {H : Hp} {kd : V → Int × Int} : ∀ {xs : List V}, KeysAt H kd xs → DpAll K H xs (rowD kd xs)
  | [], _ => .nil
  | x :: xs, h => by
    obtain ⟨a, rfl, ha⟩ := h x List.mem_cons_self
    exact .cons (dp_key ha) (dp_row fun v hv => h v (List.mem_cons_of_mem _ hv))
theorem dp_tab {K : PySem.W.Frag} {H : Hp} {kd : V → Int × Int} {c : Nat → List V} {t : Nat → Addr} : ∀ {js : List Nat}, (∀ j ∈ js, H (t j) = some (.tup (c j)) ∧ KeysAt H kd (c j)) → DpAll K H (js.map fun j => V.ref (t j)) (tabD kd c js)
  | [], _ => .nil
  | j :: js, h => by
    obtain ⟨h1, h2⟩ := h j List.mem_cons_self
    exact .cons (.tup (SqT.of h1) (dp_row h2)) (dp_tab fun i hi => h i (List.mem_cons_of_mem _ hi))
theorem insK_mem {kd : V → Int × Int} {k v : V} {xs : List V} (h : v ∈ insK kd k xs) : v = k ∨ v ∈ xs := by
  unfold insK at h
  rw [List.append_assoc, List.mem_append, List.mem_append, List.mem_singleton] at h
  rcases h with h | h | h
  · exact .inr (List.mem_of_mem_take h)
  · exact .inl h
  · exact .inr (List.mem_of_mem_drop h)
theorem insK_len {kd : V → Int × Int} {k : V} {xs : List V} : (insK kd k xs).length = xs.length + 1 := by
  unfold insK
  rw [List.length_append, List.length_append, List.length_take, List.length_drop, List.length_singleton]
  have := less_le kd k xs
  omega
theorem ixN_at {n j : Nat} (h : j < n) : ixN n (j : Int) = some j := by
  unfold ixN
  rw [if_pos (by omega), if_pos (by omega), Int.toNat_natCast]
/-! ### what stands where -/
inductive Role where
  | h | g | L | x (k : Nat) | R (k : Nat) | r (k : Nat) | b (k j : Nat) | a
def NT (o : HO) : Prop := ∀ ps, o ≠ .tbl ps
/-- as H but at h, tables apart -/
def Mv (h : Addr) (H H' : Hp) : Prop := ∀ q o, q ≠ h → H q = some o → NT o → H' q = some o
theorem Mv.of {h : Addr} {H H' : Hp} (k : Kp h H H') : Mv h H H' := fun q o hq e _ => k q o hq e
theorem Mv.same {h : Addr} {H H' : Hp} (k : Same H H') : Mv h H H' := fun q o _ e _ => k q o e
theorem Mv.ext {h : Addr} {H H' : Hp} (k : LamX.ExtN H H') : Mv h H H' := fun q o _ e n => k q o e n
theorem Mv.trans {h : Addr} {H H1 H2 : Hp} (a : Mv h H H1) (b : Mv h H1 H2) : Mv h H H2 := fun q o hq e n => b q o hq (a q o hq e n) n
abbrev Tb (P : Addr) (q : Str) (H : Hp) : Prop := LamX.Tabs [(P, q)] H
theorem Tb.kp {P x : Addr} {q : Str} {H H' : Hp} (t : Tb P q H) (k : Kp x H H') (hx : ∃ o, H x = some o ∧ NT o ∧ ∀ f, o ≠ .ext f) : Tb P q H' := by
  obtain ⟨o, hx, n1, n2⟩ := hx
  intro p hp
  obtain ⟨ps, e1, e2, e3⟩ := t p hp
  refine ⟨ps, k _ _ (fun z => ?_) e1, e2, fun pos cv hc => ?_⟩
  · rw [z, hx] at e1
    exact n1 _ (Option.some.inj e1)
  · obtain ⟨c, rfl, e4⟩ := e3 pos cv hc
    refine ⟨c, rfl, k _ _ (fun z => ?_) e4⟩
    rw [z, hx] at e4
    exact n2 _ (Option.some.inj e4)
theorem Tb.same {P : Addr} {q : Str} {H H' : Hp} (t : Tb P q H) (s : Same H H') : Tb P q H' := LamX.Tabs.ext t s
theorem nt_lst {xs : List V} : NT (.lst xs) := fun _ z => by cases z
theorem nt_tup {xs : List V} : NT (.tup xs) := fun _ z => by cases z
theorem nt_ins {a b : Addr} {fs : List (Str × V)} : NT (.ins a b fs) := fun _ z => by cases z
theorem Tb.hand {P h g : Addr} {q : Str} {H H' : Hp} (t : Tb P q H) (k : Kp h H H') (a : HandAt H h g) : Tb P q H' := by
  obtain ⟨i, m, s, tt, e, _⟩ := a.five
  exact t.kp k ⟨_, e, nt_lst, fun _ z => by cases z⟩
theorem HandAt.mv {h g h' : Addr} {H H' : Hp} (a : HandAt H h g) (k : Mv h' H H') (h1 : h ≠ h') (h2 : g ≠ h') : HandAt H' h g :=
  ⟨by obtain ⟨ns, e⟩ := a.cells; exact ⟨ns, k _ _ h2 e nt_lst⟩, by obtain ⟨i, m, s', t, e, q⟩ := a.five; exact ⟨i, m, s', t, k _ _ h1 e nt_lst, q⟩, a.ne⟩
theorem own_ne {own : Addr → Option Role} {p q : Addr} {s t : Role} (h1 : own p = some s) (h2 : own q = some t) (h : s ≠ t) : p ≠ q := fun e => by
  rw [e, h2] at h1
  exact h (Option.some.inj h1).symm
theorem KeysAt.mv {h : Addr} {H H' : Hp} {kd : V → Int × Int} {xs ys : List V} (hh : H h = some (.lst ys)) (e : Mv h H H') (w : KeysAt H kd xs) : KeysAt H' kd xs := fun v hv => by
  obtain ⟨a, e1, e2⟩ := w v hv
  refine ⟨a, e1, e _ _ (fun z => ?_) e2 nt_tup⟩
  have e3 : H a = some (.tup [.int (kd v).1, .int (kd v).2]) := e2
  rw [z, hh] at e3
  cases e3
structure Dat where
  own : Addr → Option Role
  x : Nat → Addr
  R : Nat → Addr
  r : Nat → Addr
  b : Nat → Nat → Addr
  a : Nat → Nat → Addr
  c : Nat → Nat → List V
  d : Nat → Nat → List V
  kd : V → Int × Int
structure WJ (A : Adr) (h g L : Addr) (n N B : Nat) (ts : List V) (D : Dat) (H : Hp) : Prop where
  dom : ∀ p r, D.own p = some r → ∃ o, H p = some o ∧ NT o
  hand : HandAt H h g
  oh : D.own h = some .h
  og : D.own g = some .g
  L : D.own L = some .L ∧ H L = some (.lst ts)
  ts : ∀ v ∈ ts, ∃ t k, v = .ref t ∧ k < N ∧ H t = some (.tup [.ref (D.x k), .ref (D.r k)])
  x : ∀ k, k < N → D.own (D.x k) = some (.x k) ∧ ∃ dx, H (D.x k) = some (.ins A.c_Ideal dx [("_rows", .ref (D.R k))])
  R : ∀ k, k < N → D.own (D.R k) = some (.R k) ∧ H (D.R k) = some (.lst (rowsV n (D.b k)))
  r : ∀ k, k < N → D.own (D.r k) = some (.r k) ∧ H (D.r k) = some (.lst (rowsV n (D.a k)))
  b : ∀ k j, k < N → j < n → D.own (D.b k j) = some (.b k j) ∧ H (D.b k j) = some (.lst (D.c k j))
  a : ∀ k j, k < N → j < n → D.own (D.a k j) = some .a ∧ H (D.a k j) = some (.lst (D.d k j))
  kc : ∀ k j, k < N → j < n → KeysAt H D.kd (D.c k j)
  kk : ∀ k j, k < N → j < n → KeysAt H D.kd (D.d k j)
  so : ∀ k j, k < N → j < n → Srt D.kd (D.c k j)
  lc : ∀ k j, k < N → j < n → (D.c k j).length ≤ B
  ld : ∀ k j, k < N → j < n → (D.d k j).length ≤ B
  tb : Tb A.tb_law_deed qlam_law_deed H
section
variable {A : Adr} {h g L : Addr} {n N B : Nat} {ts : List V} {D : Dat} {H H' : Hp}
theorem WJ.handed (w : WJ A h g L n N B ts D H) (k : Mv h H H') (ha : HandAt H' h g) (t : Tb A.tb_law_deed qlam_law_deed H') : WJ A h g L n N B ts D H' := by
  obtain ⟨hi, hm, hs, ht, he, _⟩ := w.hand.five
  have kq : ∀ {y : Addr} {r : Role} {o : HO}, D.own y = some r → r ≠ .h → H y = some o → NT o → H' y = some o := fun hy h1 hH no => k _ _ (own_ne hy w.oh h1) hH no
  exact
  { dom := fun p r e => by
      by_cases q : p = h
      · subst q
        obtain ⟨hi, hm, hs, ht, he, _⟩ := ha.five
        exact ⟨_, he, nt_lst⟩
      · obtain ⟨o, e1, e2⟩ := w.dom p r e
        exact ⟨o, k _ _ q e1 e2, e2⟩
    hand := ha
    oh := w.oh
    og := w.og
    L := ⟨w.L.1, kq w.L.1 (by intro z; cases z) w.L.2 nt_lst⟩
    ts := fun v hv => by
      obtain ⟨t, m, e1, e2, e3⟩ := w.ts v hv
      exact ⟨t, m, e1, e2, k _ _ (ne_of e3 he (by intro z; cases z)) e3 nt_tup⟩
    x := fun i hi => ⟨(w.x i hi).1, by obtain ⟨dx, e⟩ := (w.x i hi).2; exact ⟨dx, kq (w.x i hi).1 (by intro z; cases z) e nt_ins⟩⟩
    R := fun i hi => ⟨(w.R i hi).1, kq (w.R i hi).1 (by intro z; cases z) (w.R i hi).2 nt_lst⟩
    r := fun i hi => ⟨(w.r i hi).1, kq (w.r i hi).1 (by intro z; cases z) (w.r i hi).2 nt_lst⟩
    b := fun i j hi hj => ⟨(w.b i j hi hj).1, kq (w.b i j hi hj).1 (by intro z; cases z) (w.b i j hi hj).2 nt_lst⟩
    a := fun i j hi hj => ⟨(w.a i j hi hj).1, kq (w.a i j hi hj).1 (by intro z; cases z) (w.a i j hi hj).2 nt_lst⟩
    kc := fun i j hi hj => (w.kc i j hi hj).mv he k
    kk := fun i j hi hj => (w.kk i j hi hj).mv he k
    so := w.so
    lc := w.lc
    ld := w.ld
    tb := t }
theorem WJ.same (w : WJ A h g L n N B ts D H) (s : Same H H') : WJ A h g L n N B ts D H' := w.handed (.same s) (w.hand.same s) (w.tb.same s)
theorem WJ.kp (w : WJ A h g L n N B ts D H) (k : Kp h H H') (ha : HandAt H' h g) : WJ A h g L n N B ts D H' := w.handed (.of k) ha (w.tb.hand k w.hand)
theorem WJ.ext (w : WJ A h g L n N B ts D H) (k : LamX.ExtN H H') (t : Tb A.tb_law_deed qlam_law_deed H') : WJ A h g L n N B ts D H' :=
  w.handed (.ext k) ⟨by obtain ⟨ns, e⟩ := w.hand.cells; exact ⟨ns, k _ _ e nt_lst⟩, by obtain ⟨i, m, s', t, e, q⟩ := w.hand.five; exact ⟨i, m, s', t, k _ _ e nt_lst, q⟩, w.hand.ne⟩ t
theorem WJ.rows (w : WJ A h g L n N B ts D H) {k : Nat} (hk : k < N) : RowsAt A.c_Ideal H (D.x k) (D.R k) n (D.b k) (D.c k) := ⟨(w.x k hk).2, (w.R k hk).2, fun j hj => (w.b k j hk hj).2⟩
theorem WJ.more {B' : Nat} (w : WJ A h g L n N B ts D H) (hB : B ≤ B') : WJ A h g L n N B' ts D H := { w with lc := fun k j hk hj => Nat.le_trans (w.lc k j hk hj) hB, ld := fun k j hk hj => Nat.le_trans (w.ld k j hk hj) hB }
theorem KeysAt.kd {kd : V → Int × Int} {q : Addr} {p : Int × Int} {xs : List V} (e : Tup2 H q p) (hk : KeysAt H kd xs) : (∀ v ∈ xs, (if v = .ref q then p else kd v) = kd v) ∧ KeysAt H (fun v => if v = .ref q then p else kd v) xs := by
  have m : ∀ v ∈ xs, (if v = .ref q then p else kd v) = kd v := fun v hv => by
    by_cases z : v = .ref q
    · rw [if_pos z]
      obtain ⟨y, e1, e2⟩ := hk v hv
      rw [e1] at z
      cases z
      have q1 : (some (HO.tup [.int (kd v).1, .int (kd v).2]) : Option HO) = some (.tup [.int p.1, .int p.2]) := e2.symm.trans e
      injection q1 with q1
      injection q1 with q1
      injection q1 with q1 q2
      injection q2 with q2 _
      exact (Prod.ext (V.int.inj q1) (V.int.inj q2)).symm
    · rw [if_neg z]
  refine ⟨m, fun v hv => ?_⟩
  obtain ⟨y, e1, e2⟩ := hk v hv
  refine ⟨y, e1, ?_⟩
  show Tup2 H y (if v = .ref q then p else kd v)
  rw [m v hv]
  exact e2
/-- a key's pair is known -/
theorem WJ.key (w : WJ A h g L n N B ts D H) {q : Addr} {p : Int × Int} (e : Tup2 H q p) : WJ A h g L n N B ts { D with kd := fun v => if v = .ref q then p else D.kd v } H :=
  { w with
    kc := fun k j hk hj => (KeysAt.kd e (w.kc k j hk hj)).2
    kk := fun k j hk hj => (KeysAt.kd e (w.kk k j hk hj)).2
    so := fun k j hk hj => srt_congr (w.so k j hk hj) (KeysAt.kd e (w.kc k j hk hj)).1 }
/-- a row of an ideal switch is changed -/
theorem WJ.setb (w : WJ A h g L n N B ts D H) {k j : Nat} {new : List V} (hk : k < N) (hj : j < n) (kp : Kp (D.b k j) H H') (e1 : H' (D.b k j) = some (.lst new)) (ks : KeysAt H D.kd new) (so : Srt D.kd new) (hl : new.length ≤ B) :
    WJ A h g L n N B ts { D with c := fun m i => if m = k ∧ i = j then new else D.c m i } H' := by
  have ob := (w.b k j hk hj).1
  have eb := (w.b k j hk hj).2
  have kq : ∀ {y : Addr} {r : Role} {o : HO}, D.own y = some r → r ≠ .b k j → H y = some o → H' y = some o := fun hy h1 hH => kp _ _ (own_ne hy ob h1) hH
  exact
  { dom := fun p r e => by
      by_cases q : p = D.b k j
      · subst q
        exact ⟨_, e1, nt_lst⟩
      · obtain ⟨o, e1, e2⟩ := w.dom p r e
        exact ⟨o, kp _ _ q e1, e2⟩
    hand := w.hand.mv (.of kp) (own_ne w.oh ob (by intro z; cases z)) (own_ne w.og ob (by intro z; cases z))
    oh := w.oh
    og := w.og
    L := ⟨w.L.1, kq w.L.1 (by intro z; cases z) w.L.2⟩
    ts := fun v hv => by
      obtain ⟨t, m, z1, z2, z3⟩ := w.ts v hv
      exact ⟨t, m, z1, z2, kp _ _ (ne_of z3 eb (by intro z; cases z)) z3⟩
    x := fun i hi => ⟨(w.x i hi).1, by obtain ⟨dx, e⟩ := (w.x i hi).2; exact ⟨dx, kq (w.x i hi).1 (by intro z; cases z) e⟩⟩
    R := fun i hi => ⟨(w.R i hi).1, kq (w.R i hi).1 (by intro z; cases z) (w.R i hi).2⟩
    r := fun i hi => ⟨(w.r i hi).1, kq (w.r i hi).1 (by intro z; cases z) (w.r i hi).2⟩
    b := fun m i hm hi => ⟨(w.b m i hm hi).1, by
      show H' (D.b m i) = some (.lst (if m = k ∧ i = j then new else D.c m i))
      by_cases z : m = k ∧ i = j
      · rw [if_pos z, z.1, z.2]
        exact e1
      · rw [if_neg z]
        exact kq (w.b m i hm hi).1 (by intro y; cases y; exact z ⟨rfl, rfl⟩) (w.b m i hm hi).2⟩
    a := fun i j hi hj => ⟨(w.a i j hi hj).1, kq (w.a i j hi hj).1 (by intro z; cases z) (w.a i j hi hj).2⟩
    kc := fun m i hm hi => by
      show KeysAt H' D.kd (if m = k ∧ i = j then new else D.c m i)
      by_cases z : m = k ∧ i = j
      · rw [if_pos z]
        exact ks.mv eb (.of kp)
      · rw [if_neg z]
        exact (w.kc m i hm hi).mv eb (.of kp)
    kk := fun m i hm hi => (w.kk m i hm hi).mv eb (.of kp)
    so := fun m i hm hi => by
      show Srt D.kd (if m = k ∧ i = j then new else D.c m i)
      by_cases z : m = k ∧ i = j
      · rw [if_pos z]
        exact so
      · rw [if_neg z]
        exact w.so m i hm hi
    lc := fun m i hm hi => by
      show (if m = k ∧ i = j then new else D.c m i).length ≤ B
      by_cases z : m = k ∧ i = j
      · rw [if_pos z]
        exact hl
      · rw [if_neg z]
        exact w.lc m i hm hi
    ld := w.ld
    tb := w.tb.kp kp ⟨_, eb, nt_lst, fun _ z => by cases z⟩ }
theorem rowsV_set {n : Nat} {b : Nat → Addr} {j : Nat} {p : Addr} (hj : j < n) : (rowsV n b).set j (.ref p) = rowsV n (fun i => if i = j then p else b i) := by
  apply List.ext_getElem?
  intro i
  by_cases hi : i < n
  · by_cases e : i = j
    · subst e
      rw [List.getElem?_set_self (by rw [rowsV_len]; exact hi), rowsV_at hi, if_pos rfl]
    · rw [List.getElem?_set_ne (fun z => e z.symm), rowsV_at hi, rowsV_at hi, if_neg e]
  · rw [List.getElem?_eq_none (by rw [List.length_set, rowsV_len]; omega), List.getElem?_eq_none (by rw [rowsV_len]; omega)]
/-- a row of the law's own is exchanged for a new one -/
theorem WJ.setr (w : WJ A h g L n N B ts D H) {k j : Nat} {new : List V} {p : Addr} (hk : k < N) (hj : j < n) (hp : H p = none) (kp : ∀ q o, q ≠ D.r k → H q = some o → H' q = some o) (e1 : H' p = some (.lst new)) (e2 : H' (D.r k) = some (.lst ((rowsV n (D.a k)).set j (.ref p)))) (ks : KeysAt H D.kd new) (hl : new.length ≤ B) :
    ∃ own' a', WJ A h g L n N B ts { D with own := own', a := a', d := fun m i => if m = k ∧ i = j then new else D.d m i } H' := by
  have oL := (w.r k hk).1
  have eL := (w.r k hk).2
  have k' : Kp (D.r k) H H' := kp
  have np : D.own p = none := by
    cases q : D.own p with
    | none => rfl
    | some r =>
      obtain ⟨o, z, _⟩ := w.dom p r q
      rw [hp] at z
      cases z
  have ow : ∀ {y : Addr} {r : Role}, D.own y = some r → (if y = p then some Role.a else D.own y) = some r := fun {y r} h1 => by
    rw [if_neg (fun e2 => by rw [e2, np] at h1; cases h1)]
    exact h1
  have kq : ∀ {y : Addr} {r : Role} {o : HO}, D.own y = some r → r ≠ .r k → H y = some o → H' y = some o := fun hy h1 hH => kp _ _ (own_ne hy oL h1) hH
  refine ⟨fun y => if y = p then some .a else D.own y, fun m i => if m = k ∧ i = j then p else D.a m i,
  { dom := fun q r e => by
      have e : (if q = p then some Role.a else D.own q) = some r := e
      by_cases z : q = p
      · rw [z]
        exact ⟨_, e1, nt_lst⟩
      · rw [if_neg z] at e
        by_cases z2 : q = D.r k
        · rw [z2]
          exact ⟨_, e2, nt_lst⟩
        · obtain ⟨o, e3, e4⟩ := w.dom q r e
          exact ⟨o, kp _ _ z2 e3, e4⟩
    hand := w.hand.mv (.of k') (own_ne w.oh oL (by intro z; cases z)) (own_ne w.og oL (by intro z; cases z))
    oh := ow w.oh
    og := ow w.og
    L := ⟨ow w.L.1, kq w.L.1 (by intro z; cases z) w.L.2⟩
    ts := fun v hv => by
      obtain ⟨t, m, z1, z2, z3⟩ := w.ts v hv
      exact ⟨t, m, z1, z2, kp _ _ (ne_of z3 eL (by intro z; cases z)) z3⟩
    x := fun i hi => ⟨ow (w.x i hi).1, by obtain ⟨dx, e⟩ := (w.x i hi).2; exact ⟨dx, kq (w.x i hi).1 (by intro z; cases z) e⟩⟩
    R := fun i hi => ⟨ow (w.R i hi).1, kq (w.R i hi).1 (by intro z; cases z) (w.R i hi).2⟩
    r := fun m hm => ⟨ow (w.r m hm).1, by
      show H' (D.r m) = some (.lst (rowsV n fun i => if m = k ∧ i = j then p else D.a m i))
      by_cases z : m = k
      · subst z
        rw [e2, rowsV_set hj]
        congr 2
        exact rowsV_congr fun i _ => by
          by_cases c2 : i = j
          · rw [if_pos c2, if_pos ⟨rfl, c2⟩]
          · rw [if_neg c2, if_neg (fun q => c2 q.2)]
      · rw [kq (w.r m hm).1 (by intro y; cases y; exact z rfl) (w.r m hm).2]
        congr 2
        exact rowsV_congr fun i _ => by rw [if_neg (fun q => z q.1)]⟩
    b := fun m i hm hi => ⟨ow (w.b m i hm hi).1, kq (w.b m i hm hi).1 (by intro z; cases z) (w.b m i hm hi).2⟩
    a := fun m i hm hi => by
      show (if (if m = k ∧ i = j then p else D.a m i) = p then some Role.a else D.own (if m = k ∧ i = j then p else D.a m i)) = some .a ∧ H' (if m = k ∧ i = j then p else D.a m i) = some (.lst (if m = k ∧ i = j then new else D.d m i))
      by_cases z : m = k ∧ i = j
      · rw [if_pos z, if_pos z, if_pos rfl]
        exact ⟨rfl, e1⟩
      · rw [if_neg z, if_neg z]
        exact ⟨ow (w.a m i hm hi).1, kq (w.a m i hm hi).1 (by intro z; cases z) (w.a m i hm hi).2⟩
    kc := fun m i hm hi => (w.kc m i hm hi).mv eL (.of k')
    kk := fun m i hm hi => by
      show KeysAt H' D.kd (if m = k ∧ i = j then new else D.d m i)
      by_cases z : m = k ∧ i = j
      · rw [if_pos z]
        exact ks.mv eL (.of k')
      · rw [if_neg z]
        exact (w.kk m i hm hi).mv eL (.of k')
    so := w.so
    lc := w.lc
    ld := fun m i hm hi => by
      show (if m = k ∧ i = j then new else D.d m i).length ≤ B
      by_cases z : m = k ∧ i = j
      · rw [if_pos z]
        exact hl
      · rw [if_neg z]
        exact w.ld m i hm hi
    tb := w.tb.kp k' ⟨_, eL, nt_lst, fun _ z => by cases z⟩ }⟩
/-- the list of those apart is changed -/
theorem WJ.setL (w : WJ A h g L n N B ts D H) {ts' : List V} (kp : Kp L H H') (e1 : H' L = some (.lst ts')) (ht : ∀ v ∈ ts', ∃ t k, v = .ref t ∧ k < N ∧ H t = some (.tup [.ref (D.x k), .ref (D.r k)])) : WJ A h g L n N B ts' D H' := by
  have oL := w.L.1
  have eL := w.L.2
  have kq : ∀ {y : Addr} {r : Role} {o : HO}, D.own y = some r → r ≠ .L → H y = some o → H' y = some o := fun hy h1 hH => kp _ _ (own_ne hy oL h1) hH
  exact
  { dom := fun p r e => by
      by_cases q : p = L
      · subst q
        exact ⟨_, e1, nt_lst⟩
      · obtain ⟨o, e1, e2⟩ := w.dom p r e
        exact ⟨o, kp _ _ q e1, e2⟩
    hand := w.hand.mv (.of kp) (own_ne w.oh oL (by intro z; cases z)) (own_ne w.og oL (by intro z; cases z))
    oh := w.oh
    og := w.og
    L := ⟨oL, e1⟩
    ts := fun v hv => by
      obtain ⟨t, m, z1, z2, z3⟩ := ht v hv
      exact ⟨t, m, z1, z2, kp _ _ (ne_of z3 eL (by intro z; cases z)) z3⟩
    x := fun i hi => ⟨(w.x i hi).1, by obtain ⟨dx, e⟩ := (w.x i hi).2; exact ⟨dx, kq (w.x i hi).1 (by intro z; cases z) e⟩⟩
    R := fun i hi => ⟨(w.R i hi).1, kq (w.R i hi).1 (by intro z; cases z) (w.R i hi).2⟩
    r := fun i hi => ⟨(w.r i hi).1, kq (w.r i hi).1 (by intro z; cases z) (w.r i hi).2⟩
    b := fun i j hi hj => ⟨(w.b i j hi hj).1, kq (w.b i j hi hj).1 (by intro z; cases z) (w.b i j hi hj).2⟩
    a := fun i j hi hj => ⟨(w.a i j hi hj).1, kq (w.a i j hi hj).1 (by intro z; cases z) (w.a i j hi hj).2⟩
    kc := fun i j hi hj => (w.kc i j hi hj).mv eL (.of kp)
    kk := fun i j hi hj => (w.kk i j hi hj).mv eL (.of kp)
    so := w.so
    lc := w.lc
    ld := w.ld
    tb := w.tb.kp kp ⟨_, eL, nt_lst, fun _ z => by cases z⟩ }
open Classical in
noncomputable def ownN (x' R' r' : Addr) (b' : Nat → Addr) (n N : Nat) (own : Addr → Option Role) (y : Addr) : Option Role :=
  if y = x' then some (.x N) else if y = R' then some (.R N) else if y = r' then some (.r N) else if z : ∃ j, j < n ∧ y = b' j then some (.b N (Classical.choose z)) else own y
theorem WJ.unowned (w : WJ A h g L n N B ts D H) {p : Addr} (hp : H p = none) : D.own p = none := by
  cases q : D.own p with
  | none => rfl
  | some r =>
    obtain ⟨o, z, _⟩ := w.dom p r q
    rw [hp] at z
    cases z
/-- one more pair -/
theorem WJ.addG (w : WJ A h g L n N B ts D H) {x' R' r' : Addr} {b' a' : Nat → Addr} {c' d' : Nat → List V} (s : Same H H') (fx' : D.own x' = none) (fR' : D.own R' = none) (fr' : D.own r' = none) (fb' : ∀ j, j < n → D.own (b' j) = none) (inj : ∀ i j, i < n → j < n → b' i = b' j → i = j)
    (hRr : R' ≠ r') (hRb : ∀ j, j < n → b' j ≠ R') (hrb : ∀ j, j < n → b' j ≠ r') (I : RowsAt A.c_Ideal H' x' R' n b' c') (er : H' r' = some (.lst (rowsV n a'))) (ha : ∀ j, j < n → D.own (a' j) = some .a ∧ H' (a' j) = some (.lst (d' j)))
    (kc : ∀ j, j < n → KeysAt H' D.kd (c' j)) (kk : ∀ j, j < n → KeysAt H' D.kd (d' j)) (so : ∀ j, j < n → Srt D.kd (c' j)) (lc : ∀ j, j < n → (c' j).length ≤ B) (ld : ∀ j, j < n → (d' j).length ≤ B) :
    ∃ D' : Dat, WJ A h g L n (N + 1) B ts D' H' ∧ (∀ m, m < N → D'.x m = D.x m ∧ D'.r m = D.r m) ∧ D'.x N = x' ∧ D'.r N = r' ∧ D'.R N = R' ∧ ((∀ k j, k < N → j < n → D.c k j = D.d k j) → (∀ j, j < n → c' j = d' j) → ∀ k j, k < N + 1 → j < n → D'.c k j = D'.d k j) := by
  obtain ⟨⟨dx', ex⟩, eR, eb⟩ := I
  have hxR : x' ≠ R' := ne_of ex eR (by intro z; cases z)
  have hxr : x' ≠ r' := ne_of ex er (by intro z; cases z)
  have hbx : ∀ j, j < n → b' j ≠ x' := fun j hj => ne_of (eb j hj) ex (by intro z; cases z)
  have ow : ∀ {y : Addr} {t : Role}, D.own y = some t → ownN x' R' r' b' n N D.own y = some t := fun {y t} h1 => by
    unfold ownN
    rw [if_neg (fun e => by rw [e, fx'] at h1; cases h1), if_neg (fun e => by rw [e, fR'] at h1; cases h1), if_neg (fun e => by rw [e, fr'] at h1; cases h1), dif_neg (fun z => by obtain ⟨j, hj, e⟩ := z; rw [e, fb' j hj] at h1; cases h1)]
    exact h1
  have ox : ownN x' R' r' b' n N D.own x' = some (.x N) := if_pos rfl
  have oR : ownN x' R' r' b' n N D.own R' = some (.R N) := by
    unfold ownN
    rw [if_neg hxR.symm, if_pos rfl]
  have or_ : ownN x' R' r' b' n N D.own r' = some (.r N) := by
    unfold ownN
    rw [if_neg hxr.symm, if_neg hRr.symm, if_pos rfl]
  have ob : ∀ j, j < n → ownN x' R' r' b' n N D.own (b' j) = some (.b N j) := fun j hj => by
    have z : ∃ i, i < n ∧ b' j = b' i := ⟨j, hj, rfl⟩
    unfold ownN
    rw [if_neg (hbx j hj), if_neg (hRb j hj), if_neg (hrb j hj), dif_pos z]
    have q := Classical.choose_spec z
    rw [← inj j _ hj q.1 q.2]
  refine ⟨{ own := ownN x' R' r' b' n N D.own, x := fun m => if m = N then x' else D.x m, R := fun m => if m = N then R' else D.R m, r := fun m => if m = N then r' else D.r m, b := fun m => if m = N then b' else D.b m,
            a := fun m => if m = N then a' else D.a m, c := fun m => if m = N then c' else D.c m, d := fun m => if m = N then d' else D.d m, kd := D.kd },
    { dom := fun p t e => ?_, hand := w.hand.same s, oh := ow w.oh, og := ow w.og, L := ⟨ow w.L.1, s _ _ w.L.2⟩, ts := fun v hv => ?_, x := fun m hm => ?_, R := fun m hm => ?_, r := fun m hm => ?_, b := fun m j hm hj => ?_, a := fun m j hm hj => ?_,
      kc := fun m j hm hj => ?_, kk := fun m j hm hj => ?_, so := fun m j hm hj => ?_, lc := fun m j hm hj => ?_, ld := fun m j hm hj => ?_, tb := w.tb.same s }, fun m hm => ⟨if_neg (Nat.ne_of_lt hm), if_neg (Nat.ne_of_lt hm)⟩, if_pos rfl, if_pos rfl, if_pos rfl, fun hcd hcd' m j hm hj => ?_⟩
  · have e : ownN x' R' r' b' n N D.own p = some t := e
    unfold ownN at e
    by_cases c1 : p = x'
    · rw [c1]; exact ⟨_, ex, nt_ins⟩
    rw [if_neg c1] at e
    by_cases c2 : p = R'
    · rw [c2]; exact ⟨_, eR, nt_lst⟩
    rw [if_neg c2] at e
    by_cases c3 : p = r'
    · rw [c3]; exact ⟨_, er, nt_lst⟩
    rw [if_neg c3] at e
    by_cases c4 : ∃ j, j < n ∧ p = b' j
    · obtain ⟨j, hj, ej⟩ := c4
      rw [ej]; exact ⟨_, eb j hj, nt_lst⟩
    rw [dif_neg c4] at e
    obtain ⟨o, e1, e2⟩ := w.dom p t e
    exact ⟨o, s _ _ e1, e2⟩
  · obtain ⟨t, m, z1, z2, z3⟩ := w.ts v hv
    refine ⟨t, m, z1, Nat.lt_succ_of_lt z2, ?_⟩
    show H' t = some (.tup [.ref (if m = N then x' else D.x m), .ref (if m = N then r' else D.r m)])
    rw [if_neg (Nat.ne_of_lt z2), if_neg (Nat.ne_of_lt z2)]
    exact s _ _ z3
  all_goals
    by_cases e : m = N
    · subst e
      simp only [if_true]
      first
        | exact ⟨ox, dx', ex⟩
        | exact ⟨oR, eR⟩
        | exact ⟨or_, er⟩
        | exact ⟨ob j hj, eb j hj⟩
        | exact ⟨ow (ha j hj).1, (ha j hj).2⟩
        | exact kc j hj
        | exact kk j hj
        | exact so j hj
        | exact lc j hj
        | exact ld j hj
        | exact hcd' j hj
    · have hm' : m < N := by omega
      simp only [if_neg e]
      first
        | exact ⟨ow (w.x m hm').1, (w.x m hm').2.imp fun dx e => s _ _ e⟩
        | exact ⟨ow (w.R m hm').1, s _ _ (w.R m hm').2⟩
        | exact ⟨ow (w.r m hm').1, s _ _ (w.r m hm').2⟩
        | exact ⟨ow (w.b m j hm' hj).1, s _ _ (w.b m j hm' hj).2⟩
        | exact ⟨ow (w.a m j hm' hj).1, s _ _ (w.a m j hm' hj).2⟩
        | exact (w.kc m j hm' hj).same s
        | exact (w.kk m j hm' hj).same s
        | exact w.so m j hm' hj
        | exact w.lc m j hm' hj
        | exact w.ld m j hm' hj
        | exact hcd m j hm' hj
/-- one more pair, a copy of pair k -/
theorem WJ.add (w : WJ A h g L n N B ts D H) {k : Nat} {x' R' r' : Addr} {b' : Nat → Addr} (hk : k < N) (s : Same H H') (fx : H x' = none) (fR : H R' = none) (fr : H r' = none) (fb : ∀ j, j < n → H (b' j) = none) (inj : ∀ i j, i < n → j < n → b' i = b' j → i = j)
    (hRr : R' ≠ r') (hRb : ∀ j, j < n → b' j ≠ R') (hrb : ∀ j, j < n → b' j ≠ r') (I : RowsAt A.c_Ideal H' x' R' n b' (D.c k)) (er : H' r' = some (.lst (rowsV n (D.a k)))) :
    ∃ D' : Dat, WJ A h g L n (N + 1) B ts D' H' ∧ (∀ m, m < N → D'.x m = D.x m ∧ D'.r m = D.r m) ∧ D'.x N = x' ∧ D'.r N = r' ∧ ((∀ k j, k < N → j < n → D.c k j = D.d k j) → ∀ k j, k < N + 1 → j < n → D'.c k j = D'.d k j) := by
  obtain ⟨D', w', e1, e2, e3, _, e4⟩ := w.addG (a' := D.a k) (c' := D.c k) (d' := D.d k) s (w.unowned fx) (w.unowned fR) (w.unowned fr) (fun j hj => w.unowned (fb j hj)) inj hRr hRb hrb I er (fun j hj => ⟨(w.a k j hk hj).1, s _ _ (w.a k j hk hj).2⟩)
    (fun j hj => (w.kc k j hk hj).same s) (fun j hj => (w.kk k j hk hj).same s) (fun j hj => w.so k j hk hj) (fun j hj => w.lc k j hk hj) (fun j hj => w.ld k j hk hj)
  exact ⟨D', w', e1, e2, e3, fun hcd => e4 hcd fun j hj => hcd k j hk hj⟩
/-- a list that is nobody's is changed -/
theorem WJ.free (w : WJ A h g L n N B ts D H) {p : Addr} {us : List V} (hp : D.own p = none) (e0 : H p = some (.lst us)) (kp : Kp p H H') : WJ A h g L n N B ts D H' := by
  have kq : ∀ {y : Addr} {r : Role} {o : HO}, D.own y = some r → H y = some o → H' y = some o := fun {y r o} hy hH => kp _ _ (fun e => by rw [e, hp] at hy; cases hy) hH
  have nh : h ≠ p := fun e => by
    have := w.oh
    rw [e, hp] at this
    cases this
  have ng : g ≠ p := fun e => by
    have := w.og
    rw [e, hp] at this
    cases this
  exact
  { dom := fun q r e => by
      obtain ⟨o, e1, e2⟩ := w.dom q r e
      exact ⟨o, kq e e1, e2⟩
    hand := w.hand.mv (.of kp) nh ng
    oh := w.oh
    og := w.og
    L := ⟨w.L.1, kq w.L.1 w.L.2⟩
    ts := fun v hv => by
      obtain ⟨t, m, z1, z2, z3⟩ := w.ts v hv
      exact ⟨t, m, z1, z2, kp _ _ (ne_of z3 e0 (by intro z; cases z)) z3⟩
    x := fun i hi => ⟨(w.x i hi).1, by obtain ⟨dx, e⟩ := (w.x i hi).2; exact ⟨dx, kq (w.x i hi).1 e⟩⟩
    R := fun i hi => ⟨(w.R i hi).1, kq (w.R i hi).1 (w.R i hi).2⟩
    r := fun i hi => ⟨(w.r i hi).1, kq (w.r i hi).1 (w.r i hi).2⟩
    b := fun i j hi hj => ⟨(w.b i j hi hj).1, kq (w.b i j hi hj).1 (w.b i j hi hj).2⟩
    a := fun i j hi hj => ⟨(w.a i j hi hj).1, kq (w.a i j hi hj).1 (w.a i j hi hj).2⟩
    kc := fun i j hi hj => (w.kc i j hi hj).mv e0 (.of kp)
    kk := fun i j hi hj => (w.kk i j hi hj).mv e0 (.of kp)
    so := w.so
    lc := w.lc
    ld := w.ld
    tb := w.tb.kp kp ⟨_, e0, nt_lst, fun _ z => by cases z⟩ }
open Classical in
noncomputable def ownS (h g L : Addr) (a : Nat → Addr) (n : Nat) (y : Addr) : Option Role :=
  if y = h then some .h else if y = g then some .g else if y = L then some .L else if ∃ j, j < n ∧ y = a j then some .a else none
/-- no pair yet -/
theorem WJ.start {a : Nat → Addr} (hand : HandAt H h g) (eL : H L = some (.lst [])) (hL : L ≠ h ∧ L ≠ g) (ha : ∀ j, j < n → H (a j) = some (.lst []) ∧ a j ≠ h ∧ a j ≠ g ∧ a j ≠ L) (tb : Tb A.tb_law_deed qlam_law_deed H) :
    ∃ D : Dat, WJ A h g L n 0 0 [] D H ∧ (∀ y, y ≠ h → y ≠ g → y ≠ L → (∀ j, j < n → y ≠ a j) → D.own y = none) ∧ ∀ j, j < n → D.own (a j) = some .a := by
  obtain ⟨hi, hm, hs, ht, he, _⟩ := hand.five
  obtain ⟨gs, eg⟩ := hand.cells
  refine ⟨⟨ownS h g L a n, fun _ => 0, fun _ => 0, fun _ => 0, fun _ _ => 0, fun _ _ => 0, fun _ _ => [], fun _ _ => [], fun _ => (0, 0)⟩,
    { dom := fun p r e => ?_, hand := hand, oh := if_pos rfl, og := ?_, L := ⟨?_, eL⟩, ts := fun v hv => absurd hv List.not_mem_nil, x := fun m hm => absurd hm (Nat.not_lt_zero _), R := fun m hm => absurd hm (Nat.not_lt_zero _), r := fun m hm => absurd hm (Nat.not_lt_zero _), b := fun m j hm => absurd hm (Nat.not_lt_zero _), a := fun m j hm => absurd hm (Nat.not_lt_zero _),
      kc := fun m j hm => absurd hm (Nat.not_lt_zero _), kk := fun m j hm => absurd hm (Nat.not_lt_zero _), so := fun m j hm => absurd hm (Nat.not_lt_zero _), lc := fun m j hm => absurd hm (Nat.not_lt_zero _), ld := fun m j hm => absurd hm (Nat.not_lt_zero _), tb := tb }, fun y h1 h2 h3 h4 => ?_, fun j hj => ?_⟩
  · have e : ownS h g L a n p = some r := e
    unfold ownS at e
    by_cases c1 : p = h
    · rw [c1]; exact ⟨_, he, nt_lst⟩
    rw [if_neg c1] at e
    by_cases c2 : p = g
    · rw [c2]; exact ⟨_, eg, nt_lst⟩
    rw [if_neg c2] at e
    by_cases c3 : p = L
    · rw [c3]; exact ⟨_, eL, nt_lst⟩
    rw [if_neg c3] at e
    by_cases c4 : ∃ j, j < n ∧ p = a j
    · obtain ⟨j, hj, ej⟩ := c4
      rw [ej]; exact ⟨_, (ha j hj).1, nt_lst⟩
    rw [if_neg c4] at e
    cases e
  · show ownS h g L a n g = some .g
    unfold ownS
    rw [if_neg hand.ne.symm, if_pos rfl]
  · show ownS h g L a n L = some .L
    unfold ownS
    rw [if_neg hL.1, if_neg hL.2, if_pos rfl]
  · show ownS h g L a n y = none
    unfold ownS
    rw [if_neg h1, if_neg h2, if_neg h3, if_neg (fun z => by obtain ⟨j, hj, e⟩ := z; exact h4 j hj e)]
  · show ownS h g L a n (a j) = some .a
    unfold ownS
    rw [if_neg (ha j hj).2.1, if_neg (ha j hj).2.2.1, if_neg (ha j hj).2.2.2, if_pos ⟨j, hj, rfl⟩]
end

def rTupS (K : PySem.W.Frag) : List V → Hp → VK → Prop := fun xs H Q => ∃ p ys, xs = [.ref p] ∧ ((SqL K H p ys ∧ ∀ l, H l = none → Q (.ref l) (upd H l (.tup ys))) ∨ (SqT K H p ys ∧ Q (.ref p) H))
theorem sh_row (kd : V → Int × Int) (xs : List V) : SeqAt.shaped (.tuple (rowD kd xs)) = true := by
  unfold SeqAt.shaped
  have h1 : PyData.canLay0 (.tuple (rowD kd xs)) = true := lay_row kd xs
  have h2 : PyData.depth (.tuple (rowD kd xs)) ≤ 64 := Nat.le_trans (Nat.succ_le_succ (dep_row kd xs)) (by decide)
  rw [h1, decide_eq_true h2]
  rfl
theorem atI_last {ys : List V} {v : V} : atI (ys ++ [v]) (-1) = some v := by
  unfold atI ixN
  rw [List.length_append, List.length_singleton, if_neg (by omega), if_pos (by omega)]
  have e : (-1 + ((ys.length + 1 : Nat) : Int)).toNat = ys.length := by omega
  rw [e]
  show (ys ++ [v])[ys.length]? = some v
  rw [List.getElem?_append_right (Nat.le_refl _), Nat.sub_self]
  rfl
section
variable {P : Program} {w : World} {K : PySem.W.Frag} {mg : Str → Option Value} {base : Heap} {A : Adr}
/-- an ideal switch and rows that hold the same -/
structure Alike (C : Addr) (H : Hp) (x R r : Addr) (n : Nat) (b a : Nat → Addr) (c : Nat → List V) (kd : V → Int × Int) : Prop where
  I : RowsAt C H x R n b c
  r : H r = some (.lst (rowsV n a))
  a : ∀ j, j < n → H (a j) = some (.lst (c j))
  ks : ∀ j, j < n → KeysAt H kd (c j)
  so : ∀ j, j < n → Srt kd (c j)
  len : ∀ j, j < n → (c j).length < 100000
theorem Alike.kp {C : Addr} {h x R r : Addr} {n : Nat} {b a : Nat → Addr} {c : Nat → List V} {kd : V → Int × Int} {H H' : Hp} {ys : List V} (w : Alike C H x R r n b a c kd) (k : Kp h H H') (eh : H h = some (.lst ys)) (hR : R ≠ h) (hr : r ≠ h) (hb : ∀ j, j < n → b j ≠ h) (ha : ∀ j, j < n → a j ≠ h) : Alike C H' x R r n b a c kd := by
  obtain ⟨dx, ex⟩ := w.I.ins
  exact
  { I := ⟨⟨dx, k _ _ (ne_of ex eh (by intro z; cases z)) ex⟩, k _ _ hR w.I.rows, fun j hj => k _ _ (hb j hj) (w.I.row j hj)⟩
    r := k _ _ hr w.r
    a := fun j hj => k _ _ (ha j hj) (w.a j hj)
    ks := fun j hj => (w.ks j hj).mv eh (.of k)
    so := w.so
    len := w.len }
theorem Alike.same {C : Addr} {x R r : Addr} {n : Nat} {b a : Nat → Addr} {c : Nat → List V} {kd : V → Int × Int} {H H' : Hp} (w : Alike C H x R r n b a c kd) (s : Same H H') : Alike C H' x R r n b a c kd :=
  { I := ⟨w.I.ins.imp fun dx e => s _ _ e, s _ _ w.I.rows, fun j hj => s _ _ (w.I.row j hj)⟩
    r := s _ _ w.r
    a := fun j hj => s _ _ (w.a j hj)
    ks := fun j hj => (w.ks j hj).same s
    so := w.so
    len := w.len }
def spShows (C : Addr) : Sp := fun vs H Q _ => ∃ (h g x R r : Addr) (n : Nat) (b a : Nat → Addr) (c : Nat → List V) (kd : V → Int × Int), vs = [.ref h, .ref x, .ref r] ∧ HandAt H h g ∧ Alike C H x R r n b a c kd ∧ n ≤ 12 ∧ (R ≠ h ∧ r ≠ h ∧ (∀ j, j < n → b j ≠ h) ∧ ∀ j, j < n → a j ≠ h) ∧
  ∀ H', Kp h H H' → HandAt H' h g → Q (.bl true) H'
theorem ok_law_shows (T : Top K mg A) : FnOk P w K mg base CX0 8 A.a_law_shows A.d_law_shows P_law_shows (spShows A.c_Ideal) := by
  refine T.F_law_shows.ok sc_law_shows (fun vs H Q E h => ?_) (fun cdv A' outer s H vs Q E hr h => ?_)
  · obtain ⟨h, g, x, R, r, n, b, a, c, kd, rfl, _⟩ := h
    rfl
  · obtain ⟨h, g, x, R, r, n, b, a, c, kd, rfl, ha, w0, hn, ⟨hR, hr', hb, haa⟩, k⟩ := h
    refine ⟨_, (pss_cons (ps_for PassesOwn.never rfl (pi_enum (by rfl) T.z_enumerate (pa_cons (pv 2) pa_nil)) (pg_tup rfl (pgs_cons (pg_name (i := 3) sc_law_shows.nd rfl (.inl rfl)) (pgs_cons (pg_name (i := 4) sc_law_shows.nd rfl (.inl rfl)) pgs_nil))) (pss_cons (ps_if (PW.pt (pw_or (pt_cmpR (op_neD hr.units) (pe_meth (pv 1) T.cl_Ideal T.m_Ideal_held (ok_Ideal_held T) (hr.mono (by decide)) T.b_Ideal_held .nil pass0 (pa_cons (pv 3) pa_nil)) (pe_callTy call_tuple_of (by rfl) T.z_tuple (by decide +kernel) (pa_cons (pv 4) pa_nil)) (nomark _)) (pw_or1 (pt_not (pt_val (pe_callB call_isi (by rfl) T.z_isinstance (by decide +kernel) (pa_cons (pe_meth (pv 1) T.cl_Ideal T.m_Ideal_held (ok_Ideal_held T) (hr.mono (by decide)) T.b_Ideal_held .nil pass0 (pa_cons (pv 3) pa_nil)) (pa_cons (pe_bltn (v := .ty "tuple") (by rfl) T.z_tuple (by decide +kernel) rfl) pa_nil)))))))) (pss_one (ps_ret pe_bl)) pss_nil)
    (Evl.pss_cut (ps_if (pt_cmpR (op_neD hr.units) (pe_meth (pv 1) T.cl_Ideal T.m_Ideal_due (ok_Ideal_due T) (hr.mono (by decide)) T.b_Ideal_due .nil pass0 (pa_cons (pv 3) pa_nil)) (pe_ifExp (pt_cmpR op_gt (pe_callB call_len_seq (by rfl) T.z_len (by decide +kernel) (pa_cons (pv 4) pa_nil)) pe_int (nomark _)) (pe_ix ix_list (pv 4) pe_int (fun _ _ => rfl)) pe_non) (nomark _)) (pss_one (ps_ret pe_bl)) pss_nil)
    (pss_cons (ps_set (i := 5) sc_law_shows.nd rfl (.inr rfl) (pe_call (ok_law_key T) (hr.mono (by decide)) (by rfl) T.g_law_key T.F_law_key.kp T.b_law_key .nil pass0 (pa_cons (pv 0) (pa_cons pe_int pa_nil))))
    (pss_cons (ps_if (pt_cmpR op_ne (pe_meth (pv 1) T.cl_Ideal T.m_Ideal_ahead (ok_Ideal_ahead T) (hr.mono (by decide)) T.b_Ideal_ahead .nil pass0 (pa_cons (pv 3) (pa_cons (pv 5) pa_nil))) (pe_callB call_len_seq (by rfl) T.z_len (by decide +kernel) (pa_cons (pe_lc (own := [("_law_one", 6)]) (by rfl) sc_law_shows.nd (pi_list (pv 4)) (blkOk_by (own := [("_law_one", 6)]) (N := N_law_shows) (sc := defScope s_law_shows) (by decide +kernel)) (fun _ _ _ _ _ => (pg_name (i := 6) sc_law_shows.nd rfl (.inl rfl))) (fun _ _ _ _ _ => (pts_one (pt_cmpR (show OpR _ _ (rLtT K) from (op_ltT hr.units0)) (pv 6) (pv 5) (nomark _)))) (fun _ _ _ _ _ => (pv 6))) pa_nil)) (nomark _)) (pss_one (ps_ret pe_bl)) pss_nil)
    (pss_one (ps_if (PW.pt (pw_and (pt_cmpR op_gt (pe_callB call_len_seq (by rfl) T.z_len (by decide +kernel) (pa_cons (pv 4) pa_nil)) pe_int (nomark _)) (pw_and1 (pt_cmpR op_ne (pe_meth (pv 1) T.cl_Ideal T.m_Ideal_ahead (ok_Ideal_ahead T) (hr.mono (by decide)) T.b_Ideal_ahead .nil pass0 (pa_cons (pv 3) (pa_cons (pe_ix ix_list (pv 4) (pe_un un_neg pe_int) (fun _ _ => rfl)) pa_nil))) (pe_op op_sub (pe_callB call_len_seq (by rfl) T.z_len (by decide +kernel) (pa_cons (pv 4) pa_nil)) pe_int) (nomark _))))) (pss_one (ps_ret pe_bl)) pss_nil)))))))
    (pss_one (ps_ret pe_bl))), ?_⟩
    refine ⟨_, rfl, r, _, rfl, SqL.of w0.r, for_it walk_enum (fun i σ H' => ∃ (y3 y4 y5 : Option V), σ = [some (.ref h), some (.ref x), some (.ref r), y3, y4, y5, none] ∧ Kp h H H' ∧ HandAt H' h g ∧ Alike A.c_Ideal H' x R r n b a c kd)
      ⟨_, _, _, rfl, kp_of (fun _ _ e => e) h, ha, w0⟩ (fun i σ H' _ ⟨_, _, _, _, _, _, w⟩ => SqL.of w.r) ?_ ?_⟩
    · rintro j v σ H9 H9' hj ⟨y3, y4, y5, rfl, k9, a9, w9⟩ ⟨Tt, x1, x2, rfl, nT, rfl, e1, e2⟩
      rw [rowsV_len] at hj
      cases e1
      have e2 : (rowsV n a)[j]? = some x2 := e2
      rw [rowsV_at hj] at e2
      cases e2
      have sT := same_upd nT (o := .tup [.int (j : Int), .ref (a j)])
      have w10 := w9.same sT
      refine ⟨Tt, _, rfl, SqT.of upd_same, rfl, _, _, rfl, _, _, rfl, rfl, ?_⟩
      have k10 := k9.same sT
      have a10 := a9.same sT
      generalize (upd H9 Tt (.tup [.int (j : Int), .ref (a j)])) = H10 at w10 k10 a10
      clear w9 k9 a9 sT nT
      -- held
      obtain ⟨dx, ex⟩ := w10.I.ins
      refine ⟨_, rfl, x, dx, _, rfl, ex, rfl, _, rfl, x, R, n, b, c, j, rfl, w10.I, hj, fun p np => ?_⟩
      have s1 := same_upd np (o := .tup (c j))
      refine ⟨_, rfl, a j, c j, rfl, .inl ⟨SqL.of (s1 _ _ (w10.a j hj)), fun q nq => ?_⟩⟩
      have s2 := s1.trans (same_upd nq (o := .tup (c j)))
      have hpq : p ≠ q := fun e => by rw [← e, upd_same] at nq; cases nq
      refine ⟨.tuple (rowD kd (c j)), .tuple (rowD kd (c j)), .tup (SqT.of (by rw [upd_ne hpq]; exact upd_same)) (dp_row ((w10.ks j hj).same s2)), .tup (SqT.of upd_same) (dp_row ((w10.ks j hj).same s2)), sh_row _ _, sh_row _ _, ?_⟩
      rw [SeqAt.eqv_refl _ (show PyData.canLay0 (.tuple (rowD kd (c j))) = true from lay_row _ _)]
      refine ⟨false, rfl, iteF ?_⟩
      have w11 := w10.same s2
      have k11 := k10.same s2
      have a11 := a10.same s2
      generalize (upd (upd H10 p (.tup (c j))) q (.tup (c j))) = H11 at w11 k11 a11
      clear w10 k10 a10 s1 s2 np nq hpq ex
      obtain ⟨dx, ex⟩ := w11.I.ins
      refine ⟨_, rfl, x, dx, _, rfl, ex, rfl, _, rfl, x, R, n, b, c, j, rfl, w11.I, hj, fun p np => ?_⟩
      refine ⟨_, _, _, _, _, rfl, .ty "tuple", .base (.tup upd_same), kit_ty (b := "tuple") (r := true) (by decide +kernel), true, rfl, iteF ?_⟩
      have s1 := same_upd np (o := .tup (c j))
      have w12 := w11.same s1
      have k12 := k11.same s1
      have a12 := a11.same s1
      generalize (upd H11 p (.tup (c j))) = H12 at w12 k12 a12
      clear w11 k11 a11 s1 np ex
      -- due
      refine ⟨fun σ' H' => σ' = [some (.ref h), some (.ref x), some (.ref r), some (.int (j : Int)), some (.ref (a j)), y5, none] ∧ H' = H12, ?_, ?_⟩
      · obtain ⟨dx, ex⟩ := w12.I.ins
        refine ⟨_, rfl, x, dx, _, rfl, ex, rfl, _, rfl, x, R, n, b, c, j, rfl, w12.I, hj, ?_⟩
        have hk := w12.ks j hj
        have haj := w12.a j hj
        cases ec : c j with
        | nil =>
          rw [ec] at haj
          refine ⟨_, rfl, a j, _, rfl, .inl (SqL.of haj), _, _, rfl, rfl, _, rfl, iteF ?_⟩
          exact ⟨.none, .none, .non, .non, rfl, rfl, false, rfl, iteF ⟨rfl, rfl⟩⟩
        | cons v rest =>
          rw [ec] at haj hk
          obtain ⟨q, rfl, hq⟩ := hk v List.mem_cons_self
          refine ⟨_, rfl, a j, _, rfl, .inl (SqL.of haj), _, _, rfl, rfl, _, rfl, ite2 (fun _ => ?_) (fun cn => ?_)⟩
          · refine ⟨_, rfl, a j, _, 0, _, rfl, rfl, SqL.of haj, atI_nat (j := 0) rfl, ?_⟩
            refine ⟨keyD (kd (.ref q)), keyD (kd (.ref q)), dp_key hq, dp_key hq, sh_key _, sh_key _, ?_⟩
            rw [SeqAt.eqv_refl _ (lay_key _)]
            exact ⟨false, rfl, iteF ⟨rfl, rfl⟩⟩
          · have z : (0 : Int) < ((V.ref q :: rest).length : Int) := by
              rw [List.length_cons]
              omega
            exact absurd (decide_eq_true z) cn
      rintro σ' H' ⟨rfl, rfl⟩
      -- a key
      refine ⟨_, rfl, h, g, 20, rfl, a12, by decide, by decide, fun H13 ka p k13 a13 na ea hok => ?_⟩
      have eh : ∃ ys, H' h = some (.lst ys) := by
        obtain ⟨i, m, s', t, e, _⟩ := a12.five
        exact ⟨_, e⟩
      obtain ⟨ys, eh⟩ := eh
      have w13 := w12.kp k13 eh hR hr' hb haa
      have k14 := k12.trans k13
      obtain ⟨em, hk13⟩ := KeysAt.kd ea (w13.ks j hj)
      obtain ⟨dx, ex⟩ := w13.I.ins
      have hkk : KeysAt H13 (fun v => if v = .ref ka then p else kd v) (.ref ka :: c j) := fun v hv => by
        rcases List.mem_cons.mp hv with e | hv
        · exact ⟨ka, e, by rw [e]; show Tup2 H13 ka (if V.ref ka = .ref ka then p else kd (.ref ka)); rw [if_pos rfl]; exact ea⟩
        · exact hk13 v hv
      refine ⟨_, rfl, x, dx, _, rfl, ex, rfl, _, rfl, _, rfl, x, R, n, b, c, j, ka, _, rfl, w13.I, hj, hkk, pw_congr (w13.so j hj).1 em, (by show KeyOk (if V.ref ka = .ref ka then p else kd (.ref ka)); rw [if_pos rfl]; exact hok), Nat.le_of_lt (w13.len j hj), fun H14 s14 => ?_⟩
      have w14 := w13.same s14
      have hkk' := hkk.same s14
      refine ⟨_, rfl, a j, rfl, ⟨_, SqL.of (w14.a j hj)⟩, fun D hD => ?_⟩
      refine lc_list (K := K) (a := a j) (xs := c j) (fun i H' => Same H14 H' ∧ H' D = some (.lst (((c j).take i).filter (ltK (fun v => if v = .ref ka then p else kd v) (.ref ka))))) ⟨same_upd hD, upd_same⟩ (fun i H' _ h => SqL.of (h.1 _ _ (w14.a j hj))) ?_ ?_
      · rintro i y H' hi ⟨s1, d1⟩
        obtain ⟨q, rfl, hq⟩ := hkk' y (List.mem_cons_of_mem _ (List.mem_of_getElem? hi))
        obtain ⟨ka', e, hak⟩ := hkk' (.ref ka) List.mem_cons_self
        cases e
        have hq' := s1 _ _ hq
        have hak' := s1 _ _ hak
        refine ⟨rfl, ?_⟩
        refine ⟨_, rfl, _, rfl, q, ka, [_, _], [_, _], rfl, rfl, SqT.of hq', SqT.of hak', _, rfl, ?_⟩
        have et := take_fil (ltK (fun v => if v = .ref ka then p else kd v) (.ref ka)) hi
        show (if ltK (fun v => if v = .ref ka then p else kd v) (.ref ka) (.ref q) = true then _ else _)
        by_cases cc : ltK (fun v => if v = .ref ka then p else kd v) (.ref ka) (.ref q) = true
        · rw [if_pos cc] at et
          rw [cc]
          refine iteT ⟨_, rfl, _, d1, fil_lt (Nat.le_of_lt (w14.len j hj)), same_to s1 hD, ?_⟩
          rw [upd_same, et]
        · rw [if_neg cc, List.append_nil] at et
          rw [Bool.not_eq_true] at cc
          rw [cc]
          refine iteF ⟨s1, ?_⟩
          rw [et]
          exact d1
      rintro H15 ⟨s15, d15⟩
      rw [List.take_length] at d15
      refine ⟨D, _, rfl, .inl (SqL.of d15), rfl, _, rfl, ?_⟩
      have e0 : (V.int ((less (fun v => if v = .ref ka then p else kd v) (.ref ka) (c j) : Nat) : Int)) = V.int ((((c j).filter (ltK (fun v => if v = .ref ka then p else kd v) (.ref ka))).length : Nat) : Int) := rfl
      rw [decide_eq_true e0]
      refine iteF ?_
      have w15 := w14.same s15
      have k15 := (k14.same s14).same s15
      have a15 := (a13.same s14).same s15
      clear e0 d15 s15 hkk' w14 hkk hk13 em s14 ex w13 k14 k13
      -- the greatest one
      refine ⟨_, rfl, a j, _, rfl, .inl (SqL.of (w15.a j hj)), _, _, rfl, rfl, _, rfl, ite2 (fun cp => ?_) (fun _ => ⟨_, _, _, rfl, k15, a15, w15⟩)⟩
      obtain ⟨l, v, ec⟩ : ∃ l v, c j = l ++ [v] := by
        have hne : c j ≠ [] := fun z => by
          rw [z] at cp
          exact absurd (of_decide_eq_true cp) (by decide)
        exact ⟨_, _, (List.dropLast_concat_getLast hne).symm⟩
      have hv : v ∈ c j := by rw [ec]; simp
      obtain ⟨q, rfl, hq⟩ := w15.ks j hj v hv
      obtain ⟨dx, ex⟩ := w15.I.ins
      refine ⟨_, rfl, x, dx, _, rfl, ex, rfl, _, rfl, _, rfl, 1, rfl, a j, _, _, _, rfl, rfl, SqL.of (w15.a j hj), (by rw [ec]; exact atI_last), x, R, n, b, c, j, q, kd, rfl, w15.I, hj, (fun u hu => by
          rcases List.mem_cons.mp hu with e | hu
          · exact ⟨q, e, by rw [e]; exact hq⟩
          · exact w15.ks j hj u hu), (w15.so j hj).1, (w15.so j hj).2 _ hv, Nat.le_of_lt (w15.len j hj), fun H16 s16 => ?_⟩
      have w16 := w15.same s16
      refine ⟨_, rfl, a j, _, rfl, .inl (SqL.of (w16.a j hj)), _, _, rfl, rfl, rfl, _, rfl, ?_⟩
      have el : less kd (.ref q) (c j) = l.length := by
        have z := (w15.so j hj).1
        rw [ec] at z ⊢
        exact less_last z
      have e1 : (V.int ((less kd (.ref q) (c j) : Nat) : Int)) = V.int (((c j).length : Int) - 1) := by
        rw [el, ec, List.length_append, List.length_singleton]
        congr 1
        omega
      rw [decide_eq_true e1]
      exact iteF ⟨_, _, _, rfl, k15.same s16, a15.same s16, w16⟩
    · rintro σ H9 ⟨y3, y4, y5, rfl, k9, a9, w9⟩
      exact k H9 k9 a9
end

section
variable {P : Program} {w : World} {K : PySem.W.Frag} {mg : Str → Option Value} {base : Heap} {A : Adr}
def dueV : List V → V
  | [] => .str "nothing"
  | v :: _ => v
def spDeed (A : Adr) : Sp := fun vs H Q _ => ∃ (h g L : Addr) (n N B : Nat) (ts : List V) (D : Dat) (k : Nat), vs = [.ref h, .ref (D.x k), .ref (D.r k)] ∧ WJ A h g L n N B ts D H ∧ k < N ∧ (∀ m j, m < N → j < n → D.c m j = D.d m j) ∧ 1 ≤ n ∧ n ≤ 12 ∧ B ≤ 1000 ∧
  ∀ (H' : Hp) (D' : Dat), WJ A h g L n N (B + 1) ts D' H' → D'.x = D.x → D'.r = D.r → (∀ m j, m < N → j < n → D'.c m j = D'.d m j) → Q (.bl true) H'
theorem ok_law_deed (T : Top K mg A) (Bt : Tbs base mg A) : FnOk P w K mg base CX0 20 A.a_law_deed A.d_law_deed P_law_deed (spDeed A) := by
  have B := Bt
  refine T.L_law_deed.ok sc_law_deed (fun vs H Q E h => ?_) (fun A' outer s H vs Q E hr h => ?_)
  · obtain ⟨h, g, L, n, N, Bd, ts, D, k, rfl, _⟩ := h
    rfl
  · obtain ⟨h, g, L, n, N, Bd, ts, D, k, rfl, w0, hk, ecd, hn1, hn2, hB, kq⟩ := h
    refine ⟨_, (pss_cons (ps_set (i := 6) sc_law_deed.nd rfl (.inr rfl) (pe_call (ok_law_draw T) (hr.mono (by decide)) (by rfl) T.g_law_draw T.F_law_draw.kp T.b_law_draw .nil pass0 (pa_cons (pv 0) (pa_cons (pe_callB call_len_seq (by rfl) T.z_len (by decide +kernel) (pa_cons (pv 2) pa_nil)) pa_nil))))
    (pss_cons (ps_if (pt_cmpR op_lt (pe_call (ok_law_draw T) (hr.mono (by decide)) (by rfl) T.g_law_draw T.F_law_draw.kp T.b_law_draw .nil pass0 (pa_cons (pv 0) (pa_cons pe_int pa_nil))) pe_int (nomark _)) (pss_cons (ps_set (i := 5) sc_law_deed.nd rfl (.inr rfl) (pe_call (ok_law_key T) (hr.mono (by decide)) (by rfl) T.g_law_key T.F_law_key.kp T.b_law_key .nil pass0 (pa_cons (pv 0) (pa_cons pe_int pa_nil))))
    (Evl.pss_cut (ps_set (i := 3) sc_law_deed.nd rfl (.inl rfl) (pe_cmpR op_in_seq (pe_ix ix_tup (pv 5) pe_int (fun _ _ => rfl)) (pe_lc (own := [("_law_rank", 7), ("_law_cell", 8)]) (by rfl) sc_law_deed.nd (pi_list (pe_ix ix_list (pv 2) (pv 6) (fun _ _ => rfl))) (blkOk_by (own := [("_law_rank", 7), ("_law_cell", 8)]) (N := N_law_deed) (sc := defScope s_law_deed) (by decide +kernel)) (fun _ _ _ _ _ => (show PG _ _ (gTup K 2 _) from (pg_tup rfl (pgs_cons (pg_name (i := 7) sc_law_deed.nd rfl (.inl rfl)) (pgs_cons (pg_name (i := 8) sc_law_deed.nd rfl (.inl rfl)) pgs_nil))))) (fun _ _ _ _ _ => pts_nil) (fun _ _ _ _ _ => (pv 8))) (by rfl)))
    (Evl.pss_cut (ps_if (pt_not (pt_truth (pv 3) (by intro _; rfl))) (pss_one (ps_asg (pe_call (ok_law_inserted T) (hr.mono (by decide)) (by rfl) T.g_law_inserted T.F_law_inserted.kp T.b_law_inserted .nil pass0 (pa_cons (pe_ix ix_list (pv 2) (pv 6) (fun _ _ => rfl)) (pa_cons (pv 5) pa_nil))) (pg_sub (pv 2) (pv 6) set_list))) pss_nil)
    (pss_one (ps_ret (pe_cmpR (op_eqD hr.units) (GX.pe_lam (k := 12) (T := [(A.tb_law_deed, qlam_law_deed)]) T.F_law_word sc_law_word (by rfl) T.g_law_word T.b_law_word rfl (.inl rfl) (gives_law_word T rfl rfl) B.t_law_deed rfl (List.mem_singleton.mpr rfl) (fun p hp _ => by rw [List.mem_singleton.mp hp]; rfl) (hr.mono (by decide)) (show LamX.LamS (defScope s_law_deed) _ from LamX.lamS_by (by decide +kernel)) rfl (fun _ _ _ _ _ => rfl) (fun _ _ _ _ _ _ _ hr => (pe_meth (pv 1) T.cl_Ideal T.m_Ideal_push (ok_Ideal_push T) (hr.mono (by decide)) T.b_Ideal_push .nil (GX.passX rfl rfl rfl rfl) (pa_cons (pv 6) (pa_cons (pv 5) pa_nil))))) (pe_ifExp (pt_truth (pv 3) (by intro _; rfl)) pe_str pe_non) (nomark _))))))) pss_nil)
    (Evl.pss_cut (ps_set (i := 4) sc_law_deed.nd rfl (.inl rfl) (pe_ifExp (pt_cmpR op_gt (pe_callB call_len_seq (by rfl) T.z_len (by decide +kernel) (pa_cons (pe_ix ix_list (pv 2) (pv 6) (fun _ _ => rfl)) pa_nil)) pe_int (nomark _)) (pe_ix ix_list (pe_ix ix_list (pv 2) (pv 6) (fun _ _ => rfl)) pe_int (fun _ _ => rfl)) pe_str))
    (pss_cons (ps_asg (pe_slice sl_list (pe_ix ix_list (pv 2) (pv 6) (fun _ _ => rfl)) (po_some pe_int) po_none) (pg_sub (pv 2) (pv 6) set_list))
    (pss_one (ps_ret (pe_cmpR (op_eqD hr.units) (GX.pe_lam (k := 12) (T := [(A.tb_law_deed, qlam_law_deed)]) T.F_law_word sc_law_word (by rfl) T.g_law_word T.b_law_word rfl (.inl rfl) (gives_law_word T rfl rfl) B.t_law_deed rfl (List.mem_singleton.mpr rfl) (fun p hp _ => by rw [List.mem_singleton.mp hp]; rfl) (hr.mono (by decide)) (show LamX.LamS (defScope s_law_deed) _ from LamX.lamS_by (by decide +kernel)) rfl (fun _ _ _ _ _ => rfl) (fun _ _ _ _ _ _ _ hr => (pe_meth (pv 1) T.cl_Ideal T.m_Ideal_let_go (ok_Ideal_let_go T) (hr.mono (by decide)) T.b_Ideal_let_go .nil (GX.passX rfl rfl rfl rfl) (pa_cons (pv 6) pa_nil)))) (pv 4) (nomark _)))))))), ?_⟩
    refine ⟨_, rfl, _, rfl, D.r k, _, rfl, .inl (SqL.of (w0.r k hk).2), h, g, _, rfl, w0.hand, by rw [rowsV_len]; omega, by rw [rowsV_len]; omega, fun H1 d b1 a1 d0 d1 => ?_⟩
    rw [rowsV_len] at d1
    obtain ⟨j, rfl⟩ := Int.eq_ofNat_of_zero_le d0
    have hj : j < n := by omega
    have w1 := w0.kp b1.kp a1
    refine ⟨_, rfl, h, g, 5, rfl, w1.hand, by decide, by decide, fun H2 e b2 a2 _ _ => ?_⟩
    have w2 := w1.kp b2.kp a2
    refine ⟨_, _, rfl, rfl, _, rfl, ite2 (fun _ => ?_) (fun _ => ?_)⟩
    · -- a key is pushed
      refine ⟨_, rfl, h, g, 20, rfl, w2.hand, by decide, by decide, fun H3 ka p k3 a3 na ea hok => ?_⟩
      obtain ⟨kd3, ekd, w3⟩ : ∃ kd3 : V → Int × Int, kd3 (.ref ka) = p ∧ WJ A h g L n N Bd ts { D with kd := kd3 } H3 := ⟨_, if_pos rfl, (w2.kp k3 a3).key ea⟩
      clear w0 w1 w2 b1 b2 a1 a2 k3 a3
      have ekj : D.c k j = D.d k j := ecd k j hk hj
      -- is_there
      refine ⟨fun σ' H' => σ' = [some (.ref h), some (.ref (D.x k)), some (.ref (D.r k)), some (.bl (hasC kd3 p.2 (D.d k j))), none, some (.ref ka), some (.int (j : Int)), none, none] ∧ Same H3 H', ?_, ?_⟩
      · have ha := (w3.a k j hk hj).2
        refine ⟨_, rfl, ka, _, 1, _, rfl, rfl, SqT.of ea, atI_nat (j := 1) rfl, _, rfl, _, rfl, D.r k, _, _, _, rfl, rfl, SqL.of (w3.r k hk).2, atI_nat (rowsV_at hj), D.a k j, rfl, ⟨_, SqL.of ha⟩, fun D1 hD1 => ?_⟩
        refine lc_list (K := K) (a := D.a k j) (xs := D.d k j) (fun i H'' => Same H3 H'' ∧ H'' D1 = some (.lst (((D.d k j).take i).map fun v => V.int (kd3 v).2))) ⟨same_upd hD1, upd_same⟩ (fun i H'' _ h => SqL.of (h.1 _ _ ha)) ?_ ?_
        · rintro m y H'' hm ⟨s1, d1⟩
          obtain ⟨q, rfl, hq⟩ := w3.kk k j hk hj y (List.mem_of_getElem? hm)
          have hq' := s1 _ _ hq
          refine ⟨q, _, rfl, SqT.of hq', rfl, _, _, rfl, _, _, rfl, rfl, rfl, ?_⟩
          refine ⟨_, rfl, _, d1, ?_, same_to s1 hD1, ?_⟩
          · rw [List.length_map, List.length_take]
            exact Nat.lt_of_le_of_lt (Nat.le_trans (Nat.min_le_right _ _) (w3.ld k j hk hj)) (Nat.lt_of_le_of_lt hB (by decide))
          · rw [upd_same, List.take_add_one, hm, List.map_append]
            rfl
        · rintro H'' ⟨s1, d1⟩
          rw [List.take_length] at d1
          refine ⟨D1, _, rfl, .inl (SqL.of d1), rfl, flat_ints, ?_⟩
          refine ⟨?_, s1⟩
          have e0 : (if false = true then !inV (V.int p.2) ((D.d k j).map fun v => V.int (kd3 v).2) else inV (V.int p.2) ((D.d k j).map fun v => V.int (kd3 v).2)) = hasC kd3 p.2 (D.d k j) := by rw [if_neg Bool.false_ne_true, hasC_in]
          rw [← e0]
          rfl
      rintro σ' H4 ⟨rfl, s4⟩
      have w4 := w3.same s4
      have ea4 := s4 _ _ ea
      clear w3 s4 ea na
      -- rows[output] = inserted(rows[output], key)
      refine ⟨fun σ' H' => ∃ D' : Dat, σ' = [some (.ref h), some (.ref (D.x k)), some (.ref (D.r k)), some (.bl (hasC kd3 p.2 (D.d k j))), none, some (.ref ka), some (.int (j : Int)), none, none] ∧ WJ A h g L n N (Bd + 1) ts D' H' ∧ Tup2 H' ka p ∧ D'.x = D.x ∧ D'.r = D.r ∧ D'.R = D.R ∧ D'.c = D.c ∧ D'.kd = kd3 ∧
          D'.d = (if hasC kd3 p.2 (D.d k j) = true then D.d else fun m i => if m = k ∧ i = j then insK kd3 (.ref ka) (D.d k j) else D.d m i), ?_, ?_⟩
      · refine ⟨_, rfl, hasC kd3 p.2 (D.d k j), rfl, ?_⟩
        cases ch : hasC kd3 p.2 (D.d k j) with
        | true => exact iteF ⟨{ D with kd := kd3 }, rfl, w4.more (Nat.le_succ _), ea4, rfl, rfl, rfl, rfl, rfl, (if_pos rfl).symm⟩
        | false =>
          refine iteT ?_
          have ha := (w4.a k j hk hj).2
          have hkk : KeysAt H4 kd3 (.ref ka :: D.d k j) := fun y hy => by
            rcases List.mem_cons.mp hy with e | hy
            · exact ⟨ka, e, by rw [e, ekd]; exact ea4⟩
            · exact w4.kk k j hk hj y hy
          refine ⟨_, rfl, _, rfl, D.r k, _, _, _, rfl, rfl, SqL.of (w4.r k hk).2, atI_nat (rowsV_at hj), _, rfl, D.a k j, ka, D.d k j, kd3, rfl, ha, hkk, Nat.lt_of_le_of_lt (w4.ld k j hk hj) (by omega), fun H5 q s5 nq e5 => ?_⟩
          have e6 := s5 _ _ (w4.r k hk).2
          refine ⟨_, rfl, _, rfl, D.r k, _, _, j, rfl, rfl, e6, by rw [rowsV_len]; exact ixN_at hj, ?_⟩
          have hqr : q ≠ D.r k := (ne_of_none (w4.r k hk).2 nq).symm
          obtain ⟨own', a', w5⟩ := (w4.more (Nat.le_succ Bd)).setr (H' := upd H5 (D.r k) (.lst ((rowsV n (D.a k)).set j (.ref q)))) (new := insK kd3 (.ref ka) (D.d k j)) hk hj nq (fun y o h1 e => by rw [upd_ne h1]; exact s5 _ _ e) (by rw [upd_ne hqr]; exact e5) upd_same
            (fun y hy => by
              rcases insK_mem hy with e | hy
              · exact ⟨ka, e, by rw [e]; show Tup2 H4 ka (kd3 (.ref ka)); rw [ekd]; exact ea4⟩
              · exact w4.kk k j hk hj y hy) (by rw [insK_len]; exact Nat.succ_le_succ (w4.ld k j hk hj))
          refine ⟨_, rfl, w5, ?_, rfl, rfl, rfl, rfl, rfl, (if_neg Bool.false_ne_true).symm⟩
          show (upd H5 (D.r k) _) ka = _
          rw [upd_ne (ne_of (s5 _ _ ea4) e6 (by intro z; cases z))]
          exact s5 _ _ ea4
      rintro σ' H5 ⟨D5, rfl, w5, ea5, x5, r5, R5, c5, kd5, d5⟩
      clear w4 ea4
      -- push
      refine ⟨w5.tb, fun H6 x6 t6 E Q' hE hQ => ?_⟩
      have w6 := w5.ext x6 t6
      have ea6 : Tup2 H6 ka p := x6 _ _ ea5 nt_tup
      obtain ⟨dx, ex⟩ := (w6.x k hk).2
      rw [x5] at ex
      have rows6 := w6.rows hk
      rw [x5] at rows6
      have kc6 := w6.kc k j hk hj
      have so6 := w6.so k j hk hj
      have lc6 := w6.lc k j hk hj
      rw [c5, kd5] at kc6 so6
      rw [c5] at lc6 rows6
      have hkk : KeysAt H6 kd3 (.ref ka :: D.c k j) := fun y hy => by
        rcases List.mem_cons.mp hy with e | hy
        · exact ⟨ka, e, by rw [e, ekd]; exact ea6⟩
        · exact kc6 y hy
      refine ⟨_, rfl, D.x k, dx, _, rfl, ex, rfl, _, rfl, _, rfl, D.x k, D5.R k, n, D5.b k, D.c k, j, ka, kd3, rfl, rows6, hj, hkk, so6.1, by rw [ekd]; exact hok, Nat.lt_of_le_of_lt lc6 (by omega), fun c3 H7 s7 => ?_, fun c3 H7 k7 e7 => ?_⟩
      · refine hE _ _ "there" .there ?_
        rw [ekd, ekj] at c3
        refine ⟨_, rfl, _, rfl, ?_⟩
        rw [c3]
        refine iteT ⟨.str "there", .str "there", .str _, .str _, (by decide +kernel), (by decide +kernel), ?_⟩
        rw [SeqAt.eqv_refl _ (show PyData.canLay0 (.str "there") = true by decide +kernel)]
        refine kq H7 D5 (w6.same s7) x5 r5 fun m i hm hi => ?_
        rw [c5, d5, if_pos c3]
        exact ecd m i hm hi
      · refine hQ _ _ ?_
        rw [ekd, ekj] at c3
        refine ⟨_, rfl, _, rfl, ?_⟩
        rw [c3]
        refine iteF ⟨.none, .none, .non, .non, rfl, rfl, ?_⟩
        rw [SeqAt.eqv_refl _ (show PyData.canLay0 .none = true from rfl)]
        rw [if_neg (show ¬ (hasC kd3 p.2 (D.d k j) = true) by rw [c3]; exact Bool.false_ne_true)] at d5
        have hno : ∀ v ∈ D.c k j, (kd3 v).2 ≠ (kd3 (.ref ka)).2 := by
          rw [ekd, ekj]
          exact hasC_no c3
        have w8 := w6.setb (k := k) (j := j) (new := insK kd3 (.ref ka) (D.c k j)) hk hj k7 e7 (fun y hy => by
            rw [kd5]
            rcases insK_mem hy with e | hy
            · exact ⟨ka, e, by rw [e, ekd]; exact ea6⟩
            · exact kc6 y hy) (by rw [kd5]; exact srt_ins so6 hno (by rw [ekd]; exact hok)) (by
            rw [insK_len, ekj]
            have q := w6.ld k j hk hj
            rw [d5] at q
            dsimp only at q
            rw [if_pos ⟨rfl, rfl⟩, insK_len] at q
            exact q)
        refine kq H7 _ w8 x5 r5 fun m i hm hi => ?_
        show (if m = k ∧ i = j then insK kd3 (.ref ka) (D.c k j) else D5.c m i) = D5.d m i
        rw [c5, d5]
        dsimp only
        by_cases z : m = k ∧ i = j
        · rw [if_pos z, if_pos z, ekj]
        · rw [if_neg z, if_neg z]
          exact ecd m i hm hi
    · -- the least one leaves
      clear w0 w1
      have ekj : D.c k j = D.d k j := ecd k j hk hj
      refine ⟨fun σ' H' => σ' = [some (.ref h), some (.ref (D.x k)), some (.ref (D.r k)), none, some (dueV (D.d k j)), none, some (.int (j : Int)), none, none] ∧ H' = H2, ?_, ?_⟩
      · have ha := (w2.a k j hk hj).2
        refine ⟨_, rfl, _, rfl, D.r k, _, _, _, rfl, rfl, SqL.of (w2.r k hk).2, atI_nat (rowsV_at hj), D.a k j, _, rfl, .inl (SqL.of ha), _, _, rfl, rfl, _, rfl, ?_⟩
        cases ec : D.d k j with
        | nil => exact iteF ⟨rfl, rfl⟩
        | cons v rest =>
          rw [ec] at ha
          refine ite2 (fun _ => ?_) (fun cn => ?_)
          · exact ⟨_, rfl, _, rfl, D.r k, _, _, _, rfl, rfl, SqL.of (w2.r k hk).2, atI_nat (rowsV_at hj), D.a k j, _, 0, _, rfl, rfl, SqL.of ha, atI_nat (j := 0) rfl, rfl, rfl⟩
          · refine absurd (decide_eq_true ?_) cn
            show (0 : Int) < ((v :: rest).length : Int)
            rw [List.length_cons]
            omega
      rintro σ' H' ⟨rfl, rfl⟩
      -- rows[output] = rows[output][1:]
      have ha := (w2.a k j hk hj).2
      refine ⟨_, rfl, _, rfl, D.r k, _, _, _, rfl, rfl, SqL.of (w2.r k hk).2, atI_nat (rowsV_at hj), _, rfl, D.a k j, _, rfl, SqL.of ha, fun q nq => ?_⟩
      have ecut : cutV (D.d k j) (some 1) none = (D.d k j).drop 1 := by
        cases ec' : D.d k j with
        | nil => rfl
        | cons y r => exact cut_hi (n := 1) (by rw [List.length_cons]; omega)
      rw [ecut]
      have e6 : (upd H' q (.lst ((D.d k j).drop 1))) (D.r k) = some (.lst (rowsV n (D.a k))) := by
        rw [upd_ne (ne_of_none (w2.r k hk).2 nq)]
        exact (w2.r k hk).2
      refine ⟨_, rfl, _, rfl, D.r k, _, _, j, rfl, rfl, e6, by rw [rowsV_len]; exact ixN_at hj, ?_⟩
      have hqr : q ≠ D.r k := (ne_of_none (w2.r k hk).2 nq).symm
      obtain ⟨own', a', w5⟩ := (w2.more (Nat.le_succ Bd)).setr (H' := upd (upd H' q (.lst ((D.d k j).drop 1))) (D.r k) (.lst ((rowsV n (D.a k)).set j (.ref q)))) (new := (D.d k j).drop 1) hk hj nq (fun y o h1 e => by rw [upd_ne h1, upd_ne (ne_of_none e nq)]; exact e) (by rw [upd_ne hqr, upd_same]) upd_same
        (fun y hy => w2.kk k j hk hj y (List.mem_of_mem_drop hy)) (show ((D.d k j).drop 1).length ≤ Bd + 1 by rw [List.length_drop]; have := w2.ld k j hk hj; omega)
      generalize (upd (upd H' q (.lst ((D.d k j).drop 1))) (D.r k) (.lst ((rowsV n (D.a k)).set j (.ref q)))) = H5 at w5
      clear e6 w2 ha nq hqr
      -- let_go
      refine ⟨w5.tb, fun H6 x6 t6 E Q' hE hQ => ?_⟩
      have w6 := w5.ext x6 t6
      obtain ⟨dx, ex⟩ := (w6.x k hk).2
      have rows6 := w6.rows hk
      have kc6 := w6.kc k j hk hj
      have so6 := w6.so k j hk hj
      have lc6 := w6.lc k j hk hj
      refine ⟨_, rfl, D.x k, dx, _, rfl, ex, rfl, _, rfl, D.x k, D.R k, n, D.b k, D.c k, j, rfl, rows6, hj, fun ec => ?_, fun v rest ec => ?_⟩
      · refine hE _ _ "nothing" .nothing ?_
        have ed : D.d k j = [] := ekj.symm.trans ec
        refine ⟨_, rfl, .str "nothing", .str "nothing", .str _, by rw [ed]; exact .str _, (by decide +kernel), (by decide +kernel), ?_⟩
        rw [SeqAt.eqv_refl _ (show PyData.canLay0 (.str "nothing") = true by decide +kernel)]
        refine kq H6 _ w6 rfl rfl fun m i hm hi => ?_
        show D.c m i = (if m = k ∧ i = j then (D.d k j).drop 1 else D.d m i)
        by_cases z : m = k ∧ i = j
        · rw [if_pos z, z.1, z.2, ec, ed]
          rfl
        · rw [if_neg z]
          exact ecd m i hm hi
      · refine hQ _ _ ?_
        have ed : D.d k j = v :: rest := ekj.symm.trans ec
        have kc7 : KeysAt H6 D.kd (v :: rest) := by
          rw [← ec]
          exact kc6
        have so7 : Srt D.kd (v :: rest) := by
          rw [← ec]
          exact so6
        obtain ⟨y, rfl, hy⟩ := kc7 v List.mem_cons_self
        have w8 := w6.setb (k := k) (j := j) (H' := upd H6 (D.b k j) (.lst rest)) (new := rest) hk hj (fun q o hq e => by rw [upd_ne hq]; exact e) upd_same (fun u hu => kc7 u (List.mem_cons_of_mem _ hu)) (srt_tail so7) (by
          have z : (V.ref y :: rest).length ≤ Bd + 1 := by
            rw [← ec]
            exact lc6
          rw [List.length_cons] at z
          omega)
        have hy8 : Tup2 (upd H6 (D.b k j) (.lst rest)) y (D.kd (.ref y)) := by
          show (upd H6 (D.b k j) (.lst rest)) y = _
          rw [upd_ne (ne_of hy (w6.b k j hk hj).2 (by intro z; cases z))]
          exact hy
        refine ⟨_, rfl, keyD (D.kd (.ref y)), keyD (D.kd (.ref y)), dp_key hy8, by rw [ed]; exact dp_key hy8, sh_key _, sh_key _, ?_⟩
        rw [SeqAt.eqv_refl _ (lay_key _)]
        refine kq _ _ w8 rfl rfl fun m i hm hi => ?_
        show (if m = k ∧ i = j then rest else D.c m i) = (if m = k ∧ i = j then (D.d k j).drop 1 else D.d m i)
        by_cases z : m = k ∧ i = j
        · rw [if_pos z, if_pos z, ed]
          rfl
        · rw [if_neg z, if_neg z]
          exact ecd m i hm hi
end

section
variable {P : Program} {w : World} {K : PySem.W.Frag} {mg : Str → Option Value} {base : Heap} {A : Adr}
theorem WJ.alike {h g L : Addr} {n N B : Nat} {ts : List V} {D : Dat} {H : Hp} (w : WJ A h g L n N B ts D H) {k : Nat} (hk : k < N) (hcd : ∀ m j, m < N → j < n → D.c m j = D.d m j) (hB : B < 100000) :
    Alike A.c_Ideal H (D.x k) (D.R k) (D.r k) n (D.b k) (D.a k) (D.c k) D.kd ∧ D.R k ≠ h ∧ D.r k ≠ h ∧ (∀ j, j < n → D.b k j ≠ h) ∧ ∀ j, j < n → D.a k j ≠ h :=
  ⟨{ I := w.rows hk, r := (w.r k hk).2, a := fun j hj => by rw [hcd k j hk hj]; exact (w.a k j hk hj).2, ks := fun j hj => w.kc k j hk hj, so := fun j hj => w.so k j hk hj, len := fun j hj => Nat.lt_of_le_of_lt (w.lc k j hk hj) hB },
    own_ne (w.R k hk).1 w.oh (by intro z; cases z), own_ne (w.r k hk).1 w.oh (by intro z; cases z), fun j hj => own_ne (w.b k j hk hj).1 w.oh (by intro z; cases z), fun j hj => own_ne (w.a k j hk hj).1 w.oh (by intro z; cases z)⟩
theorem ixN_last {m : Nat} : ixN (m + 1) (-1) = some m := by
  unfold ixN
  rw [if_neg (by omega), if_pos (by omega)]
  congr 1
  omega
theorem set_last {ys : List V} {u v : V} : (ys ++ [u]).set ys.length v = ys ++ [v] := by
  rw [List.set_append_right _ _ (Nat.le_refl _), Nat.sub_self]
  rfl
def spLaw (K : PySem.W.Frag) (A : Adr) : Sp := fun vs H Q _ => ∃ (a : Addr) (ns : List Int), vs = [.ref a] ∧ SqL K H a (ns.map V.int) ∧ ns.length ≤ 63 ∧ Tb A.tb_law_deed qlam_law_deed H ∧ ∀ H', Q (.bl true) H'
theorem ok_law (T : Top K mg A) (B : Tbs base mg A) : FnOk P w K mg base CX0 24 A.a_law A.d_law P_law (spLaw K A) := by
  refine T.F_law.ok sc_law (fun vs H Q E h => ?_) (fun cdv A' outer s H vs Q E hr h => ?_)
  · obtain ⟨a, ns, rfl, _⟩ := h
    rfl
  · obtain ⟨sa, ns, rfl, hS, hlen, tb0, kq⟩ := h
    refine ⟨_, (pss_cons (ps_set (i := 1) sc_law.nd rfl (.inr rfl) (pe_call (ok_law_hand T) (hr.mono (by decide)) (by rfl) T.g_law_hand T.F_law_hand.kp T.b_law_hand .nil pass0 (pa_cons (pv 0) pa_nil)))
    (pss_cons (ps_set (i := 2) sc_law.nd rfl (.inl rfl) (pe_call (ok_law_any T) (hr.mono (by decide)) (by rfl) T.g_law_any T.F_law_any.kp T.b_law_any .nil pass0 (pa_cons (pv 1) (pa_cons (pe_lst (pa_cons pe_int (pa_cons pe_int (pa_cons pe_int (pa_cons pe_int pa_nil))))) pa_nil))))
    (pss_cons (ps_par3 (by rfl) sc_law.nd (i := 3) (j := 4) (l := 5) rfl rfl rfl (by decide) (by decide) (by decide) rfl rfl rfl (pa_cons (pe_make T.mk_Ideal (ok_Ideal___init__ T) (hr.mono (by decide)) (by rfl) T.gc_Ideal T.b_Ideal___init__ .nil pass0 (pa_cons (pv 2) pa_nil)) (pa_cons (pe_lc (own := [("_law_output", 7)]) (by rfl) sc_law.nd (pi_range1 rfl T.z_range (pa_cons (pv 2) pa_nil)) (blkOk_by (own := [("_law_output", 7)]) (N := N_law) (sc := defScope s_law) (by decide +kernel)) (fun _ _ _ _ _ => (pg_name (i := 7) sc_law.nd rfl (.inl rfl))) (fun _ _ _ _ _ => pts_nil) (fun _ _ _ _ _ => (pe_lst pa_nil))) (pa_cons (pe_lst pa_nil) pa_nil))) (by rfl))
    (pss_cons (ps_for PassesOwn.never rfl (pi_range1 rfl T.z_range (pa_cons (pe_call (ok_law_draw T) (hr.mono (by decide)) (by rfl) T.g_law_draw T.F_law_draw.kp T.b_law_draw .nil pass0 (pa_cons (pv 1) (pa_cons pe_int pa_nil))) pa_nil)) (pg_name (i := 6) sc_law.nd rfl (.inl rfl)) (pss_cons (ps_if (pt_not (pt_val (pe_call (ok_law_deed T B) (hr.mono (by decide)) (by rfl) T.g_law_deed T.F_law_deed.kp T.b_law_deed .nil pass0 (pa_cons (pv 1) (pa_cons (pv 3) (pa_cons (pv 4) pa_nil)))))) (pss_one (ps_ret pe_bl)) pss_nil)
    (Evl.pss_cut (ps_if (PW.pt (pw_and (pt_cmpR op_eq (pe_call (ok_law_draw T) (hr.mono (by decide)) (by rfl) T.g_law_draw T.F_law_draw.kp T.b_law_draw .nil pass0 (pa_cons (pv 1) (pa_cons pe_int pa_nil))) pe_int (nomark _)) (pw_and1 (pt_not (pt_val (pe_call (ok_law_shows T) (hr.mono (by decide)) (by rfl) T.g_law_shows T.F_law_shows.kp T.b_law_shows .nil pass0 (pa_cons (pv 1) (pa_cons (pv 3) (pa_cons (pv 4) pa_nil))))))))) (pss_one (ps_ret pe_bl)) pss_nil)
    (pss_one (ps_if (pt_cmpR op_eq (pe_call (ok_law_draw T) (hr.mono (by decide)) (by rfl) T.g_law_draw T.F_law_draw.kp T.b_law_draw .nil pass0 (pa_cons (pv 1) (pa_cons pe_int pa_nil))) pe_int (nomark _)) (pss_cons (ps_expr (pe_bm PySem.F.plainAttrs_list PySem.F.slot_list_append PySem.F.type_list_append mt_append (pv 5) (pa_cons (pe_tup (pa_cons (pe_meth0 (pv 3) T.cl_Ideal T.m_Ideal_copy (ok_Ideal_copy T) (hr.mono (by decide)) T.b_Ideal_copy .nil pass0) (pa_cons (pe_callTy call_list_of (by rfl) T.z_list (by decide +kernel) (pa_cons (pv 4) pa_nil)) pa_nil))) pa_nil)))
    (pss_one (ps_if (pt_cmpR op_eq (pe_call (ok_law_draw T) (hr.mono (by decide)) (by rfl) T.g_law_draw T.F_law_draw.kp T.b_law_draw .nil pass0 (pa_cons (pv 1) (pa_cons pe_int pa_nil))) pe_int (nomark _)) (pss_one (ps_asg (pe_tup (pa_cons (pe_ix ix_list (pv 5) (pe_un un_neg pe_int) (fun _ _ => rfl)) (pa_cons (pe_tup (pa_cons (pv 3) (pa_cons (pv 4) pa_nil))) pa_nil))) (pg_tup rfl (pgs_cons (pg_tup rfl (pgs_cons (pg_name (i := 3) sc_law.nd rfl (.inl rfl)) (pgs_cons (pg_name (i := 4) sc_law.nd rfl (.inl rfl)) pgs_nil))) (pgs_cons (pg_sub (pv 5) (pe_un un_neg pe_int) set_list) pgs_nil))))) pss_nil))) pss_nil)))))
    (pss_cons (ps_if (pt_not (pt_val (pe_callB (cr_all rfl) (by rfl) T.z_all (by decide +kernel) (pa_cons (pe_lc (own := [("_law_other", 8), ("_law_more", 9)]) (by rfl) sc_law.nd (pi_list (pv 5)) (blkOk_by (own := [("_law_other", 8), ("_law_more", 9)]) (N := N_law) (sc := defScope s_law) (by decide +kernel)) (fun _ _ _ _ _ => (show PG _ _ (gTup K 2 _) from (pg_tup rfl (pgs_cons (pg_name (i := 8) sc_law.nd rfl (.inl rfl)) (pgs_cons (pg_name (i := 9) sc_law.nd rfl (.inl rfl)) pgs_nil))))) (fun _ _ _ _ _ => pts_nil) (fun _ _ _ _ _ => (pe_call (ok_law_shows (P := P) (w := w) T) (hr.mono (by decide)) (by rfl) T.g_law_shows T.F_law_shows.kp T.b_law_shows .nil pass0 (pa_cons (pv 1) (pa_cons (pv 8) (pa_cons (pv 9) pa_nil)))))) pa_nil)))) (pss_one (ps_ret pe_bl)) pss_nil)
    (pss_one (ps_ret (pe_call (ok_law_shows T) (hr.mono (by decide)) (by rfl) T.g_law_shows T.F_law_shows.kp T.b_law_shows .nil pass0 (pa_cons (pv 1) (pa_cons (pv 3) (pa_cons (pv 4) pa_nil))))))))))), ?_⟩
    -- the hand
    refine ⟨_, rfl, sa, ns, rfl, hS, hlen, fun H1 h g s1 _ _ ha1 => ?_⟩
    have tb1 := tb0.same s1
    -- outputs
    refine ⟨_, rfl, (by show 4 ≤ sizeLine; decide), fun l hl => ?_⟩
    have hlh := ha1.ne_none hl
    refine ⟨h, g, l, _, rfl, ha1.same (same_upd hl), SqL.of upd_same, fun H' b => SqL.of (by rw [b l hlh]; exact upd_same), by show 0 < 4; decide, by show 4 ≤ 100000; decide, fun H2 j v b2 ha2 hv => ?_⟩
    have tb2 := (tb1.same (same_upd hl)).hand b2.kp (ha1.same (same_upd hl))
    have hmem := List.mem_of_getElem? hv
    obtain ⟨n, rfl, hn1, hn2⟩ : ∃ n : Nat, v = .int (n : Int) ∧ 1 ≤ n ∧ n ≤ 12 := by
      simp only [List.mem_cons, List.not_mem_nil, or_false] at hmem
      rcases hmem with e | e | e | e <;> subst e
      · exact ⟨1, rfl, by decide, by decide⟩
      · exact ⟨2, rfl, by decide, by decide⟩
      · exact ⟨3, rfl, by decide, by decide⟩
      · exact ⟨12, rfl, by decide, by decide⟩
    clear hmem hv b2 ha1 tb1 hlh hl s1
    -- ideal, rows, apart
    refine ⟨_, rfl, fun x dx hx hdx hne => ?_⟩
    refine ⟨x, dx, n, rfl, hn1, hn2, upd_same, fun H3 R b k3 hR hb injb eX eR eB => ⟨rfl, ?_⟩⟩
    have s23 : Same H2 H3 := fun q o e => k3 q o (ne_of_none e hx) (by rw [upd_ne (ne_of_none e hx), upd_ne (ne_of_none e hdx)]; exact e)
    have ha3 := ha2.same s23
    have tb3 := tb2.same s23
    obtain ⟨og, eg2⟩ : ∃ o, H2 g = some o := by
      obtain ⟨ms, e⟩ := ha2.cells
      exact ⟨_, e⟩
    have new2 : ∀ {y : Addr}, (upd (upd H2 dx (.own x)) x (.ins A.c_Ideal dx [])) y = none → H2 y = none := fun {y} e => by
      cases q : H2 y with
      | none => rfl
      | some o =>
        rw [upd_ne (ne_of_none q hx), upd_ne (ne_of_none q hdx), q] at e
        cases e
    have nR := new2 hR
    have nb := fun j hj => new2 (hb j hj).1
    refine ⟨_, rfl, (n : Int), rfl, by omega, by omega, fun D hD => ?_⟩
    refine lc_range (lo := 0) (n := (n : Int).toNat) (fun i H' => ∃ b' : Nat → Addr, Same H3 H' ∧ H' D = some (.lst (rowsV i b')) ∧ (∀ j, j < i → H3 (b' j) = none ∧ b' j ≠ D ∧ H' (b' j) = some (.lst [])) ∧ ∀ p q, p < i → q < i → b' p = b' q → p = q)
      ⟨fun _ => 0, same_upd hD, upd_same, fun j hj => absurd hj (Nat.not_lt_zero _), fun p q hp => absurd hp (Nat.not_lt_zero _)⟩ ?_ ?_
    · rintro i H' hi ⟨b', s2, d1, hb', inj⟩
      refine ⟨rfl, ?_⟩
      refine ⟨Nat.zero_le _, fun p hp => ?_⟩
      have hpD : p ≠ D := fun e => by
        rw [e, d1] at hp
        cases hp
      refine ⟨_, by rw [upd_ne hpD.symm]; exact d1, by rw [rowsV_len]; exact small1000 (by omega), ?_⟩
      exact rows_next (H := H3) (c := fun _ => []) s2 hD d1 hb' inj hp
    · rintro H5 ⟨aa, s35, eD, hA, _⟩
      rw [Int.toNat_natCast] at eD hA
      refine ⟨(by show 0 ≤ sizeLine; decide), fun L nL => ?_⟩
      -- the state
      have s6 := same_upd nL (o := .lst [])
      have ha5 := ha3.same s35
      have ha6 := ha5.same s6
      have Lh : L ≠ h := ha5.ne_none nL
      obtain ⟨og5, eg5⟩ : ∃ o, H5 g = some o := by
        obtain ⟨ms, e⟩ := ha5.cells
        exact ⟨_, e⟩
      have Lg : L ≠ g := (ne_of_none eg5 nL).symm
      have eg3 : ∃ o, H3 g = some o := by
        obtain ⟨ms, e⟩ := ha3.cells
        exact ⟨_, e⟩
      have hag : ∀ j, j < n → aa j ≠ g := fun j hj => by
        obtain ⟨o, e⟩ := eg3
        exact (ne_of_none e (hA j hj).1).symm
      have lL : ∀ {y : Addr} {o : HO}, H5 y = some o → y ≠ L := fun e => ne_of_none e nL
      obtain ⟨D0, w0, no0, oa0⟩ := WJ.start (A := A) (n := n) (a := aa) ha6 upd_same ⟨Lh, Lg⟩ (fun j hj => ⟨s6 _ _ (hA j hj).2.2, ha3.ne_none (hA j hj).1, hag j hj, lL (hA j hj).2.2⟩) ((tb3.same s35).same s6)
      have fr : ∀ {y : Addr} {o : HO}, H2 y = none → H3 y = some o → D0.own y = none := fun {y o} e1 e2 => no0 y (ha2.ne_none e1) (ne_of_none eg2 e1).symm (lL (s35 _ _ e2)) fun j hj => ne_of_none e2 (hA j hj).1
      have Dg : D ≠ g := by
        obtain ⟨o, e⟩ := eg3
        exact (ne_of_none e hD).symm
      obtain ⟨D1, w1, _, ex1, er1, _, ecd1⟩ := w0.addG (x' := x) (R' := R) (r' := D) (b' := b) (a' := aa) (c' := fun _ => []) (d' := fun _ => []) (fun _ _ e => e) (fr hx eX) (fr nR eR)
        (no0 D (ha3.ne_none hD) Dg (lL eD) fun j hj => (hA j hj).2.1.symm) (fun j hj => fr (nb j hj) (eB j hj)) injb (ne_of_none eR hD) (fun j hj => (hb j hj).2) (fun j hj => ne_of_none (eB j hj) hD)
        ⟨⟨dx, s6 _ _ (s35 _ _ eX)⟩, s6 _ _ (s35 _ _ eR), fun j hj => s6 _ _ (s35 _ _ (eB j hj))⟩ (s6 _ _ eD) (fun j hj => ⟨oa0 j hj, s6 _ _ (hA j hj).2.2⟩) (fun j hj v hv => absurd hv List.not_mem_nil) (fun j hj v hv => absurd hv List.not_mem_nil)
        (fun j hj => ⟨.nil, fun v hv => absurd hv List.not_mem_nil⟩) (fun j _ => Nat.le_refl _) (fun j _ => Nat.le_refl _)
      have hcd1 := ecd1 (fun k j hk => absurd hk (Nat.not_lt_zero _)) (fun _ _ => rfl)
      clear ecd1 no0 oa0 fr lL
      have nhd := w1.hand
      generalize (upd H5 L (.lst [])) = H6 at w1
      clear s6 ha6 ha5 ha3 tb3 tb2 ha2 nhd
      -- the loop
      refine ⟨_, _, _, rfl, _, rfl, h, g, 61, rfl, w1.hand, by decide, by decide, fun H7 d b7 ha7 d0 d1 => ?_⟩
      have w7 := w1.kp b7.kp ha7
      refine ⟨d, rfl, by omega, by omega, ?_⟩
      refine for_range (lo := 0) (n := d.toNat) (fun i σ H' => ∃ (N : Nat) (ts : List V) (Dt : Dat) (k : Nat) (y6 : Option V), σ = [some (.ref sa), some (.ref h), some (.int (n : Int)), some (.ref (Dt.x k)), some (.ref (Dt.r k)), some (.ref L), y6, none, none, none] ∧ k < N ∧ ts.length ≤ i ∧ WJ A h g L n N i ts Dt H' ∧ ∀ m j, m < N → j < n → Dt.c m j = Dt.d m j)
        ⟨1, [], D1, 0, none, by rw [ex1, er1]; rfl, Nat.one_pos, Nat.le_refl _, w7, hcd1⟩ ?_ ?_
      · rintro i σ H8 hi ⟨N, ts, Dt, k, y6, rfl, hk, hts, w8, hcd8⟩
        -- the deed
        refine ⟨_, rfl, _, rfl, _, rfl, h, g, L, n, N, i, ts, Dt, k, rfl, w8, hk, hcd8, hn1, hn2, by omega, fun H9 D9 w9 x9 r9 hcd9 => ?_⟩
        refine ⟨true, rfl, iteF ?_⟩
        -- shows, sometimes
        refine ⟨fun σ' H' => σ' = [some (.ref sa), some (.ref h), some (.int (n : Int)), some (.ref (Dt.x k)), some (.ref (Dt.r k)), some (.ref L), some (.int (0 + (i : Int))), none, none, none] ∧ WJ A h g L n N (i + 1) ts D9 H', ?_, ?_⟩
        · refine ⟨_, rfl, h, g, 4, rfl, w9.hand, by decide, by decide, fun H10 d10 b10 ha10 _ _ => ?_⟩
          have w10 := w9.kp b10.kp ha10
          refine ⟨rfl, _, rfl, ite2 (fun _ => ?_) (fun _ => iteF ⟨rfl, w10⟩)⟩
          obtain ⟨al, nR, nr, nb', na⟩ := w10.alike hk hcd9 (by omega)
          rw [x9, r9] at al
          rw [r9] at nr
          exact ⟨_, rfl, _, rfl, _, rfl, h, g, Dt.x k, D9.R k, Dt.r k, n, D9.b k, D9.a k, D9.c k, D9.kd, rfl, w10.hand, al, hn2, ⟨nR, nr, nb', na⟩, fun H11 k11 a11 => ⟨true, rfl, iteF ⟨rfl, w10.kp k11 a11⟩⟩⟩
        rintro σ' H11 ⟨rfl, w11⟩
        refine ⟨_, rfl, h, g, 12, rfl, w11.hand, by decide, by decide, fun H12 d12 b12 ha12 _ _ => ?_⟩
        have w12 := w11.kp b12.kp ha12
        have ex12 : D9.x k = Dt.x k := by rw [x9]
        have er12 : D9.r k = Dt.r k := by rw [r9]
        rw [← ex12, ← er12]
        clear w8 w9 w11 b12 ha12 ex12 er12 x9 r9
        refine ⟨rfl, _, rfl, ite2 (fun _ => ?_) (fun _ => ⟨N, ts, D9, k, _, rfl, hk, by omega, w12, hcd9⟩)⟩
        -- a copy is laid apart
        obtain ⟨dxk, exk⟩ := (w12.x k hk).2
        refine ⟨_, rfl, .inl ⟨rfl, _, SqL.of w12.L.2⟩, _, rfl, D9.x k, dxk, _, rfl, exk, rfl, D9.x k, D9.R k, n, D9.b k, D9.c k, rfl, w12.rows hk, hn1, hn2, fun H13 x' R' b' s13 nx' nR' nb' inj' I' => ?_⟩
        refine ⟨_, rfl, D9.r k, _, rfl, .inl (SqL.of (s13 _ _ (w12.r k hk).2)), fun r' nr' => ?_⟩
        have s14 := same_upd nr' (o := .lst (rowsV n (D9.a k)))
        refine ⟨(by show 2 ≤ sizeLine; decide), fun T' nT' => ?_⟩
        have s15 := same_upd nT' (o := .tup [.ref x', .ref r'])
        have s1315 := s14.trans s15
        have s1215 := s13.trans s1315
        refine ⟨L, _, _, rfl, rfl, s1215 _ _ w12.L.2, small1000 (by omega), ?_⟩
        have hTr : T' ≠ r' := fun e => by
          rw [e, upd_same] at nT'
          cases nT'
        obtain ⟨Dn, w15, exr, exN, erN, ecdn⟩ := w12.add (k := k) hk s1215 nx' nR' (s13.free nr') (fun j hj => (nb' j hj).1) inj' (ne_of_none I'.rows nr') (fun j hj => (nb' j hj).2) (fun j hj => ne_of_none (I'.row j hj) nr')
          ⟨I'.ins.imp fun dx e => s1315 _ _ e, s1315 _ _ I'.rows, fun j hj => s1315 _ _ (I'.row j hj)⟩ (by rw [upd_ne hTr.symm, upd_same])
        have hcdn := ecdn hcd9
        have eT' : (upd (upd H13 r' (.lst (rowsV n (D9.a k)))) T' (.tup [.ref x', .ref r'])) T' = some (.tup [.ref x', .ref r']) := upd_same
        generalize (upd (upd H13 r' (.lst (rowsV n (D9.a k)))) T' (.tup [.ref x', .ref r'])) = H15 at w15 eT'
        clear ecdn s1215 s1315 s15 s14 s13 nT' nr' nx' nR' nb' I' w12 exk
        have hTL : T' ≠ L := ne_of eT' w15.L.2 (by intro z; cases z)
        have w16 := w15.setL (ts' := ts ++ [V.ref T']) (H' := upd H15 L (.lst (ts ++ [V.ref T']))) (fun q o hq e => by rw [upd_ne hq]; exact e) upd_same (fun v hv => by
          rcases List.mem_append.mp hv with hv | hv
          · exact w15.ts v hv
          · rw [List.mem_singleton] at hv
            exact ⟨T', N, hv, Nat.lt_succ_self _, by rw [exN, erN]; exact eT'⟩)
        have eT16 : (upd H15 L (.lst (ts ++ [V.ref T']))) T' = some (.tup [.ref x', .ref r']) := by
          rw [upd_ne hTL]
          exact eT'
        generalize (upd H15 L (.lst (ts ++ [V.ref T']))) = H16 at w16 eT16
        clear w15 eT' hTL
        have hkn : k < N + 1 := by omega
        rw [← (exr k hk).1, ← (exr k hk).2]
        -- the two are exchanged, sometimes
        refine ⟨_, rfl, h, g, 2, rfl, w16.hand, by decide, by decide, fun H17 d17 b17 ha17 _ _ => ?_⟩
        have w17 := w16.kp b17.kp ha17
        obtain ⟨hi17, hm17, hs17, ht17, he17, _⟩ := w16.hand.five
        have eT17 := b17.kp _ _ (ne_of eT16 he17 (by intro z; cases z)) eT16
        have ltn : (ts ++ [V.ref T']).length ≤ i + 1 := by
          rw [List.length_append, List.length_singleton]
          omega
        refine ⟨rfl, _, rfl, ite2 (fun _ => ?_) (fun _ => ⟨N + 1, ts ++ [V.ref T'], Dn, k, _, rfl, hkn, ltn, w17, hcdn⟩)⟩
        have eL17 := w17.L.2
        refine ⟨_, rfl, _, rfl, L, ts ++ [V.ref T'], -1, V.ref T', rfl, rfl, SqL.of eL17, atI_last, ?_⟩
        refine ⟨_, rfl, _, rfl, (by show 2 ≤ sizeLine; decide), fun T2 nT2 => ?_⟩
        have s18 := same_upd nT2 (o := .tup [.ref (Dn.x k), .ref (Dn.r k)])
        refine ⟨(by show 2 ≤ sizeLine; decide), fun P2 nP2 => ?_⟩
        have s19 := same_upd nP2 (o := .tup [.ref T', .ref T2])
        have s1719 := s18.trans s19
        have hTP : T2 ≠ P2 := fun e => by
          rw [← e, upd_same] at nP2
          cases nP2
        have eP : (upd (upd H17 T2 (.tup [.ref (Dn.x k), .ref (Dn.r k)])) P2 (.tup [.ref T', .ref T2])) P2 = some (.tup [.ref T', .ref T2]) := upd_same
        have eT2 : (upd (upd H17 T2 (.tup [.ref (Dn.x k), .ref (Dn.r k)])) P2 (.tup [.ref T', .ref T2])) T2 = some (.tup [.ref (Dn.x k), .ref (Dn.r k)]) := by rw [upd_ne hTP, upd_same]
        have w19 := w17.same s1719
        have eT19 := s1719 _ _ eT17
        generalize (upd (upd H17 T2 (.tup [.ref (Dn.x k), .ref (Dn.r k)])) P2 (.tup [.ref T', .ref T2])) = H19 at w19 eP eT2 eT19 ⊢
        clear s18 s19 s1719 nT2 nP2 w17 w16 eT17 eT16
        have hT2L : T2 ≠ L := ne_of eT2 w19.L.2 (by intro z; cases z)
        refine ⟨P2, _, rfl, SqT.of eP, rfl, _, _, rfl, T', _, rfl, SqT.of eT19, rfl, _, _, rfl, _, _, rfl, rfl, _, _, rfl, ?_⟩
        refine ⟨_, rfl, _, rfl, L, _, _, ts.length, rfl, rfl, w19.L.2, (by rw [List.length_append, List.length_singleton]; exact ixN_last), ?_⟩
        rw [set_last]
        have w20 := w19.setL (ts' := ts ++ [V.ref T2]) (H' := upd H19 L (.lst (ts ++ [V.ref T2]))) (fun q o hq e => by rw [upd_ne hq]; exact e) upd_same (fun v hv => by
          rcases List.mem_append.mp hv with hv | hv
          · exact w19.ts v (List.mem_append_left _ hv)
          · rw [List.mem_singleton] at hv
            exact ⟨T2, k, hv, hkn, eT2⟩)
        refine ⟨rfl, N + 1, ts ++ [V.ref T2], Dn, N, _, by rw [exN, erN]; rfl, Nat.lt_succ_self _, by rw [List.length_append, List.length_singleton]; omega, w20, hcdn⟩
      · rintro σ H8 ⟨N, ts, Dt, k, y6, rfl, hk, hts, w8, hcd8⟩
        -- all of those apart
        have hBd : d.toNat < 100000 := by omega
        have hlen' : ts.length ≤ 100000 := by omega
        refine ⟨_, rfl, L, rfl, ⟨_, SqL.of w8.L.2⟩, fun D2 hD2 => ?_⟩
        have oD2 := w8.unowned hD2
        refine lc_list (K := K) (a := L) (xs := ts) (fun m H' => WJ A h g L n N d.toNat ts Dt H' ∧ H' D2 = some (.lst ((List.replicate m true).map V.bl))) ⟨w8.same (same_upd hD2), upd_same⟩ (fun m H' _ q => SqL.of q.1.L.2) ?_ ?_
        · rintro m v H9 hm ⟨w9, d9⟩
          obtain ⟨t, k2, rfl, hk2, et⟩ := w9.ts v (List.mem_of_getElem? hm)
          refine ⟨t, _, rfl, SqT.of et, rfl, _, _, rfl, _, _, rfl, rfl, rfl, ?_⟩
          obtain ⟨al, nR, nr, nb', na⟩ := w9.alike hk2 hcd8 hBd
          refine ⟨_, rfl, _, rfl, _, rfl, h, g, Dt.x k2, Dt.R k2, Dt.r k2, n, Dt.b k2, Dt.a k2, Dt.c k2, Dt.kd, rfl, w9.hand, al, hn2, ⟨nR, nr, nb', na⟩, fun H10 k10 a10 => ?_⟩
          have w10 := w9.kp k10 a10
          have hDh : D2 ≠ h := fun e => by
            have := w9.oh
            rw [← e, oD2] at this
            cases this
          have d10 := k10 _ _ hDh d9
          have hml : m < ts.length := (List.getElem?_eq_some_iff.mp hm).1
          refine ⟨_, d10, by rw [List.length_map, List.length_replicate]; exact small1000 (by omega), w10.free oD2 d10 (fun q o hq e => by rw [upd_ne hq]; exact e), ?_⟩
          rw [upd_same, List.replicate_succ', List.map_append]
          rfl
        · rintro H9 ⟨w9, d9⟩
          refine ⟨D2, _, rfl, SqL.of d9, ?_⟩
          rw [show (List.replicate ts.length true).all id = true by simp]
          refine ⟨true, rfl, iteF ?_⟩
          obtain ⟨al, nR, nr, nb', na⟩ := w9.alike hk hcd8 hBd
          exact ⟨_, rfl, _, rfl, _, rfl, h, g, Dt.x k, Dt.R k, Dt.r k, n, Dt.b k, Dt.a k, Dt.c k, Dt.kd, rfl, w9.hand, al, hn2, ⟨nR, nr, nb', na⟩, fun H10 _ _ => kq H10⟩
end

theorem top_end {l : PySem.W.OpenLaw} {w : World} {K : PySem.W.Frag} {h : Heap} {mg : Str → Option Value} {fa : Addr} (X : K.In h) (G : h.Ns mainGlobals mg) (hfa : mg "law" = some (.ref fa))
    {f_is_integer : Addr} {od_is_integer an_is_integer : Option Addr} {sl_is_integer : Array (Option Value)} {oc_is_integer kV_is_integer dc_is_integer pm_is_integer cd_is_integer ct_is_integer : Value}
    {f_is_integer_from : Addr} {od_is_integer_from an_is_integer_from : Option Addr} {sl_is_integer_from : Array (Option Value)} {oc_is_integer_from kV_is_integer_from dc_is_integer_from pm_is_integer_from cd_is_integer_from ct_is_integer_from : Value}
    {f_is_number_below : Addr} {od_is_number_below an_is_number_below : Option Addr} {sl_is_number_below : Array (Option Value)} {oc_is_number_below kV_is_number_below dc_is_number_below pm_is_number_below cd_is_number_below ct_is_number_below : Value}
    {f_is_tuple_of : Addr} {od_is_tuple_of an_is_tuple_of : Option Addr} {sl_is_tuple_of : Array (Option Value)} {oc_is_tuple_of kV_is_tuple_of dc_is_tuple_of pm_is_tuple_of cd_is_tuple_of ct_is_tuple_of : Value}
    {f_check_lines : Addr} {od_check_lines an_check_lines : Option Addr} {sl_check_lines : Array (Option Value)} {oc_check_lines kV_check_lines dc_check_lines pm_check_lines cd_check_lines ct_check_lines : Value}
    {f_is_cell_number : Addr} {od_is_cell_number an_is_cell_number : Option Addr} {sl_is_cell_number : Array (Option Value)} {oc_is_cell_number kV_is_cell_number dc_is_cell_number pm_is_cell_number cd_is_cell_number ct_is_cell_number : Value}
    {f_is_rank : Addr} {od_is_rank an_is_rank : Option Addr} {sl_is_rank : Array (Option Value)} {oc_is_rank kV_is_rank dc_is_rank pm_is_rank cd_is_rank ct_is_rank : Value}
    {f_is_key : Addr} {od_is_key an_is_key : Option Addr} {sl_is_key : Array (Option Value)} {oc_is_key kV_is_key dc_is_key pm_is_key cd_is_key ct_is_key : Value}
    {f_check_key : Addr} {od_check_key an_check_key : Option Addr} {sl_check_key : Array (Option Value)} {oc_check_key kV_check_key dc_check_key pm_check_key cd_check_key ct_check_key : Value}
    {f_how_many_less : Addr} {od_how_many_less an_how_many_less : Option Addr} {sl_how_many_less : Array (Option Value)} {oc_how_many_less kV_how_many_less dc_how_many_less pm_how_many_less cd_how_many_less ct_how_many_less : Value}
    {f_Ideal___init__ : Addr} {od_Ideal___init__ an_Ideal___init__ : Option Addr} {sl_Ideal___init__ : Array (Option Value)} {oc_Ideal___init__ kV_Ideal___init__ dc_Ideal___init__ pm_Ideal___init__ cd_Ideal___init__ ct_Ideal___init__ : Value}
    {f_Ideal__row : Addr} {od_Ideal__row an_Ideal__row : Option Addr} {sl_Ideal__row : Array (Option Value)} {oc_Ideal__row kV_Ideal__row dc_Ideal__row pm_Ideal__row cd_Ideal__row ct_Ideal__row : Value}
    {f_Ideal_push : Addr} {od_Ideal_push an_Ideal_push : Option Addr} {sl_Ideal_push : Array (Option Value)} {oc_Ideal_push kV_Ideal_push dc_Ideal_push pm_Ideal_push cd_Ideal_push ct_Ideal_push : Value}
    {f_Ideal_due : Addr} {od_Ideal_due an_Ideal_due : Option Addr} {sl_Ideal_due : Array (Option Value)} {oc_Ideal_due kV_Ideal_due dc_Ideal_due pm_Ideal_due cd_Ideal_due ct_Ideal_due : Value}
    {f_Ideal_let_go : Addr} {od_Ideal_let_go an_Ideal_let_go : Option Addr} {sl_Ideal_let_go : Array (Option Value)} {oc_Ideal_let_go kV_Ideal_let_go dc_Ideal_let_go pm_Ideal_let_go cd_Ideal_let_go ct_Ideal_let_go : Value}
    {f_Ideal_held : Addr} {od_Ideal_held an_Ideal_held : Option Addr} {sl_Ideal_held : Array (Option Value)} {oc_Ideal_held kV_Ideal_held dc_Ideal_held pm_Ideal_held cd_Ideal_held ct_Ideal_held : Value}
    {f_Ideal_ahead : Addr} {od_Ideal_ahead an_Ideal_ahead : Option Addr} {sl_Ideal_ahead : Array (Option Value)} {oc_Ideal_ahead kV_Ideal_ahead dc_Ideal_ahead pm_Ideal_ahead cd_Ideal_ahead ct_Ideal_ahead : Value}
    {f_Ideal_copy : Addr} {od_Ideal_copy an_Ideal_copy : Option Addr} {sl_Ideal_copy : Array (Option Value)} {oc_Ideal_copy kV_Ideal_copy dc_Ideal_copy pm_Ideal_copy cd_Ideal_copy ct_Ideal_copy : Value}
    {f_law_hand : Addr} {od_law_hand an_law_hand : Option Addr} {sl_law_hand : Array (Option Value)} {oc_law_hand kV_law_hand dc_law_hand pm_law_hand cd_law_hand ct_law_hand : Value}
    {f_law_draw : Addr} {od_law_draw an_law_draw : Option Addr} {sl_law_draw : Array (Option Value)} {oc_law_draw kV_law_draw dc_law_draw pm_law_draw cd_law_draw ct_law_draw : Value}
    {f_law_any : Addr} {od_law_any an_law_any : Option Addr} {sl_law_any : Array (Option Value)} {oc_law_any kV_law_any dc_law_any pm_law_any cd_law_any ct_law_any : Value}
    {f_law_key : Addr} {od_law_key an_law_key : Option Addr} {sl_law_key : Array (Option Value)} {oc_law_key kV_law_key dc_law_key pm_law_key cd_law_key ct_law_key : Value}
    {f_law_inserted : Addr} {od_law_inserted an_law_inserted : Option Addr} {sl_law_inserted : Array (Option Value)} {oc_law_inserted kV_law_inserted dc_law_inserted pm_law_inserted cd_law_inserted ct_law_inserted : Value}
    {f_law_word : Addr} {od_law_word an_law_word : Option Addr} {sl_law_word : Array (Option Value)} {oc_law_word kV_law_word dc_law_word pm_law_word cd_law_word ct_law_word : Value}
    {f_law_shows : Addr} {od_law_shows an_law_shows : Option Addr} {sl_law_shows : Array (Option Value)} {oc_law_shows kV_law_shows dc_law_shows pm_law_shows cd_law_shows ct_law_shows : Value}
    {f_law_deed : Addr} {od_law_deed an_law_deed : Option Addr} {sl_law_deed : Array (Option Value)} {oc_law_deed kV_law_deed dc_law_deed pm_law_deed ct_law_deed : Value}
    {f_law : Addr} {od_law an_law : Option Addr} {sl_law : Array (Option Value)} {oc_law kV_law dc_law pm_law cd_law ct_law : Value}
    {c_Ideal : Addr}
    {c_FabricError : Addr}
    {c_KeyThere : Addr}
    {c_NothingThere : Addr}
    {co_law_deed tb_law_deed : Addr}
    {t_MOST_LINES : Tok}
    {t_GREATEST_CELL : Tok}
    {t_GREATEST_RANK : Tok}
    (ht_law_deed : h.get? tb_law_deed = some (PySem.W.tabObj #[]))
    (hk_law_deed : K.lookup tb_law_deed = none)
    (hd_law_deed : PySem.W.codeHdIn K co_law_deed tb_law_deed = true)
    (ac_Ideal : PySem.W.nsIn K mainGlobals "Ideal" = some (some (.ref c_Ideal)))
    (ac_FabricError : PySem.W.nsIn K mainGlobals "FabricError" = some (some (.ref c_FabricError)))
    (ac_KeyThere : PySem.W.nsIn K mainGlobals "KeyThere" = some (some (.ref c_KeyThere)))
    (ac_NothingThere : PySem.W.nsIn K mainGlobals "NothingThere" = some (some (.ref c_NothingThere)))
    (a_is_integer : PySem.W.nsIn K mainGlobals "is_integer" = some (some (.ref f_is_integer)))
    (l_is_integer : K.lookup f_is_integer = some ⟨oc_is_integer, od_is_integer, .func (PySem.W.fnOf "is_integer" "is_integer" (defArgs s_is_integer) (defBody s_is_integer) (defScope s_is_integer) .none kV_is_integer dc_is_integer pm_is_integer an_is_integer cd_is_integer ct_is_integer), sl_is_integer⟩)
    (q_is_integer : PySem.W.codeIn K cd_is_integer "is_integer" = true)
    (p_is_integer : PySem.W.keepIn K (.ref f_is_integer) = true)
    (a_is_integer_from : PySem.W.nsIn K mainGlobals "is_integer_from" = some (some (.ref f_is_integer_from)))
    (l_is_integer_from : K.lookup f_is_integer_from = some ⟨oc_is_integer_from, od_is_integer_from, .func (PySem.W.fnOf "is_integer_from" "is_integer_from" (defArgs s_is_integer_from) (defBody s_is_integer_from) (defScope s_is_integer_from) .none kV_is_integer_from dc_is_integer_from pm_is_integer_from an_is_integer_from cd_is_integer_from ct_is_integer_from), sl_is_integer_from⟩)
    (q_is_integer_from : PySem.W.codeIn K cd_is_integer_from "is_integer_from" = true)
    (p_is_integer_from : PySem.W.keepIn K (.ref f_is_integer_from) = true)
    (a_is_number_below : PySem.W.nsIn K mainGlobals "is_number_below" = some (some (.ref f_is_number_below)))
    (l_is_number_below : K.lookup f_is_number_below = some ⟨oc_is_number_below, od_is_number_below, .func (PySem.W.fnOf "is_number_below" "is_number_below" (defArgs s_is_number_below) (defBody s_is_number_below) (defScope s_is_number_below) .none kV_is_number_below dc_is_number_below pm_is_number_below an_is_number_below cd_is_number_below ct_is_number_below), sl_is_number_below⟩)
    (q_is_number_below : PySem.W.codeIn K cd_is_number_below "is_number_below" = true)
    (p_is_number_below : PySem.W.keepIn K (.ref f_is_number_below) = true)
    (a_is_tuple_of : PySem.W.nsIn K mainGlobals "is_tuple_of" = some (some (.ref f_is_tuple_of)))
    (l_is_tuple_of : K.lookup f_is_tuple_of = some ⟨oc_is_tuple_of, od_is_tuple_of, .func (PySem.W.fnOf "is_tuple_of" "is_tuple_of" (defArgs s_is_tuple_of) (defBody s_is_tuple_of) (defScope s_is_tuple_of) .none kV_is_tuple_of dc_is_tuple_of pm_is_tuple_of an_is_tuple_of cd_is_tuple_of ct_is_tuple_of), sl_is_tuple_of⟩)
    (q_is_tuple_of : PySem.W.codeIn K cd_is_tuple_of "is_tuple_of" = true)
    (p_is_tuple_of : PySem.W.keepIn K (.ref f_is_tuple_of) = true)
    (a_check_lines : PySem.W.nsIn K mainGlobals "check_lines" = some (some (.ref f_check_lines)))
    (l_check_lines : K.lookup f_check_lines = some ⟨oc_check_lines, od_check_lines, .func (PySem.W.fnOf "check_lines" "check_lines" (defArgs s_check_lines) (defBody s_check_lines) (defScope s_check_lines) .none kV_check_lines dc_check_lines pm_check_lines an_check_lines cd_check_lines ct_check_lines), sl_check_lines⟩)
    (q_check_lines : PySem.W.codeIn K cd_check_lines "check_lines" = true)
    (p_check_lines : PySem.W.keepIn K (.ref f_check_lines) = true)
    (a_is_cell_number : PySem.W.nsIn K mainGlobals "is_cell_number" = some (some (.ref f_is_cell_number)))
    (l_is_cell_number : K.lookup f_is_cell_number = some ⟨oc_is_cell_number, od_is_cell_number, .func (PySem.W.fnOf "is_cell_number" "is_cell_number" (defArgs s_is_cell_number) (defBody s_is_cell_number) (defScope s_is_cell_number) .none kV_is_cell_number dc_is_cell_number pm_is_cell_number an_is_cell_number cd_is_cell_number ct_is_cell_number), sl_is_cell_number⟩)
    (q_is_cell_number : PySem.W.codeIn K cd_is_cell_number "is_cell_number" = true)
    (p_is_cell_number : PySem.W.keepIn K (.ref f_is_cell_number) = true)
    (a_is_rank : PySem.W.nsIn K mainGlobals "is_rank" = some (some (.ref f_is_rank)))
    (l_is_rank : K.lookup f_is_rank = some ⟨oc_is_rank, od_is_rank, .func (PySem.W.fnOf "is_rank" "is_rank" (defArgs s_is_rank) (defBody s_is_rank) (defScope s_is_rank) .none kV_is_rank dc_is_rank pm_is_rank an_is_rank cd_is_rank ct_is_rank), sl_is_rank⟩)
    (q_is_rank : PySem.W.codeIn K cd_is_rank "is_rank" = true)
    (p_is_rank : PySem.W.keepIn K (.ref f_is_rank) = true)
    (a_is_key : PySem.W.nsIn K mainGlobals "is_key" = some (some (.ref f_is_key)))
    (l_is_key : K.lookup f_is_key = some ⟨oc_is_key, od_is_key, .func (PySem.W.fnOf "is_key" "is_key" (defArgs s_is_key) (defBody s_is_key) (defScope s_is_key) .none kV_is_key dc_is_key pm_is_key an_is_key cd_is_key ct_is_key), sl_is_key⟩)
    (q_is_key : PySem.W.codeIn K cd_is_key "is_key" = true)
    (p_is_key : PySem.W.keepIn K (.ref f_is_key) = true)
    (a_check_key : PySem.W.nsIn K mainGlobals "check_key" = some (some (.ref f_check_key)))
    (l_check_key : K.lookup f_check_key = some ⟨oc_check_key, od_check_key, .func (PySem.W.fnOf "check_key" "check_key" (defArgs s_check_key) (defBody s_check_key) (defScope s_check_key) .none kV_check_key dc_check_key pm_check_key an_check_key cd_check_key ct_check_key), sl_check_key⟩)
    (q_check_key : PySem.W.codeIn K cd_check_key "check_key" = true)
    (p_check_key : PySem.W.keepIn K (.ref f_check_key) = true)
    (a_how_many_less : PySem.W.nsIn K mainGlobals "how_many_less" = some (some (.ref f_how_many_less)))
    (l_how_many_less : K.lookup f_how_many_less = some ⟨oc_how_many_less, od_how_many_less, .func (PySem.W.fnOf "how_many_less" "how_many_less" (defArgs s_how_many_less) (defBody s_how_many_less) (defScope s_how_many_less) .none kV_how_many_less dc_how_many_less pm_how_many_less an_how_many_less cd_how_many_less ct_how_many_less), sl_how_many_less⟩)
    (q_how_many_less : PySem.W.codeIn K cd_how_many_less "how_many_less" = true)
    (p_how_many_less : PySem.W.keepIn K (.ref f_how_many_less) = true)
    (a_Ideal___init__ : PySem.W.findIn K (.ref c_Ideal) "__init__" = some (some (.ref f_Ideal___init__)))
    (i_Ideal___init__ : PySem.W.isFn K (.ref f_Ideal___init__) = true)
    (l_Ideal___init__ : K.lookup f_Ideal___init__ = some ⟨oc_Ideal___init__, od_Ideal___init__, .func (PySem.W.fnOf "__init__" "Ideal.__init__" (defArgs s_Ideal___init__) (defBody s_Ideal___init__) (defScope s_Ideal___init__) .none kV_Ideal___init__ dc_Ideal___init__ pm_Ideal___init__ an_Ideal___init__ cd_Ideal___init__ ct_Ideal___init__), sl_Ideal___init__⟩)
    (q_Ideal___init__ : PySem.W.codeIn K cd_Ideal___init__ "Ideal.__init__" = true)
    (p_Ideal___init__ : PySem.W.keepIn K (.ref f_Ideal___init__) = true)
    (a_Ideal__row : PySem.W.findIn K (.ref c_Ideal) "_row" = some (some (.ref f_Ideal__row)))
    (i_Ideal__row : PySem.W.isFn K (.ref f_Ideal__row) = true)
    (l_Ideal__row : K.lookup f_Ideal__row = some ⟨oc_Ideal__row, od_Ideal__row, .func (PySem.W.fnOf "_row" "Ideal._row" (defArgs s_Ideal__row) (defBody s_Ideal__row) (defScope s_Ideal__row) .none kV_Ideal__row dc_Ideal__row pm_Ideal__row an_Ideal__row cd_Ideal__row ct_Ideal__row), sl_Ideal__row⟩)
    (q_Ideal__row : PySem.W.codeIn K cd_Ideal__row "Ideal._row" = true)
    (p_Ideal__row : PySem.W.keepIn K (.ref f_Ideal__row) = true)
    (a_Ideal_push : PySem.W.findIn K (.ref c_Ideal) "push" = some (some (.ref f_Ideal_push)))
    (i_Ideal_push : PySem.W.isFn K (.ref f_Ideal_push) = true)
    (l_Ideal_push : K.lookup f_Ideal_push = some ⟨oc_Ideal_push, od_Ideal_push, .func (PySem.W.fnOf "push" "Ideal.push" (defArgs s_Ideal_push) (defBody s_Ideal_push) (defScope s_Ideal_push) .none kV_Ideal_push dc_Ideal_push pm_Ideal_push an_Ideal_push cd_Ideal_push ct_Ideal_push), sl_Ideal_push⟩)
    (q_Ideal_push : PySem.W.codeIn K cd_Ideal_push "Ideal.push" = true)
    (p_Ideal_push : PySem.W.keepIn K (.ref f_Ideal_push) = true)
    (a_Ideal_due : PySem.W.findIn K (.ref c_Ideal) "due" = some (some (.ref f_Ideal_due)))
    (i_Ideal_due : PySem.W.isFn K (.ref f_Ideal_due) = true)
    (l_Ideal_due : K.lookup f_Ideal_due = some ⟨oc_Ideal_due, od_Ideal_due, .func (PySem.W.fnOf "due" "Ideal.due" (defArgs s_Ideal_due) (defBody s_Ideal_due) (defScope s_Ideal_due) .none kV_Ideal_due dc_Ideal_due pm_Ideal_due an_Ideal_due cd_Ideal_due ct_Ideal_due), sl_Ideal_due⟩)
    (q_Ideal_due : PySem.W.codeIn K cd_Ideal_due "Ideal.due" = true)
    (p_Ideal_due : PySem.W.keepIn K (.ref f_Ideal_due) = true)
    (a_Ideal_let_go : PySem.W.findIn K (.ref c_Ideal) "let_go" = some (some (.ref f_Ideal_let_go)))
    (i_Ideal_let_go : PySem.W.isFn K (.ref f_Ideal_let_go) = true)
    (l_Ideal_let_go : K.lookup f_Ideal_let_go = some ⟨oc_Ideal_let_go, od_Ideal_let_go, .func (PySem.W.fnOf "let_go" "Ideal.let_go" (defArgs s_Ideal_let_go) (defBody s_Ideal_let_go) (defScope s_Ideal_let_go) .none kV_Ideal_let_go dc_Ideal_let_go pm_Ideal_let_go an_Ideal_let_go cd_Ideal_let_go ct_Ideal_let_go), sl_Ideal_let_go⟩)
    (q_Ideal_let_go : PySem.W.codeIn K cd_Ideal_let_go "Ideal.let_go" = true)
    (p_Ideal_let_go : PySem.W.keepIn K (.ref f_Ideal_let_go) = true)
    (a_Ideal_held : PySem.W.findIn K (.ref c_Ideal) "held" = some (some (.ref f_Ideal_held)))
    (i_Ideal_held : PySem.W.isFn K (.ref f_Ideal_held) = true)
    (l_Ideal_held : K.lookup f_Ideal_held = some ⟨oc_Ideal_held, od_Ideal_held, .func (PySem.W.fnOf "held" "Ideal.held" (defArgs s_Ideal_held) (defBody s_Ideal_held) (defScope s_Ideal_held) .none kV_Ideal_held dc_Ideal_held pm_Ideal_held an_Ideal_held cd_Ideal_held ct_Ideal_held), sl_Ideal_held⟩)
    (q_Ideal_held : PySem.W.codeIn K cd_Ideal_held "Ideal.held" = true)
    (p_Ideal_held : PySem.W.keepIn K (.ref f_Ideal_held) = true)
    (a_Ideal_ahead : PySem.W.findIn K (.ref c_Ideal) "ahead" = some (some (.ref f_Ideal_ahead)))
    (i_Ideal_ahead : PySem.W.isFn K (.ref f_Ideal_ahead) = true)
    (l_Ideal_ahead : K.lookup f_Ideal_ahead = some ⟨oc_Ideal_ahead, od_Ideal_ahead, .func (PySem.W.fnOf "ahead" "Ideal.ahead" (defArgs s_Ideal_ahead) (defBody s_Ideal_ahead) (defScope s_Ideal_ahead) .none kV_Ideal_ahead dc_Ideal_ahead pm_Ideal_ahead an_Ideal_ahead cd_Ideal_ahead ct_Ideal_ahead), sl_Ideal_ahead⟩)
    (q_Ideal_ahead : PySem.W.codeIn K cd_Ideal_ahead "Ideal.ahead" = true)
    (p_Ideal_ahead : PySem.W.keepIn K (.ref f_Ideal_ahead) = true)
    (a_Ideal_copy : PySem.W.findIn K (.ref c_Ideal) "copy" = some (some (.ref f_Ideal_copy)))
    (i_Ideal_copy : PySem.W.isFn K (.ref f_Ideal_copy) = true)
    (l_Ideal_copy : K.lookup f_Ideal_copy = some ⟨oc_Ideal_copy, od_Ideal_copy, .func (PySem.W.fnOf "copy" "Ideal.copy" (defArgs s_Ideal_copy) (defBody s_Ideal_copy) (defScope s_Ideal_copy) .none kV_Ideal_copy dc_Ideal_copy pm_Ideal_copy an_Ideal_copy cd_Ideal_copy ct_Ideal_copy), sl_Ideal_copy⟩)
    (q_Ideal_copy : PySem.W.codeIn K cd_Ideal_copy "Ideal.copy" = true)
    (p_Ideal_copy : PySem.W.keepIn K (.ref f_Ideal_copy) = true)
    (a_law_hand : PySem.W.nsIn K mainGlobals "_law_hand" = some (some (.ref f_law_hand)))
    (l_law_hand : K.lookup f_law_hand = some ⟨oc_law_hand, od_law_hand, .func (PySem.W.fnOf "_law_hand" "_law_hand" (defArgs s_law_hand) (defBody s_law_hand) (defScope s_law_hand) .none kV_law_hand dc_law_hand pm_law_hand an_law_hand cd_law_hand ct_law_hand), sl_law_hand⟩)
    (q_law_hand : PySem.W.codeIn K cd_law_hand "_law_hand" = true)
    (p_law_hand : PySem.W.keepIn K (.ref f_law_hand) = true)
    (a_law_draw : PySem.W.nsIn K mainGlobals "_law_draw" = some (some (.ref f_law_draw)))
    (l_law_draw : K.lookup f_law_draw = some ⟨oc_law_draw, od_law_draw, .func (PySem.W.fnOf "_law_draw" "_law_draw" (defArgs s_law_draw) (defBody s_law_draw) (defScope s_law_draw) .none kV_law_draw dc_law_draw pm_law_draw an_law_draw cd_law_draw ct_law_draw), sl_law_draw⟩)
    (q_law_draw : PySem.W.codeIn K cd_law_draw "_law_draw" = true)
    (p_law_draw : PySem.W.keepIn K (.ref f_law_draw) = true)
    (a_law_any : PySem.W.nsIn K mainGlobals "_law_any" = some (some (.ref f_law_any)))
    (l_law_any : K.lookup f_law_any = some ⟨oc_law_any, od_law_any, .func (PySem.W.fnOf "_law_any" "_law_any" (defArgs s_law_any) (defBody s_law_any) (defScope s_law_any) .none kV_law_any dc_law_any pm_law_any an_law_any cd_law_any ct_law_any), sl_law_any⟩)
    (q_law_any : PySem.W.codeIn K cd_law_any "_law_any" = true)
    (p_law_any : PySem.W.keepIn K (.ref f_law_any) = true)
    (a_law_key : PySem.W.nsIn K mainGlobals "_law_key" = some (some (.ref f_law_key)))
    (l_law_key : K.lookup f_law_key = some ⟨oc_law_key, od_law_key, .func (PySem.W.fnOf "_law_key" "_law_key" (defArgs s_law_key) (defBody s_law_key) (defScope s_law_key) .none kV_law_key dc_law_key pm_law_key an_law_key cd_law_key ct_law_key), sl_law_key⟩)
    (q_law_key : PySem.W.codeIn K cd_law_key "_law_key" = true)
    (p_law_key : PySem.W.keepIn K (.ref f_law_key) = true)
    (a_law_inserted : PySem.W.nsIn K mainGlobals "_law_inserted" = some (some (.ref f_law_inserted)))
    (l_law_inserted : K.lookup f_law_inserted = some ⟨oc_law_inserted, od_law_inserted, .func (PySem.W.fnOf "_law_inserted" "_law_inserted" (defArgs s_law_inserted) (defBody s_law_inserted) (defScope s_law_inserted) .none kV_law_inserted dc_law_inserted pm_law_inserted an_law_inserted cd_law_inserted ct_law_inserted), sl_law_inserted⟩)
    (q_law_inserted : PySem.W.codeIn K cd_law_inserted "_law_inserted" = true)
    (p_law_inserted : PySem.W.keepIn K (.ref f_law_inserted) = true)
    (a_law_word : PySem.W.nsIn K mainGlobals "_law_word" = some (some (.ref f_law_word)))
    (l_law_word : K.lookup f_law_word = some ⟨oc_law_word, od_law_word, .func (PySem.W.fnOf "_law_word" "_law_word" (defArgs s_law_word) (defBody s_law_word) (defScope s_law_word) .none kV_law_word dc_law_word pm_law_word an_law_word cd_law_word ct_law_word), sl_law_word⟩)
    (q_law_word : PySem.W.codeIn K cd_law_word "_law_word" = true)
    (p_law_word : PySem.W.keepIn K (.ref f_law_word) = true)
    (a_law_shows : PySem.W.nsIn K mainGlobals "_law_shows" = some (some (.ref f_law_shows)))
    (l_law_shows : K.lookup f_law_shows = some ⟨oc_law_shows, od_law_shows, .func (PySem.W.fnOf "_law_shows" "_law_shows" (defArgs s_law_shows) (defBody s_law_shows) (defScope s_law_shows) .none kV_law_shows dc_law_shows pm_law_shows an_law_shows cd_law_shows ct_law_shows), sl_law_shows⟩)
    (q_law_shows : PySem.W.codeIn K cd_law_shows "_law_shows" = true)
    (p_law_shows : PySem.W.keepIn K (.ref f_law_shows) = true)
    (a_law_deed : PySem.W.nsIn K mainGlobals "_law_deed" = some (some (.ref f_law_deed)))
    (l_law_deed : K.lookup f_law_deed = some ⟨oc_law_deed, od_law_deed, .func (PySem.W.fnOf "_law_deed" "_law_deed" (defArgs s_law_deed) (defBody s_law_deed) (defScope s_law_deed) .none kV_law_deed dc_law_deed pm_law_deed an_law_deed (.ref co_law_deed) ct_law_deed), sl_law_deed⟩)
    (q_law_deed : PySem.W.codeIn K (.ref co_law_deed) "_law_deed" = true)
    (p_law_deed : PySem.W.keepIn K (.ref f_law_deed) = true)
    (a_law : PySem.W.nsIn K mainGlobals "law" = some (some (.ref f_law)))
    (l_law : K.lookup f_law = some ⟨oc_law, od_law, .func (PySem.W.fnOf "law" "law" (defArgs s_law) (defBody s_law) (defScope s_law) .none kV_law dc_law pm_law an_law cd_law ct_law), sl_law⟩)
    (q_law : PySem.W.codeIn K cd_law "law" = true)
    (p_law : PySem.W.keepIn K (.ref f_law) = true)
    (pg_Ideal : PySem.W.plainGet K c_Ideal Str.empty = true)
    (hd_Ideal : PySem.W.hasDictIn K c_Ideal = true)
    (po_Ideal : PySem.W.plainOver K c_Ideal = true)
    (sa_Ideal : PySem.W.findIn K (.ref c_Ideal) "__setattr__" = some (some (.builtin "object.__setattr__")))
    (mk_Ideal : PySem.W.makesIn K c_Ideal = true)
    (kc_Ideal : PySem.W.keepIn K (.ref c_Ideal) = true)
    (n_Ideal__rows : PySem.W.findIn K (.ref c_Ideal) "_rows" = some none)
    (em_Ideal : PySem.W.mroIn K c_Ideal (.type "object") = some true)
    (es_Ideal : PySem.W.findIn K (.ref c_Ideal) "__eq__" = some (some (.builtin "object.__eq__")))
    (x_KeyThere : PySem.W.excIn K c_KeyThere [.type "ValueError", .type "Exception", .type "BaseException", .type "object"] "ValueError.__new__" = true)
    (kp_KeyThere : PySem.W.keepIn K (.ref c_KeyThere) = true)
    (s_KeyThere : PySem.W.subIn K (.ref c_KeyThere) (.type "BaseException") = some true)
    (t_KeyThere : PySem.W.typeIn K (.ref c_KeyThere) = some (.type "type"))
    (e1_KeyThere : PySem.W.findIn K (.ref c_KeyThere) "__getattribute__" = some (some (.builtin "BaseException.__getattribute__")))
    (e2_KeyThere : PySem.W.findIn K (.ref c_KeyThere) "__getattr__" = some none)
    (e3_KeyThere : PySem.W.hasDictIn K c_KeyThere = true)
    (e4_KeyThere : PySem.W.findIn K (.ref c_KeyThere) "__class__" = some (some (.builtin "object.__class__")))
    (e5_KeyThere : PySem.W.mroIn K c_KeyThere (.type "object") = some true)
    (x_NothingThere : PySem.W.excIn K c_NothingThere [.type "ValueError", .type "Exception", .type "BaseException", .type "object"] "ValueError.__new__" = true)
    (kp_NothingThere : PySem.W.keepIn K (.ref c_NothingThere) = true)
    (s_NothingThere : PySem.W.subIn K (.ref c_NothingThere) (.type "BaseException") = some true)
    (t_NothingThere : PySem.W.typeIn K (.ref c_NothingThere) = some (.type "type"))
    (e1_NothingThere : PySem.W.findIn K (.ref c_NothingThere) "__getattribute__" = some (some (.builtin "BaseException.__getattribute__")))
    (e2_NothingThere : PySem.W.findIn K (.ref c_NothingThere) "__getattr__" = some none)
    (e3_NothingThere : PySem.W.hasDictIn K c_NothingThere = true)
    (e4_NothingThere : PySem.W.findIn K (.ref c_NothingThere) "__class__" = some (some (.builtin "object.__class__")))
    (e5_NothingThere : PySem.W.mroIn K c_NothingThere (.type "object") = some true)
    (en1 : PySem.W.specialIn K (.builtin "object.__class__") "__get__" = some (some (.builtin "getset_descriptor.__get__")))
    (en2 : PySem.W.takesIn K (.builtin "object.__class__") = some true)
    (s_FabricError : PySem.W.subIn K (.ref c_FabricError) (.type "BaseException") = some true)
    (t_FabricError : PySem.W.typeIn K (.ref c_FabricError) = some (.type "type"))
    (e3_FabricError : PySem.W.hasDictIn K c_FabricError = true)
    (su_FabricError_FabricError : PySem.W.subIn K (.ref c_FabricError) (.ref c_FabricError) = some true)
    (su_KeyThere_NothingThere : PySem.W.subIn K (.ref c_KeyThere) (.ref c_NothingThere) = some false)
    (su_KeyThere_ValueError : PySem.W.subIn K (.ref c_KeyThere) (.type "ValueError") = some true)
    (su_KeyThere_FabricError : PySem.W.subIn K (.ref c_KeyThere) (.ref c_FabricError) = some true)
    (su_KeyThere_KeyThere : PySem.W.subIn K (.ref c_KeyThere) (.ref c_KeyThere) = some true)
    (su_NothingThere_NothingThere : PySem.W.subIn K (.ref c_NothingThere) (.ref c_NothingThere) = some true)
    (su_NothingThere_ValueError : PySem.W.subIn K (.ref c_NothingThere) (.type "ValueError") = some true)
    (su_NothingThere_FabricError : PySem.W.subIn K (.ref c_NothingThere) (.ref c_FabricError) = some true)
    (su_NothingThere_KeyThere : PySem.W.subIn K (.ref c_NothingThere) (.ref c_KeyThere) = some false)
    (k_MOST_LINES : PySem.W.nsIn K mainGlobals "MOST_LINES" = some (some (.int 12 t_MOST_LINES)))
    (k_GREATEST_CELL : PySem.W.nsIn K mainGlobals "GREATEST_CELL" = some (some (.int 1000000000 t_GREATEST_CELL)))
    (k_GREATEST_RANK : PySem.W.nsIn K mainGlobals "GREATEST_RANK" = some (some (.int 1000000000000000000 t_GREATEST_RANK)))
    (z_ValueError : PySem.W.nsIn K mainGlobals "ValueError" = some none)
    (z_abs : PySem.W.nsIn K mainGlobals "abs" = some none)
    (z_all : PySem.W.nsIn K mainGlobals "all" = some none)
    (z_bool : PySem.W.nsIn K mainGlobals "bool" = some none)
    (z_enumerate : PySem.W.nsIn K mainGlobals "enumerate" = some none)
    (z_int : PySem.W.nsIn K mainGlobals "int" = some none)
    (z_isinstance : PySem.W.nsIn K mainGlobals "isinstance" = some none)
    (z_len : PySem.W.nsIn K mainGlobals "len" = some none)
    (z_list : PySem.W.nsIn K mainGlobals "list" = some none)
    (z_range : PySem.W.nsIn K mainGlobals "range" = some none)
    (z_tuple : PySem.W.nsIn K mainGlobals "tuple" = some none)
    : LamX.LawAtS l w K CX0 24 63 "_law_script" mg fa h := by
  obtain ⟨A, T, ed, ea, ec_law_deed, et_law_deed⟩ := top_mk (l := l) (w := w) (tb_law_deed := tb_law_deed) X G ac_Ideal ac_FabricError ac_KeyThere ac_NothingThere a_is_integer l_is_integer q_is_integer p_is_integer a_is_integer_from l_is_integer_from q_is_integer_from p_is_integer_from a_is_number_below l_is_number_below q_is_number_below p_is_number_below a_is_tuple_of l_is_tuple_of q_is_tuple_of p_is_tuple_of a_check_lines l_check_lines q_check_lines p_check_lines a_is_cell_number l_is_cell_number q_is_cell_number p_is_cell_number a_is_rank l_is_rank q_is_rank p_is_rank a_is_key l_is_key q_is_key p_is_key a_check_key l_check_key q_check_key p_check_key a_how_many_less l_how_many_less q_how_many_less p_how_many_less a_Ideal___init__ i_Ideal___init__ l_Ideal___init__ q_Ideal___init__ p_Ideal___init__ a_Ideal__row i_Ideal__row l_Ideal__row q_Ideal__row p_Ideal__row a_Ideal_push i_Ideal_push l_Ideal_push q_Ideal_push p_Ideal_push a_Ideal_due i_Ideal_due l_Ideal_due q_Ideal_due p_Ideal_due a_Ideal_let_go i_Ideal_let_go l_Ideal_let_go q_Ideal_let_go p_Ideal_let_go a_Ideal_held i_Ideal_held l_Ideal_held q_Ideal_held p_Ideal_held a_Ideal_ahead i_Ideal_ahead l_Ideal_ahead q_Ideal_ahead p_Ideal_ahead a_Ideal_copy i_Ideal_copy l_Ideal_copy q_Ideal_copy p_Ideal_copy a_law_hand l_law_hand q_law_hand p_law_hand a_law_draw l_law_draw q_law_draw p_law_draw a_law_any l_law_any q_law_any p_law_any a_law_key l_law_key q_law_key p_law_key a_law_inserted l_law_inserted q_law_inserted p_law_inserted a_law_word l_law_word q_law_word p_law_word a_law_shows l_law_shows q_law_shows p_law_shows a_law_deed l_law_deed q_law_deed p_law_deed a_law l_law q_law p_law pg_Ideal hd_Ideal po_Ideal sa_Ideal mk_Ideal kc_Ideal n_Ideal__rows em_Ideal es_Ideal x_KeyThere kp_KeyThere s_KeyThere t_KeyThere e1_KeyThere e2_KeyThere e3_KeyThere e4_KeyThere e5_KeyThere x_NothingThere kp_NothingThere s_NothingThere t_NothingThere e1_NothingThere e2_NothingThere e3_NothingThere e4_NothingThere e5_NothingThere en1 en2 s_FabricError t_FabricError e3_FabricError su_FabricError_FabricError su_KeyThere_NothingThere su_KeyThere_ValueError su_KeyThere_FabricError su_KeyThere_KeyThere su_NothingThere_NothingThere su_NothingThere_ValueError su_NothingThere_FabricError su_NothingThere_KeyThere k_MOST_LINES k_GREATEST_CELL k_GREATEST_RANK z_ValueError z_abs z_all z_bool z_enumerate z_int z_isinstance z_len z_list z_range z_tuple
  have e := hfa.symm.trans T.g_law
  cases e
  subst ec_law_deed et_law_deed
  refine ⟨A.d_law, [(A.cd_law_deed, A.tb_law_deed)], spLaw K A, fun p hp => by
    simp only [List.mem_cons, List.not_mem_nil, or_false] at hp
    rcases hp with rfl
    · exact ht_law_deed, fun p hp => by
    simp only [List.mem_cons, List.not_mem_nil, or_false] at hp
    rcases hp with rfl
    · exact hk_law_deed, fun p hp => by
    simp only [List.mem_cons, List.not_mem_nil, or_false] at hp
    rcases hp with rfl
    · exact PySem.W.codeHd_of_K X hd_law_deed, fun s v => by rw [ed]; exact .of_eq rfl, fun H a ns hn hb ht hS => ⟨a, ns, rfl, hS, hn, ?_, fun _ => rfl⟩, fun base kin gl tb => ok_law T ⟨tb (A.cd_law_deed, A.tb_law_deed) (by simp)⟩⟩
  · intro p hp
    simp only [List.mem_cons, List.not_mem_nil, or_false] at hp
    rcases hp with rfl
    · exact LamX.TabS.nil (ht (A.cd_law_deed, A.tb_law_deed) (by simp))

end KX
open PySem PySem.W PyProof.Rows in
set_option maxRecDepth 100000 in
set_option maxHeartbeats 0 in
theorem PySem.Challenge.cw_exactbeats_k05_whole_lives_of_ideal_outp_holds : PySem.Challenge.rw_exactbeats_k05_whole_lives_of_ideal_outp.Holds := by
  w_on; o_law; km_head; (case hw => w_witness2)
  refine LamX.walk_ofTs (l := PySem.Challenge.rw_exactbeats_k05_whole_lives_of_ideal_outp) (n := 63) (k := 24) (x := "_law_script") (CX := fun _ => L2.CX0) rfl (by decide) rfl ⟨rfl, by decide, by decide⟩ (fun w h Y => PySem.W.km_in_of Y) ?F (fun _ _ _ _ _ h => h)
  case F =>
    intro w mg fa h Y_ KX_ G hmg
    have YT_ := PySem.W.km_tabs_of Y_
    refine' KX.top_end KX_ G hmg (YT_ _ List.mem_cons_self) ?hk_law_deed ?hd_law_deed ?ac_Ideal ?ac_FabricError ?ac_KeyThere ?ac_NothingThere ?a_is_integer ?l_is_integer ?q_is_integer ?p_is_integer ?a_is_integer_from ?l_is_integer_from ?q_is_integer_from ?p_is_integer_from ?a_is_number_below ?l_is_number_below ?q_is_number_below ?p_is_number_below ?a_is_tuple_of ?l_is_tuple_of ?q_is_tuple_of ?p_is_tuple_of ?a_check_lines ?l_check_lines ?q_check_lines ?p_check_lines ?a_is_cell_number ?l_is_cell_number ?q_is_cell_number ?p_is_cell_number ?a_is_rank ?l_is_rank ?q_is_rank ?p_is_rank ?a_is_key ?l_is_key ?q_is_key ?p_is_key ?a_check_key ?l_check_key ?q_check_key ?p_check_key ?a_how_many_less ?l_how_many_less ?q_how_many_less ?p_how_many_less ?a_Ideal___init__ ?i_Ideal___init__ ?l_Ideal___init__ ?q_Ideal___init__ ?p_Ideal___init__ ?a_Ideal__row ?i_Ideal__row ?l_Ideal__row ?q_Ideal__row ?p_Ideal__row ?a_Ideal_push ?i_Ideal_push ?l_Ideal_push ?q_Ideal_push ?p_Ideal_push ?a_Ideal_due ?i_Ideal_due ?l_Ideal_due ?q_Ideal_due ?p_Ideal_due ?a_Ideal_let_go ?i_Ideal_let_go ?l_Ideal_let_go ?q_Ideal_let_go ?p_Ideal_let_go ?a_Ideal_held ?i_Ideal_held ?l_Ideal_held ?q_Ideal_held ?p_Ideal_held ?a_Ideal_ahead ?i_Ideal_ahead ?l_Ideal_ahead ?q_Ideal_ahead ?p_Ideal_ahead ?a_Ideal_copy ?i_Ideal_copy ?l_Ideal_copy ?q_Ideal_copy ?p_Ideal_copy ?a_law_hand ?l_law_hand ?q_law_hand ?p_law_hand ?a_law_draw ?l_law_draw ?q_law_draw ?p_law_draw ?a_law_any ?l_law_any ?q_law_any ?p_law_any ?a_law_key ?l_law_key ?q_law_key ?p_law_key ?a_law_inserted ?l_law_inserted ?q_law_inserted ?p_law_inserted ?a_law_word ?l_law_word ?q_law_word ?p_law_word ?a_law_shows ?l_law_shows ?q_law_shows ?p_law_shows ?a_law_deed ?l_law_deed ?q_law_deed ?p_law_deed ?a_law ?l_law ?q_law ?p_law ?pg_Ideal ?hd_Ideal ?po_Ideal ?sa_Ideal ?mk_Ideal ?kc_Ideal ?n_Ideal__rows ?em_Ideal ?es_Ideal ?x_KeyThere ?kp_KeyThere ?s_KeyThere ?t_KeyThere ?e1_KeyThere ?e2_KeyThere ?e3_KeyThere ?e4_KeyThere ?e5_KeyThere ?x_NothingThere ?kp_NothingThere ?s_NothingThere ?t_NothingThere ?e1_NothingThere ?e2_NothingThere ?e3_NothingThere ?e4_NothingThere ?e5_NothingThere ?en1 ?en2 ?s_FabricError ?t_FabricError ?e3_FabricError ?su_FabricError_FabricError ?su_KeyThere_NothingThere ?su_KeyThere_ValueError ?su_KeyThere_FabricError ?su_KeyThere_KeyThere ?su_NothingThere_NothingThere ?su_NothingThere_ValueError ?su_NothingThere_FabricError ?su_NothingThere_KeyThere ?k_MOST_LINES ?k_GREATEST_CELL ?k_GREATEST_RANK ?z_ValueError ?z_abs ?z_all ?z_bool ?z_enumerate ?z_int ?z_isinstance ?z_len ?z_list ?z_range ?z_tuple
    (case ac_Ideal => k_is)
    (case ac_FabricError => k_is)
    (case ac_KeyThere => k_is)
    (case ac_NothingThere => k_is)
    (case a_is_integer => k_is)
    (case l_is_integer => k_is)
    (case q_is_integer => k_is)
    (case p_is_integer => k_is)
    (case a_is_integer_from => k_is)
    (case l_is_integer_from => k_is)
    (case q_is_integer_from => k_is)
    (case p_is_integer_from => k_is)
    (case a_is_number_below => k_is)
    (case l_is_number_below => k_is)
    (case q_is_number_below => k_is)
    (case p_is_number_below => k_is)
    (case a_is_tuple_of => k_is)
    (case l_is_tuple_of => k_is)
    (case q_is_tuple_of => k_is)
    (case p_is_tuple_of => k_is)
    (case a_check_lines => k_is)
    (case l_check_lines => k_is)
    (case q_check_lines => k_is)
    (case p_check_lines => k_is)
    (case a_is_cell_number => k_is)
    (case l_is_cell_number => k_is)
    (case q_is_cell_number => k_is)
    (case p_is_cell_number => k_is)
    (case a_is_rank => k_is)
    (case l_is_rank => k_is)
    (case q_is_rank => k_is)
    (case p_is_rank => k_is)
    (case a_is_key => k_is)
    (case l_is_key => k_is)
    (case q_is_key => k_is)
    (case p_is_key => k_is)
    (case a_check_key => k_is)
    (case l_check_key => k_is)
    (case q_check_key => k_is)
    (case p_check_key => k_is)
    (case a_how_many_less => k_is)
    (case l_how_many_less => k_is)
    (case q_how_many_less => k_is)
    (case p_how_many_less => k_is)
    (case a_Ideal___init__ => k_is)
    (case i_Ideal___init__ => k_is)
    (case l_Ideal___init__ => k_is)
    (case q_Ideal___init__ => k_is)
    (case p_Ideal___init__ => k_is)
    (case a_Ideal__row => k_is)
    (case i_Ideal__row => k_is)
    (case l_Ideal__row => k_is)
    (case q_Ideal__row => k_is)
    (case p_Ideal__row => k_is)
    (case a_Ideal_push => k_is)
    (case i_Ideal_push => k_is)
    (case l_Ideal_push => k_is)
    (case q_Ideal_push => k_is)
    (case p_Ideal_push => k_is)
    (case a_Ideal_due => k_is)
    (case i_Ideal_due => k_is)
    (case l_Ideal_due => k_is)
    (case q_Ideal_due => k_is)
    (case p_Ideal_due => k_is)
    (case a_Ideal_let_go => k_is)
    (case i_Ideal_let_go => k_is)
    (case l_Ideal_let_go => k_is)
    (case q_Ideal_let_go => k_is)
    (case p_Ideal_let_go => k_is)
    (case a_Ideal_held => k_is)
    (case i_Ideal_held => k_is)
    (case l_Ideal_held => k_is)
    (case q_Ideal_held => k_is)
    (case p_Ideal_held => k_is)
    (case a_Ideal_ahead => k_is)
    (case i_Ideal_ahead => k_is)
    (case l_Ideal_ahead => k_is)
    (case q_Ideal_ahead => k_is)
    (case p_Ideal_ahead => k_is)
    (case a_Ideal_copy => k_is)
    (case i_Ideal_copy => k_is)
    (case l_Ideal_copy => k_is)
    (case q_Ideal_copy => k_is)
    (case p_Ideal_copy => k_is)
    (case a_law_hand => k_is)
    (case l_law_hand => k_is)
    (case q_law_hand => k_is)
    (case p_law_hand => k_is)
    (case a_law_draw => k_is)
    (case l_law_draw => k_is)
    (case q_law_draw => k_is)
    (case p_law_draw => k_is)
    (case a_law_any => k_is)
    (case l_law_any => k_is)
    (case q_law_any => k_is)
    (case p_law_any => k_is)
    (case a_law_key => k_is)
    (case l_law_key => k_is)
    (case q_law_key => k_is)
    (case p_law_key => k_is)
    (case a_law_inserted => k_is)
    (case l_law_inserted => k_is)
    (case q_law_inserted => k_is)
    (case p_law_inserted => k_is)
    (case a_law_word => k_is)
    (case l_law_word => k_is)
    (case q_law_word => k_is)
    (case p_law_word => k_is)
    (case a_law_shows => k_is)
    (case l_law_shows => k_is)
    (case q_law_shows => k_is)
    (case p_law_shows => k_is)
    (case a_law_deed => k_is)
    (case l_law_deed => k_is)
    (case q_law_deed => k_is)
    (case p_law_deed => k_is)
    (case a_law => k_is)
    (case l_law => k_is)
    (case q_law => k_is)
    (case p_law => k_is)
    (case pg_Ideal => k_is)
    (case hd_Ideal => k_is)
    (case po_Ideal => k_is)
    (case sa_Ideal => k_is)
    (case mk_Ideal => k_is)
    (case kc_Ideal => k_is)
    (case n_Ideal__rows => k_is)
    (case em_Ideal => k_is)
    (case es_Ideal => k_is)
    (case x_KeyThere => k_exc)
    (case kp_KeyThere => k_is)
    (case s_KeyThere => k_is)
    (case t_KeyThere => k_is)
    (case e1_KeyThere => k_is)
    (case e2_KeyThere => k_is)
    (case e3_KeyThere => k_is)
    (case e4_KeyThere => k_is)
    (case e5_KeyThere => k_is)
    (case x_NothingThere => k_exc)
    (case kp_NothingThere => k_is)
    (case s_NothingThere => k_is)
    (case t_NothingThere => k_is)
    (case e1_NothingThere => k_is)
    (case e2_NothingThere => k_is)
    (case e3_NothingThere => k_is)
    (case e4_NothingThere => k_is)
    (case e5_NothingThere => k_is)
    (case en1 => k_is)
    (case en2 => k_is)
    (case s_FabricError => k_is)
    (case t_FabricError => k_is)
    (case e3_FabricError => k_is)
    (case su_FabricError_FabricError => k_is)
    (case su_KeyThere_NothingThere => k_is)
    (case su_KeyThere_ValueError => k_is)
    (case su_KeyThere_FabricError => k_is)
    (case su_KeyThere_KeyThere => k_is)
    (case su_NothingThere_NothingThere => k_is)
    (case su_NothingThere_ValueError => k_is)
    (case su_NothingThere_FabricError => k_is)
    (case su_NothingThere_KeyThere => k_is)
    (case k_MOST_LINES => k_is)
    (case k_GREATEST_CELL => k_is)
    (case k_GREATEST_RANK => k_is)
    (case z_ValueError => k_is)
    (case z_abs => k_is)
    (case z_all => k_is)
    (case z_bool => k_is)
    (case z_enumerate => k_is)
    (case z_int => k_is)
    (case z_isinstance => k_is)
    (case z_len => k_is)
    (case z_list => k_is)
    (case z_range => k_is)
    (case z_tuple => k_is)
    (case hd_law_deed => first | rfl | kernel_rfl | decide +kernel)
    (case hk_law_deed => first | rfl | kernel_rfl | decide +kernel)
