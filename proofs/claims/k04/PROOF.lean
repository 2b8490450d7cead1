import PyProof.Rows.All
import Wide.All
import OpenK.AllK
import Wide.FinOn
import HandS.ForMost
import HandS.IsInst
import HandS.More
import HandS.SetFor
import HandS.Evl
import HandS.Walk
import PyProof.Rows.CountFlat
import HandS.ForExc
import HandS.TryMany
import HandS.Small
import HandS.Style
import HandS.Lambda
import HandS.EndTab
import HandS.ExcIs
import KE.KNestM
import HandS.Zip
import HandS.TupAny
import HandS.Strs
import HandS.SortInts
import HandS.ExcInit
import HandS.ExcField
import KE.KExcIs
import KE.GoesMore
import PyProof.EnumMake
import PyProof.Draws
import PySem.Challenge.RW_exactbeats_k04_numbers_of_lines_and_copi
set_option Elab.async false
set_option linter.all false
set_option maxRecDepth 100000
set_option maxHeartbeats 4000000
/-! Rules that the layer lacks: an own exception made without arguments; what a lambda's call may raise. -/
namespace GX
open PySem PySem.Spec PyProof.Rows L2
section
variable {X : Cx}
/-- X(): an own exception class without an __init__ of its own, no argument -/
theorem pmk_own0 {C : Addr} {bmB : List Value} {B newId initId : String} {x : Str} {p pos : Pos} (FB : ExcBaseFacts B newId initId bmB) (hx : PySem.W.excIn X.K C bmB newId = true) (hm : X.mg x = some (.ref C)) (hk : PySem.W.keepIn X.K (.ref C) = true)
    (hR : Raises X (.ref C)) (hg : Gl X x) (hdb : (x == ("__debug__" : Str)) = false := by decide) : PMk X (.Call (.Name x p) [] [] pos) (fun _ H Q => Q (.ref C) none H) := by
  intro pins s σ H Q I h
  refine wpAny_Call_Name_kw (ld_glob I hg hm (PySem.W.callWith_K0 I.kIn hk ?_) hdb)
  obtain ⟨bm, N, nm, qn, bs, hdct, sn, sub, ab, col, dd, k0, k1, k2, k3, k5, mN, e1, e2, e3, tail⟩ := exc_obj I.kIn hx
  refine wpAny_call_exc_subT (rest := [] ++ []) FB tail e1 e2 e3 (fun h' e made => ?_)
  refine mk_of I made hR h ?_
  -- the new address is tracked by nothing
  cases q : H e with
  | none => rfl
  | some o =>
    have z := made.new
    obtain ⟨b, hb⟩ := objOk_get (I.hok e o q)
    rw [hb] at z
    cases z
/-- raising calls within a def's own body (or a lambda's) -/
theorem passX {E : XK} (h1 : X.stack = X.env :: X.outer) (h2 : X.env.frame = some X.env.locals) (h3 : X.ex = []) {E₁ : Value → Shared → Prop}
    (h4 : X.xe = fun e s' => wpAny (model X.prog X.w) X.A (leaving X.env e) (fun _ s'' => L2.CX X.prog X.w X.outer X.H_0 X.s_0 E e s'') E₁ s') : Passes (L2.CX X.prog X.w) X E :=
  passes_call (takes_of h1 h2 h3 h4) fun _ _ _ _ h => h
theorem takes_len {W : WX} (h : Takes X W) : Takes X (fun cls d σ H => σ.length = X.N.length → W cls d σ H) := fun u s' z => by
  obtain ⟨a, B, sI, pins, σ, H, cls, d, e1, I, r1, r2, r3, r4, r5, r6, r7⟩ := z
  exact h u s' ⟨a, B, sI, pins, σ, H, cls, d, e1, I, r1, r2, r3, r4, r5, r6, r7 I.len⟩
theorem call_isEg {a : Addr} {cls : Value} {d : Option Addr} {oe : Obj} {pn : List (Addr × Obj)} (hz : Zc cls d oe) (hf : ∃ vs, oe.data = Data.fields vs) :
    CallR (X.suite a ((a, oe) :: pn)) (.builtin "isinstance") (fun xs H Q => ∃ D, cls = .ref D ∧ d = none ∧ ExcC X.K D ∧ rIsE X.K D a xs H Q) := by
  intro pins s σ H xs us Q I r h
  obtain ⟨D, rfl, rfl, hE, h⟩ := h
  exact call_isE hE hz hf pins s σ H xs us Q I r h
/-- isinstance(e, c), e the error that the suite holds, with fields or without -/
theorem call_isEa {a : Addr} {cls : Value} {d : Option Addr} {oe : Obj} {pn : List (Addr × Obj)} (hz : Zc cls d oe) (hf : ∃ vs, oe.data = Data.fields vs) :
    CallR (X.suite a ((a, oe) :: pn)) (.builtin "isinstance") (fun xs H Q => ∃ D, cls = .ref D ∧ ExcC X.K D ∧ (d = none ∨ ∃ dd fs, d = some dd ∧ H dd = some (.xd fs)) ∧ rIsE X.K D a xs H Q) := by
  intro pins s σ H xs us Q I r h
  obtain ⟨D, rfl, C, hd, c, cv, b, rfl, hcv, e, q⟩ := h
  obtain ⟨u, u2, rfl, ru, ru2⟩ := r.two
  cases (show u = Value.ref a from ru)
  cases hcv _ ru2
  obtain ⟨there, _⟩ := I.pin (a, oe) (List.mem_append.mpr (.inl List.mem_cons_self))
  obtain ⟨vs, hv⟩ := hf
  have nc : PySem.W.notCls oe = true := by
    unfold PySem.W.notCls
    rw [hv]
  have od : ∃ od, PySem.W.InstAt s.heap a oe D od := by
    rcases hd with e1 | ⟨dd, fs, e1, e2⟩
    · subst e1
      exact ⟨none, there, hz.1, nc, by rw [hz.2]; trivial⟩
    · subst e1
      obtain ⟨mA, hns, _⟩ : ObjOk X.prog X.w H s.heap dd (.xd fs) := I.hok dd _ e2
      obtain ⟨od, ho, _⟩ := lookIn_ns hns
      exact ⟨some od, there, hz.1, nc, by rw [hz.2]; exact ho⟩
  obtain ⟨od, J⟩ := od
  have isC : (PySem.W.clsIn X.K D).isSome = true := by
    obtain ⟨cd, hc, _⟩ := PySem.W.any_some C.hd
    rw [hc] <;> rfl
  exact PySem.W.kia_one (PySem.W.kitx_exc isC C.hg C.hk C.hs C.ha C.hn C.ht C.hm) I.kIn J e (fun z => nomatch z) fun tk => ⟨.bl b, H, I.kept (t' := tk) fun _ _ z => z, rfl, q⟩
theorem exm_kit {K : PySem.W.Frag} {t c : Value} {b : Bool} (h : PySem.W.exmOne K t c = some b) : PySem.W.kitCls K t c = some b := by
  unfold PySem.W.exmOne at h
  split at h
  · exact h
  · cases h
theorem kit_yes {K : PySem.W.Frag} {t c : Value} (h : PySem.W.exmOne K t c = some true) : PySem.W.kitOne K t c = some true := by
  unfold PySem.W.kitOne
  split
  · rfl
  · exact exm_kit h
theorem kit_no {K : PySem.W.Frag} {D C : Addr} (h : PySem.W.exmOne K (.ref D) (.ref C) = some false) (self : PySem.W.subIn K (.ref C) (.ref C) = some true) (no : PySem.W.subIn K (.ref D) (.ref C) = some false) : PySem.W.kitOne K (.ref D) (.ref C) = some false := by
  unfold PySem.W.kitOne
  split
  · rename_i e
    have e2 : (Value.ref D) = .ref C := eq_of_beq e
    rw [e2, self] at no
    cases no
  · exact exm_kit h
theorem kit_bi {K : PySem.W.Frag} {D : Addr} {T : String} {b : Bool} (m : PySem.W.kitMeta T = true) (h : PySem.W.subIn K (.ref D) (.type T) = some b) : PySem.W.kitOne K (.ref D) (.type T) = some b := by
  unfold PySem.W.kitOne
  split
  · rename_i e
    have e2 : (Value.ref D) = .type T := eq_of_beq e
    cases e2
  · show (if PySem.W.kitMeta T = true then PySem.W.subIn K (.ref D) (.type T) else none) = some b
    rw [if_pos m]
    exact h
/-- a def of the text whose code is known -/
structure FunC (K : PySem.W.Frag) (x qual : Str) (st : Stmt) (f : Addr) (fd : FuncData) (c : Addr) : Prop where
  ex : ∃ oc od kV doc pm an ct osl, fd = PySem.W.fnOf x qual (defArgs st) (defBody st) (defScope st) .none kV doc pm an (.ref c) ct ∧ K.lookup f = some ⟨oc, od, .func fd, osl⟩ ∧ PySem.W.codeIn K (.ref c) qual = true
theorem FunC.ok {P : Program} {w : World} {K : PySem.W.Frag} {mg : Str → Option Value} {base : Heap} {x qual : Str} {st : Stmt} {f c : Addr} {fd : FuncData} {N ps : List Str} {k : Nat} {sp : Sp} (F : FunC K x qual st f fd c) (S : FnScope N ps (defScope st))
    (len : ∀ vs H Q E, sp vs H Q E → vs.length = ps.length)
    (hb : ∀ (A : Around) (outer : List Env) (s : Shared) (H : Hp) (vs : List V) (Q : VK) (E : XK), Room k (A.deeper (envOfC qual (defScope st) s.heap.objs.size f (.ref c))) → sp vs H Q E →
      ∃ t, PSs (cxOf L2.CX0 P w K mg base N qual (defScope st) f (.ref c) A outer s H E).nox (defBody st) t ∧ t { nx := fun _ H' => Q .non H', rt := Q } (L2.start N vs) H) : FnOk P w K mg base L2.CX0 (k + 1) f fd ps sp := by
  obtain ⟨oc, od, kV, doc, pm, an, ct, osl, rfl, lk, hcd⟩ := F.ex
  refine fn_of lk hcd S len fun A outer s H vs Q E hr h => ?_
  obtain ⟨t, h1, h2⟩ := hb A outer s H vs Q E hr h
  exact ⟨t, h1.nox, h2⟩
def tTru (K : PySem.W.Frag) (ta : TE) : L2.St → Hp → (Bool → Hp → Prop) → Prop := fun σ H Q => ta σ H fun x H' => ∃ k, TruV K x H' k ∧ Q k H'
def WL (n : Nat) (W : WX) : WX := fun cls d σ H => σ.length = n → W cls d σ H
def EE (n : Nat) (W : WX) : XK := fun cls d H => ∀ σ : L2.St, σ.length = n → W cls d σ H
/-- raising calls within a try's body -/
theorem passT (n : Nat) {W : WX} (tk : Takes X W) (hn : X.N.length = n := by rfl) : Passes (L2.CX X.prog X.w) X (EE n W) := passes_call (takes_len tk) fun cls d σ H h hl => h σ (hl.trans hn)
/-- f(lambda: e) -/
theorem pe_lam {T : List (Addr × Str)} {TT : (XK → Hp → VK → Prop) → Hp → VK → Prop} {x a : Str} {g c P : Addr} {fd : FuncData} {k : Nat} {st : Stmt} {Ng : List Str} {params : Arguments} {body : Expr} {scope : Scope} {t : XK → TE} {p lpos pos : Pos}
    (F : Fun X.K x x st g fd) (Sg : FnScope Ng [a] (defScope st)) (hg : Gl X x) (hm : X.mg x = some (.ref g)) (hb : Binds X.K fd [a] []) (hNg : Ng[0]? = some a) (hva : Vis (defScope st) a)
    (hG : ∀ cdv, LamX.GivesTo X Ng x (defScope st) g cdv (defBody st) a (X.env.qual ++ "<lambda>") TT) (TB : LamX.TabB X.base X.mg c P) (hcode : X.env.code = .ref c) (hmT : (P, X.env.qual ++ "<lambda>") ∈ T)
    (hu : ∀ p ∈ T, p.1 = P → p.2 = X.env.qual ++ "<lambda>") (hr : Room (k + 2) X.A) (L : LamX.LamS X.env.scope scope) (hdef : defaultsOf params X.env = ([], []))
    (hbind : ∀ (q : Str) (cl : List (Str × Addr)) (pm cv ctv : Value), bindArgs (PySem.W.kla_fn "<lambda>" q params body scope cl pm cv ctv) ⟨[], []⟩ = pure [])
    (hbody : ∀ (A : Around) (outer : List Env) (s : Shared) (H : Hp) (E : XK) (f c' : Addr), Room k (A.deeper (LamX.lamEnv X scope s.heap.objs.size f c')) → PE (LamX.lamCx X A outer s H E scope f c') body (t E))
    (h1 : (x == ("__debug__" : Str)) = false := by decide) (h2 : (a == ("__debug__" : Str)) = false := by decide) (h3 : (a == ("__classdict__" : Str)) = false := by decide) :
    PE X (.Call (.Name x p) [.Lambda params body scope lpos] [] pos) (LamX.tLam T TT t) := by
  obtain ⟨oc, od, kV, doc, pm, an, cdv, ct, osl, rfl, lk, hcd⟩ := F.ex
  exact LamX.pe_lamcall hg hm F.kp lk hcd hb Sg hNg hva (hG cdv) TB hcode hmT hu hr L hdef hbind hbody h1 h2 h3
end
end GX
namespace KX
open PySem PySem.Spec PyProof.Rows L2
section
variable {X : Cx}
/-- xs.count(True), xs a list of bools -/
def rCntB (K : PySem.W.Frag) : V → List V → Hp → VK → Prop := fun x xs H Q => ∃ (p : Addr) (bs : List Bool) (k : Bool), x = .ref p ∧ xs = [.bl k] ∧ SqL K H p (bs.map V.bl) ∧ Q (.int (bs.countP (fun b => b == k) : Nat)) H
theorem bools_of : ∀ {bs : List Bool} {its : List Value}, Vals (bs.map V.bl) its → its = bs.map Value.bool
  | [], _, .nil => rfl
  | b :: bs, _, .cons r t => by
    cases (show _ = Value.bool b from r)
    rw [bools_of t]
    rfl
theorem mt_count_bl : MtR X "list.count" (rCntB X.K) := by
  intro pins s σ H x xs v us Q I rx rxs h
  obtain ⟨p, bs, k, rfl, rfl, hs, q⟩ := h
  cases rx
  obtain ⟨u, rfl, ru⟩ := rxs.one
  cases (show u = Value.bool k from ru)
  obtain ⟨its, rv, ⟨⟨cls, dd, data, sl⟩, n, ho, hc, hdn, hd⟩, hlen⟩ := I.list hs
  simp only at hc hd
  subst hc hd
  have hi := bools_of rv
  refine call_meets PySem.F.slot_list_count ⟨_, ho, rfl⟩ PySem.F.entry_list_count (PySem.F.args_list_count_2 _ _)
    (SeqAt.list_countAt p its.toArray n dd sl (.bool k) (isBoolOf k)) ⟨ho, fun y hy => ?_, ?_⟩
  · have hy' : y ∈ its := by simpa using hy
    rw [hi] at hy'
    obtain ⟨b, _, rfl⟩ := List.mem_map.mp hy'
    exact PySem.SeqAt.EqAt.bool_bool b k
  · have ec : its.toArray.toList.countP (isBoolOf k) = bs.countP (fun b => b == k) := by
      show its.countP (isBoolOf k) = _
      rw [hi, List.countP_map]
      rfl
    refine ⟨.int (bs.countP (fun b => b == k) : Nat), H, I.tok _, ⟨s.toks, ?_⟩, q⟩
    show Value.int ((its.toArray.toList.countP (isBoolOf k) : Nat) : Int) s.toks = _
    rw [ec]
end
end KX

/-! try: .. with any number of clauses, each naming one class, with `as` or without. -/
namespace GT
open PySem PySem.Spec PyProof.Rows L2
abbrev Suite := Addr → Value → Option Addr → TS
/-- what holds behind a suite: the clause's name is gone -/
def asEnds (D : Ends) : Option Nat → Ends
  | none => D
  | some i => { nx := fun σ' H' => D.nx (σ'.set i none) H', rt := D.rt, bk := fun σ' H' => D.bk (σ'.set i none) H', ct := fun σ' H' => D.ct (σ'.set i none) H' }
def asSt (σ : L2.St) (a : Addr) : Option Nat → L2.St
  | none => σ
  | some i => σ.set i (some (.ref a))
inductive Hds (X : Cx) : List ExceptHandler → List (Value × Option Nat × Suite) → Prop
  | nil : Hds X [] []
  | only {x : Str} {c : Value} {ts : Suite} {b₀ : Stmt} {suite : List Stmt} {np pos' : Pos} {hds : List ExceptHandler} {l : List (Value × Option Nat × Suite)} (hc : Gl X x) (hd : (x == ("__debug__" : Str)) = false) (hm : X.mg x = some c)
      (hs : ∀ (a : Addr) (oe : Obj) (cls : Value) (d : Option Addr) (pn : List (Addr × Obj)), Zc cls d oe → (∃ vs, oe.data = .fields vs) → PSs (X.suite a ((a, oe) :: pn)) (b₀ :: suite) (ts a cls d)) (rest : Hds X hds l) :
      Hds X (.ExceptHandler (some (.Name x np)) none (b₀ :: suite) pos' :: hds) ((c, none, ts) :: l)
  | as_ {x n : Str} {c : Value} {i : Nat} {ts : Suite} {b₀ : Stmt} {suite : List Stmt} {np pos' : Pos} {hds : List ExceptHandler} {l : List (Value × Option Nat × Suite)} (hc : Gl X x) (hd : (x == ("__debug__" : Str)) = false) (hm : X.mg x = some c)
      (hi : X.N[i]? = some n) (hn : X.env.kindOf n = some .local)
      (hs : ∀ (a : Addr) (oe : Obj) (cls : Value) (d : Option Addr) (pn : List (Addr × Obj)), Zc cls d oe → (∃ vs, oe.data = .fields vs) → PSs (X.suite a ((a, oe) :: pn)) (b₀ :: suite) (ts a cls d)) (rest : Hds X hds l) :
      Hds X (.ExceptHandler (some (.Name x np)) (some n) (b₀ :: suite) pos' :: hds) ((c, some i, ts) :: l)
def wHds (K : PySem.W.Frag) (Wout : WX) (D : Ends) : List (Value × Option Nat × Suite) → WX
  | [] => Wout
  | (c, oi, ts) :: l => fun cls d σ H => ∃ b, PySem.W.exmOne K cls c = some b ∧ (b = true → ∀ a, H a = none → ts a cls d (asEnds D oi) (asSt σ a oi) H) ∧ (b = false → wHds K Wout D l cls d σ H)
theorem ends_as {X : Cx} {pins : List (Addr × Obj)} {D : Ends} {f : Flow} {s : Shared} {a : Addr} {q : Addr × Obj} {pn' : List (Addr × Obj)} (ok : X.Ok) (h : SP (X.suite a (q :: (X.pn ++ pins))) pn' (asEnds D none) f s) : SP X pins D f s := by
  cases f with
  | ret u =>
    obtain ⟨v, σ', H', J, rv, k⟩ := h
    exact ⟨v, σ', H', J.unsuite ok, rv, k⟩
  | next =>
    obtain ⟨σ', H', J, k⟩ := h
    exact ⟨σ', H', J.unsuite ok, k⟩
  | brk =>
    obtain ⟨σ', H', J, k⟩ := h
    exact ⟨σ', H', J.unsuite ok, k⟩
  | cont =>
    obtain ⟨σ', H', J, k⟩ := h
    exact ⟨σ', H', J.unsuite ok, k⟩
section
variable {X : Cx}
structure Land (X : Cx) (pins : List (Addr × Obj)) (σ : L2.St) (B : Heap) (a : Addr) (cls : Value) (d : Option Addr) (sI : Shared) (H : Hp) (s : Shared) : Prop where
  I : Inv X pins σ H s
  fl : HandSPX.FlyingZ B X.stack a (Zc cls d) s.heap
  up : sI.heap.UpToSlots s.heap
  os : s.os = sI.os
  bare : AllBare s.gens
theorem not_env {pins : List (Addr × Obj)} {σ : L2.St} {H : Hp} {s : Shared} {a : Addr} {oe : Obj} {vs : Array Value} (I : Inv X pins σ H s) (e1 : s.heap.get? a = some oe) (e2 : oe.data = .fields vs) : a ≠ X.env.locals := fun z => by
  obtain ⟨m, ⟨o, es, ep, h1, h2, _⟩, _⟩ := I.loc
  rw [← z, e1] at h1
  cases h1
  rw [e2] at h2
  cases h2
theorem not_frs {B h : Heap} : ∀ {l : List Env} {a : Addr} {oe : Obj} {vs : Array Value}, h.FunFrames B l → h.get? a = some oe → oe.data = .fields vs → a ∉ frs l
  | [], _, _, _, _, _, _ => fun z => by cases z
  | env :: l, a, oe, vs, ff, e1, e2 => fun z => by
    rw [Heap.FunFrames.eq_2] at ff
    obtain ⟨_, ⟨L, o, f1, _, f3, f4⟩, f5⟩ := ff
    have z2 : a ∈ (env.frame.toList ++ frs l) := by
      unfold frs at z ⊢
      rw [List.filterMap_cons] at z
      rw [f1] at z ⊢
      exact z
    rw [f1] at z2
    rcases List.mem_cons.mp (show a ∈ L :: frs l from z2) with e | e
    · rw [e, f3] at e1
      cases e1
      exact f4 vs e2
    · exact not_frs f5 e1 e2 e
/-- an exception that landed: the clauses, one behind another -/
theorem handle {Wout : WX} {D : Ends} {pins : List (Addr × Obj)} {B : Heap} {a : Addr} {cls : Value} {d : Option Addr} {sI : Shared} {H : Hp} {σ : L2.St} (ok : X.Ok) (hs : X.stack = X.env :: X.outer) (hf : X.env.frame = some X.env.locals) (hN : X.N.Nodup) (tk : Takes X Wout)
    (ha : H a = none) (keep : ∀ (b : Addr) (o : Obj), sI.heap.get? b = some o → b ∉ frs X.stack → B.get? b = some o) (II : Inv X pins σ H sI) :
    ∀ {hds : List ExceptHandler} {l : List (Value × Option Nat × Suite)}, Hds X hds l → wHds X.K Wout D l cls d σ H → ∀ s : Shared, Land X pins σ B a cls d sI H s →
      wpAny (model X.prog X.w) X.A (handleBy (.ref a) X.env hds) (SP X pins D) X.xe s := by
  intro hds l hd
  have enter : ∀ {s : Shared}, Land X pins σ B a cls d sI H s → ∃ oe vs, s.heap.get? a = some oe ∧ Zc cls d oe ∧ oe.data = .fields vs ∧ ∀ {σ' : L2.St} {s' : Shared}, Inv X pins σ' H s' → s'.heap.get? a = some oe → Inv (X.suite a ((a, oe) :: (X.pn ++ pins))) [] σ' H s' := fun {s} L => by
    obtain ⟨oe, vs, e1, z, e2⟩ := L.fl.there
    have ff := L.fl.2.2.1
    rw [hs, Heap.FunFrames.eq_2] at ff
    exact ⟨oe, vs, e1, z, e2, fun I' e => I'.suite e e2 ha (not_env L.I e1 e2) (not_frs ff.2.2 e1 e2)⟩
  have look : ∀ {s : Shared} {c : Value} {b : Bool}, Land X pins σ B a cls d sI H s → PySem.W.exmOne X.K cls c = some b → PySem.W.Looks (model X.prog X.w) s.heap (excMatches (.ref a) c) b := fun {s c b} L eb => by
    obtain ⟨oe, vs, e1, z, e2, _⟩ := enter L
    exact PySem.W.exm_one L.I.kIn (fun A' Q' E' s' sub q => wpAny_typeOf_ref (sub _ _ e1) (by rw [z.1]; exact q)) eb
  have again : ∀ {s : Shared} {h' : Heap}, Land X pins σ B a cls d sI H s → HandSPX.FlyingZ B X.stack a (Zc cls d) h' → s.heap.UpToSlots h' → Land X pins σ B a cls d sI H { heap := h', gens := s.gens, drawn := s.drawn, toks := s.toks, os := s.os } := fun {s h'} L fl up =>
    ⟨II.landed keep fl.1 (L.up.trans up) L.os L.bare, fl, L.up.trans up, L.os, L.bare⟩
  induction hd with
  | nil =>
    intro hw s L
    refine wpAny_handleBy_nil ?_
    obtain ⟨st, bn, ff, oe, vs, T, oT, ts, e1, z, e2, e3, _⟩ := id L.fl
    unfold PySem.passOn
    refine wpAny_bind (wpAny_field e1 e2 e3 ?_)
    show wpAny _ _ (if (Value.ref T == Value.none) = true then _ else _) _ _ _
    rw [if_neg (fun h => by cases (eq_of_beq h))]
    refine wpAny_bind ?_
    rw [hf]
    exact HandSPX.setFlight_upZ L.fl fun h' held up2 => wpAny_throw (tk _ _ ⟨a, B, sI, pins, σ, H, cls, d, rfl, II, keep, L.up.trans up2, .inr (.inr held), ha, L.os, L.bare, hw⟩)
  | only hc hdb hm hsu rest ih =>
    intro hw s L
    obtain ⟨b, eb, hw1, hw2⟩ := hw
    obtain ⟨oe, vs, e1, z, e2, su⟩ := enter L
    refine wpAny_handleBy_cons ?_ (by intro h; cases h)
    refine codeAny_handlers_test (ld_glob (su L.I e1) hc hm ?_ hdb)
    refine look L eb _ _ _ _ (fun _ _ e => e) ?_
    cases b with
    | false => exact ih (hw2 rfl) s L
    | true =>
      refine codeAny_handlers_suite (HandSPX.lands_againZ L.fl fun h' fl' up' => ?_)
      have L' := again L fl' up'
      obtain ⟨oe', vs', e1', z', e2', su'⟩ := enter L'
      exact wpAny_mono ((hsu a oe' cls d (X.pn ++ pins) z' ⟨_, e2'⟩).run [] _ σ H D (su' L'.I e1') (hw1 rfl a ha)) (fun f s₂ q => ends_as ok q) fun _ _ q => q.elim
  | @as_ x n c i ts b₀ suite np pos' hds' l' hc hdb hm hi hn hsu rest ih =>
    intro hw s L
    obtain ⟨b, eb, hw1, hw2⟩ := hw
    obtain ⟨oe, vs, e1, z, e2, su⟩ := enter L
    refine wpAny_handleBy_cons ?_ (by intro h; cases h)
    refine codeAny_handlers_test (ld_glob (su L.I e1) hc hm ?_ hdb)
    refine look L eb _ _ _ _ (fun _ _ e => e) ?_
    cases b with
    | false => exact ih (hw2 rfl) s L
    | true =>
      refine codeAny_handlers_suite_as (HandSPX.lands_againZ L.fl fun h' fl' up' => ?_)
      have L' := again L fl' up'
      obtain ⟨oe', vs', e1', z', e2', su'⟩ := enter L'
      refine store_ok2 L'.I hN hi (.inl hn) (show RelV (.ref a) (.ref a) from rfl) (fun s'' J sb => ?_) (.inr hn)
      have e3 : s''.heap.get? a = some oe' := by
        obtain ⟨a2, sb, hor⟩ := sb
        have ne : a ≠ a2 := by
          rcases hor with e | e
          · rw [e]
            exact not_env L'.I e1' e2'
          · intro e3
            obtain ⟨v, o, c1, c2⟩ := L'.I.cell _ _ e
            rw [← e3] at c1
            have c3 : some oe' = some o := e1'.symm.trans c1
            cases c3
            rw [e2'] at c2
            cases c2
        rw [sb.2 a ne]
        exact e1'
      refine wpAny_mono ((hsu a oe' cls d (X.pn ++ pins) z' ⟨_, e2'⟩).run [] _ (σ.set i (some (.ref a))) H (asEnds D (some i)) (su' J e3) (hw1 rfl a ha)) (fun f s₂ q => ?_) fun _ _ q => q.elim
      cases f with
      | ret u =>
        obtain ⟨v, σ', H', J', rv, k⟩ := q
        exact gone_ok (J'.unsuite ok) hN hi hn fun s3 J3 => ⟨v, _, H', J3, rv, k⟩
      | next =>
        obtain ⟨σ', H', J', k⟩ := q
        exact gone_ok (J'.unsuite ok) hN hi hn fun s3 J3 => ⟨_, H', J3, k⟩
      | brk =>
        obtain ⟨σ', H', J', k⟩ := q
        exact gone_ok (J'.unsuite ok) hN hi hn fun s3 J3 => ⟨_, H', J3, k⟩
      | cont =>
        obtain ⟨σ', H', J', k⟩ := q
        exact gone_ok (J'.unsuite ok) hN hi hn fun s3 J3 => ⟨_, H', J3, k⟩
/-- try: body except A as x: .. except B: .. -/
theorem ps_try_g {body : List Stmt} {h₀ : ExceptHandler} {hds : List ExceptHandler} {l : List (Value × Option Nat × Suite)} {pos : Pos} {tb : WX → TS} {Wout : WX} (hs : X.stack = X.env :: X.outer) (hf : X.env.frame = some X.env.locals) (hN : X.N.Nodup) (tk : Takes X Wout)
    (hb : ∀ (W : WX) (pn : List (Addr × Obj)) (xe : Value → Shared → Prop), Takes (X.tr pn xe) W → PassesOwn (model X.prog X.w) X.A X.env xe → PSs (X.tr pn xe) body (tb W)) (hh : Hds X (h₀ :: hds) l) :
    PS X (.Try body (h₀ :: hds) [] [] pos) (fun D σ H => tb (wHds X.K Wout D l) D σ H) := by
  refine ⟨fun pins s σ H D I h => ?_⟩
  have ok := I.ok
  refine wpAny_Try_except ?_
  have fr : X.A.frames = some (X.env :: X.outer) := by
    rw [ok.frames, hs]
  have tkW : Takes (X.tr (X.pn ++ pins) (fun e s₁ => wpAny (model X.prog X.w) X.A (noteFrame e X.env) (fun _ s₂ => wpAny (model X.prog X.w) X.A (setFlight e none) (fun _ s₃ => wpAny (model X.prog X.w) X.A (handleBy e X.env (h₀ :: hds)) (SP X pins D) X.xe s₃) X.xe s₂) X.xe s₁)) (wHds X.K Wout D l) := fun u s' z => by
    obtain ⟨a, B, sI, pn', σ', H', cls, d, rfl, I', keep, up, sky, ha, os, bare, hw⟩ := z
    have II : Inv X pins σ' H' sI := I'.ofTry ok
    have sky' : Sky B (X.env :: X.outer) a (Zc cls d) X.env.locals s'.heap := by
      rw [← hs]
      exact sky
    refine Sky.land Zc.steady fr hf sky' fun h' fl up2 => ?_
    rw [← hs] at fl
    exact handle ok hs hf hN tk ha keep II hh hw _ ⟨II.landed keep fl.1 (up.trans up2) os bare, fl, up.trans up2, os, bare⟩
  refine wpAny_mono ((hb _ (X.pn ++ pins) _ tkW PassesOwn.looking).run [] s σ H D (I.toTry _) h) (fun f s1 q => ?_) fun e s1 q => q
  cases f with
  | ret u =>
    obtain ⟨v, σ', H', J, rv, k⟩ := q
    exact ⟨v, σ', H', J.ofTry ok, rv, k⟩
  | next =>
    obtain ⟨σ', H', J, k⟩ := q
    exact (pss_nil (X := X)).run pins s1 σ' H' D (J.ofTry ok) k
  | brk =>
    obtain ⟨σ', H', J, k⟩ := q
    exact ⟨σ', H', J.ofTry ok, k⟩
  | cont =>
    obtain ⟨σ', H', J, k⟩ := q
    exact ⟨σ', H', J.ofTry ok, k⟩
end
end GT

/-! set(xs), xs a list of ints. -/
namespace GX
open PySem PySem.Spec PyProof.Rows PySem.Calls L2 Builtin
section
variable {P : Program} {w : World} {A : Around} {E : Value → Shared → Prop} {s : Shared}
abbrev bareSet (w : World) : Obj := { cls := .type "set", dict := none, data := .set #[] 0 (.fresh 0 0 (!w.params.followText "set-order")) }
set_option maxHeartbeats 8000000 in
theorem set_of_ints {l : Addr} {items : Array Value} (ns : List Int) {Q : Value → Shared → Prop} (calm : A.handled = none) (isl : s.heap.IsList l items) (are : IntsAre items.toList ns) (few : ns.length + 1 < scanBound)
    (k : ∀ (h' : Heap) (tk c : Nat), SetR w h' s.heap.objs.size (fun j => decide (j ∈ ns)) c → c ≤ ns.length → (∀ b o, s.heap.get? b = some o → h'.get? b = some o) → Q (.ref s.heap.objs.size) { s with heap := h', toks := tk }) :
    wpAny (model P w) A (call (.type "set") [.ref l]) Q E s := by
  have many : items.size = ns.length := by simpa using are.length
  obtain ⟨mc, mtl, hmro⟩ := F.called_set.mro
  have a1 := F.called_set.made
  have a2 := F.called_set.sub
  have a3 := F.called_set.notType
  have a4 := F.called_set.canCreate
  have a5 := F.typeCall_set_1 (.ref l)
  refine wpAny_call (codeAny_of_tree (show wpAny _ _ (callAny (.type "set") _) _ _ _ from wpAny_pure ⟨Code.quiet_builtin _ (by decide +kernel), codeAny_builtin F.entry_type_call ?_⟩))
  rw [Around.under_plain (weight_type_call_type "set" [.ref l] []) rfl]
  repeat (any_goals (first | assumption | wp_step))
  refine codeAny_mono (code_set_led1 (.ref l) (E := E) (Q₁ := fun obj s₁ => obj = .ref s.heap.objs.size ∧ s₁ = { s with heap := s.heap.push (bareSet w) }) ⟨rfl, rfl⟩) fun r s₁ made => ?_
  match r, made with
  | .error e, made => exact made
  | .ok .next, made => exact made.elim
  | .ok .brk, made => exact made.elim
  | .ok .cont, made => exact made.elim
  | .ok (.ret obj), made =>
    obtain ⟨rfl, rfl⟩ := made
    have at_ : (s.heap.push (bareSet w)).get? s.heap.objs.size = some (bareSet w) := Heap.get?_push_size _ rfl
    have ty : Shared.TypeIs { s with heap := s.heap.push (bareSet w) } (.ref s.heap.objs.size) "set" := ⟨_, at_, rfl⟩
    have b1 := F.called_set.init.lookup
    have b2 := F.called_set.init.bind (.ref s.heap.objs.size)
    repeat (any_goals (first | assumption | wp_step))
    refine codeAny_mono (codeAny_call_builtin (R := wants (fun r s₂ => r = .none ∧ ∃ h' tk c, s₂ = { s with heap := h', toks := tk } ∧ SetR w h' s.heap.objs.size (fun j => decide (j ∈ ns)) c ∧ c ≤ ns.length ∧ (∀ b o, s.heap.get? b = some o → h'.get? b = some o)) E)
      F.called_set.init.plain F.entry_set_init (check_set_init_1 ty ?_)) fun r₂ s₂ done => ?_
    · obtain ⟨ol, gl, cl, nl, dl⟩ := isl
      obtain ⟨ocls, odict, odata, oslots⟩ := ol
      simp only at cl dl
      subst cl; subst dl
      have gl' : (s.heap.push (bareSet w)).get? l = some { cls := .type "list", dict := odict, data := .seq items nl, slots := oslots } := Heap.get?_push_of_some _ gl
      have c1 := PySem.F.sub_list_set
      have c2 := PySem.F.sub_list_frozenset
      have c3 : (Value.type "list" == Value.type "dict") = false := by decide
      have isl' : (s.heap.push (bareSet w)).IsList l items := ⟨_, gl', rfl, nl, rfl⟩
      unfold Builtin.«set.__init__» noKeywords Builtin.Frozenset.updateFrom
      generalize hPI : pyIter = PI
      wp_walk
      subst hPI
      refine wpAny_pyIter_list isl' (wpAny_bind (wpAny_runValue ?_))
      have lt := Heap.lt_size gl
      have sz : (s.heap.push (bareSet w)).objs.size = s.heap.objs.size + 1 := Heap.size_push ..
      have apart : l ≠ (s.heap.push (bareSet w)).objs.size := by rw [sz]; exact Nat.ne_of_lt (Nat.lt_succ_of_lt lt)
      have quiet : A.in1.in1.in1.handled = none := by simp [calm]
      have each : ∀ (i : Nat) (v : Value), items[i]? = some v → ∃ z t, ns[i]? = some z ∧ v = .int z t := fun i v hv => by
        have lt' : i < ns.length := many ▸ (Array.getElem?_eq_some_iff.mp hv).1
        obtain ⟨t, e⟩ := IntsAre.int_at are i v (by rw [Array.getElem?_toList]; exact hv)
        exact ⟨ns[i], t, List.getElem?_eq_getElem lt', by rw [e, List.getD_eq_getElem?_getD, List.getElem?_eq_getElem lt'] <;> rfl⟩
      refine set_update_ints ((Walks.list quiet _ l apart items).toS) s.heap.objs.size (by simp only [List.mem_cons, List.not_mem_nil, or_false, not_or]; rw [sz]; exact ⟨Nat.ne_of_lt (Nat.lt_succ_self _), Nat.ne_of_gt lt⟩) ns many few each (items.size - 0) 0 _ (by omega) (Nat.zero_le _)
        ⟨⟨_, Heap.get?_push_size _ rfl, rfl, rfl⟩, isl'.push _⟩ ⟨0, Nat.le_refl 0, setR_new_at (Heap.get?_push_of_some _ at_)⟩ fun s' c' moved le is => ?_
      obtain ⟨h', g2, d', tk', os'⟩ := s'
      cases (show g2 = s.gens from moved.gens)
      cases (show d' = s.drawn from moved.drawn)
      cases (show os' = s.os from moved.os)
      show wpAny _ _ _ _ _ _
      refine wpAny_pure (show wpAny _ _ (ret Value.none) _ _ _ from wpAny_pure ⟨rfl, h', tk', c', rfl, is, many ▸ le, fun b o e => ?_⟩)
      have lb := Heap.lt_size e
      exact moved.heap b o (by simp only [List.mem_cons, List.not_mem_nil, or_false, not_or]; rw [sz]; exact ⟨Nat.ne_of_lt lb, Nat.ne_of_lt (Nat.lt_succ_of_lt lb)⟩) (Heap.get?_push_of_some _ (Heap.get?_push_of_some _ e))
    · match r₂, done with
      | .error e, done => exact done
      | .ok .next, done => exact done.elim
      | .ok .brk, done => exact done.elim
      | .ok .cont, done => exact done.elim
      | .ok (.ret r), done =>
        obtain ⟨rfl, h', tk, c', rfl, is, le, kept⟩ := done
        repeat (any_goals (first | assumption | wp_step))
        exact k _ _ _ is le kept
end
section
variable {X : Cx}
/-- set(xs), xs a list of ints -/
def rSetI (K : PySem.W.Frag) (w : World) : List V → Hp → VK → Prop := fun xs H Q => ∃ (l : Addr) (ns : List Int), xs = [.ref l] ∧ SqL K H l (ns.map V.int) ∧ ns.length ≤ 4000 ∧ ∀ (p : Addr) (c : Nat), H p = none → c ≤ ns.length → Q (.ref p) (upd H p (SetO w p (fun j => decide (j ∈ ns)) c))
theorem cr_setI (hc : X.calm = true) : CallR X (.type "set") (rSetI X.K X.w) := by
  intro pins s σ H xs us Q I r h
  obtain ⟨l, ns, rfl, hl, few, q⟩ := h
  obtain ⟨u, rfl, ru⟩ := vals1 r
  cases (show u = Value.ref l from ru)
  obtain ⟨its, rv, pl, _⟩ := I.list hl
  have sz : its.toArray.size = ns.length := by rw [List.size_toArray, ← rv.length, List.length_map]
  refine set_of_ints ns (I.ok.hd hc) pl.isList (by simpa using rv.ints) (by unfold scanBound; omega) fun h' tk c is le kept => ?_
  exact ⟨.ref _, _, I.laid (t' := tk) kept (Nat.le_refl _) (setO_new is), rfl, q _ c (I.hok.fresh (Nat.le_refl _)) le⟩
end
end GX

/-! enumerate(t), t a tuple. -/
namespace GE
open PySem PySem.Spec PyProof.Rows L2 Builtin
/-- a tuple's items with their places, a new pair at each turn -/
def Etp (K : PySem.W.Frag) (t : Addr) : It where
  go i H := ∃ xs x, SqT K H t xs ∧ xs[i]? = some x
  yld i H v H' := ∃ (p : Addr) (x : V), v = .ref p ∧ H p = none ∧ H' = upd H p (.tup [.int ((i : Nat) : Int), x]) ∧ ∀ xs, SqT K H t xs → xs[i]? = some x
  stop i H := ∃ xs, SqT K H t xs ∧ xs.length ≤ i
abbrev tIt (t : Addr) : Obj := { cls := .type "tuple_iterator", data := .fields #[.ref t, .int 0 0] }
abbrev eOb (i : Addr) : Obj := { cls := .type "enumerate", data := .fields #[.none, .bool false, .ref i, rawInt 0, .none, .none] }
set_option maxHeartbeats 8000000 in
theorem made (t : Addr) (vs : Array Value) : Meets (Builtin.«enumerate.__new__» ⟨[.type "enumerate", .ref t], []⟩)
    (fun _ R s => s.heap.IsTuple t vs ∧ R (.ok (.ret (.ref (s.heap.push (tIt t)).objs.size))) { s with heap := (s.heap.push (tIt t)).push (eOb s.heap.objs.size) }) := by
  refine Meets.of_wp fun prog w A R s both => ?_
  obtain ⟨h0, gs, dr, tk, os⟩ := s
  obtain ⟨isT, back⟩ := both
  have z1 := PySem.sub_enumerate
  have z2 : ∀ {B : Around} {F : Value → Shared → Prop} {G : Value → Shared → Prop}, G (.ref h0.objs.size) ⟨h0.push (tIt t), gs, dr, tk, os⟩ → wpAny (model prog w) B (pyIter (.ref t)) G F ⟨h0, gs, dr, tk, os⟩ := fun g => wpAny_pyIter_tuple isT g
  wp_walk using z2
  refine wpAny_stack_any fun st => ?_
  refine wpAny_pure ?_
  split
  · rename_i c _ _ _ _ _
    cases (c == Value.type "enumerate") <;> (wp_walk using z2; exact ⟨_, rfl, back⟩)
  · wp_walk using z2
    exact ⟨_, rfl, back⟩
section
variable {P : Program} {w : World} {A : Around} {E : Value → Shared → Prop} {s : Shared}
theorem begins {t : Addr} {vs : Array Value} {Q : Value → Shared → Prop} (isT : s.heap.IsTuple t vs)
    (k : ∀ h1, IsEnum h1 (s.heap.objs.size + 1) s.heap.objs.size 0 .none → h1.IsTupleIter s.heap.objs.size t 0 → h1.objs.size = s.heap.objs.size + 2 → (∀ b o, s.heap.get? b = some o → h1.get? b = some o) → Q (.ref (s.heap.objs.size + 1)) { s with heap := h1 }) :
    wpAny (model P w) A (call (.type "enumerate") [.ref t]) Q E s := by
  refine callType_new F.called_enumerate (by decide) (F.typeCall_enumerate_1 _) (F.newCall_enumerate_1 _) (fun y => F.args_object_init_2 y _) F.entry_enumerate_new (made t vs) ⟨isT, ?_⟩
  have sz : (s.heap.push (tIt t)).objs.size = s.heap.objs.size + 1 := Heap.size_push ..
  have at_ : IsEnum ((s.heap.push (tIt t)).push (eOb s.heap.objs.size)) (s.heap.objs.size + 1) s.heap.objs.size 0 .none := by
    have z := Heap.get?_push_size (s.heap.push (tIt t)) (o := eOb s.heap.objs.size) rfl
    rw [sz] at z
    exact z
  show _ ∧ _
  rw [sz]
  exact ⟨⟨_, at_, rfl⟩, k _ at_ ⟨_, Heap.get?_push_of_some _ (Heap.get?_push_size _ rfl), rfl, rfl⟩ (by rw [Heap.size_push, sz]) fun b o x => Heap.get?_push_of_some _ (Heap.get?_push_of_some _ x)⟩
end
theorem turn {P : Program} {w : World} {K : PySem.W.Frag} {elts : List Expr} {kk : Nat} {tpos : Pos} (t e i : Addr) :
    Turn P w K (.Tuple elts kk tpos) (Etp K t) [e, i] e (fun n h => (∃ old, IsEnum h e i ((n : Nat) : Int) old) ∧ h.IsTupleIter i t n ∧ e ≠ i) := by
  have two : ∀ {b : Addr}, b ∈ [e, i] → b = e ∨ b = i := fun hb => by simpa using hb
  constructor
  case mem => simp
  case obj =>
    rintro n h ⟨⟨old, h1⟩, ⟨o, h2, h3, h4⟩, _⟩ b hb
    rcases two hb with q | q <;> subst q
    · exact ⟨_, h1, fun v z => nomatch z⟩
    · exact ⟨o, h2, fun v z => by rw [h4] at z; cases z⟩
  case keep =>
    rintro n h h' ⟨⟨old, h1⟩, h2, h3⟩ k
    exact ⟨⟨old, k e (by simp) _ h1⟩, h2.at fun o q => k i (by simp) o q, h3⟩
  case item =>
    intro X eP ew eK calm n pins s σ H Er I free st go
    subst eP ew eK
    obtain ⟨⟨old, h1⟩, h2, apart⟩ := st
    obtain ⟨xs, x, hq, hx⟩ := go
    obtain ⟨vs, rv, isT, _⟩ := I.tuple hq
    obtain ⟨u, hu, ru⟩ := rv.get hx
    have le : e < s.heap.objs.size := Heap.lt_size h1
    have li : i < s.heap.objs.size := by
      obtain ⟨_, q, _⟩ := h2
      exact Heap.lt_size q
    have ti : t ≠ i := fun z => by
      subst z
      obtain ⟨o1, q1, c1, _⟩ := h2
      obtain ⟨o2, q2, c2, _⟩ := isT
      rw [q1] at q2
      cases q2
      rw [c1] at c2
      exact absurd (Value.type.inj c2) (by decide)
    have te : t ≠ e := fun z => by
      subst z
      obtain ⟨o2, q2, c2, _⟩ := isT
      rw [h1] at q2
      cases q2
      exact absurd (Value.type.inj c2) (by decide)
    have quiet : X.A.in1.handled = none := by
      have z := I.ok.hd calm
      simp [z]
    have lt : n < vs.toArray.size := by
      have z := (List.getElem?_eq_some_iff.mp hu).1
      simpa using z
    refine wpAny_pyNext_enum_itemD (Draws.tuple quiet i t ti vs.toArray) h1 ⟨h2, isT⟩ lt apart (by simp [apart, te.symm]) fun y h' tk py out st' tup size keep => ?_
    have ey : y = u := by
      have z : vs.toArray[n]? = some y := py
      rw [List.getElem?_toArray, hu] at z
      exact (Option.some.inj z).symm
    subst ey
    refine ⟨_, rfl, wpAny_letOwnedTupleGo_enum (s := { s with heap := h', toks := tk + 1 }) out fun h'' again sb => ?_⟩
    have tup2 : h''.get? s.heap.objs.size = some { cls := .type "tuple", data := .seq #[.int n tk, y] } := (sb.2 _ (Nat.ne_of_gt le)).trans tup
    have fresh : ObjOk X.prog X.w (upd H s.heap.objs.size (.tup [.int ((n : Nat) : Int), x])) h'' s.heap.objs.size (.tup [.int ((n : Nat) : Int), x]) :=
      ⟨by show 2 ≤ sizeLine; decide, [.int n tk, y], .cons ⟨_, rfl⟩ (.cons ru .nil), ⟨_, tup2, rfl, _, rfl⟩⟩
    have J : Inv X pins σ (upd H s.heap.objs.size (.tup [.int ((n : Nat) : Int), x])) { s with heap := h'', toks := tk + 1 } :=
      I.turnedNew (t' := tk + 1) (ch := [e, i]) (fun b ob hb q => (sb.2 b (fun z => hb (by simp [z]))).trans (keep b ob (fun z => hb (by simp [z])) (fun z => hb (by simp [z])) q)) free (Nat.le_refl _) fresh
    refine ⟨.ref s.heap.objs.size, _, J, rfl, ⟨_, x, rfl, I.hok.fresh (Nat.le_refl _), rfl, fun ys hy => by rw [I.tuple_inj hy hq]; exact hx⟩, ⟨⟨y, ?_⟩, st'.1.at fun o q => (sb.2 i (Ne.symm apart)).trans q, apart⟩, fun b hb => ?_⟩
    · rw [show ((n + 1 : Nat) : Int) = (n : Int) + 1 by omega]
      exact again
    · have lb : b < s.heap.objs.size := by
        rcases two hb with z | z <;> subst z
        · exact le
        · exact li
      rw [upd_ne (Nat.ne_of_lt lb)]
      exact (free b hb).1
  case done =>
    intro X eP ew eK calm n pins s σ H Er I free st stop
    subst eP ew eK
    obtain ⟨⟨old, h1⟩, h2, apart⟩ := st
    obtain ⟨xs, hq, hl⟩ := stop
    obtain ⟨vs, rv, isT, _⟩ := I.tuple hq
    have long := rv.length
    have quiet : X.A.in1.handled = none := by
      have z := I.ok.hd calm
      simp [z]
    have hT : s.TypeIs (.ref e) "enumerate" := ⟨_, h1, rfl⟩
    obtain ⟨f0, f1, f2, f3, f4, f5⟩ := free i (by simp)
    unfold pyNext
    refine wpAny_bind (wpAny_attempt (wpAny_callSpecial?_slot (name := Str.ofString "__next__") hT F.slot_enumerate_next (wpAny_call_entry F.slot_enumerate_next hT F.entry_enumerate_next ?_ (F.args_enumerate_next_1 _))))
    show wpAny _ _ (field (.ref e) 2 >>= _) _ _ _
    refine wpAny_bind (wpAny_field h1 rfl (x := .ref i) rfl (wpAny_bind ?_))
    refine wpAny_nextOf_tuple_end quiet h2 isT (by simp; omega) fun h' ex eb isx => ?_
    obtain ⟨o, ho, hc⟩ := isx
    refine wpAny_bind (wpAny_isInstance (T := "StopIteration") (b := true) ⟨o, ho, hc⟩ isSubtype_stop (wpAny_pure ?_))
    exact ⟨rfl, I.turned (t' := s.toks) (fun b o hb q => eb b o hb q) f0 f1 f3 f4 f5⟩
  case self =>
    rintro A n s Q Er ⟨⟨_, h1⟩, _⟩ q
    exact wpAny_pyIter_enum h1 q
/-- enumerate of a list or a tuple -/
def iEnA (K : PySem.W.Frag) (ta : TA) : TI := fun σ H R => ta σ H fun vs H1 => ∃ a xs, vs = [.ref a] ∧ ((SqL K H1 a xs ∧ R (Ite K a) H1) ∨ (SqT K H1 a xs ∧ R (Etp K a) H1))
theorem pi_enumA {X : Cx} {e : Expr} {ta : TA} {p pos tpos : Pos} {elts : List Expr} {kk : Nat} (hg : Gl X "enumerate") (hm : X.mg "enumerate" = none) (ha : PA X [e] ta) (hs : starEach [e] X.env = [(false, eval e X.env)] := by rfl) :
    PI X (.Tuple elts kk tpos) (.Call (.Name "enumerate" p) [e] [] pos) (iEnA X.K ta) := by
  constructor
  intro pins s σ H R I h
  refine Call_ (ld_blt I hg hm boot_enumerate (PyProof.Rows.callWith_type1 (thn (ha.run pos pins s σ H _ I h) fun us s1 got => ?_) hs rfl))
  obtain ⟨_, H1, I1, r1, a, xs, rfl, q⟩ := got
  have fp : ∀ b ∈ [s1.heap.objs.size + 1, s1.heap.objs.size], FpOk X pins H1 b := fun b hb => by
    have le : s1.heap.objs.size ≤ b := by
      rcases (show b = s1.heap.objs.size + 1 ∨ b = s1.heap.objs.size by simpa using hb) with z | z <;> omega
    exact I1.fpOk le (I1.hok.fresh le)
  cases r1 with
  | cons r rr =>
    cases rr
    cases r
    rcases q with ⟨hq, q⟩ | ⟨hq, q⟩
    · obtain ⟨vs, rv, isL, _⟩ := I1.list hq
      refine call_enumerate_list isL.isList fun h' at_ it size keep => wpAny_pyIter_enum at_ ?_
      exact ⟨_, _, _, _, H1, rfl, I1.kept (t' := s1.toks) keep, turn_enum a (s1.heap.objs.size + 1) s1.heap.objs.size, ⟨⟨.none, at_⟩, it, Nat.succ_ne_self _⟩, fp, q⟩
    · obtain ⟨vs, rv, isT, _⟩ := I1.tuple hq
      refine begins isT fun h' at_ it size keep => wpAny_pyIter_enum at_ ?_
      exact ⟨_, _, _, _, H1, rfl, I1.kept (t' := s1.toks) keep, turn a (s1.heap.objs.size + 1) s1.heap.objs.size, ⟨⟨.none, at_⟩, it, Nat.succ_ne_self _⟩, fp, q⟩
theorem walk {K : PySem.W.Frag} {a : Addr} {xs : List V} : Walk (Etp K a) xs.length (fun H => SqT K H a xs) (YPair (fun i => some (.int (i : Nat))) (fun i => xs[i]?)) := by
  constructor
  · exact fun i _ hi q => ⟨xs, xs[i], q, by simp [hi]⟩
  · exact fun _ q => ⟨xs, q, Nat.le_refl _⟩
  · rintro i H v H' _ q ⟨p, x, h1, h2, h3, h4⟩
    exact ⟨p, .int (i : Nat), x, h1, h2, h3, rfl, h4 xs q⟩
/-- zip of two tuples -/
theorem walk_zipT {K : PySem.W.Frag} {a b : Addr} {xs ys : List V} {n : Nat} (hn : n = min xs.length ys.length) : Walk (RZ.ItzT K a b) n (fun H => SqT K H a xs ∧ SqT K H b ys) (YPair (fun i => xs[i]?) (fun i => ys[i]?)) := by
  subst hn
  constructor
  · intro i _ hi q
    exact ⟨xs, ys, xs[i]'(by omega), ys[i]'(by omega), q.1, q.2, List.getElem?_eq_getElem _, List.getElem?_eq_getElem _⟩
  · exact fun _ q => ⟨xs, ys, q.1, q.2, by omega⟩
  · rintro i H v H' _ q ⟨p, x, y, h1, h2, h3, h4, h5⟩
    exact ⟨p, x, y, h1, h2, h3, h4 xs q.1, h5 ys q.2⟩
end GE

namespace KX
open PySem L2
/-! ### the text by places -/
def top (i : Nat) : Stmt := PySem.Challenge.pw_exactbeats_k04_numbers_of_lines_and_copi.main.body.getD i (.Pass ⟨0, 0, 0, 0⟩)
abbrev s_BadArrivals___init__ : Stmt := inClass (top 5) 0
abbrev N_BadArrivals___init__ : List Str := ["self", "at"]
abbrev P_BadArrivals___init__ : List Str := ["self", "at"]
theorem sc_BadArrivals___init__ : FnScope N_BadArrivals___init__ P_BadArrivals___init__ (defScope s_BadArrivals___init__) := ⟨rfl, rfl, rfl, by decide +kernel, rfl, by decide +kernel, by decide +kernel⟩
abbrev s_is_integer : Stmt := top 7
abbrev N_is_integer : List Str := ["thing"]
abbrev P_is_integer : List Str := ["thing"]
theorem sc_is_integer : FnScope N_is_integer P_is_integer (defScope s_is_integer) := ⟨rfl, rfl, rfl, by decide +kernel, rfl, by decide +kernel, by decide +kernel⟩
abbrev s_is_integer_from : Stmt := top 8
abbrev N_is_integer_from : List Str := ["least", "greatest", "thing"]
abbrev P_is_integer_from : List Str := ["least", "greatest", "thing"]
theorem sc_is_integer_from : FnScope N_is_integer_from P_is_integer_from (defScope s_is_integer_from) := ⟨rfl, rfl, rfl, by decide +kernel, rfl, by decide +kernel, by decide +kernel⟩
abbrev s_is_number_below : Stmt := top 9
abbrev N_is_number_below : List Str := ["bound", "thing"]
abbrev P_is_number_below : List Str := ["bound", "thing"]
theorem sc_is_number_below : FnScope N_is_number_below P_is_number_below (defScope s_is_number_below) := ⟨rfl, rfl, rfl, by decide +kernel, rfl, by decide +kernel, by decide +kernel⟩
abbrev s_is_tuple_of : Stmt := top 10
abbrev N_is_tuple_of : List Str := ["many", "thing"]
abbrev P_is_tuple_of : List Str := ["many", "thing"]
theorem sc_is_tuple_of : FnScope N_is_tuple_of P_is_tuple_of (defScope s_is_tuple_of) := ⟨rfl, rfl, rfl, by decide +kernel, rfl, by decide +kernel, by decide +kernel⟩
abbrev s_is_lot_below : Stmt := top 11
abbrev N_is_lot_below : List Str := ["bound", "thing", "last", "item"]
abbrev P_is_lot_below : List Str := ["bound", "thing"]
theorem sc_is_lot_below : FnScope N_is_lot_below P_is_lot_below (defScope s_is_lot_below) := ⟨rfl, rfl, rfl, by decide +kernel, rfl, by decide +kernel, by decide +kernel⟩
abbrev s_check_lines : Stmt := top 19
abbrev N_check_lines : List Str := ["lines"]
abbrev P_check_lines : List Str := ["lines"]
theorem sc_check_lines : FnScope N_check_lines P_check_lines (defScope s_check_lines) := ⟨rfl, rfl, rfl, by decide +kernel, rfl, by decide +kernel, by decide +kernel⟩
abbrev s_check_most : Stmt := top 20
abbrev N_check_most : List Str := ["most"]
abbrev P_check_most : List Str := ["most"]
theorem sc_check_most : FnScope N_check_most P_check_most (defScope s_check_most) := ⟨rfl, rfl, rfl, by decide +kernel, rfl, by decide +kernel, by decide +kernel⟩
abbrev s_is_cell_number : Stmt := top 21
abbrev N_is_cell_number : List Str := ["thing"]
abbrev P_is_cell_number : List Str := ["thing"]
theorem sc_is_cell_number : FnScope N_is_cell_number P_is_cell_number (defScope s_is_cell_number) := ⟨rfl, rfl, rfl, by decide +kernel, rfl, by decide +kernel, by decide +kernel⟩
abbrev s_are_outs : Stmt := top 22
abbrev N_are_outs : List Str := ["lines", "most", "thing"]
abbrev P_are_outs : List Str := ["lines", "most", "thing"]
theorem sc_are_outs : FnScope N_are_outs P_are_outs (defScope s_are_outs) := ⟨rfl, rfl, rfl, by decide +kernel, rfl, by decide +kernel, by decide +kernel⟩
abbrev s_Cell___init__ : Stmt := inClass (top 23) 0
abbrev N_Cell___init__ : List Str := ["self", "number", "line", "stream", "kind", "outs"]
abbrev P_Cell___init__ : List Str := ["self", "number", "line", "stream", "kind", "outs"]
theorem sc_Cell___init__ : FnScope N_Cell___init__ P_Cell___init__ (defScope s_Cell___init__) := ⟨rfl, rfl, rfl, by decide +kernel, rfl, by decide +kernel, by decide +kernel⟩
abbrev s_Cell___eq__ : Stmt := inClass (top 23) 1
abbrev N_Cell___eq__ : List Str := ["self", "other"]
abbrev P_Cell___eq__ : List Str := ["self", "other"]
theorem sc_Cell___eq__ : FnScope N_Cell___eq__ P_Cell___eq__ (defScope s_Cell___eq__) := ⟨rfl, rfl, rfl, by decide +kernel, rfl, by decide +kernel, by decide +kernel⟩
abbrev s_is_arrival : Stmt := top 24
abbrev N_is_arrival : List Str := ["lines", "most", "thing", "stream", "kind", "outs"]
abbrev P_is_arrival : List Str := ["lines", "most", "thing"]
theorem sc_is_arrival : FnScope N_is_arrival P_is_arrival (defScope s_is_arrival) := ⟨rfl, rfl, rfl, by decide +kernel, rfl, by decide +kernel, by decide +kernel⟩
abbrev s_first_wrong_item : Stmt := top 25
abbrev N_first_wrong_item : List Str := ["lines", "most", "coming", "line", "item"]
abbrev P_first_wrong_item : List Str := ["lines", "most", "coming"]
theorem sc_first_wrong_item : FnScope N_first_wrong_item P_first_wrong_item (defScope s_first_wrong_item) := ⟨rfl, rfl, rfl, by decide +kernel, rfl, by decide +kernel, by decide +kernel⟩
abbrev s_arrivals_fault : Stmt := top 26
abbrev N_arrivals_fault : List Str := ["lines", "most", "thing", "beat", "coming", "line"]
abbrev P_arrivals_fault : List Str := ["lines", "most", "thing"]
theorem sc_arrivals_fault : FnScope N_arrivals_fault P_arrivals_fault (defScope s_arrivals_fault) := ⟨rfl, rfl, rfl, by decide +kernel, rfl, by decide +kernel, by decide +kernel⟩
abbrev s_is_arrivals : Stmt := top 27
abbrev N_is_arrivals : List Str := ["lines", "most", "thing"]
abbrev P_is_arrivals : List Str := ["lines", "most", "thing"]
theorem sc_is_arrivals : FnScope N_is_arrivals P_is_arrivals (defScope s_is_arrivals) := ⟨rfl, rfl, rfl, by decide +kernel, rfl, by decide +kernel, by decide +kernel⟩
abbrev s_cells : Stmt := top 28
abbrev N_cells : List Str := ["lines", "most", "arrivals", "fault", "beats", "number", "coming", "came", "line", "arrival", "stream", "kind", "outs"]
abbrev P_cells : List Str := ["lines", "most", "arrivals"]
theorem sc_cells : FnScope N_cells P_cells (defScope s_cells) := ⟨rfl, rfl, rfl, by decide +kernel, rfl, by decide +kernel, by decide +kernel⟩
abbrev s_law_hand : Stmt := top 30
abbrev N_law_hand : List Str := ["_law_script", "_law_given", "_law_cell"]
abbrev P_law_hand : List Str := ["_law_script"]
theorem sc_law_hand : FnScope N_law_hand P_law_hand (defScope s_law_hand) := ⟨rfl, rfl, rfl, by decide +kernel, rfl, by decide +kernel, by decide +kernel⟩
abbrev s_law_draw : Stmt := top 31
abbrev N_law_draw : List Str := ["_law_hand_here", "_law_many", "_law_cell", "_law_digit", "_law_number"]
abbrev P_law_draw : List Str := ["_law_hand_here", "_law_many"]
theorem sc_law_draw : FnScope N_law_draw P_law_draw (defScope s_law_draw) := ⟨rfl, rfl, rfl, by decide +kernel, rfl, by decide +kernel, by decide +kernel⟩
abbrev s_law_any : Stmt := top 32
abbrev N_law_any : List Str := ["_law_hand_here", "_law_some"]
abbrev P_law_any : List Str := ["_law_hand_here", "_law_some"]
theorem sc_law_any : FnScope N_law_any P_law_any (defScope s_law_any) := ⟨rfl, rfl, rfl, by decide +kernel, rfl, by decide +kernel, by decide +kernel⟩
abbrev s_law_is_int : Stmt := top 33
abbrev N_law_is_int : List Str := ["_law_thing", "_law_least", "_law_most"]
abbrev P_law_is_int : List Str := ["_law_thing", "_law_least", "_law_most"]
theorem sc_law_is_int : FnScope N_law_is_int P_law_is_int (defScope s_law_is_int) := ⟨rfl, rfl, rfl, by decide +kernel, rfl, by decide +kernel, by decide +kernel⟩
abbrev s_law_deep : Stmt := top 34
abbrev N_law_deep : List Str := ["_law_hand_here", "_law_thing", "_law_turn"]
abbrev P_law_deep : List Str := ["_law_hand_here"]
theorem sc_law_deep : FnScope N_law_deep P_law_deep (defScope s_law_deep) := ⟨rfl, rfl, rfl, by decide +kernel, rfl, by decide +kernel, by decide +kernel⟩
abbrev s_law_odd : Stmt := top 35
abbrev N_law_odd : List Str := ["_law_hand_here", "_law_other", "_law_some"]
abbrev P_law_odd : List Str := ["_law_hand_here", "_law_other"]
theorem sc_law_odd : FnScope N_law_odd P_law_odd (defScope s_law_odd) := ⟨rfl, rfl, rfl, by decide +kernel, rfl, by decide +kernel, by decide +kernel⟩
abbrev s_law_is_lot : Stmt := top 36
abbrev N_law_is_lot : List Str := ["_law_thing", "_law_many", "_law_one", "_law_other", "_law_item"]
abbrev P_law_is_lot : List Str := ["_law_thing", "_law_many"]
theorem sc_law_is_lot : FnScope N_law_is_lot P_law_is_lot (defScope s_law_is_lot) := ⟨rfl, rfl, rfl, by decide +kernel, rfl, by decide +kernel, by decide +kernel⟩
abbrev s_law_first : Stmt := top 37
abbrev N_law_first : List Str := ["_law_pairs", "_law_word_here", "_law_is_right"]
abbrev P_law_first : List Str := ["_law_pairs"]
theorem sc_law_first : FnScope N_law_first P_law_first (defScope s_law_first) := ⟨rfl, rfl, rfl, by decide +kernel, rfl, by decide +kernel, by decide +kernel⟩
abbrev s_law_outs : Stmt := top 38
abbrev N_law_outs : List Str := ["_law_hand_here", "_law_lines", "_law_most", "_law_turn"]
abbrev P_law_outs : List Str := ["_law_hand_here", "_law_lines", "_law_most"]
theorem sc_law_outs : FnScope N_law_outs P_law_outs (defScope s_law_outs) := ⟨rfl, rfl, rfl, by decide +kernel, rfl, by decide +kernel, by decide +kernel⟩
abbrev s_law_arrival : Stmt := top 39
abbrev N_law_arrival : List Str := ["_law_hand_here", "_law_lines", "_law_most", "_law_stream", "_law_kind"]
abbrev P_law_arrival : List Str := ["_law_hand_here", "_law_lines", "_law_most"]
theorem sc_law_arrival : FnScope N_law_arrival P_law_arrival (defScope s_law_arrival) := ⟨rfl, rfl, rfl, by decide +kernel, rfl, by decide +kernel, by decide +kernel⟩
abbrev s_law_arrivals : Stmt := top 40
abbrev N_law_arrivals : List Str := ["_law_hand_here", "_law_lines", "_law_most", "_law_beats", "_law_thick", "_law_found", "_law_beat", "_law_some", "_law_line"]
abbrev P_law_arrivals : List Str := ["_law_hand_here", "_law_lines", "_law_most", "_law_beats"]
theorem sc_law_arrivals : FnScope N_law_arrivals P_law_arrivals (defScope s_law_arrivals) := ⟨rfl, rfl, rfl, by decide +kernel, rfl, by decide +kernel, by decide +kernel⟩
abbrev s_law_sizes : Stmt := top 41
abbrev N_law_sizes : List Str := ["_law_hand_here"]
abbrev P_law_sizes : List Str := ["_law_hand_here"]
theorem sc_law_sizes : FnScope N_law_sizes P_law_sizes (defScope s_law_sizes) := ⟨rfl, rfl, rfl, by decide +kernel, rfl, by decide +kernel, by decide +kernel⟩
abbrev s_law_is_arrival : Stmt := top 42
abbrev N_law_is_arrival : List Str := ["_law_lines", "_law_most", "_law_thing"]
abbrev P_law_is_arrival : List Str := ["_law_lines", "_law_most", "_law_thing"]
theorem sc_law_is_arrival : FnScope N_law_is_arrival P_law_is_arrival (defScope s_law_is_arrival) := ⟨rfl, rfl, rfl, by decide +kernel, rfl, by decide +kernel, by decide +kernel⟩
abbrev s_law_wrong : Stmt := top 43
abbrev N_law_wrong : List Str := ["_law_lines", "_law_most", "_law_thing", "_law_beat", "_law_items", "_law_line", "_law_item"]
abbrev P_law_wrong : List Str := ["_law_lines", "_law_most", "_law_thing"]
theorem sc_law_wrong : FnScope N_law_wrong P_law_wrong (defScope s_law_wrong) := ⟨rfl, rfl, rfl, by decide +kernel, rfl, by decide +kernel, by decide +kernel⟩
abbrev s_law_word : Stmt := top 44
abbrev N_law_word : List Str := ["_law_call", "_law_word_here", "e", "_law_flags"]
abbrev P_law_word : List Str := ["_law_call"]
theorem sc_law_word : FnScope N_law_word P_law_word (defScope s_law_word) := ⟨rfl, rfl, rfl, by decide +kernel, rfl, by decide +kernel, by decide +kernel⟩
abbrev s_law : Stmt := top 45
abbrev N_law : List Str := ["_law_script", "_law_hand_here", "_law_turn", "_law_pairs", "_law_due", "_law_lines", "_law_most", "_law_thing"]
abbrev P_law : List Str := ["_law_script"]
theorem sc_law : FnScope N_law P_law (defScope s_law) := ⟨rfl, rfl, rfl, by decide +kernel, rfl, by decide +kernel, by decide +kernel⟩
/-! ### what the top has left -/
structure Adr where
  a_BadArrivals___init__ : Addr
  d_BadArrivals___init__ : FuncData
  a_is_integer : Addr
  d_is_integer : FuncData
  a_is_integer_from : Addr
  d_is_integer_from : FuncData
  a_is_number_below : Addr
  d_is_number_below : FuncData
  a_is_tuple_of : Addr
  d_is_tuple_of : FuncData
  a_is_lot_below : Addr
  d_is_lot_below : FuncData
  a_check_lines : Addr
  d_check_lines : FuncData
  a_check_most : Addr
  d_check_most : FuncData
  a_is_cell_number : Addr
  d_is_cell_number : FuncData
  a_are_outs : Addr
  d_are_outs : FuncData
  a_Cell___init__ : Addr
  d_Cell___init__ : FuncData
  a_Cell___eq__ : Addr
  d_Cell___eq__ : FuncData
  a_is_arrival : Addr
  d_is_arrival : FuncData
  a_first_wrong_item : Addr
  d_first_wrong_item : FuncData
  a_arrivals_fault : Addr
  d_arrivals_fault : FuncData
  a_is_arrivals : Addr
  d_is_arrivals : FuncData
  a_cells : Addr
  d_cells : FuncData
  a_law_hand : Addr
  d_law_hand : FuncData
  a_law_draw : Addr
  d_law_draw : FuncData
  a_law_any : Addr
  d_law_any : FuncData
  a_law_is_int : Addr
  d_law_is_int : FuncData
  a_law_deep : Addr
  d_law_deep : FuncData
  a_law_odd : Addr
  d_law_odd : FuncData
  a_law_is_lot : Addr
  d_law_is_lot : FuncData
  a_law_first : Addr
  d_law_first : FuncData
  a_law_outs : Addr
  d_law_outs : FuncData
  a_law_arrival : Addr
  d_law_arrival : FuncData
  a_law_arrivals : Addr
  d_law_arrivals : FuncData
  a_law_sizes : Addr
  d_law_sizes : FuncData
  a_law_is_arrival : Addr
  d_law_is_arrival : FuncData
  a_law_wrong : Addr
  d_law_wrong : FuncData
  a_law_word : Addr
  d_law_word : FuncData
  a_law : Addr
  d_law : FuncData
  c_Cell : Addr
  c_FabricError : Addr
  c_NoLines : Addr
  c_NoMost : Addr
  c_BadArrivals : Addr
  cd_law : Addr
  tb_law : Addr
structure Top (K : PySem.W.Frag) (mg : Str → Option Value) (A : Adr) : Prop where
  F_BadArrivals___init__ : Fun K "__init__" "BadArrivals.__init__" s_BadArrivals___init__ A.a_BadArrivals___init__ A.d_BadArrivals___init__
  b_BadArrivals___init__ : Binds K A.d_BadArrivals___init__ P_BadArrivals___init__ []
  F_is_integer : Fun K "is_integer" "is_integer" s_is_integer A.a_is_integer A.d_is_integer
  g_is_integer : mg "is_integer" = some (.ref A.a_is_integer)
  b_is_integer : Binds K A.d_is_integer P_is_integer []
  F_is_integer_from : Fun K "is_integer_from" "is_integer_from" s_is_integer_from A.a_is_integer_from A.d_is_integer_from
  g_is_integer_from : mg "is_integer_from" = some (.ref A.a_is_integer_from)
  b_is_integer_from : Binds K A.d_is_integer_from P_is_integer_from []
  F_is_number_below : Fun K "is_number_below" "is_number_below" s_is_number_below A.a_is_number_below A.d_is_number_below
  g_is_number_below : mg "is_number_below" = some (.ref A.a_is_number_below)
  b_is_number_below : Binds K A.d_is_number_below P_is_number_below []
  F_is_tuple_of : Fun K "is_tuple_of" "is_tuple_of" s_is_tuple_of A.a_is_tuple_of A.d_is_tuple_of
  g_is_tuple_of : mg "is_tuple_of" = some (.ref A.a_is_tuple_of)
  b_is_tuple_of : Binds K A.d_is_tuple_of P_is_tuple_of []
  F_is_lot_below : Fun K "is_lot_below" "is_lot_below" s_is_lot_below A.a_is_lot_below A.d_is_lot_below
  g_is_lot_below : mg "is_lot_below" = some (.ref A.a_is_lot_below)
  b_is_lot_below : Binds K A.d_is_lot_below P_is_lot_below []
  F_check_lines : Fun K "check_lines" "check_lines" s_check_lines A.a_check_lines A.d_check_lines
  g_check_lines : mg "check_lines" = some (.ref A.a_check_lines)
  b_check_lines : Binds K A.d_check_lines P_check_lines []
  F_check_most : Fun K "check_most" "check_most" s_check_most A.a_check_most A.d_check_most
  g_check_most : mg "check_most" = some (.ref A.a_check_most)
  b_check_most : Binds K A.d_check_most P_check_most []
  F_is_cell_number : Fun K "is_cell_number" "is_cell_number" s_is_cell_number A.a_is_cell_number A.d_is_cell_number
  g_is_cell_number : mg "is_cell_number" = some (.ref A.a_is_cell_number)
  b_is_cell_number : Binds K A.d_is_cell_number P_is_cell_number []
  F_are_outs : Fun K "are_outs" "are_outs" s_are_outs A.a_are_outs A.d_are_outs
  g_are_outs : mg "are_outs" = some (.ref A.a_are_outs)
  b_are_outs : Binds K A.d_are_outs P_are_outs []
  F_Cell___init__ : Fun K "__init__" "Cell.__init__" s_Cell___init__ A.a_Cell___init__ A.d_Cell___init__
  b_Cell___init__ : Binds K A.d_Cell___init__ P_Cell___init__ []
  F_Cell___eq__ : Fun K "__eq__" "Cell.__eq__" s_Cell___eq__ A.a_Cell___eq__ A.d_Cell___eq__
  b_Cell___eq__ : Binds K A.d_Cell___eq__ P_Cell___eq__ []
  F_is_arrival : Fun K "is_arrival" "is_arrival" s_is_arrival A.a_is_arrival A.d_is_arrival
  g_is_arrival : mg "is_arrival" = some (.ref A.a_is_arrival)
  b_is_arrival : Binds K A.d_is_arrival P_is_arrival []
  F_first_wrong_item : Fun K "first_wrong_item" "first_wrong_item" s_first_wrong_item A.a_first_wrong_item A.d_first_wrong_item
  g_first_wrong_item : mg "first_wrong_item" = some (.ref A.a_first_wrong_item)
  b_first_wrong_item : Binds K A.d_first_wrong_item P_first_wrong_item []
  F_arrivals_fault : Fun K "arrivals_fault" "arrivals_fault" s_arrivals_fault A.a_arrivals_fault A.d_arrivals_fault
  g_arrivals_fault : mg "arrivals_fault" = some (.ref A.a_arrivals_fault)
  b_arrivals_fault : Binds K A.d_arrivals_fault P_arrivals_fault []
  F_is_arrivals : Fun K "is_arrivals" "is_arrivals" s_is_arrivals A.a_is_arrivals A.d_is_arrivals
  g_is_arrivals : mg "is_arrivals" = some (.ref A.a_is_arrivals)
  b_is_arrivals : Binds K A.d_is_arrivals P_is_arrivals []
  F_cells : Fun K "cells" "cells" s_cells A.a_cells A.d_cells
  g_cells : mg "cells" = some (.ref A.a_cells)
  b_cells : Binds K A.d_cells P_cells []
  F_law_hand : Fun K "_law_hand" "_law_hand" s_law_hand A.a_law_hand A.d_law_hand
  g_law_hand : mg "_law_hand" = some (.ref A.a_law_hand)
  b_law_hand : Binds K A.d_law_hand P_law_hand []
  F_law_draw : Fun K "_law_draw" "_law_draw" s_law_draw A.a_law_draw A.d_law_draw
  g_law_draw : mg "_law_draw" = some (.ref A.a_law_draw)
  b_law_draw : Binds K A.d_law_draw P_law_draw []
  F_law_any : Fun K "_law_any" "_law_any" s_law_any A.a_law_any A.d_law_any
  g_law_any : mg "_law_any" = some (.ref A.a_law_any)
  b_law_any : Binds K A.d_law_any P_law_any []
  F_law_is_int : Fun K "_law_is_int" "_law_is_int" s_law_is_int A.a_law_is_int A.d_law_is_int
  g_law_is_int : mg "_law_is_int" = some (.ref A.a_law_is_int)
  b_law_is_int : Binds K A.d_law_is_int P_law_is_int []
  F_law_deep : Fun K "_law_deep" "_law_deep" s_law_deep A.a_law_deep A.d_law_deep
  g_law_deep : mg "_law_deep" = some (.ref A.a_law_deep)
  b_law_deep : Binds K A.d_law_deep P_law_deep []
  F_law_odd : Fun K "_law_odd" "_law_odd" s_law_odd A.a_law_odd A.d_law_odd
  g_law_odd : mg "_law_odd" = some (.ref A.a_law_odd)
  b_law_odd : Binds K A.d_law_odd P_law_odd []
  F_law_is_lot : Fun K "_law_is_lot" "_law_is_lot" s_law_is_lot A.a_law_is_lot A.d_law_is_lot
  g_law_is_lot : mg "_law_is_lot" = some (.ref A.a_law_is_lot)
  b_law_is_lot : Binds K A.d_law_is_lot P_law_is_lot []
  F_law_first : Fun K "_law_first" "_law_first" s_law_first A.a_law_first A.d_law_first
  g_law_first : mg "_law_first" = some (.ref A.a_law_first)
  b_law_first : Binds K A.d_law_first P_law_first []
  F_law_outs : Fun K "_law_outs" "_law_outs" s_law_outs A.a_law_outs A.d_law_outs
  g_law_outs : mg "_law_outs" = some (.ref A.a_law_outs)
  b_law_outs : Binds K A.d_law_outs P_law_outs []
  F_law_arrival : Fun K "_law_arrival" "_law_arrival" s_law_arrival A.a_law_arrival A.d_law_arrival
  g_law_arrival : mg "_law_arrival" = some (.ref A.a_law_arrival)
  b_law_arrival : Binds K A.d_law_arrival P_law_arrival []
  F_law_arrivals : Fun K "_law_arrivals" "_law_arrivals" s_law_arrivals A.a_law_arrivals A.d_law_arrivals
  g_law_arrivals : mg "_law_arrivals" = some (.ref A.a_law_arrivals)
  b_law_arrivals : Binds K A.d_law_arrivals P_law_arrivals []
  F_law_sizes : Fun K "_law_sizes" "_law_sizes" s_law_sizes A.a_law_sizes A.d_law_sizes
  g_law_sizes : mg "_law_sizes" = some (.ref A.a_law_sizes)
  b_law_sizes : Binds K A.d_law_sizes P_law_sizes []
  F_law_is_arrival : Fun K "_law_is_arrival" "_law_is_arrival" s_law_is_arrival A.a_law_is_arrival A.d_law_is_arrival
  g_law_is_arrival : mg "_law_is_arrival" = some (.ref A.a_law_is_arrival)
  b_law_is_arrival : Binds K A.d_law_is_arrival P_law_is_arrival []
  F_law_wrong : Fun K "_law_wrong" "_law_wrong" s_law_wrong A.a_law_wrong A.d_law_wrong
  g_law_wrong : mg "_law_wrong" = some (.ref A.a_law_wrong)
  b_law_wrong : Binds K A.d_law_wrong P_law_wrong []
  F_law_word : Fun K "_law_word" "_law_word" s_law_word A.a_law_word A.d_law_word
  g_law_word : mg "_law_word" = some (.ref A.a_law_word)
  b_law_word : Binds K A.d_law_word P_law_word []
  F_law : Fun K "law" "law" s_law A.a_law A.d_law
  g_law : mg "law" = some (.ref A.a_law)
  b_law : Binds K A.d_law P_law []
  cl_Cell : Cls K A.c_Cell
  gc_Cell : mg "Cell" = some (.ref A.c_Cell)
  mk_Cell : Mk K A.c_Cell A.a_Cell___init__
  m_Cell___eq__ : Meth K A.c_Cell "__eq__" A.a_Cell___eq__
  n_Cell_came_as : NoAttr K A.c_Cell "came_as"
  n_Cell_at_line : NoAttr K A.c_Cell "at_line"
  n_Cell_of_stream : NoAttr K A.c_Cell "of_stream"
  n_Cell_of_kind : NoAttr K A.c_Cell "of_kind"
  n_Cell_to_outs : NoAttr K A.c_Cell "to_outs"
  gc_FabricError : mg "FabricError" = some (.ref A.c_FabricError)
  gc_NoLines : mg "NoLines" = some (.ref A.c_NoLines)
  gc_NoMost : mg "NoMost" = some (.ref A.c_NoMost)
  gc_BadArrivals : mg "BadArrivals" = some (.ref A.c_BadArrivals)
  x_NoLines : PySem.W.excIn K A.c_NoLines [.type "ValueError", .type "Exception", .type "BaseException", .type "object"] "ValueError.__new__" = true
  kp_NoLines : PySem.W.keepIn K (.ref A.c_NoLines) = true
  s_NoLines : PySem.W.subIn K (.ref A.c_NoLines) (.type "BaseException") = some true
  t_NoLines : PySem.W.typeIn K (.ref A.c_NoLines) = some (.type "type")
  e1_NoLines : PySem.W.findIn K (.ref A.c_NoLines) "__getattribute__" = some (some (.builtin "BaseException.__getattribute__"))
  e2_NoLines : PySem.W.findIn K (.ref A.c_NoLines) "__getattr__" = some none
  e3_NoLines : PySem.W.hasDictIn K A.c_NoLines = true
  e4_NoLines : PySem.W.findIn K (.ref A.c_NoLines) "__class__" = some (some (.builtin "object.__class__"))
  e5_NoLines : PySem.W.mroIn K A.c_NoLines (.type "object") = some true
  x_NoMost : PySem.W.excIn K A.c_NoMost [.type "ValueError", .type "Exception", .type "BaseException", .type "object"] "ValueError.__new__" = true
  kp_NoMost : PySem.W.keepIn K (.ref A.c_NoMost) = true
  s_NoMost : PySem.W.subIn K (.ref A.c_NoMost) (.type "BaseException") = some true
  t_NoMost : PySem.W.typeIn K (.ref A.c_NoMost) = some (.type "type")
  e1_NoMost : PySem.W.findIn K (.ref A.c_NoMost) "__getattribute__" = some (some (.builtin "BaseException.__getattribute__"))
  e2_NoMost : PySem.W.findIn K (.ref A.c_NoMost) "__getattr__" = some none
  e3_NoMost : PySem.W.hasDictIn K A.c_NoMost = true
  e4_NoMost : PySem.W.findIn K (.ref A.c_NoMost) "__class__" = some (some (.builtin "object.__class__"))
  e5_NoMost : PySem.W.mroIn K A.c_NoMost (.type "object") = some true
  ox_BadArrivals : L2.OexC K A.c_BadArrivals
  xi_BadArrivals : PySem.W.findIn K (.ref A.c_BadArrivals) "__init__" = some (some (.ref A.a_BadArrivals___init__))
  xt_BadArrivals : PySem.W.typeIn K (.ref A.a_BadArrivals___init__) = some (.type "function")
  nf_BadArrivals_at : PySem.W.findIn K (.ref A.c_BadArrivals) "at" = some none
  kp_BadArrivals : PySem.W.keepIn K (.ref A.c_BadArrivals) = true
  s_BadArrivals : PySem.W.subIn K (.ref A.c_BadArrivals) (.type "BaseException") = some true
  t_BadArrivals : PySem.W.typeIn K (.ref A.c_BadArrivals) = some (.type "type")
  e1_BadArrivals : PySem.W.findIn K (.ref A.c_BadArrivals) "__getattribute__" = some (some (.builtin "BaseException.__getattribute__"))
  e2_BadArrivals : PySem.W.findIn K (.ref A.c_BadArrivals) "__getattr__" = some none
  e3_BadArrivals : PySem.W.hasDictIn K A.c_BadArrivals = true
  e4_BadArrivals : PySem.W.findIn K (.ref A.c_BadArrivals) "__class__" = some (some (.builtin "object.__class__"))
  e5_BadArrivals : PySem.W.mroIn K A.c_BadArrivals (.type "object") = some true
  ki_Cell_int : PySem.W.kitOne K (.ref A.c_Cell) (.type "int") = some false
  ki_Cell_bool : PySem.W.kitOne K (.ref A.c_Cell) (.type "bool") = some false
  ki_Cell_tuple : PySem.W.kitOne K (.ref A.c_Cell) (.type "tuple") = some false
  ci_Cell : PySem.W.findIn K (.ref A.c_Cell) "__class__" = some (some (.builtin "object.__class__"))
  em_Cell : PySem.W.mroIn K A.c_Cell (.type "object") = some true
  en1 : PySem.W.specialIn K (.builtin "object.__class__") "__get__" = some (some (.builtin "getset_descriptor.__get__"))
  en2 : PySem.W.takesIn K (.builtin "object.__class__") = some true
  kt_NoLines_FabricError : PySem.W.kitOne K (.ref A.c_NoLines) (.ref A.c_FabricError) = some true
  xm_NoLines_FabricError : PySem.W.exmOne K (.ref A.c_NoLines) (.ref A.c_FabricError) = some true
  kt_NoLines_ValueError : PySem.W.kitOne K (.ref A.c_NoLines) (.type "ValueError") = some true
  kt_NoLines_BadArrivals : PySem.W.kitOne K (.ref A.c_NoLines) (.ref A.c_BadArrivals) = some false
  xm_NoLines_BadArrivals : PySem.W.exmOne K (.ref A.c_NoLines) (.ref A.c_BadArrivals) = some false
  kt_NoLines_NoMost : PySem.W.kitOne K (.ref A.c_NoLines) (.ref A.c_NoMost) = some false
  xm_NoLines_NoMost : PySem.W.exmOne K (.ref A.c_NoLines) (.ref A.c_NoMost) = some false
  kt_NoLines_NoLines : PySem.W.kitOne K (.ref A.c_NoLines) (.ref A.c_NoLines) = some true
  xm_NoLines_NoLines : PySem.W.exmOne K (.ref A.c_NoLines) (.ref A.c_NoLines) = some true
  kt_NoMost_FabricError : PySem.W.kitOne K (.ref A.c_NoMost) (.ref A.c_FabricError) = some true
  xm_NoMost_FabricError : PySem.W.exmOne K (.ref A.c_NoMost) (.ref A.c_FabricError) = some true
  kt_NoMost_ValueError : PySem.W.kitOne K (.ref A.c_NoMost) (.type "ValueError") = some true
  kt_NoMost_BadArrivals : PySem.W.kitOne K (.ref A.c_NoMost) (.ref A.c_BadArrivals) = some false
  xm_NoMost_BadArrivals : PySem.W.exmOne K (.ref A.c_NoMost) (.ref A.c_BadArrivals) = some false
  kt_NoMost_NoMost : PySem.W.kitOne K (.ref A.c_NoMost) (.ref A.c_NoMost) = some true
  xm_NoMost_NoMost : PySem.W.exmOne K (.ref A.c_NoMost) (.ref A.c_NoMost) = some true
  kt_NoMost_NoLines : PySem.W.kitOne K (.ref A.c_NoMost) (.ref A.c_NoLines) = some false
  xm_NoMost_NoLines : PySem.W.exmOne K (.ref A.c_NoMost) (.ref A.c_NoLines) = some false
  kt_BadArrivals_FabricError : PySem.W.kitOne K (.ref A.c_BadArrivals) (.ref A.c_FabricError) = some true
  xm_BadArrivals_FabricError : PySem.W.exmOne K (.ref A.c_BadArrivals) (.ref A.c_FabricError) = some true
  kt_BadArrivals_ValueError : PySem.W.kitOne K (.ref A.c_BadArrivals) (.type "ValueError") = some true
  kt_BadArrivals_BadArrivals : PySem.W.kitOne K (.ref A.c_BadArrivals) (.ref A.c_BadArrivals) = some true
  xm_BadArrivals_BadArrivals : PySem.W.exmOne K (.ref A.c_BadArrivals) (.ref A.c_BadArrivals) = some true
  kt_BadArrivals_NoMost : PySem.W.kitOne K (.ref A.c_BadArrivals) (.ref A.c_NoMost) = some false
  xm_BadArrivals_NoMost : PySem.W.exmOne K (.ref A.c_BadArrivals) (.ref A.c_NoMost) = some false
  kt_BadArrivals_NoLines : PySem.W.kitOne K (.ref A.c_BadArrivals) (.ref A.c_NoLines) = some false
  xm_BadArrivals_NoLines : PySem.W.exmOne K (.ref A.c_BadArrivals) (.ref A.c_NoLines) = some false
  L_law : GX.FunC K "law" "law" s_law A.a_law A.d_law A.cd_law
  k_MOST_LINES : ∃ t, mg "MOST_LINES" = some (.int 12 t)
  k_MOST_COPIES : ∃ t, mg "MOST_COPIES" = some (.int 3 t)
  k_MOST_BEATS : ∃ t, mg "MOST_BEATS" = some (.int 200 t)
  k_STREAMS : ∃ t, mg "STREAMS" = some (.int 100 t)
  k_KINDS : ∃ t, mg "KINDS" = some (.int 8 t)
  k_GREATEST_CELL : ∃ t, mg "GREATEST_CELL" = some (.int 1000000000 t)
  z_ValueError : mg "ValueError" = none
  z_abs : mg "abs" = none
  z_all : mg "all" = none
  z_bool : mg "bool" = none
  z_enumerate : mg "enumerate" = none
  z_int : mg "int" = none
  z_isinstance : mg "isinstance" = none
  z_len : mg "len" = none
  z_range : mg "range" = none
  z_set : mg "set" = none
  z_sorted : mg "sorted" = none
  z_tuple : mg "tuple" = none
  z_zip : mg "zip" = none
abbrev qlam_law : Str := (("law" : Str) ++ (".<locals>." : Str)) ++ ("<lambda>" : Str)
structure Tbs (base : Heap) (mg : Str → Option Value) (A : Adr) : Prop where
  t_law : LamX.TabB base mg A.cd_law A.tb_law
theorem top_mk {l : PySem.W.OpenLaw} {w : World} {K : PySem.W.Frag} {h : Heap} {mg : Str → Option Value} (X : K.In h) (G : h.Ns mainGlobals mg)
    {f_BadArrivals___init__ : Addr} {od_BadArrivals___init__ an_BadArrivals___init__ : Option Addr} {sl_BadArrivals___init__ : Array (Option Value)} {oc_BadArrivals___init__ kV_BadArrivals___init__ dc_BadArrivals___init__ pm_BadArrivals___init__ cd_BadArrivals___init__ ct_BadArrivals___init__ : Value}
    {f_is_integer : Addr} {od_is_integer an_is_integer : Option Addr} {sl_is_integer : Array (Option Value)} {oc_is_integer kV_is_integer dc_is_integer pm_is_integer cd_is_integer ct_is_integer : Value}
    {f_is_integer_from : Addr} {od_is_integer_from an_is_integer_from : Option Addr} {sl_is_integer_from : Array (Option Value)} {oc_is_integer_from kV_is_integer_from dc_is_integer_from pm_is_integer_from cd_is_integer_from ct_is_integer_from : Value}
    {f_is_number_below : Addr} {od_is_number_below an_is_number_below : Option Addr} {sl_is_number_below : Array (Option Value)} {oc_is_number_below kV_is_number_below dc_is_number_below pm_is_number_below cd_is_number_below ct_is_number_below : Value}
    {f_is_tuple_of : Addr} {od_is_tuple_of an_is_tuple_of : Option Addr} {sl_is_tuple_of : Array (Option Value)} {oc_is_tuple_of kV_is_tuple_of dc_is_tuple_of pm_is_tuple_of cd_is_tuple_of ct_is_tuple_of : Value}
    {f_is_lot_below : Addr} {od_is_lot_below an_is_lot_below : Option Addr} {sl_is_lot_below : Array (Option Value)} {oc_is_lot_below kV_is_lot_below dc_is_lot_below pm_is_lot_below cd_is_lot_below ct_is_lot_below : Value}
    {f_check_lines : Addr} {od_check_lines an_check_lines : Option Addr} {sl_check_lines : Array (Option Value)} {oc_check_lines kV_check_lines dc_check_lines pm_check_lines cd_check_lines ct_check_lines : Value}
    {f_check_most : Addr} {od_check_most an_check_most : Option Addr} {sl_check_most : Array (Option Value)} {oc_check_most kV_check_most dc_check_most pm_check_most cd_check_most ct_check_most : Value}
    {f_is_cell_number : Addr} {od_is_cell_number an_is_cell_number : Option Addr} {sl_is_cell_number : Array (Option Value)} {oc_is_cell_number kV_is_cell_number dc_is_cell_number pm_is_cell_number cd_is_cell_number ct_is_cell_number : Value}
    {f_are_outs : Addr} {od_are_outs an_are_outs : Option Addr} {sl_are_outs : Array (Option Value)} {oc_are_outs kV_are_outs dc_are_outs pm_are_outs cd_are_outs ct_are_outs : Value}
    {f_Cell___init__ : Addr} {od_Cell___init__ an_Cell___init__ : Option Addr} {sl_Cell___init__ : Array (Option Value)} {oc_Cell___init__ kV_Cell___init__ dc_Cell___init__ pm_Cell___init__ cd_Cell___init__ ct_Cell___init__ : Value}
    {f_Cell___eq__ : Addr} {od_Cell___eq__ an_Cell___eq__ : Option Addr} {sl_Cell___eq__ : Array (Option Value)} {oc_Cell___eq__ kV_Cell___eq__ dc_Cell___eq__ pm_Cell___eq__ cd_Cell___eq__ ct_Cell___eq__ : Value}
    {f_is_arrival : Addr} {od_is_arrival an_is_arrival : Option Addr} {sl_is_arrival : Array (Option Value)} {oc_is_arrival kV_is_arrival dc_is_arrival pm_is_arrival cd_is_arrival ct_is_arrival : Value}
    {f_first_wrong_item : Addr} {od_first_wrong_item an_first_wrong_item : Option Addr} {sl_first_wrong_item : Array (Option Value)} {oc_first_wrong_item kV_first_wrong_item dc_first_wrong_item pm_first_wrong_item cd_first_wrong_item ct_first_wrong_item : Value}
    {f_arrivals_fault : Addr} {od_arrivals_fault an_arrivals_fault : Option Addr} {sl_arrivals_fault : Array (Option Value)} {oc_arrivals_fault kV_arrivals_fault dc_arrivals_fault pm_arrivals_fault cd_arrivals_fault ct_arrivals_fault : Value}
    {f_is_arrivals : Addr} {od_is_arrivals an_is_arrivals : Option Addr} {sl_is_arrivals : Array (Option Value)} {oc_is_arrivals kV_is_arrivals dc_is_arrivals pm_is_arrivals cd_is_arrivals ct_is_arrivals : Value}
    {f_cells : Addr} {od_cells an_cells : Option Addr} {sl_cells : Array (Option Value)} {oc_cells kV_cells dc_cells pm_cells cd_cells ct_cells : Value}
    {f_law_hand : Addr} {od_law_hand an_law_hand : Option Addr} {sl_law_hand : Array (Option Value)} {oc_law_hand kV_law_hand dc_law_hand pm_law_hand cd_law_hand ct_law_hand : Value}
    {f_law_draw : Addr} {od_law_draw an_law_draw : Option Addr} {sl_law_draw : Array (Option Value)} {oc_law_draw kV_law_draw dc_law_draw pm_law_draw cd_law_draw ct_law_draw : Value}
    {f_law_any : Addr} {od_law_any an_law_any : Option Addr} {sl_law_any : Array (Option Value)} {oc_law_any kV_law_any dc_law_any pm_law_any cd_law_any ct_law_any : Value}
    {f_law_is_int : Addr} {od_law_is_int an_law_is_int : Option Addr} {sl_law_is_int : Array (Option Value)} {oc_law_is_int kV_law_is_int dc_law_is_int pm_law_is_int cd_law_is_int ct_law_is_int : Value}
    {f_law_deep : Addr} {od_law_deep an_law_deep : Option Addr} {sl_law_deep : Array (Option Value)} {oc_law_deep kV_law_deep dc_law_deep pm_law_deep cd_law_deep ct_law_deep : Value}
    {f_law_odd : Addr} {od_law_odd an_law_odd : Option Addr} {sl_law_odd : Array (Option Value)} {oc_law_odd kV_law_odd dc_law_odd pm_law_odd cd_law_odd ct_law_odd : Value}
    {f_law_is_lot : Addr} {od_law_is_lot an_law_is_lot : Option Addr} {sl_law_is_lot : Array (Option Value)} {oc_law_is_lot kV_law_is_lot dc_law_is_lot pm_law_is_lot cd_law_is_lot ct_law_is_lot : Value}
    {f_law_first : Addr} {od_law_first an_law_first : Option Addr} {sl_law_first : Array (Option Value)} {oc_law_first kV_law_first dc_law_first pm_law_first cd_law_first ct_law_first : Value}
    {f_law_outs : Addr} {od_law_outs an_law_outs : Option Addr} {sl_law_outs : Array (Option Value)} {oc_law_outs kV_law_outs dc_law_outs pm_law_outs cd_law_outs ct_law_outs : Value}
    {f_law_arrival : Addr} {od_law_arrival an_law_arrival : Option Addr} {sl_law_arrival : Array (Option Value)} {oc_law_arrival kV_law_arrival dc_law_arrival pm_law_arrival cd_law_arrival ct_law_arrival : Value}
    {f_law_arrivals : Addr} {od_law_arrivals an_law_arrivals : Option Addr} {sl_law_arrivals : Array (Option Value)} {oc_law_arrivals kV_law_arrivals dc_law_arrivals pm_law_arrivals cd_law_arrivals ct_law_arrivals : Value}
    {f_law_sizes : Addr} {od_law_sizes an_law_sizes : Option Addr} {sl_law_sizes : Array (Option Value)} {oc_law_sizes kV_law_sizes dc_law_sizes pm_law_sizes cd_law_sizes ct_law_sizes : Value}
    {f_law_is_arrival : Addr} {od_law_is_arrival an_law_is_arrival : Option Addr} {sl_law_is_arrival : Array (Option Value)} {oc_law_is_arrival kV_law_is_arrival dc_law_is_arrival pm_law_is_arrival cd_law_is_arrival ct_law_is_arrival : Value}
    {f_law_wrong : Addr} {od_law_wrong an_law_wrong : Option Addr} {sl_law_wrong : Array (Option Value)} {oc_law_wrong kV_law_wrong dc_law_wrong pm_law_wrong cd_law_wrong ct_law_wrong : Value}
    {f_law_word : Addr} {od_law_word an_law_word : Option Addr} {sl_law_word : Array (Option Value)} {oc_law_word kV_law_word dc_law_word pm_law_word cd_law_word ct_law_word : Value}
    {f_law : Addr} {od_law an_law : Option Addr} {sl_law : Array (Option Value)} {oc_law kV_law dc_law pm_law ct_law : Value}
    {c_Cell : Addr}
    {c_FabricError : Addr}
    {c_NoLines : Addr}
    {c_NoMost : Addr}
    {c_BadArrivals : Addr}
    {co_law tb_law : Addr}
    {t_MOST_LINES : Tok}
    {t_MOST_COPIES : Tok}
    {t_MOST_BEATS : Tok}
    {t_STREAMS : Tok}
    {t_KINDS : Tok}
    {t_GREATEST_CELL : Tok}
    (ac_Cell : PySem.W.nsIn K mainGlobals "Cell" = some (some (.ref c_Cell)))
    (ac_FabricError : PySem.W.nsIn K mainGlobals "FabricError" = some (some (.ref c_FabricError)))
    (ac_NoLines : PySem.W.nsIn K mainGlobals "NoLines" = some (some (.ref c_NoLines)))
    (ac_NoMost : PySem.W.nsIn K mainGlobals "NoMost" = some (some (.ref c_NoMost)))
    (ac_BadArrivals : PySem.W.nsIn K mainGlobals "BadArrivals" = some (some (.ref c_BadArrivals)))
    (a_BadArrivals___init__ : PySem.W.findIn K (.ref c_BadArrivals) "__init__" = some (some (.ref f_BadArrivals___init__)))
    (i_BadArrivals___init__ : PySem.W.isFn K (.ref f_BadArrivals___init__) = true)
    (l_BadArrivals___init__ : K.lookup f_BadArrivals___init__ = some ⟨oc_BadArrivals___init__, od_BadArrivals___init__, .func (PySem.W.fnOf "__init__" "BadArrivals.__init__" (defArgs s_BadArrivals___init__) (defBody s_BadArrivals___init__) (defScope s_BadArrivals___init__) .none kV_BadArrivals___init__ dc_BadArrivals___init__ pm_BadArrivals___init__ an_BadArrivals___init__ cd_BadArrivals___init__ ct_BadArrivals___init__), sl_BadArrivals___init__⟩)
    (q_BadArrivals___init__ : PySem.W.codeIn K cd_BadArrivals___init__ "BadArrivals.__init__" = true)
    (p_BadArrivals___init__ : PySem.W.keepIn K (.ref f_BadArrivals___init__) = true)
    (a_is_integer : PySem.W.nsIn K mainGlobals "is_integer" = some (some (.ref f_is_integer)))
    (l_is_integer : K.lookup f_is_integer = some ⟨oc_is_integer, od_is_integer, .func (PySem.W.fnOf "is_integer" "is_integer" (defArgs s_is_integer) (defBody s_is_integer) (defScope s_is_integer) .none kV_is_integer dc_is_integer pm_is_integer an_is_integer cd_is_integer ct_is_integer), sl_is_integer⟩)
    (q_is_integer : PySem.W.codeIn K cd_is_integer "is_integer" = true)
    (p_is_integer : PySem.W.keepIn K (.ref f_is_integer) = true)
    (a_is_integer_from : PySem.W.nsIn K mainGlobals "is_integer_from" = some (some (.ref f_is_integer_from)))
    (l_is_integer_from : K.lookup f_is_integer_from = some ⟨oc_is_integer_from, od_is_integer_from, .func (PySem.W.fnOf "is_integer_from" "is_integer_from" (defArgs s_is_integer_from) (defBody s_is_integer_from) (defScope s_is_integer_from) .none kV_is_integer_from dc_is_integer_from pm_is_integer_from an_is_integer_from cd_is_integer_from ct_is_integer_from), sl_is_integer_from⟩)
    (q_is_integer_from : PySem.W.codeIn K cd_is_integer_from "is_integer_from" = true)
    (p_is_integer_from : PySem.W.keepIn K (.ref f_is_integer_from) = true)
    (a_is_number_below : PySem.W.nsIn K mainGlobals "is_number_below" = some (some (.ref f_is_number_below)))
    (l_is_number_below : K.lookup f_is_number_below = some ⟨oc_is_number_below, od_is_number_below, .func (PySem.W.fnOf "is_number_below" "is_number_below" (defArgs s_is_number_below) (defBody s_is_number_below) (defScope s_is_number_below) .none kV_is_number_below dc_is_number_below pm_is_number_below an_is_number_below cd_is_number_below ct_is_number_below), sl_is_number_below⟩)
    (q_is_number_below : PySem.W.codeIn K cd_is_number_below "is_number_below" = true)
    (p_is_number_below : PySem.W.keepIn K (.ref f_is_number_below) = true)
    (a_is_tuple_of : PySem.W.nsIn K mainGlobals "is_tuple_of" = some (some (.ref f_is_tuple_of)))
    (l_is_tuple_of : K.lookup f_is_tuple_of = some ⟨oc_is_tuple_of, od_is_tuple_of, .func (PySem.W.fnOf "is_tuple_of" "is_tuple_of" (defArgs s_is_tuple_of) (defBody s_is_tuple_of) (defScope s_is_tuple_of) .none kV_is_tuple_of dc_is_tuple_of pm_is_tuple_of an_is_tuple_of cd_is_tuple_of ct_is_tuple_of), sl_is_tuple_of⟩)
    (q_is_tuple_of : PySem.W.codeIn K cd_is_tuple_of "is_tuple_of" = true)
    (p_is_tuple_of : PySem.W.keepIn K (.ref f_is_tuple_of) = true)
    (a_is_lot_below : PySem.W.nsIn K mainGlobals "is_lot_below" = some (some (.ref f_is_lot_below)))
    (l_is_lot_below : K.lookup f_is_lot_below = some ⟨oc_is_lot_below, od_is_lot_below, .func (PySem.W.fnOf "is_lot_below" "is_lot_below" (defArgs s_is_lot_below) (defBody s_is_lot_below) (defScope s_is_lot_below) .none kV_is_lot_below dc_is_lot_below pm_is_lot_below an_is_lot_below cd_is_lot_below ct_is_lot_below), sl_is_lot_below⟩)
    (q_is_lot_below : PySem.W.codeIn K cd_is_lot_below "is_lot_below" = true)
    (p_is_lot_below : PySem.W.keepIn K (.ref f_is_lot_below) = true)
    (a_check_lines : PySem.W.nsIn K mainGlobals "check_lines" = some (some (.ref f_check_lines)))
    (l_check_lines : K.lookup f_check_lines = some ⟨oc_check_lines, od_check_lines, .func (PySem.W.fnOf "check_lines" "check_lines" (defArgs s_check_lines) (defBody s_check_lines) (defScope s_check_lines) .none kV_check_lines dc_check_lines pm_check_lines an_check_lines cd_check_lines ct_check_lines), sl_check_lines⟩)
    (q_check_lines : PySem.W.codeIn K cd_check_lines "check_lines" = true)
    (p_check_lines : PySem.W.keepIn K (.ref f_check_lines) = true)
    (a_check_most : PySem.W.nsIn K mainGlobals "check_most" = some (some (.ref f_check_most)))
    (l_check_most : K.lookup f_check_most = some ⟨oc_check_most, od_check_most, .func (PySem.W.fnOf "check_most" "check_most" (defArgs s_check_most) (defBody s_check_most) (defScope s_check_most) .none kV_check_most dc_check_most pm_check_most an_check_most cd_check_most ct_check_most), sl_check_most⟩)
    (q_check_most : PySem.W.codeIn K cd_check_most "check_most" = true)
    (p_check_most : PySem.W.keepIn K (.ref f_check_most) = true)
    (a_is_cell_number : PySem.W.nsIn K mainGlobals "is_cell_number" = some (some (.ref f_is_cell_number)))
    (l_is_cell_number : K.lookup f_is_cell_number = some ⟨oc_is_cell_number, od_is_cell_number, .func (PySem.W.fnOf "is_cell_number" "is_cell_number" (defArgs s_is_cell_number) (defBody s_is_cell_number) (defScope s_is_cell_number) .none kV_is_cell_number dc_is_cell_number pm_is_cell_number an_is_cell_number cd_is_cell_number ct_is_cell_number), sl_is_cell_number⟩)
    (q_is_cell_number : PySem.W.codeIn K cd_is_cell_number "is_cell_number" = true)
    (p_is_cell_number : PySem.W.keepIn K (.ref f_is_cell_number) = true)
    (a_are_outs : PySem.W.nsIn K mainGlobals "are_outs" = some (some (.ref f_are_outs)))
    (l_are_outs : K.lookup f_are_outs = some ⟨oc_are_outs, od_are_outs, .func (PySem.W.fnOf "are_outs" "are_outs" (defArgs s_are_outs) (defBody s_are_outs) (defScope s_are_outs) .none kV_are_outs dc_are_outs pm_are_outs an_are_outs cd_are_outs ct_are_outs), sl_are_outs⟩)
    (q_are_outs : PySem.W.codeIn K cd_are_outs "are_outs" = true)
    (p_are_outs : PySem.W.keepIn K (.ref f_are_outs) = true)
    (a_Cell___init__ : PySem.W.findIn K (.ref c_Cell) "__init__" = some (some (.ref f_Cell___init__)))
    (i_Cell___init__ : PySem.W.isFn K (.ref f_Cell___init__) = true)
    (l_Cell___init__ : K.lookup f_Cell___init__ = some ⟨oc_Cell___init__, od_Cell___init__, .func (PySem.W.fnOf "__init__" "Cell.__init__" (defArgs s_Cell___init__) (defBody s_Cell___init__) (defScope s_Cell___init__) .none kV_Cell___init__ dc_Cell___init__ pm_Cell___init__ an_Cell___init__ cd_Cell___init__ ct_Cell___init__), sl_Cell___init__⟩)
    (q_Cell___init__ : PySem.W.codeIn K cd_Cell___init__ "Cell.__init__" = true)
    (p_Cell___init__ : PySem.W.keepIn K (.ref f_Cell___init__) = true)
    (a_Cell___eq__ : PySem.W.findIn K (.ref c_Cell) "__eq__" = some (some (.ref f_Cell___eq__)))
    (i_Cell___eq__ : PySem.W.isFn K (.ref f_Cell___eq__) = true)
    (l_Cell___eq__ : K.lookup f_Cell___eq__ = some ⟨oc_Cell___eq__, od_Cell___eq__, .func (PySem.W.fnOf "__eq__" "Cell.__eq__" (defArgs s_Cell___eq__) (defBody s_Cell___eq__) (defScope s_Cell___eq__) .none kV_Cell___eq__ dc_Cell___eq__ pm_Cell___eq__ an_Cell___eq__ cd_Cell___eq__ ct_Cell___eq__), sl_Cell___eq__⟩)
    (q_Cell___eq__ : PySem.W.codeIn K cd_Cell___eq__ "Cell.__eq__" = true)
    (p_Cell___eq__ : PySem.W.keepIn K (.ref f_Cell___eq__) = true)
    (a_is_arrival : PySem.W.nsIn K mainGlobals "is_arrival" = some (some (.ref f_is_arrival)))
    (l_is_arrival : K.lookup f_is_arrival = some ⟨oc_is_arrival, od_is_arrival, .func (PySem.W.fnOf "is_arrival" "is_arrival" (defArgs s_is_arrival) (defBody s_is_arrival) (defScope s_is_arrival) .none kV_is_arrival dc_is_arrival pm_is_arrival an_is_arrival cd_is_arrival ct_is_arrival), sl_is_arrival⟩)
    (q_is_arrival : PySem.W.codeIn K cd_is_arrival "is_arrival" = true)
    (p_is_arrival : PySem.W.keepIn K (.ref f_is_arrival) = true)
    (a_first_wrong_item : PySem.W.nsIn K mainGlobals "first_wrong_item" = some (some (.ref f_first_wrong_item)))
    (l_first_wrong_item : K.lookup f_first_wrong_item = some ⟨oc_first_wrong_item, od_first_wrong_item, .func (PySem.W.fnOf "first_wrong_item" "first_wrong_item" (defArgs s_first_wrong_item) (defBody s_first_wrong_item) (defScope s_first_wrong_item) .none kV_first_wrong_item dc_first_wrong_item pm_first_wrong_item an_first_wrong_item cd_first_wrong_item ct_first_wrong_item), sl_first_wrong_item⟩)
    (q_first_wrong_item : PySem.W.codeIn K cd_first_wrong_item "first_wrong_item" = true)
    (p_first_wrong_item : PySem.W.keepIn K (.ref f_first_wrong_item) = true)
    (a_arrivals_fault : PySem.W.nsIn K mainGlobals "arrivals_fault" = some (some (.ref f_arrivals_fault)))
    (l_arrivals_fault : K.lookup f_arrivals_fault = some ⟨oc_arrivals_fault, od_arrivals_fault, .func (PySem.W.fnOf "arrivals_fault" "arrivals_fault" (defArgs s_arrivals_fault) (defBody s_arrivals_fault) (defScope s_arrivals_fault) .none kV_arrivals_fault dc_arrivals_fault pm_arrivals_fault an_arrivals_fault cd_arrivals_fault ct_arrivals_fault), sl_arrivals_fault⟩)
    (q_arrivals_fault : PySem.W.codeIn K cd_arrivals_fault "arrivals_fault" = true)
    (p_arrivals_fault : PySem.W.keepIn K (.ref f_arrivals_fault) = true)
    (a_is_arrivals : PySem.W.nsIn K mainGlobals "is_arrivals" = some (some (.ref f_is_arrivals)))
    (l_is_arrivals : K.lookup f_is_arrivals = some ⟨oc_is_arrivals, od_is_arrivals, .func (PySem.W.fnOf "is_arrivals" "is_arrivals" (defArgs s_is_arrivals) (defBody s_is_arrivals) (defScope s_is_arrivals) .none kV_is_arrivals dc_is_arrivals pm_is_arrivals an_is_arrivals cd_is_arrivals ct_is_arrivals), sl_is_arrivals⟩)
    (q_is_arrivals : PySem.W.codeIn K cd_is_arrivals "is_arrivals" = true)
    (p_is_arrivals : PySem.W.keepIn K (.ref f_is_arrivals) = true)
    (a_cells : PySem.W.nsIn K mainGlobals "cells" = some (some (.ref f_cells)))
    (l_cells : K.lookup f_cells = some ⟨oc_cells, od_cells, .func (PySem.W.fnOf "cells" "cells" (defArgs s_cells) (defBody s_cells) (defScope s_cells) .none kV_cells dc_cells pm_cells an_cells cd_cells ct_cells), sl_cells⟩)
    (q_cells : PySem.W.codeIn K cd_cells "cells" = true)
    (p_cells : PySem.W.keepIn K (.ref f_cells) = true)
    (a_law_hand : PySem.W.nsIn K mainGlobals "_law_hand" = some (some (.ref f_law_hand)))
    (l_law_hand : K.lookup f_law_hand = some ⟨oc_law_hand, od_law_hand, .func (PySem.W.fnOf "_law_hand" "_law_hand" (defArgs s_law_hand) (defBody s_law_hand) (defScope s_law_hand) .none kV_law_hand dc_law_hand pm_law_hand an_law_hand cd_law_hand ct_law_hand), sl_law_hand⟩)
    (q_law_hand : PySem.W.codeIn K cd_law_hand "_law_hand" = true)
    (p_law_hand : PySem.W.keepIn K (.ref f_law_hand) = true)
    (a_law_draw : PySem.W.nsIn K mainGlobals "_law_draw" = some (some (.ref f_law_draw)))
    (l_law_draw : K.lookup f_law_draw = some ⟨oc_law_draw, od_law_draw, .func (PySem.W.fnOf "_law_draw" "_law_draw" (defArgs s_law_draw) (defBody s_law_draw) (defScope s_law_draw) .none kV_law_draw dc_law_draw pm_law_draw an_law_draw cd_law_draw ct_law_draw), sl_law_draw⟩)
    (q_law_draw : PySem.W.codeIn K cd_law_draw "_law_draw" = true)
    (p_law_draw : PySem.W.keepIn K (.ref f_law_draw) = true)
    (a_law_any : PySem.W.nsIn K mainGlobals "_law_any" = some (some (.ref f_law_any)))
    (l_law_any : K.lookup f_law_any = some ⟨oc_law_any, od_law_any, .func (PySem.W.fnOf "_law_any" "_law_any" (defArgs s_law_any) (defBody s_law_any) (defScope s_law_any) .none kV_law_any dc_law_any pm_law_any an_law_any cd_law_any ct_law_any), sl_law_any⟩)
    (q_law_any : PySem.W.codeIn K cd_law_any "_law_any" = true)
    (p_law_any : PySem.W.keepIn K (.ref f_law_any) = true)
    (a_law_is_int : PySem.W.nsIn K mainGlobals "_law_is_int" = some (some (.ref f_law_is_int)))
    (l_law_is_int : K.lookup f_law_is_int = some ⟨oc_law_is_int, od_law_is_int, .func (PySem.W.fnOf "_law_is_int" "_law_is_int" (defArgs s_law_is_int) (defBody s_law_is_int) (defScope s_law_is_int) .none kV_law_is_int dc_law_is_int pm_law_is_int an_law_is_int cd_law_is_int ct_law_is_int), sl_law_is_int⟩)
    (q_law_is_int : PySem.W.codeIn K cd_law_is_int "_law_is_int" = true)
    (p_law_is_int : PySem.W.keepIn K (.ref f_law_is_int) = true)
    (a_law_deep : PySem.W.nsIn K mainGlobals "_law_deep" = some (some (.ref f_law_deep)))
    (l_law_deep : K.lookup f_law_deep = some ⟨oc_law_deep, od_law_deep, .func (PySem.W.fnOf "_law_deep" "_law_deep" (defArgs s_law_deep) (defBody s_law_deep) (defScope s_law_deep) .none kV_law_deep dc_law_deep pm_law_deep an_law_deep cd_law_deep ct_law_deep), sl_law_deep⟩)
    (q_law_deep : PySem.W.codeIn K cd_law_deep "_law_deep" = true)
    (p_law_deep : PySem.W.keepIn K (.ref f_law_deep) = true)
    (a_law_odd : PySem.W.nsIn K mainGlobals "_law_odd" = some (some (.ref f_law_odd)))
    (l_law_odd : K.lookup f_law_odd = some ⟨oc_law_odd, od_law_odd, .func (PySem.W.fnOf "_law_odd" "_law_odd" (defArgs s_law_odd) (defBody s_law_odd) (defScope s_law_odd) .none kV_law_odd dc_law_odd pm_law_odd an_law_odd cd_law_odd ct_law_odd), sl_law_odd⟩)
    (q_law_odd : PySem.W.codeIn K cd_law_odd "_law_odd" = true)
    (p_law_odd : PySem.W.keepIn K (.ref f_law_odd) = true)
    (a_law_is_lot : PySem.W.nsIn K mainGlobals "_law_is_lot" = some (some (.ref f_law_is_lot)))
    (l_law_is_lot : K.lookup f_law_is_lot = some ⟨oc_law_is_lot, od_law_is_lot, .func (PySem.W.fnOf "_law_is_lot" "_law_is_lot" (defArgs s_law_is_lot) (defBody s_law_is_lot) (defScope s_law_is_lot) .none kV_law_is_lot dc_law_is_lot pm_law_is_lot an_law_is_lot cd_law_is_lot ct_law_is_lot), sl_law_is_lot⟩)
    (q_law_is_lot : PySem.W.codeIn K cd_law_is_lot "_law_is_lot" = true)
    (p_law_is_lot : PySem.W.keepIn K (.ref f_law_is_lot) = true)
    (a_law_first : PySem.W.nsIn K mainGlobals "_law_first" = some (some (.ref f_law_first)))
    (l_law_first : K.lookup f_law_first = some ⟨oc_law_first, od_law_first, .func (PySem.W.fnOf "_law_first" "_law_first" (defArgs s_law_first) (defBody s_law_first) (defScope s_law_first) .none kV_law_first dc_law_first pm_law_first an_law_first cd_law_first ct_law_first), sl_law_first⟩)
    (q_law_first : PySem.W.codeIn K cd_law_first "_law_first" = true)
    (p_law_first : PySem.W.keepIn K (.ref f_law_first) = true)
    (a_law_outs : PySem.W.nsIn K mainGlobals "_law_outs" = some (some (.ref f_law_outs)))
    (l_law_outs : K.lookup f_law_outs = some ⟨oc_law_outs, od_law_outs, .func (PySem.W.fnOf "_law_outs" "_law_outs" (defArgs s_law_outs) (defBody s_law_outs) (defScope s_law_outs) .none kV_law_outs dc_law_outs pm_law_outs an_law_outs cd_law_outs ct_law_outs), sl_law_outs⟩)
    (q_law_outs : PySem.W.codeIn K cd_law_outs "_law_outs" = true)
    (p_law_outs : PySem.W.keepIn K (.ref f_law_outs) = true)
    (a_law_arrival : PySem.W.nsIn K mainGlobals "_law_arrival" = some (some (.ref f_law_arrival)))
    (l_law_arrival : K.lookup f_law_arrival = some ⟨oc_law_arrival, od_law_arrival, .func (PySem.W.fnOf "_law_arrival" "_law_arrival" (defArgs s_law_arrival) (defBody s_law_arrival) (defScope s_law_arrival) .none kV_law_arrival dc_law_arrival pm_law_arrival an_law_arrival cd_law_arrival ct_law_arrival), sl_law_arrival⟩)
    (q_law_arrival : PySem.W.codeIn K cd_law_arrival "_law_arrival" = true)
    (p_law_arrival : PySem.W.keepIn K (.ref f_law_arrival) = true)
    (a_law_arrivals : PySem.W.nsIn K mainGlobals "_law_arrivals" = some (some (.ref f_law_arrivals)))
    (l_law_arrivals : K.lookup f_law_arrivals = some ⟨oc_law_arrivals, od_law_arrivals, .func (PySem.W.fnOf "_law_arrivals" "_law_arrivals" (defArgs s_law_arrivals) (defBody s_law_arrivals) (defScope s_law_arrivals) .none kV_law_arrivals dc_law_arrivals pm_law_arrivals an_law_arrivals cd_law_arrivals ct_law_arrivals), sl_law_arrivals⟩)
    (q_law_arrivals : PySem.W.codeIn K cd_law_arrivals "_law_arrivals" = true)
    (p_law_arrivals : PySem.W.keepIn K (.ref f_law_arrivals) = true)
    (a_law_sizes : PySem.W.nsIn K mainGlobals "_law_sizes" = some (some (.ref f_law_sizes)))
    (l_law_sizes : K.lookup f_law_sizes = some ⟨oc_law_sizes, od_law_sizes, .func (PySem.W.fnOf "_law_sizes" "_law_sizes" (defArgs s_law_sizes) (defBody s_law_sizes) (defScope s_law_sizes) .none kV_law_sizes dc_law_sizes pm_law_sizes an_law_sizes cd_law_sizes ct_law_sizes), sl_law_sizes⟩)
    (q_law_sizes : PySem.W.codeIn K cd_law_sizes "_law_sizes" = true)
    (p_law_sizes : PySem.W.keepIn K (.ref f_law_sizes) = true)
    (a_law_is_arrival : PySem.W.nsIn K mainGlobals "_law_is_arrival" = some (some (.ref f_law_is_arrival)))
    (l_law_is_arrival : K.lookup f_law_is_arrival = some ⟨oc_law_is_arrival, od_law_is_arrival, .func (PySem.W.fnOf "_law_is_arrival" "_law_is_arrival" (defArgs s_law_is_arrival) (defBody s_law_is_arrival) (defScope s_law_is_arrival) .none kV_law_is_arrival dc_law_is_arrival pm_law_is_arrival an_law_is_arrival cd_law_is_arrival ct_law_is_arrival), sl_law_is_arrival⟩)
    (q_law_is_arrival : PySem.W.codeIn K cd_law_is_arrival "_law_is_arrival" = true)
    (p_law_is_arrival : PySem.W.keepIn K (.ref f_law_is_arrival) = true)
    (a_law_wrong : PySem.W.nsIn K mainGlobals "_law_wrong" = some (some (.ref f_law_wrong)))
    (l_law_wrong : K.lookup f_law_wrong = some ⟨oc_law_wrong, od_law_wrong, .func (PySem.W.fnOf "_law_wrong" "_law_wrong" (defArgs s_law_wrong) (defBody s_law_wrong) (defScope s_law_wrong) .none kV_law_wrong dc_law_wrong pm_law_wrong an_law_wrong cd_law_wrong ct_law_wrong), sl_law_wrong⟩)
    (q_law_wrong : PySem.W.codeIn K cd_law_wrong "_law_wrong" = true)
    (p_law_wrong : PySem.W.keepIn K (.ref f_law_wrong) = true)
    (a_law_word : PySem.W.nsIn K mainGlobals "_law_word" = some (some (.ref f_law_word)))
    (l_law_word : K.lookup f_law_word = some ⟨oc_law_word, od_law_word, .func (PySem.W.fnOf "_law_word" "_law_word" (defArgs s_law_word) (defBody s_law_word) (defScope s_law_word) .none kV_law_word dc_law_word pm_law_word an_law_word cd_law_word ct_law_word), sl_law_word⟩)
    (q_law_word : PySem.W.codeIn K cd_law_word "_law_word" = true)
    (p_law_word : PySem.W.keepIn K (.ref f_law_word) = true)
    (a_law : PySem.W.nsIn K mainGlobals "law" = some (some (.ref f_law)))
    (l_law : K.lookup f_law = some ⟨oc_law, od_law, .func (PySem.W.fnOf "law" "law" (defArgs s_law) (defBody s_law) (defScope s_law) .none kV_law dc_law pm_law an_law (.ref co_law) ct_law), sl_law⟩)
    (q_law : PySem.W.codeIn K (.ref co_law) "law" = true)
    (p_law : PySem.W.keepIn K (.ref f_law) = true)
    (pg_Cell : PySem.W.plainGet K c_Cell Str.empty = true)
    (hd_Cell : PySem.W.hasDictIn K c_Cell = true)
    (po_Cell : PySem.W.plainOver K c_Cell = true)
    (sa_Cell : PySem.W.findIn K (.ref c_Cell) "__setattr__" = some (some (.builtin "object.__setattr__")))
    (mk_Cell : PySem.W.makesIn K c_Cell = true)
    (kc_Cell : PySem.W.keepIn K (.ref c_Cell) = true)
    (n_Cell_came_as : PySem.W.findIn K (.ref c_Cell) "came_as" = some none)
    (n_Cell_at_line : PySem.W.findIn K (.ref c_Cell) "at_line" = some none)
    (n_Cell_of_stream : PySem.W.findIn K (.ref c_Cell) "of_stream" = some none)
    (n_Cell_of_kind : PySem.W.findIn K (.ref c_Cell) "of_kind" = some none)
    (n_Cell_to_outs : PySem.W.findIn K (.ref c_Cell) "to_outs" = some none)
    (x_NoLines : PySem.W.excIn K c_NoLines [.type "ValueError", .type "Exception", .type "BaseException", .type "object"] "ValueError.__new__" = true)
    (kp_NoLines : PySem.W.keepIn K (.ref c_NoLines) = true)
    (s_NoLines : PySem.W.subIn K (.ref c_NoLines) (.type "BaseException") = some true)
    (t_NoLines : PySem.W.typeIn K (.ref c_NoLines) = some (.type "type"))
    (e1_NoLines : PySem.W.findIn K (.ref c_NoLines) "__getattribute__" = some (some (.builtin "BaseException.__getattribute__")))
    (e2_NoLines : PySem.W.findIn K (.ref c_NoLines) "__getattr__" = some none)
    (e3_NoLines : PySem.W.hasDictIn K c_NoLines = true)
    (e4_NoLines : PySem.W.findIn K (.ref c_NoLines) "__class__" = some (some (.builtin "object.__class__")))
    (e5_NoLines : PySem.W.mroIn K c_NoLines (.type "object") = some true)
    (x_NoMost : PySem.W.excIn K c_NoMost [.type "ValueError", .type "Exception", .type "BaseException", .type "object"] "ValueError.__new__" = true)
    (kp_NoMost : PySem.W.keepIn K (.ref c_NoMost) = true)
    (s_NoMost : PySem.W.subIn K (.ref c_NoMost) (.type "BaseException") = some true)
    (t_NoMost : PySem.W.typeIn K (.ref c_NoMost) = some (.type "type"))
    (e1_NoMost : PySem.W.findIn K (.ref c_NoMost) "__getattribute__" = some (some (.builtin "BaseException.__getattribute__")))
    (e2_NoMost : PySem.W.findIn K (.ref c_NoMost) "__getattr__" = some none)
    (e3_NoMost : PySem.W.hasDictIn K c_NoMost = true)
    (e4_NoMost : PySem.W.findIn K (.ref c_NoMost) "__class__" = some (some (.builtin "object.__class__")))
    (e5_NoMost : PySem.W.mroIn K c_NoMost (.type "object") = some true)
    (xt_BadArrivals : PySem.W.typeIn K (.ref f_BadArrivals___init__) = some (.type "function"))
    (nf_BadArrivals_at : PySem.W.findIn K (.ref c_BadArrivals) "at" = some none)
    (kp_BadArrivals : PySem.W.keepIn K (.ref c_BadArrivals) = true)
    (s_BadArrivals : PySem.W.subIn K (.ref c_BadArrivals) (.type "BaseException") = some true)
    (t_BadArrivals : PySem.W.typeIn K (.ref c_BadArrivals) = some (.type "type"))
    (e1_BadArrivals : PySem.W.findIn K (.ref c_BadArrivals) "__getattribute__" = some (some (.builtin "BaseException.__getattribute__")))
    (e2_BadArrivals : PySem.W.findIn K (.ref c_BadArrivals) "__getattr__" = some none)
    (e3_BadArrivals : PySem.W.hasDictIn K c_BadArrivals = true)
    (e4_BadArrivals : PySem.W.findIn K (.ref c_BadArrivals) "__class__" = some (some (.builtin "object.__class__")))
    (e5_BadArrivals : PySem.W.mroIn K c_BadArrivals (.type "object") = some true)
    (ci_Cell : PySem.W.findIn K (.ref c_Cell) "__class__" = some (some (.builtin "object.__class__")))
    (em_Cell : PySem.W.mroIn K c_Cell (.type "object") = some true)
    (en1 : PySem.W.specialIn K (.builtin "object.__class__") "__get__" = some (some (.builtin "getset_descriptor.__get__")))
    (en2 : PySem.W.takesIn K (.builtin "object.__class__") = some true)
    (oc_BadArrivals : ∃ nm q N bs bm sn sub ab col dd k0 k1 k2 k3 k5, List.lookup c_BadArrivals K = some (excClassObj nm q c_BadArrivals N bs bm true sn sub ab col dd k0 k1 k2 k3 k5 "ValueError.__new__") ∧ HandSPX.refsVE bm = true)
    (os_BadArrivals : PySem.W.findIn K (.ref c_BadArrivals) "__setattr__" = some (some (.builtin "object.__setattr__")))
    (su_Cell_int : PySem.W.subIn K (.ref c_Cell) (.type "int") = some false)
    (su_Cell_bool : PySem.W.subIn K (.ref c_Cell) (.type "bool") = some false)
    (su_Cell_tuple : PySem.W.subIn K (.ref c_Cell) (.type "tuple") = some false)
    (s_FabricError : PySem.W.subIn K (.ref c_FabricError) (.type "BaseException") = some true)
    (t_FabricError : PySem.W.typeIn K (.ref c_FabricError) = some (.type "type"))
    (e3_FabricError : PySem.W.hasDictIn K c_FabricError = true)
    (su_FabricError_FabricError : PySem.W.subIn K (.ref c_FabricError) (.ref c_FabricError) = some true)
    (su_NoLines_FabricError : PySem.W.subIn K (.ref c_NoLines) (.ref c_FabricError) = some true)
    (su_NoLines_ValueError : PySem.W.subIn K (.ref c_NoLines) (.type "ValueError") = some true)
    (su_NoLines_BadArrivals : PySem.W.subIn K (.ref c_NoLines) (.ref c_BadArrivals) = some false)
    (su_NoLines_NoMost : PySem.W.subIn K (.ref c_NoLines) (.ref c_NoMost) = some false)
    (su_NoLines_NoLines : PySem.W.subIn K (.ref c_NoLines) (.ref c_NoLines) = some true)
    (su_NoMost_FabricError : PySem.W.subIn K (.ref c_NoMost) (.ref c_FabricError) = some true)
    (su_NoMost_ValueError : PySem.W.subIn K (.ref c_NoMost) (.type "ValueError") = some true)
    (su_NoMost_BadArrivals : PySem.W.subIn K (.ref c_NoMost) (.ref c_BadArrivals) = some false)
    (su_NoMost_NoMost : PySem.W.subIn K (.ref c_NoMost) (.ref c_NoMost) = some true)
    (su_NoMost_NoLines : PySem.W.subIn K (.ref c_NoMost) (.ref c_NoLines) = some false)
    (su_BadArrivals_FabricError : PySem.W.subIn K (.ref c_BadArrivals) (.ref c_FabricError) = some true)
    (su_BadArrivals_ValueError : PySem.W.subIn K (.ref c_BadArrivals) (.type "ValueError") = some true)
    (su_BadArrivals_BadArrivals : PySem.W.subIn K (.ref c_BadArrivals) (.ref c_BadArrivals) = some true)
    (su_BadArrivals_NoMost : PySem.W.subIn K (.ref c_BadArrivals) (.ref c_NoMost) = some false)
    (su_BadArrivals_NoLines : PySem.W.subIn K (.ref c_BadArrivals) (.ref c_NoLines) = some false)
    (k_MOST_LINES : PySem.W.nsIn K mainGlobals "MOST_LINES" = some (some (.int 12 t_MOST_LINES)))
    (k_MOST_COPIES : PySem.W.nsIn K mainGlobals "MOST_COPIES" = some (some (.int 3 t_MOST_COPIES)))
    (k_MOST_BEATS : PySem.W.nsIn K mainGlobals "MOST_BEATS" = some (some (.int 200 t_MOST_BEATS)))
    (k_STREAMS : PySem.W.nsIn K mainGlobals "STREAMS" = some (some (.int 100 t_STREAMS)))
    (k_KINDS : PySem.W.nsIn K mainGlobals "KINDS" = some (some (.int 8 t_KINDS)))
    (k_GREATEST_CELL : PySem.W.nsIn K mainGlobals "GREATEST_CELL" = some (some (.int 1000000000 t_GREATEST_CELL)))
    (z_ValueError : PySem.W.nsIn K mainGlobals "ValueError" = some none)
    (z_abs : PySem.W.nsIn K mainGlobals "abs" = some none)
    (z_all : PySem.W.nsIn K mainGlobals "all" = some none)
    (z_bool : PySem.W.nsIn K mainGlobals "bool" = some none)
    (z_enumerate : PySem.W.nsIn K mainGlobals "enumerate" = some none)
    (z_int : PySem.W.nsIn K mainGlobals "int" = some none)
    (z_isinstance : PySem.W.nsIn K mainGlobals "isinstance" = some none)
    (z_len : PySem.W.nsIn K mainGlobals "len" = some none)
    (z_range : PySem.W.nsIn K mainGlobals "range" = some none)
    (z_set : PySem.W.nsIn K mainGlobals "set" = some none)
    (z_sorted : PySem.W.nsIn K mainGlobals "sorted" = some none)
    (z_tuple : PySem.W.nsIn K mainGlobals "tuple" = some none)
    (z_zip : PySem.W.nsIn K mainGlobals "zip" = some none)
    : ∃ A : Adr, Top K mg A ∧ A.d_law = PySem.W.fnOf "law" "law" (defArgs s_law) (defBody s_law) (defScope s_law) .none kV_law dc_law pm_law an_law (.ref co_law) ct_law ∧ A.a_law = f_law ∧ A.cd_law = co_law ∧ A.tb_law = tb_law := by
  have F_BadArrivals___init__ := fun_mk (st := s_BadArrivals___init__) l_BadArrivals___init__ q_BadArrivals___init__ p_BadArrivals___init__
  have F_is_integer := fun_mk (st := s_is_integer) l_is_integer q_is_integer p_is_integer
  have F_is_integer_from := fun_mk (st := s_is_integer_from) l_is_integer_from q_is_integer_from p_is_integer_from
  have F_is_number_below := fun_mk (st := s_is_number_below) l_is_number_below q_is_number_below p_is_number_below
  have F_is_tuple_of := fun_mk (st := s_is_tuple_of) l_is_tuple_of q_is_tuple_of p_is_tuple_of
  have F_is_lot_below := fun_mk (st := s_is_lot_below) l_is_lot_below q_is_lot_below p_is_lot_below
  have F_check_lines := fun_mk (st := s_check_lines) l_check_lines q_check_lines p_check_lines
  have F_check_most := fun_mk (st := s_check_most) l_check_most q_check_most p_check_most
  have F_is_cell_number := fun_mk (st := s_is_cell_number) l_is_cell_number q_is_cell_number p_is_cell_number
  have F_are_outs := fun_mk (st := s_are_outs) l_are_outs q_are_outs p_are_outs
  have F_Cell___init__ := fun_mk (st := s_Cell___init__) l_Cell___init__ q_Cell___init__ p_Cell___init__
  have F_Cell___eq__ := fun_mk (st := s_Cell___eq__) l_Cell___eq__ q_Cell___eq__ p_Cell___eq__
  have F_is_arrival := fun_mk (st := s_is_arrival) l_is_arrival q_is_arrival p_is_arrival
  have F_first_wrong_item := fun_mk (st := s_first_wrong_item) l_first_wrong_item q_first_wrong_item p_first_wrong_item
  have F_arrivals_fault := fun_mk (st := s_arrivals_fault) l_arrivals_fault q_arrivals_fault p_arrivals_fault
  have F_is_arrivals := fun_mk (st := s_is_arrivals) l_is_arrivals q_is_arrivals p_is_arrivals
  have F_cells := fun_mk (st := s_cells) l_cells q_cells p_cells
  have F_law_hand := fun_mk (st := s_law_hand) l_law_hand q_law_hand p_law_hand
  have F_law_draw := fun_mk (st := s_law_draw) l_law_draw q_law_draw p_law_draw
  have F_law_any := fun_mk (st := s_law_any) l_law_any q_law_any p_law_any
  have F_law_is_int := fun_mk (st := s_law_is_int) l_law_is_int q_law_is_int p_law_is_int
  have F_law_deep := fun_mk (st := s_law_deep) l_law_deep q_law_deep p_law_deep
  have F_law_odd := fun_mk (st := s_law_odd) l_law_odd q_law_odd p_law_odd
  have F_law_is_lot := fun_mk (st := s_law_is_lot) l_law_is_lot q_law_is_lot p_law_is_lot
  have F_law_first := fun_mk (st := s_law_first) l_law_first q_law_first p_law_first
  have F_law_outs := fun_mk (st := s_law_outs) l_law_outs q_law_outs p_law_outs
  have F_law_arrival := fun_mk (st := s_law_arrival) l_law_arrival q_law_arrival p_law_arrival
  have F_law_arrivals := fun_mk (st := s_law_arrivals) l_law_arrivals q_law_arrivals p_law_arrivals
  have F_law_sizes := fun_mk (st := s_law_sizes) l_law_sizes q_law_sizes p_law_sizes
  have F_law_is_arrival := fun_mk (st := s_law_is_arrival) l_law_is_arrival q_law_is_arrival p_law_is_arrival
  have F_law_wrong := fun_mk (st := s_law_wrong) l_law_wrong q_law_wrong p_law_wrong
  have F_law_word := fun_mk (st := s_law_word) l_law_word q_law_word p_law_word
  have F_law := fun_mk (st := s_law) l_law q_law p_law
  refine ⟨⟨f_BadArrivals___init__, PySem.W.fnOf "__init__" "BadArrivals.__init__" (defArgs s_BadArrivals___init__) (defBody s_BadArrivals___init__) (defScope s_BadArrivals___init__) .none kV_BadArrivals___init__ dc_BadArrivals___init__ pm_BadArrivals___init__ an_BadArrivals___init__ cd_BadArrivals___init__ ct_BadArrivals___init__, f_is_integer, PySem.W.fnOf "is_integer" "is_integer" (defArgs s_is_integer) (defBody s_is_integer) (defScope s_is_integer) .none kV_is_integer dc_is_integer pm_is_integer an_is_integer cd_is_integer ct_is_integer, f_is_integer_from, PySem.W.fnOf "is_integer_from" "is_integer_from" (defArgs s_is_integer_from) (defBody s_is_integer_from) (defScope s_is_integer_from) .none kV_is_integer_from dc_is_integer_from pm_is_integer_from an_is_integer_from cd_is_integer_from ct_is_integer_from, f_is_number_below, PySem.W.fnOf "is_number_below" "is_number_below" (defArgs s_is_number_below) (defBody s_is_number_below) (defScope s_is_number_below) .none kV_is_number_below dc_is_number_below pm_is_number_below an_is_number_below cd_is_number_below ct_is_number_below, f_is_tuple_of, PySem.W.fnOf "is_tuple_of" "is_tuple_of" (defArgs s_is_tuple_of) (defBody s_is_tuple_of) (defScope s_is_tuple_of) .none kV_is_tuple_of dc_is_tuple_of pm_is_tuple_of an_is_tuple_of cd_is_tuple_of ct_is_tuple_of, f_is_lot_below, PySem.W.fnOf "is_lot_below" "is_lot_below" (defArgs s_is_lot_below) (defBody s_is_lot_below) (defScope s_is_lot_below) .none kV_is_lot_below dc_is_lot_below pm_is_lot_below an_is_lot_below cd_is_lot_below ct_is_lot_below, f_check_lines, PySem.W.fnOf "check_lines" "check_lines" (defArgs s_check_lines) (defBody s_check_lines) (defScope s_check_lines) .none kV_check_lines dc_check_lines pm_check_lines an_check_lines cd_check_lines ct_check_lines, f_check_most, PySem.W.fnOf "check_most" "check_most" (defArgs s_check_most) (defBody s_check_most) (defScope s_check_most) .none kV_check_most dc_check_most pm_check_most an_check_most cd_check_most ct_check_most, f_is_cell_number, PySem.W.fnOf "is_cell_number" "is_cell_number" (defArgs s_is_cell_number) (defBody s_is_cell_number) (defScope s_is_cell_number) .none kV_is_cell_number dc_is_cell_number pm_is_cell_number an_is_cell_number cd_is_cell_number ct_is_cell_number, f_are_outs, PySem.W.fnOf "are_outs" "are_outs" (defArgs s_are_outs) (defBody s_are_outs) (defScope s_are_outs) .none kV_are_outs dc_are_outs pm_are_outs an_are_outs cd_are_outs ct_are_outs, f_Cell___init__, PySem.W.fnOf "__init__" "Cell.__init__" (defArgs s_Cell___init__) (defBody s_Cell___init__) (defScope s_Cell___init__) .none kV_Cell___init__ dc_Cell___init__ pm_Cell___init__ an_Cell___init__ cd_Cell___init__ ct_Cell___init__, f_Cell___eq__, PySem.W.fnOf "__eq__" "Cell.__eq__" (defArgs s_Cell___eq__) (defBody s_Cell___eq__) (defScope s_Cell___eq__) .none kV_Cell___eq__ dc_Cell___eq__ pm_Cell___eq__ an_Cell___eq__ cd_Cell___eq__ ct_Cell___eq__, f_is_arrival, PySem.W.fnOf "is_arrival" "is_arrival" (defArgs s_is_arrival) (defBody s_is_arrival) (defScope s_is_arrival) .none kV_is_arrival dc_is_arrival pm_is_arrival an_is_arrival cd_is_arrival ct_is_arrival, f_first_wrong_item, PySem.W.fnOf "first_wrong_item" "first_wrong_item" (defArgs s_first_wrong_item) (defBody s_first_wrong_item) (defScope s_first_wrong_item) .none kV_first_wrong_item dc_first_wrong_item pm_first_wrong_item an_first_wrong_item cd_first_wrong_item ct_first_wrong_item, f_arrivals_fault, PySem.W.fnOf "arrivals_fault" "arrivals_fault" (defArgs s_arrivals_fault) (defBody s_arrivals_fault) (defScope s_arrivals_fault) .none kV_arrivals_fault dc_arrivals_fault pm_arrivals_fault an_arrivals_fault cd_arrivals_fault ct_arrivals_fault, f_is_arrivals, PySem.W.fnOf "is_arrivals" "is_arrivals" (defArgs s_is_arrivals) (defBody s_is_arrivals) (defScope s_is_arrivals) .none kV_is_arrivals dc_is_arrivals pm_is_arrivals an_is_arrivals cd_is_arrivals ct_is_arrivals, f_cells, PySem.W.fnOf "cells" "cells" (defArgs s_cells) (defBody s_cells) (defScope s_cells) .none kV_cells dc_cells pm_cells an_cells cd_cells ct_cells, f_law_hand, PySem.W.fnOf "_law_hand" "_law_hand" (defArgs s_law_hand) (defBody s_law_hand) (defScope s_law_hand) .none kV_law_hand dc_law_hand pm_law_hand an_law_hand cd_law_hand ct_law_hand, f_law_draw, PySem.W.fnOf "_law_draw" "_law_draw" (defArgs s_law_draw) (defBody s_law_draw) (defScope s_law_draw) .none kV_law_draw dc_law_draw pm_law_draw an_law_draw cd_law_draw ct_law_draw, f_law_any, PySem.W.fnOf "_law_any" "_law_any" (defArgs s_law_any) (defBody s_law_any) (defScope s_law_any) .none kV_law_any dc_law_any pm_law_any an_law_any cd_law_any ct_law_any, f_law_is_int, PySem.W.fnOf "_law_is_int" "_law_is_int" (defArgs s_law_is_int) (defBody s_law_is_int) (defScope s_law_is_int) .none kV_law_is_int dc_law_is_int pm_law_is_int an_law_is_int cd_law_is_int ct_law_is_int, f_law_deep, PySem.W.fnOf "_law_deep" "_law_deep" (defArgs s_law_deep) (defBody s_law_deep) (defScope s_law_deep) .none kV_law_deep dc_law_deep pm_law_deep an_law_deep cd_law_deep ct_law_deep, f_law_odd, PySem.W.fnOf "_law_odd" "_law_odd" (defArgs s_law_odd) (defBody s_law_odd) (defScope s_law_odd) .none kV_law_odd dc_law_odd pm_law_odd an_law_odd cd_law_odd ct_law_odd, f_law_is_lot, PySem.W.fnOf "_law_is_lot" "_law_is_lot" (defArgs s_law_is_lot) (defBody s_law_is_lot) (defScope s_law_is_lot) .none kV_law_is_lot dc_law_is_lot pm_law_is_lot an_law_is_lot cd_law_is_lot ct_law_is_lot, f_law_first, PySem.W.fnOf "_law_first" "_law_first" (defArgs s_law_first) (defBody s_law_first) (defScope s_law_first) .none kV_law_first dc_law_first pm_law_first an_law_first cd_law_first ct_law_first, f_law_outs, PySem.W.fnOf "_law_outs" "_law_outs" (defArgs s_law_outs) (defBody s_law_outs) (defScope s_law_outs) .none kV_law_outs dc_law_outs pm_law_outs an_law_outs cd_law_outs ct_law_outs, f_law_arrival, PySem.W.fnOf "_law_arrival" "_law_arrival" (defArgs s_law_arrival) (defBody s_law_arrival) (defScope s_law_arrival) .none kV_law_arrival dc_law_arrival pm_law_arrival an_law_arrival cd_law_arrival ct_law_arrival, f_law_arrivals, PySem.W.fnOf "_law_arrivals" "_law_arrivals" (defArgs s_law_arrivals) (defBody s_law_arrivals) (defScope s_law_arrivals) .none kV_law_arrivals dc_law_arrivals pm_law_arrivals an_law_arrivals cd_law_arrivals ct_law_arrivals, f_law_sizes, PySem.W.fnOf "_law_sizes" "_law_sizes" (defArgs s_law_sizes) (defBody s_law_sizes) (defScope s_law_sizes) .none kV_law_sizes dc_law_sizes pm_law_sizes an_law_sizes cd_law_sizes ct_law_sizes, f_law_is_arrival, PySem.W.fnOf "_law_is_arrival" "_law_is_arrival" (defArgs s_law_is_arrival) (defBody s_law_is_arrival) (defScope s_law_is_arrival) .none kV_law_is_arrival dc_law_is_arrival pm_law_is_arrival an_law_is_arrival cd_law_is_arrival ct_law_is_arrival, f_law_wrong, PySem.W.fnOf "_law_wrong" "_law_wrong" (defArgs s_law_wrong) (defBody s_law_wrong) (defScope s_law_wrong) .none kV_law_wrong dc_law_wrong pm_law_wrong an_law_wrong cd_law_wrong ct_law_wrong, f_law_word, PySem.W.fnOf "_law_word" "_law_word" (defArgs s_law_word) (defBody s_law_word) (defScope s_law_word) .none kV_law_word dc_law_word pm_law_word an_law_word cd_law_word ct_law_word, f_law, PySem.W.fnOf "law" "law" (defArgs s_law) (defBody s_law) (defScope s_law) .none kV_law dc_law pm_law an_law (.ref co_law) ct_law, c_Cell, c_FabricError, c_NoLines, c_NoMost, c_BadArrivals, co_law, tb_law⟩, ?_, rfl, rfl, rfl, rfl⟩
  exact ⟨F_BadArrivals___init__,
    F_BadArrivals___init__.binds (fun _ _ _ _ _ _ us hl => match us, hl with | [_, _], _ => rfl),
    F_is_integer,
    PySem.W.mg_of X G a_is_integer,
    F_is_integer.binds (fun _ _ _ _ _ _ us hl => match us, hl with | [_], _ => rfl),
    F_is_integer_from,
    PySem.W.mg_of X G a_is_integer_from,
    F_is_integer_from.binds (fun _ _ _ _ _ _ us hl => match us, hl with | [_, _, _], _ => rfl),
    F_is_number_below,
    PySem.W.mg_of X G a_is_number_below,
    F_is_number_below.binds (fun _ _ _ _ _ _ us hl => match us, hl with | [_, _], _ => rfl),
    F_is_tuple_of,
    PySem.W.mg_of X G a_is_tuple_of,
    F_is_tuple_of.binds (fun _ _ _ _ _ _ us hl => match us, hl with | [_, _], _ => rfl),
    F_is_lot_below,
    PySem.W.mg_of X G a_is_lot_below,
    F_is_lot_below.binds (fun _ _ _ _ _ _ us hl => match us, hl with | [_, _], _ => rfl),
    F_check_lines,
    PySem.W.mg_of X G a_check_lines,
    F_check_lines.binds (fun _ _ _ _ _ _ us hl => match us, hl with | [_], _ => rfl),
    F_check_most,
    PySem.W.mg_of X G a_check_most,
    F_check_most.binds (fun _ _ _ _ _ _ us hl => match us, hl with | [_], _ => rfl),
    F_is_cell_number,
    PySem.W.mg_of X G a_is_cell_number,
    F_is_cell_number.binds (fun _ _ _ _ _ _ us hl => match us, hl with | [_], _ => rfl),
    F_are_outs,
    PySem.W.mg_of X G a_are_outs,
    F_are_outs.binds (fun _ _ _ _ _ _ us hl => match us, hl with | [_, _, _], _ => rfl),
    F_Cell___init__,
    F_Cell___init__.binds (fun _ _ _ _ _ _ us hl => match us, hl with | [_, _, _, _, _, _], _ => rfl),
    F_Cell___eq__,
    F_Cell___eq__.binds (fun _ _ _ _ _ _ us hl => match us, hl with | [_, _], _ => rfl),
    F_is_arrival,
    PySem.W.mg_of X G a_is_arrival,
    F_is_arrival.binds (fun _ _ _ _ _ _ us hl => match us, hl with | [_, _, _], _ => rfl),
    F_first_wrong_item,
    PySem.W.mg_of X G a_first_wrong_item,
    F_first_wrong_item.binds (fun _ _ _ _ _ _ us hl => match us, hl with | [_, _, _], _ => rfl),
    F_arrivals_fault,
    PySem.W.mg_of X G a_arrivals_fault,
    F_arrivals_fault.binds (fun _ _ _ _ _ _ us hl => match us, hl with | [_, _, _], _ => rfl),
    F_is_arrivals,
    PySem.W.mg_of X G a_is_arrivals,
    F_is_arrivals.binds (fun _ _ _ _ _ _ us hl => match us, hl with | [_, _, _], _ => rfl),
    F_cells,
    PySem.W.mg_of X G a_cells,
    F_cells.binds (fun _ _ _ _ _ _ us hl => match us, hl with | [_, _, _], _ => rfl),
    F_law_hand,
    PySem.W.mg_of X G a_law_hand,
    F_law_hand.binds (fun _ _ _ _ _ _ us hl => match us, hl with | [_], _ => rfl),
    F_law_draw,
    PySem.W.mg_of X G a_law_draw,
    F_law_draw.binds (fun _ _ _ _ _ _ us hl => match us, hl with | [_, _], _ => rfl),
    F_law_any,
    PySem.W.mg_of X G a_law_any,
    F_law_any.binds (fun _ _ _ _ _ _ us hl => match us, hl with | [_, _], _ => rfl),
    F_law_is_int,
    PySem.W.mg_of X G a_law_is_int,
    F_law_is_int.binds (fun _ _ _ _ _ _ us hl => match us, hl with | [_, _, _], _ => rfl),
    F_law_deep,
    PySem.W.mg_of X G a_law_deep,
    F_law_deep.binds (fun _ _ _ _ _ _ us hl => match us, hl with | [_], _ => rfl),
    F_law_odd,
    PySem.W.mg_of X G a_law_odd,
    F_law_odd.binds (fun _ _ _ _ _ _ us hl => match us, hl with | [_, _], _ => rfl),
    F_law_is_lot,
    PySem.W.mg_of X G a_law_is_lot,
    F_law_is_lot.binds (fun _ _ _ _ _ _ us hl => match us, hl with | [_, _], _ => rfl),
    F_law_first,
    PySem.W.mg_of X G a_law_first,
    F_law_first.binds (fun _ _ _ _ _ _ us hl => match us, hl with | [_], _ => rfl),
    F_law_outs,
    PySem.W.mg_of X G a_law_outs,
    F_law_outs.binds (fun _ _ _ _ _ _ us hl => match us, hl with | [_, _, _], _ => rfl),
    F_law_arrival,
    PySem.W.mg_of X G a_law_arrival,
    F_law_arrival.binds (fun _ _ _ _ _ _ us hl => match us, hl with | [_, _, _], _ => rfl),
    F_law_arrivals,
    PySem.W.mg_of X G a_law_arrivals,
    F_law_arrivals.binds (fun _ _ _ _ _ _ us hl => match us, hl with | [_, _, _, _], _ => rfl),
    F_law_sizes,
    PySem.W.mg_of X G a_law_sizes,
    F_law_sizes.binds (fun _ _ _ _ _ _ us hl => match us, hl with | [_], _ => rfl),
    F_law_is_arrival,
    PySem.W.mg_of X G a_law_is_arrival,
    F_law_is_arrival.binds (fun _ _ _ _ _ _ us hl => match us, hl with | [_, _, _], _ => rfl),
    F_law_wrong,
    PySem.W.mg_of X G a_law_wrong,
    F_law_wrong.binds (fun _ _ _ _ _ _ us hl => match us, hl with | [_, _, _], _ => rfl),
    F_law_word,
    PySem.W.mg_of X G a_law_word,
    F_law_word.binds (fun _ _ _ _ _ _ us hl => match us, hl with | [_], _ => rfl),
    F_law,
    PySem.W.mg_of X G a_law,
    F_law.binds (fun _ _ _ _ _ _ us hl => match us, hl with | [_], _ => rfl),
    ⟨pg_Cell, hd_Cell, po_Cell, sa_Cell⟩,
    PySem.W.mg_of X G ac_Cell,
    ⟨mk_Cell, a_Cell___init__, i_Cell___init__, kc_Cell⟩,
    ⟨a_Cell___eq__, i_Cell___eq__, p_Cell___eq__⟩,
    n_Cell_came_as,
    n_Cell_at_line,
    n_Cell_of_stream,
    n_Cell_of_kind,
    n_Cell_to_outs,
    PySem.W.mg_of X G ac_FabricError,
    PySem.W.mg_of X G ac_NoLines,
    PySem.W.mg_of X G ac_NoMost,
    PySem.W.mg_of X G ac_BadArrivals,
    x_NoLines,
    kp_NoLines,
    s_NoLines,
    t_NoLines,
    e1_NoLines,
    e2_NoLines,
    e3_NoLines,
    e4_NoLines,
    e5_NoLines,
    x_NoMost,
    kp_NoMost,
    s_NoMost,
    t_NoMost,
    e1_NoMost,
    e2_NoMost,
    e3_NoMost,
    e4_NoMost,
    e5_NoMost,
    ⟨oc_BadArrivals, os_BadArrivals, s_BadArrivals, t_BadArrivals, kp_BadArrivals⟩,
    a_BadArrivals___init__,
    xt_BadArrivals,
    nf_BadArrivals_at,
    kp_BadArrivals,
    s_BadArrivals,
    t_BadArrivals,
    e1_BadArrivals,
    e2_BadArrivals,
    e3_BadArrivals,
    e4_BadArrivals,
    e5_BadArrivals,
    GX.kit_bi (by decide) su_Cell_int,
    GX.kit_bi (by decide) su_Cell_bool,
    GX.kit_bi (by decide) su_Cell_tuple,
    ci_Cell,
    em_Cell,
    en1,
    en2,
    GX.kit_yes (PySem.W.exm_ref s_FabricError e3_FabricError t_FabricError su_NoLines_FabricError),
    (PySem.W.exm_ref s_FabricError e3_FabricError t_FabricError su_NoLines_FabricError),
    GX.kit_bi (by decide) su_NoLines_ValueError,
    GX.kit_no (PySem.W.exm_ref s_BadArrivals e3_BadArrivals t_BadArrivals su_NoLines_BadArrivals) su_BadArrivals_BadArrivals su_NoLines_BadArrivals,
    (PySem.W.exm_ref s_BadArrivals e3_BadArrivals t_BadArrivals su_NoLines_BadArrivals),
    GX.kit_no (PySem.W.exm_ref s_NoMost e3_NoMost t_NoMost su_NoLines_NoMost) su_NoMost_NoMost su_NoLines_NoMost,
    (PySem.W.exm_ref s_NoMost e3_NoMost t_NoMost su_NoLines_NoMost),
    GX.kit_yes (PySem.W.exm_ref s_NoLines e3_NoLines t_NoLines su_NoLines_NoLines),
    (PySem.W.exm_ref s_NoLines e3_NoLines t_NoLines su_NoLines_NoLines),
    GX.kit_yes (PySem.W.exm_ref s_FabricError e3_FabricError t_FabricError su_NoMost_FabricError),
    (PySem.W.exm_ref s_FabricError e3_FabricError t_FabricError su_NoMost_FabricError),
    GX.kit_bi (by decide) su_NoMost_ValueError,
    GX.kit_no (PySem.W.exm_ref s_BadArrivals e3_BadArrivals t_BadArrivals su_NoMost_BadArrivals) su_BadArrivals_BadArrivals su_NoMost_BadArrivals,
    (PySem.W.exm_ref s_BadArrivals e3_BadArrivals t_BadArrivals su_NoMost_BadArrivals),
    GX.kit_yes (PySem.W.exm_ref s_NoMost e3_NoMost t_NoMost su_NoMost_NoMost),
    (PySem.W.exm_ref s_NoMost e3_NoMost t_NoMost su_NoMost_NoMost),
    GX.kit_no (PySem.W.exm_ref s_NoLines e3_NoLines t_NoLines su_NoMost_NoLines) su_NoLines_NoLines su_NoMost_NoLines,
    (PySem.W.exm_ref s_NoLines e3_NoLines t_NoLines su_NoMost_NoLines),
    GX.kit_yes (PySem.W.exm_ref s_FabricError e3_FabricError t_FabricError su_BadArrivals_FabricError),
    (PySem.W.exm_ref s_FabricError e3_FabricError t_FabricError su_BadArrivals_FabricError),
    GX.kit_bi (by decide) su_BadArrivals_ValueError,
    GX.kit_yes (PySem.W.exm_ref s_BadArrivals e3_BadArrivals t_BadArrivals su_BadArrivals_BadArrivals),
    (PySem.W.exm_ref s_BadArrivals e3_BadArrivals t_BadArrivals su_BadArrivals_BadArrivals),
    GX.kit_no (PySem.W.exm_ref s_NoMost e3_NoMost t_NoMost su_BadArrivals_NoMost) su_NoMost_NoMost su_BadArrivals_NoMost,
    (PySem.W.exm_ref s_NoMost e3_NoMost t_NoMost su_BadArrivals_NoMost),
    GX.kit_no (PySem.W.exm_ref s_NoLines e3_NoLines t_NoLines su_BadArrivals_NoLines) su_NoLines_NoLines su_BadArrivals_NoLines,
    (PySem.W.exm_ref s_NoLines e3_NoLines t_NoLines su_BadArrivals_NoLines),
    ⟨⟨_, _, _, _, _, _, _, _, rfl, l_law, q_law⟩⟩,
    ⟨_, PySem.W.mg_of X G k_MOST_LINES⟩,
    ⟨_, PySem.W.mg_of X G k_MOST_COPIES⟩,
    ⟨_, PySem.W.mg_of X G k_MOST_BEATS⟩,
    ⟨_, PySem.W.mg_of X G k_STREAMS⟩,
    ⟨_, PySem.W.mg_of X G k_KINDS⟩,
    ⟨_, PySem.W.mg_of X G k_GREATEST_CELL⟩,
    PySem.W.mg_none_of X G z_ValueError,
    PySem.W.mg_none_of X G z_abs,
    PySem.W.mg_none_of X G z_all,
    PySem.W.mg_none_of X G z_bool,
    PySem.W.mg_none_of X G z_enumerate,
    PySem.W.mg_none_of X G z_int,
    PySem.W.mg_none_of X G z_isinstance,
    PySem.W.mg_none_of X G z_len,
    PySem.W.mg_none_of X G z_range,
    PySem.W.mg_none_of X G z_set,
    PySem.W.mg_none_of X G z_sorted,
    PySem.W.mg_none_of X G z_tuple,
    PySem.W.mg_none_of X G z_zip⟩

/-! ### heaps -/
theorem dec_int {a b : Int} : decide (V.int a = V.int b) = decide (a = b) := decide_eq_decide.mpr ⟨fun e => V.int.inj e, fun e => by rw [e]⟩
theorem dec_self {a : V} : decide (a = a) = true := decide_eq_true rfl
theorem same_upd {H : Hp} {p : Addr} {o : HO} (h : H p = none) : Same H (upd H p o) := fun b x e => by
  rw [upd_ne (ne_of_none e h)]
  exact e
theorem same_to {H H1 : Hp} {p : Addr} {o : HO} (s : Same H H1) (h : H p = none) : Same H (upd H1 p o) := fun b x e => by
  rw [upd_ne (ne_of_none e h)]
  exact s b x e
/-- as H but at x, new objects apart -/
def Kp (x : Addr) (H H' : Hp) : Prop := ∀ q o, q ≠ x → H q = some o → H' q = some o
theorem Kp.same {x : Addr} {H H1 H2 : Hp} (a : Kp x H H1) (b : Same H1 H2) : Kp x H H2 := fun q o hq h => b _ _ (a q o hq h)
theorem kp_of {H H' : Hp} (a : Same H H') (x : Addr) : Kp x H H' := fun q o _ h => a q o h
theorem Kp.upd {x : Addr} {H H1 : Hp} {o : HO} (a : Kp x H H1) : Kp x H (upd H1 x o) := fun q u hq h => by
  rw [upd_ne hq]
  exact a q u hq h
theorem Kp.trans {h : Addr} {H H1 H2 : Hp} (a : Kp h H H1) (b : Kp h H1 H2) : Kp h H H2 := fun q o hq e => b q o hq (a q o hq e)
theorem Kp.free {h p : Addr} {H H' : Hp} (a : Kp h H H') (hp : p ≠ h) (e : H' p = none) : H p = none := by
  cases q : H p with
  | none => rfl
  | some o =>
    rw [a p o hp q] at e
    cases e
theorem small1000 {n : Nat} (h : n < 1000) : n < sizeLine := Nat.lt_trans h (by decide)
theorem ne_of {H : Hp} {p q : Addr} {o u : HO} (hp : H p = some o) (hq : H q = some u) (h : o ≠ u) : p ≠ q := fun e => by
  rw [e, hq] at hp
  exact h (Option.some.inj hp).symm
def NT (o : HO) : Prop := ∀ ps, o ≠ .tbl ps
/-- as H but at h, tables apart -/
def Mv (h : Addr) (H H' : Hp) : Prop := ∀ q o, q ≠ h → H q = some o → NT o → H' q = some o
theorem Mv.of {h : Addr} {H H' : Hp} (k : Kp h H H') : Mv h H H' := fun q o hq e _ => k q o hq e
theorem Mv.same {h : Addr} {H H' : Hp} (k : Same H H') : Mv h H H' := fun q o _ e _ => k q o e
theorem Mv.ext {h : Addr} {H H' : Hp} (k : LamX.ExtN H H') : Mv h H H' := fun q o _ e n => k q o e n
theorem Mv.trans {h : Addr} {H H1 H2 : Hp} (a : Mv h H H1) (b : Mv h H1 H2) : Mv h H H2 := fun q o hq e n => b q o hq (a q o hq e n) n
theorem nt_lst {xs : List V} : NT (.lst xs) := fun _ z => by cases z
theorem nt_tup {xs : List V} : NT (.tup xs) := fun _ z => by cases z
theorem nt_ins {a b : Addr} {fs : List (Str × V)} : NT (.ins a b fs) := fun _ z => by cases z
theorem nt_dK {kvs : List (Key × V)} : NT (.dK kvs) := fun _ z => by cases z
/-! ### things of any sort, told as data -/
inductive Td where
  | int (i : Int) | bl (b : Bool) | non | str (s : Str) | tup (ds : List Td) | oth
mutual
/-- v tells d; what may change (the list at h) is none of it -/
inductive Is (C h : Addr) (H : Hp) : V → Td → Prop
  | int (i : Int) : Is C h H (.int i) (.int i)
  | bl (b : Bool) : Is C h H (.bl b) (.bl b)
  | non : Is C h H .non .non
  | str (s : Str) : Is C h H (.str s) (.str s)
  | tup {a : Addr} {xs : List V} {ds : List Td} : H a = some (.tup xs) → IsL C h H xs ds → Is C h H (.ref a) (.tup ds)
  | lst {a : Addr} {xs : List V} : H a = some (.lst xs) → a ≠ h → Is C h H (.ref a) .oth
  | dK {a : Addr} {kvs : List (Key × V)} : H a = some (.dK kvs) → Is C h H (.ref a) .oth
  | ins {a dx : Addr} {fs : List (Str × V)} : H a = some (.ins C dx fs) → Is C h H (.ref a) .oth
inductive IsL (C h : Addr) (H : Hp) : List V → List Td → Prop
  | nil : IsL C h H [] []
  | cons {v : V} {d : Td} {vs : List V} {ds : List Td} : Is C h H v d → IsL C h H vs ds → IsL C h H (v :: vs) (d :: ds)
end
section
variable {C h : Addr} {H H' : Hp}
theorem Is.mv {v : V} {d : Td} (t : Is C h H v d) (k : Mv h H H') (hh : ∃ ys, H h = some (.lst ys)) : Is C h H' v d := by
  obtain ⟨ys, hh⟩ := hh
  refine Is.rec (motive_1 := fun v d _ => Is C h H' v d) (motive_2 := fun vs ds _ => IsL C h H' vs ds) (fun i => .int i) (fun b => .bl b) .non (fun s => .str s) (fun e _ ih => .tup (k _ _ (ne_of e hh (by intro z; cases z)) e nt_tup) ih)
    (fun e n => .lst (k _ _ n e nt_lst) n) (fun e => .dK (k _ _ (ne_of e hh (by intro z; cases z)) e nt_dK)) (fun e => .ins (k _ _ (ne_of e hh (by intro z; cases z)) e nt_ins)) .nil (fun _ _ a b => .cons a b) t
theorem IsL.mv {vs : List V} {ds : List Td} (t : IsL C h H vs ds) (k : Mv h H H') (hh : ∃ ys, H h = some (.lst ys)) : IsL C h H' vs ds := by
  obtain ⟨ys, hh⟩ := hh
  refine IsL.rec (motive_1 := fun v d _ => Is C h H' v d) (motive_2 := fun vs ds _ => IsL C h H' vs ds) (fun i => .int i) (fun b => .bl b) .non (fun s => .str s) (fun e _ ih => .tup (k _ _ (ne_of e hh (by intro z; cases z)) e nt_tup) ih)
    (fun e n => .lst (k _ _ n e nt_lst) n) (fun e => .dK (k _ _ (ne_of e hh (by intro z; cases z)) e nt_dK)) (fun e => .ins (k _ _ (ne_of e hh (by intro z; cases z)) e nt_ins)) .nil (fun _ _ a b => .cons a b) t
theorem Is.same {v : V} {d : Td} (t : Is C h H v d) (s : Same H H') : Is C h H' v d := by
  refine Is.rec (motive_1 := fun v d _ => Is C h H' v d) (motive_2 := fun vs ds _ => IsL C h H' vs ds) (fun i => .int i) (fun b => .bl b) .non (fun s => .str s) (fun e _ ih => .tup (s _ _ e) ih)
    (fun e n => .lst (s _ _ e) n) (fun e => .dK (s _ _ e)) (fun e => .ins (s _ _ e)) .nil (fun _ _ a b => .cons a b) t
theorem IsL.same {v : List V} {d : List Td} (t : IsL C h H v d) (s : Same H H') : IsL C h H' v d := by
  refine IsL.rec (motive_1 := fun v d _ => Is C h H' v d) (motive_2 := fun vs ds _ => IsL C h H' vs ds) (fun i => .int i) (fun b => .bl b) .non (fun s => .str s) (fun e _ ih => .tup (s _ _ e) ih)
    (fun e n => .lst (s _ _ e) n) (fun e => .dK (s _ _ e)) (fun e => .ins (s _ _ e)) .nil (fun _ _ a b => .cons a b) t
theorem IsL.len : ∀ {vs : List V} {ds : List Td}, IsL C h H vs ds → vs.length = ds.length
  | _, _, .nil => rfl
  | _, _, .cons _ t => by rw [List.length_cons, List.length_cons, t.len]
theorem IsL.get : ∀ {vs : List V} {ds : List Td}, IsL C h H vs ds → ∀ {i : Nat} {v : V}, vs[i]? = some v → ∃ d, ds[i]? = some d ∧ Is C h H v d
  | _, _, .cons a _, 0, _, e => by
    cases e
    exact ⟨_, rfl, a⟩
  | _, _, .cons _ t, i + 1, _, e => by
    obtain ⟨d, e1, e2⟩ := t.get (i := i) e
    exact ⟨d, e1, e2⟩
theorem IsL.append : ∀ {vs us : List V} {ds es : List Td}, IsL C h H vs ds → IsL C h H us es → IsL C h H (vs ++ us) (ds ++ es)
  | _, _, _, _, .nil, t => t
  | _, _, _, _, .cons a r, t => .cons a (r.append t)
theorem IsL.three {x y z : V} {ds : List Td} (t : IsL C h H [x, y, z] ds) : ∃ a b c, ds = [a, b, c] ∧ Is C h H x a ∧ Is C h H y b ∧ Is C h H z c := by
  cases t with
  | cons a t => cases t with
    | cons b t => cases t with
      | cons c t => cases t with
        | nil => exact ⟨_, _, _, rfl, a, b, c⟩
theorem IsL.ints : ∀ {ns : List Int}, IsL C h H (ns.map V.int) (ns.map Td.int)
  | [] => .nil
  | n :: ns => .cons (.int n) IsL.ints
end
def isI : Td → Bool
  | .int _ => true
  | _ => false
def isBl : Td → Bool
  | .bl _ => true
  | _ => false
def isT : Td → Bool
  | .tup _ => true
  | _ => false
/-- an integer from lo to hi -/
def inI (lo hi : Int) : Td → Bool
  | .int i => decide (lo ≤ i) && decide (i ≤ hi)
  | _ => false
def tupN (n : Int) : Td → Bool
  | .tup ds => decide ((ds.length : Int) = n)
  | _ => false
/-- integers that ascend from lo on, none above hi -/
def ascT (hi : Int) : Int → List Td → Bool
  | _, [] => true
  | lo, .int i :: ds => decide (lo ≤ i) && decide (i ≤ hi) && ascT hi (i + 1) ds
  | _, _ :: _ => false
def lotB (n : Int) : Td → Bool
  | .tup ds => ascT (n - 1) 0 ds
  | _ => false
def outsB (n m : Int) : Td → Bool
  | .tup ds => ascT (n - 1) 0 ds && (decide (1 ≤ (ds.length : Int)) && decide ((ds.length : Int) ≤ m))
  | _ => false
def arrB (n m : Int) : Td → Bool
  | .tup [s, k, o] => inI 0 99 s && (inI 0 7 k && outsB n m o)
  | _ => false
def itemB (n m : Int) : Td → Bool
  | .non => true
  | d => arrB n m d
def rowB (n m : Int) : Td → Bool
  | .tup ds => decide ((ds.length : Int) = n) && ds.all (itemB n m)
  | _ => false
def arrsB (n m : Int) : Td → Bool
  | .tup rs => decide ((rs.length : Int) ≤ 200) && rs.all (rowB n m)
  | _ => false
section
variable {P : Program} {w : World} {K : PySem.W.Frag} {mg : Str → Option Value} {base : Heap} {A : Adr}
theorem kitQ {a b : String} {r r' : Bool} (h : kitB a b = some r) (e : r' = r) : PySem.W.kitOne K (.type a) (.type b) = some r' := by
  rw [e]
  exact kit_ty h
theorem is_ty (T : Top K mg A) {h : Addr} {H : Hp} {x : V} {d : Td} (t : Is A.c_Cell h H x d) : ∃ t, TyX K H x t ∧ PySem.W.kitOne K t (.type "int") = some (isI d || isBl d) ∧ PySem.W.kitOne K t (.type "bool") = some (isBl d) ∧ PySem.W.kitOne K t (.type "tuple") = some (isT d) := by
  cases t with
  | non => exact ⟨_, .base .non, kitQ (a := "NoneType") (b := "int") (r := false) (by decide +kernel) rfl, kitQ (a := "NoneType") (b := "bool") (r := false) (by decide +kernel) rfl, kitQ (a := "NoneType") (b := "tuple") (r := false) (by decide +kernel) rfl⟩
  | bl b => exact ⟨_, .base (.bl b), kitQ (a := "bool") (b := "int") (r := true) (by decide +kernel) rfl, kitQ (a := "bool") (b := "bool") (r := true) (by decide +kernel) rfl, kitQ (a := "bool") (b := "tuple") (r := false) (by decide +kernel) rfl⟩
  | int i => exact ⟨_, .base (.int i), kitQ (a := "int") (b := "int") (r := true) (by decide +kernel) rfl, kitQ (a := "int") (b := "bool") (r := false) (by decide +kernel) rfl, kitQ (a := "int") (b := "tuple") (r := false) (by decide +kernel) rfl⟩
  | str s => exact ⟨_, .base (.str s), kitQ (a := "str") (b := "int") (r := false) (by decide +kernel) rfl, kitQ (a := "str") (b := "bool") (r := false) (by decide +kernel) rfl, kitQ (a := "str") (b := "tuple") (r := false) (by decide +kernel) rfl⟩
  | tup e l => exact ⟨_, .base (.tup e), kitQ (a := "tuple") (b := "int") (r := false) (by decide +kernel) rfl, kitQ (a := "tuple") (b := "bool") (r := false) (by decide +kernel) rfl, kitQ (a := "tuple") (b := "tuple") (r := true) (by decide +kernel) rfl⟩
  | lst e n => exact ⟨_, .base (.lst e), kitQ (a := "list") (b := "int") (r := false) (by decide +kernel) rfl, kitQ (a := "list") (b := "bool") (r := false) (by decide +kernel) rfl, kitQ (a := "list") (b := "tuple") (r := false) (by decide +kernel) rfl⟩
  | dK e => exact ⟨_, .base (.dK e), kitQ (a := "dict") (b := "int") (r := false) (by decide +kernel) rfl, kitQ (a := "dict") (b := "bool") (r := false) (by decide +kernel) rfl, kitQ (a := "dict") (b := "tuple") (r := false) (by decide +kernel) rfl⟩
  | ins e => exact ⟨_, .base (.ins e T.cl_Cell T.ci_Cell T.en1 T.en2 T.em_Cell), T.ki_Cell_int, T.ki_Cell_bool, T.ki_Cell_tuple⟩
theorem isT_of {h C : Addr} {H : Hp} {x : V} {d : Td} (t : Is C h H x d) (c : isT d = true) : ∃ a xs ds, x = .ref a ∧ d = .tup ds ∧ H a = some (.tup xs) ∧ IsL C h H xs ds := by
  cases t with
  | tup e l => exact ⟨_, _, _, rfl, rfl, e, l⟩
  | _ => cases c
/-! ### what counts as an integer -/
def spIsInteger (C : Addr) : Sp := fun vs H Q _ => ∃ x d h, vs = [x] ∧ Is C h H x d ∧ Q (.bl (isI d)) H
theorem ok_is_integer (T : Top K mg A) : FnOk P w K mg base CX0 1 A.a_is_integer A.d_is_integer P_is_integer (spIsInteger A.c_Cell) := by
  refine T.F_is_integer.ok sc_is_integer (fun vs H Q E h => ?_) (fun cdv A' outer s H vs Q E hr h => ?_)
  · obtain ⟨x, d, h, rfl, _⟩ := h
    rfl
  · obtain ⟨x, d, h, rfl, ht, k⟩ := h
    obtain ⟨t, ty, e1, e2, _⟩ := is_ty T ht
    refine ⟨_, (pss_one (ps_ret (pe_and (pe_callB call_isi (by rfl) T.z_isinstance (by decide +kernel) (pa_cons (pv 0) (pa_cons (pe_bltn (v := .ty "int") (by rfl) T.z_int (by decide +kernel) rfl) pa_nil))) (pe_one (pe_not (pe_callB call_isi (by rfl) T.z_isinstance (by decide +kernel) (pa_cons (pv 0) (pa_cons (pe_bltn (v := .ty "bool") (by rfl) T.z_bool (by decide +kernel) rfl) pa_nil)))))))), ?_⟩
    refine ⟨_, rfl, _, _, _, _, _, rfl, .ty "int", ty, e1, (isI d || isBl d), rfl, ?_⟩
    cases c : (isI d || isBl d) with
    | false =>
      refine iteF ?_
      have q : isI d = false := by
        cases d <;> first | rfl | cases c
      rw [q] at k
      exact k
    | true =>
      refine iteT ?_
      refine ⟨_, rfl, _, _, _, _, _, rfl, .ty "bool", ty, e2, _, rfl, ?_⟩
      have q : isI d = !isBl d := by
        cases d <;> first | rfl | cases c
      rw [q] at k
      exact k
theorem is_int {C h : Addr} {H : Hp} {x : V} {d : Td} (t : Is C h H x d) (c : isI d = true) : ∃ i, x = .int i ∧ d = .int i := by
  cases t with
  | int i => exact ⟨i, rfl, rfl⟩
  | _ => cases c
theorem inI_no {lo hi : Int} {d : Td} (c : isI d = false) : inI lo hi d = false := by
  cases d with
  | int i => cases c
  | _ => rfl
def spIIF (C : Addr) : Sp := fun vs H Q _ => ∃ (lo hi : Int) (x : V) (d : Td) (h : Addr), vs = [.int lo, .int hi, x] ∧ Is C h H x d ∧ Q (.bl (inI lo hi d)) H
theorem ok_is_integer_from (T : Top K mg A) : FnOk P w K mg base CX0 2 A.a_is_integer_from A.d_is_integer_from P_is_integer_from (spIIF A.c_Cell) := by
  refine T.F_is_integer_from.ok sc_is_integer_from (fun vs H Q E h => ?_) (fun cdv A' outer s H vs Q E hr h => ?_)
  · obtain ⟨lo, hi, x, d, h, rfl, _⟩ := h
    rfl
  · obtain ⟨lo, hi, x, d, h, rfl, ht, k⟩ := h
    refine ⟨_, (pss_one (ps_ret (pe_and (pe_call (ok_is_integer T) (hr.mono (by decide)) (by rfl) T.g_is_integer T.F_is_integer.kp T.b_is_integer .nil pass0 (pa_cons (pv 2) pa_nil)) (pe_one (pe_chain op_le op_le (pv 0) (pv 2) (pv 1)))))), ?_⟩
    refine ⟨_, rfl, x, d, h, rfl, ht, _, rfl, ?_⟩
    cases c : isI d with
    | true =>
      obtain ⟨i, rfl, rfl⟩ := is_int ht c
      refine iteT ?_
      refine ⟨_, rfl, _, rfl, _, _, rfl, rfl, _, rfl, ?_⟩
      by_cases c : lo ≤ i
      · simp only [inI, decide_eq_true c, Bool.true_and] at k
        rw [decide_eq_true c]
        refine iteT ⟨_, rfl, _, _, rfl, rfl, k⟩
      · simp only [inI, decide_eq_false c, Bool.false_and] at k
        rw [decide_eq_false c]
        exact iteF k
    | false =>
      rw [inI_no c] at k
      exact iteF k
def spINB (C : Addr) : Sp := fun vs H Q _ => ∃ (n : Int) (x : V) (d : Td) (h : Addr), vs = [.int n, x] ∧ Is C h H x d ∧ Q (.bl (inI 0 (n - 1) d)) H
theorem ok_is_number_below (T : Top K mg A) : FnOk P w K mg base CX0 3 A.a_is_number_below A.d_is_number_below P_is_number_below (spINB A.c_Cell) := by
  refine T.F_is_number_below.ok sc_is_number_below (fun vs H Q E h => ?_) (fun cdv A' outer s H vs Q E hr h => ?_)
  · obtain ⟨n, x, d, h, rfl, _⟩ := h
    rfl
  · obtain ⟨n, x, d, h, rfl, ht, k⟩ := h
    refine ⟨_, (pss_one (ps_ret (pe_call (ok_is_integer_from T) (hr.mono (by decide)) (by rfl) T.g_is_integer_from T.F_is_integer_from.kp T.b_is_integer_from .nil pass0 (pa_cons pe_int (pa_cons (pe_op op_sub (pv 0) pe_int) (pa_cons (pv 1) pa_nil)))))), ?_⟩
    exact ⟨_, rfl, _, _, rfl, rfl, _, rfl, _, _, _, _, _, rfl, ht, k⟩
theorem tupN_no {n : Int} {d : Td} (c : isT d = false) : tupN n d = false := by
  cases d with
  | tup i => cases c
  | _ => rfl
def spITO (C : Addr) : Sp := fun vs H Q _ => ∃ (n : Int) (x : V) (d : Td) (h : Addr), vs = [.int n, x] ∧ Is C h H x d ∧ Q (.bl (tupN n d)) H
theorem ok_is_tuple_of (T : Top K mg A) : FnOk P w K mg base CX0 1 A.a_is_tuple_of A.d_is_tuple_of P_is_tuple_of (spITO A.c_Cell) := by
  refine T.F_is_tuple_of.ok sc_is_tuple_of (fun vs H Q E h => ?_) (fun cdv A' outer s H vs Q E hr h => ?_)
  · obtain ⟨n, x, d, h, rfl, _⟩ := h
    rfl
  · obtain ⟨n, x, d, h, rfl, ht, k⟩ := h
    obtain ⟨t, ty, _, _, e3⟩ := is_ty T ht
    refine ⟨_, (pss_one (ps_ret (pe_and (pe_callB call_isi (by rfl) T.z_isinstance (by decide +kernel) (pa_cons (pv 1) (pa_cons (pe_bltn (v := .ty "tuple") (by rfl) T.z_tuple (by decide +kernel) rfl) pa_nil))) (pe_one (pe_cmpR op_eq (pe_callB call_len_seq (by rfl) T.z_len (by decide +kernel) (pa_cons (pv 1) pa_nil)) (pv 0) (nomark _)))))), ?_⟩
    refine ⟨_, rfl, _, _, _, _, _, rfl, .ty "tuple", ty, e3, _, rfl, ?_⟩
    cases c : isT d with
    | false =>
      rw [tupN_no c] at k
      exact iteF k
    | true =>
      obtain ⟨a, xs, ds, rfl, rfl, ha, hl⟩ := isT_of ht c
      refine iteT ?_
      refine ⟨_, rfl, _, _, rfl, .inr (SqT.of ha), _, rfl, rfl, ?_⟩
      rw [dec_int, hl.len]
      exact k
def spCheckLines (C N : Addr) : Sp := fun vs H Q E => ∃ x d h, vs = [x] ∧ Is C h H x d ∧ (inI 1 12 d = true → Q .non H) ∧ (inI 1 12 d = false → E (.ref N) none H)
theorem ok_check_lines (T : Top K mg A) : FnOk P w K mg base (L2.CX P w) 3 A.a_check_lines A.d_check_lines P_check_lines (spCheckLines A.c_Cell A.c_NoLines) := by
  refine T.F_check_lines.okX sc_check_lines (fun vs H Q E h => ?_) (fun cdv A' outer s H vs Q E hr h => ?_)
  · obtain ⟨x, d, h, rfl, _⟩ := h
    rfl
  · obtain ⟨x, d, h, rfl, ht, k1, k2⟩ := h
    refine ⟨_, (pss_one (ps_if (pt_not (pt_val (pe_call (ok_is_integer_from T) (hr.mono (by decide)) (by rfl) T.g_is_integer_from T.F_is_integer_from.kp T.b_is_integer_from .nil pass0 (pa_cons pe_int (pa_cons (pe_glob (v := .int 12) rfl (T.k_MOST_LINES).choose_spec ⟨_, rfl⟩) (pa_cons (pv 0) pa_nil)))))) (pss_one (ps_raise rfl (takes_of rfl rfl rfl rfl) (GX.pmk_own0 PySem.F.excBase_ValueError T.x_NoLines T.gc_NoLines T.kp_NoLines (raises_own T.s_NoLines T.t_NoLines) rfl))) pss_nil)), ?_⟩
    refine ⟨_, rfl, _, _, _, _, _, rfl, ht, _, rfl, ?_⟩
    cases c : inI 1 12 d with
    | true => exact iteF (k1 c)
    | false => exact iteT (k2 c)
def spCheckMost (C N : Addr) : Sp := fun vs H Q E => ∃ x d h, vs = [x] ∧ Is C h H x d ∧ (inI 1 3 d = true → Q .non H) ∧ (inI 1 3 d = false → E (.ref N) none H)
theorem ok_check_most (T : Top K mg A) : FnOk P w K mg base (L2.CX P w) 3 A.a_check_most A.d_check_most P_check_most (spCheckMost A.c_Cell A.c_NoMost) := by
  refine T.F_check_most.okX sc_check_most (fun vs H Q E h => ?_) (fun cdv A' outer s H vs Q E hr h => ?_)
  · obtain ⟨x, d, h, rfl, _⟩ := h
    rfl
  · obtain ⟨x, d, h, rfl, ht, k1, k2⟩ := h
    refine ⟨_, (pss_one (ps_if (pt_not (pt_val (pe_call (ok_is_integer_from T) (hr.mono (by decide)) (by rfl) T.g_is_integer_from T.F_is_integer_from.kp T.b_is_integer_from .nil pass0 (pa_cons pe_int (pa_cons (pe_glob (v := .int 3) rfl (T.k_MOST_COPIES).choose_spec ⟨_, rfl⟩) (pa_cons (pv 0) pa_nil)))))) (pss_one (ps_raise rfl (takes_of rfl rfl rfl rfl) (GX.pmk_own0 PySem.F.excBase_ValueError T.x_NoMost T.gc_NoMost T.kp_NoMost (raises_own T.s_NoMost T.t_NoMost) rfl))) pss_nil)), ?_⟩
    refine ⟨_, rfl, _, _, _, _, _, rfl, ht, _, rfl, ?_⟩
    cases c : inI 1 3 d with
    | true => exact iteF (k1 c)
    | false => exact iteT (k2 c)
def spICN (C : Addr) : Sp := fun vs H Q _ => ∃ x d h, vs = [x] ∧ Is C h H x d ∧ Q (.bl (inI 0 1000000000 d)) H
theorem ok_is_cell_number (T : Top K mg A) : FnOk P w K mg base CX0 3 A.a_is_cell_number A.d_is_cell_number P_is_cell_number (spICN A.c_Cell) := by
  refine T.F_is_cell_number.ok sc_is_cell_number (fun vs H Q E h => ?_) (fun cdv A' outer s H vs Q E hr h => ?_)
  · obtain ⟨x, d, h, rfl, _⟩ := h
    rfl
  · obtain ⟨x, d, h, rfl, ht, k⟩ := h
    refine ⟨_, (pss_one (ps_ret (pe_call (ok_is_integer_from T) (hr.mono (by decide)) (by rfl) T.g_is_integer_from T.F_is_integer_from.kp T.b_is_integer_from .nil pass0 (pa_cons pe_int (pa_cons (pe_glob (v := .int 1000000000) rfl (T.k_GREATEST_CELL).choose_spec ⟨_, rfl⟩) (pa_cons (pv 0) pa_nil)))))), ?_⟩
    exact ⟨_, rfl, _, _, _, _, _, rfl, ht, k⟩
end

section
variable {P : Program} {w : World} {K : PySem.W.Frag} {mg : Str → Option Value} {base : Heap} {A : Adr}
theorem ascT_no {hi lo : Int} {d : Td} {r : List Td} (c : inI lo hi d = false) : ascT hi lo (d :: r) = false := by
  cases d with
  | int i =>
    show (decide (lo ≤ i) && decide (i ≤ hi) && _) = false
    rw [show (decide (lo ≤ i) && decide (i ≤ hi)) = false from c]
    rfl
  | _ => rfl
theorem ascT_yes {hi lo : Int} {d : Td} {r : List Td} (c : inI lo hi d = true) : ∃ i, d = .int i ∧ ascT hi lo (d :: r) = ascT hi (i + 1) r := by
  cases d with
  | int i =>
    refine ⟨i, rfl, ?_⟩
    show (decide (lo ≤ i) && decide (i ≤ hi) && _) = _
    rw [show (decide (lo ≤ i) && decide (i ≤ hi)) = true from c]
    rfl
  | _ => cases c
theorem lotB_no {n : Int} {d : Td} (c : isT d = false) : lotB n d = false := by
  cases d with
  | tup i => cases c
  | _ => rfl
theorem drop_at {α : Type} {xs : List α} {i : Nat} {x : α} (h : xs[i]? = some x) : xs.drop i = x :: xs.drop (i + 1) := by
  obtain ⟨hi, e⟩ := List.getElem?_eq_some_iff.mp h
  rw [List.drop_eq_getElem_cons hi, e]
def spLot (C : Addr) : Sp := fun vs H Q _ => ∃ (n : Int) (x : V) (d : Td) (h : Addr), vs = [.int n, x] ∧ Is C h H x d ∧ Q (.bl (lotB n d)) H
theorem ok_is_lot_below (T : Top K mg A) : FnOk P w K mg base CX0 3 A.a_is_lot_below A.d_is_lot_below P_is_lot_below (spLot A.c_Cell) := by
  refine T.F_is_lot_below.ok sc_is_lot_below (fun vs H Q E h => ?_) (fun cdv A' outer s H vs Q E hr h => ?_)
  · obtain ⟨n, x, d, h, rfl, _⟩ := h
    rfl
  · obtain ⟨n, x, d, h, rfl, ht, k⟩ := h
    obtain ⟨t, ty, _, _, e3⟩ := is_ty T ht
    refine ⟨_, (pss_cons (ps_if (pt_not (pt_val (pe_callB call_isi (by rfl) T.z_isinstance (by decide +kernel) (pa_cons (pv 1) (pa_cons (pe_bltn (v := .ty "tuple") (by rfl) T.z_tuple (by decide +kernel) rfl) pa_nil))))) (pss_one (ps_ret pe_bl)) pss_nil)
    (pss_cons (ps_set (i := 2) sc_is_lot_below.nd rfl (.inl rfl) (pe_un un_neg pe_int))
    (pss_cons (ps_for PassesOwn.never rfl (pi_tup (pv 1)) (pg_name (i := 3) sc_is_lot_below.nd rfl (.inl rfl)) (pss_cons (ps_if (pt_not (pt_val (pe_call (ok_is_integer_from T) (hr.mono (by decide)) (by rfl) T.g_is_integer_from T.F_is_integer_from.kp T.b_is_integer_from .nil pass0 (pa_cons (pe_op op_add (pv 2) pe_int) (pa_cons (pe_op op_sub (pv 0) pe_int) (pa_cons (pv 3) pa_nil)))))) (pss_one (ps_ret pe_bl)) pss_nil)
    (pss_one (ps_set (i := 2) sc_is_lot_below.nd rfl (.inl rfl) (pv 3)))))
    (pss_one (ps_ret pe_bl))))), ?_⟩
    refine ⟨_, rfl, _, _, _, _, _, rfl, .ty "tuple", ty, e3, _, rfl, ?_⟩
    cases c : isT d with
    | false =>
      rw [lotB_no c] at k
      exact iteT k
    | true =>
      obtain ⟨a, xs, ds, rfl, rfl, ha, hl⟩ := isT_of ht c
      refine iteF ?_
      refine ⟨_, rfl, ?_⟩
      refine ⟨_, rfl, a, rfl, ⟨_, SqT.of ha⟩, for_tup (xs := xs) (fun i σ H' => ∃ (l : Int) (y3 : Option V), σ = [some (.int n), some (.ref a), some (.int l), y3] ∧ H' = H ∧ ascT (n - 1) 0 ds = ascT (n - 1) (l + 1) (ds.drop i)) ⟨-1, none, rfl, rfl, rfl⟩ (fun i σ H' _ ⟨_, _, _, e, _⟩ => by rw [e]; exact SqT.of ha) ?_ ?_⟩
      · rintro i x σ H' hx ⟨l, y3, rfl, rfl, e⟩
        obtain ⟨d, hd, hxd⟩ := hl.get hx
        rw [drop_at hd] at e
        refine ⟨_, rfl, _, _, rfl, rfl, _, rfl, _, _, rfl, rfl, _, rfl, _, _, _, _, _, rfl, hxd, _, rfl, ?_⟩
        cases c : inI (l + 1) (n - 1) d with
        | false =>
          rw [ascT_no c] at e
          refine iteT ?_
          rw [show lotB n (.tup ds) = ascT (n - 1) 0 ds from rfl, e] at k
          exact k
        | true =>
          obtain ⟨i', rfl, e'⟩ := ascT_yes (r := ds.drop (i + 1)) c
          rw [e'] at e
          cases hxd
          exact iteF ⟨_, rfl, i', _, rfl, rfl, e⟩
      · rintro σ H' ⟨l, y3, rfl, rfl, e⟩
        rw [hl.len, List.drop_length] at e
        rw [show lotB n (.tup ds) = ascT (n - 1) 0 ds from rfl, e] at k
        exact k
theorem outsB_no {n m : Int} {d : Td} (c : lotB n d = false) : outsB n m d = false := by
  cases d with
  | tup ds =>
    show (ascT (n - 1) 0 ds && _) = false
    rw [show ascT (n - 1) 0 ds = false from c]
    rfl
  | _ => rfl
def spOuts (C : Addr) : Sp := fun vs H Q _ => ∃ (n m : Int) (x : V) (d : Td) (h : Addr), vs = [.int n, .int m, x] ∧ Is C h H x d ∧ Q (.bl (outsB n m d)) H
theorem ok_are_outs (T : Top K mg A) : FnOk P w K mg base CX0 4 A.a_are_outs A.d_are_outs P_are_outs (spOuts A.c_Cell) := by
  refine T.F_are_outs.ok sc_are_outs (fun vs H Q E h => ?_) (fun cdv A' outer s H vs Q E hr h => ?_)
  · obtain ⟨n, m, x, d, h, rfl, _⟩ := h
    rfl
  · obtain ⟨n, m, x, d, h, rfl, ht, k⟩ := h
    refine ⟨_, (pss_one (ps_ret (pe_and (pe_call (ok_is_lot_below T) (hr.mono (by decide)) (by rfl) T.g_is_lot_below T.F_is_lot_below.kp T.b_is_lot_below .nil pass0 (pa_cons (pv 0) (pa_cons (pv 2) pa_nil))) (pe_one (pe_chain op_le op_le pe_int (pe_callB call_len_seq (by rfl) T.z_len (by decide +kernel) (pa_cons (pv 2) pa_nil)) (pv 1)))))), ?_⟩
    refine ⟨_, rfl, _, rfl, _, _, _, _, rfl, ht, _, rfl, ?_⟩
    cases c : lotB n d with
    | false =>
      rw [outsB_no c] at k
      exact iteF k
    | true =>
      have ct : isT d = true := by
        cases d with
        | tup ds => rfl
        | _ => cases c
      obtain ⟨a, xs, ds, rfl, rfl, ha, hl⟩ := isT_of ht ct
      refine iteT ?_
      have e : outsB n m (.tup ds) = (decide (1 ≤ (ds.length : Int)) && decide ((ds.length : Int) ≤ m)) := by
        show (ascT (n - 1) 0 ds && _) = _
        rw [show ascT (n - 1) 0 ds = true from c]
        rfl
      rw [e] at k
      refine ⟨_, rfl, _, _, rfl, .inr (SqT.of ha), _, _, rfl, rfl, _, rfl, ?_⟩
      rw [hl.len]
      by_cases c1 : 1 ≤ (ds.length : Int)
      · rw [decide_eq_true c1] at k ⊢
        exact iteT ⟨_, rfl, _, _, rfl, rfl, k⟩
      · rw [decide_eq_false c1] at k ⊢
        exact iteF k
theorem arrB_no {n m : Int} {d : Td} (c : tupN 3 d = false) : arrB n m d = false := by
  cases d with
  | tup ds =>
    match ds, c with
    | [], _ => rfl
    | [_], _ => rfl
    | [_, _], _ => rfl
    | [_, _, _], c => cases c
    | _ :: _ :: _ :: _ :: _, _ => rfl
  | _ => rfl
theorem three {C h : Addr} {H : Hp} {x : V} {d : Td} (t : Is C h H x d) (c : tupN 3 d = true) : ∃ a u v z du dv dz, x = .ref a ∧ d = .tup [du, dv, dz] ∧ H a = some (.tup [u, v, z]) ∧ Is C h H u du ∧ Is C h H v dv ∧ Is C h H z dz := by
  have ct : isT d = true := by
    cases d with
    | tup ds => rfl
    | _ => cases c
  obtain ⟨a, xs, ds, rfl, rfl, ha, hl⟩ := isT_of t ct
  have e : ds.length = 3 := by
    have q := of_decide_eq_true c
    omega
  match ds, e, hl with
  | [du, dv, dz], _, .cons (v := u) a1 (.cons (v := v) a2 (.cons (v := z) a3 .nil)) => exact ⟨a, u, v, z, du, dv, dz, rfl, rfl, ha, a1, a2, a3⟩
def spArr (C : Addr) : Sp := fun vs H Q _ => ∃ (n m : Int) (x : V) (d : Td) (h : Addr), vs = [.int n, .int m, x] ∧ Is C h H x d ∧ Q (.bl (arrB n m d)) H
theorem ok_is_arrival (T : Top K mg A) : FnOk P w K mg base CX0 5 A.a_is_arrival A.d_is_arrival P_is_arrival (spArr A.c_Cell) := by
  refine T.F_is_arrival.ok sc_is_arrival (fun vs H Q E h => ?_) (fun cdv A' outer s H vs Q E hr h => ?_)
  · obtain ⟨n, m, x, d, h, rfl, _⟩ := h
    rfl
  · obtain ⟨n, m, x, d, h, rfl, ht, k⟩ := h
    refine ⟨_, (pss_cons (ps_if (pt_not (pt_val (pe_call (ok_is_tuple_of T) (hr.mono (by decide)) (by rfl) T.g_is_tuple_of T.F_is_tuple_of.kp T.b_is_tuple_of .nil pass0 (pa_cons pe_int (pa_cons (pv 2) pa_nil))))) (pss_one (ps_ret pe_bl)) pss_nil)
    (pss_cons (ps_asg (pv 2) (pg_tup rfl (pgs_cons (pg_name (i := 3) sc_is_arrival.nd rfl (.inl rfl)) (pgs_cons (pg_name (i := 4) sc_is_arrival.nd rfl (.inl rfl)) (pgs_cons (pg_name (i := 5) sc_is_arrival.nd rfl (.inl rfl)) pgs_nil)))))
    (pss_one (ps_ret (pe_and (pe_call (ok_is_number_below T) (hr.mono (by decide)) (by rfl) T.g_is_number_below T.F_is_number_below.kp T.b_is_number_below .nil pass0 (pa_cons (pe_glob (v := .int 100) rfl (T.k_STREAMS).choose_spec ⟨_, rfl⟩) (pa_cons (pv 3) pa_nil))) (pe_and (pe_call (ok_is_number_below T) (hr.mono (by decide)) (by rfl) T.g_is_number_below T.F_is_number_below.kp T.b_is_number_below .nil pass0 (pa_cons (pe_glob (v := .int 8) rfl (T.k_KINDS).choose_spec ⟨_, rfl⟩) (pa_cons (pv 4) pa_nil))) (pe_one (pe_call (ok_are_outs T) (hr.mono (by decide)) (by rfl) T.g_are_outs T.F_are_outs.kp T.b_are_outs .nil pass0 (pa_cons (pv 0) (pa_cons (pv 1) (pa_cons (pv 5) pa_nil))))))))))), ?_⟩
    refine ⟨_, rfl, _, _, _, _, rfl, ht, _, rfl, ?_⟩
    cases c : tupN 3 d with
    | false =>
      rw [arrB_no c] at k
      exact iteT k
    | true =>
      obtain ⟨a, u, v, z, du, dv, dz, rfl, rfl, ha, hu, hv, hz⟩ := three ht c
      refine iteF ?_
      refine ⟨_, rfl, a, _, rfl, SqT.of ha, rfl, _, _, rfl, _, _, rfl, _, _, rfl, rfl, ?_⟩
      have e : arrB n m (.tup [du, dv, dz]) = (inI 0 99 du && (inI 0 7 dv && outsB n m dz)) := rfl
      rw [e] at k
      refine ⟨_, rfl, _, _, _, _, rfl, hu, _, rfl, ?_⟩
      cases c1 : inI 0 (100 - 1) du with
      | false =>
        rw [show inI 0 99 du = false from c1] at k
        exact iteF k
      | true =>
        rw [show inI 0 99 du = true from c1] at k
        refine iteT ?_
        refine ⟨_, rfl, _, _, _, _, rfl, hv, _, rfl, ?_⟩
        cases c2 : inI 0 (8 - 1) dv with
        | false =>
          rw [show inI 0 7 dv = false from c2] at k
          exact iteF k
        | true =>
          rw [show inI 0 7 dv = true from c2] at k
          exact iteT ⟨_, rfl, _, rfl, _, rfl, _, _, _, _, _, rfl, hz, k⟩
theorem arrsB_no {n m : Int} {d : Td} (c : isT d = false) : arrsB n m d = false := by
  cases d with
  | tup i => cases c
  | _ => rfl
theorem rowB_no {n m : Int} {d : Td} (c : tupN n d = false) : rowB n m d = false := by
  cases d with
  | tup ds =>
    show (decide ((ds.length : Int) = n) && _) = false
    rw [show decide ((ds.length : Int) = n) = false from c]
    rfl
  | _ => rfl
theorem rowB_yes {n m : Int} {d : Td} (c : tupN n d = true) : ∃ ds, d = .tup ds ∧ rowB n m d = ds.all (itemB n m) := by
  cases d with
  | tup ds =>
    refine ⟨ds, rfl, ?_⟩
    show (decide ((ds.length : Int) = n) && _) = _
    rw [show decide ((ds.length : Int) = n) = true from c]
    rfl
  | _ => cases c
theorem all_no {f : Td → Bool} {ds : List Td} {i : Nat} {d : Td} (h : ds[i]? = some d) (c : f d = false) : ds.all f = false := by
  rw [List.all_eq_false]
  exact ⟨d, List.mem_of_getElem? h, by rw [c]; exact Bool.false_ne_true⟩
theorem all_yes {f : Td → Bool} {ds : List Td} (h : ∀ (i : Nat) (d : Td), ds[i]? = some d → f d = true) : ds.all f = true := by
  rw [List.all_eq_true]
  intro d hd
  obtain ⟨i, hi⟩ := List.getElem?_of_mem hd
  exact h i d hi
theorem itemB_some {n m : Int} {d : Td} (h : d ≠ .non) : itemB n m d = arrB n m d := by
  cases d with
  | non => exact absurd rfl h
  | _ => rfl
theorem is_non {C h : Addr} {H : Hp} {v : V} {d : Td} (t : Is C h H v d) : v = .non ↔ d = .non := by
  cases t <;> first | exact ⟨fun _ => rfl, fun _ => rfl⟩ | exact ⟨(by intro z; cases z), (by intro z; cases z)⟩
def spFWI (C : Addr) : Sp := fun vs H Q _ => ∃ (n m : Int) (a : Addr) (ds : List Td) (h : Addr), vs = [.int n, .int m, .ref a] ∧ Is C h H (.ref a) (.tup ds) ∧ ∀ (H' : Hp) (v : V), Same H H' → (ds.all (itemB n m) = true → v = .non) → (ds.all (itemB n m) = false → ∃ i : Nat, v = .int (i : Int)) → Q v H'
theorem ok_first_wrong_item (T : Top K mg A) : FnOk P w K mg base CX0 6 A.a_first_wrong_item A.d_first_wrong_item P_first_wrong_item (spFWI A.c_Cell) := by
  refine T.F_first_wrong_item.ok sc_first_wrong_item (fun vs H Q E h => ?_) (fun cdv A' outer s H vs Q E hr h => ?_)
  · obtain ⟨n, m, x, d, h, rfl, _⟩ := h
    rfl
  · obtain ⟨n, m, b0, ds0, h, rfl, ht, k⟩ := h
    refine ⟨_, (pss_cons (ps_for PassesOwn.never rfl (GE.pi_enumA (by rfl) T.z_enumerate (pa_cons (pv 2) pa_nil)) (pg_tup rfl (pgs_cons (pg_name (i := 3) sc_first_wrong_item.nd rfl (.inl rfl)) (pgs_cons (pg_name (i := 4) sc_first_wrong_item.nd rfl (.inl rfl)) pgs_nil))) (pss_one (ps_if (PW.pt (pw_and (pt_cmpR op_notN (pv 4) pe_non (nomark _)) (pw_and1 (pt_not (pt_val (pe_call (ok_is_arrival T) (hr.mono (by decide)) (by rfl) T.g_is_arrival T.F_is_arrival.kp T.b_is_arrival .nil pass0 (pa_cons (pv 0) (pa_cons (pv 1) (pa_cons (pv 4) pa_nil))))))))) (pss_one (ps_ret (pv 3))) pss_nil)))
    (pss_one (ps_ret pe_non))), ?_⟩
    obtain ⟨b, ys, ds, e0, ed, hb, hls⟩ := isT_of ht rfl
    cases e0
    cases ed
    refine ⟨_, rfl, b0, ys, rfl, .inr ⟨SqT.of hb, for_it GE.walk (fun l σ H' => ∃ y5 y6 : Option V, σ = [some (.int n), some (.int m), some (.ref b0), y5, y6] ∧ Same H H' ∧ ∀ j dj, j < l → ds0[j]? = some dj → itemB n m dj = true)
      ⟨none, none, rfl, fun _ _ e => e, fun j _ hj => absurd hj (Nat.not_lt_zero _)⟩ (fun i σ H' _ ⟨_, _, _, s1, _⟩ => SqT.of (s1 _ _ hb)) ?_ ?_⟩⟩
    · rintro l v σ H3 H3' hl3 ⟨y5, y6, rfl, s4, al3⟩ ⟨p3, x1, x2, rfl, np3, rfl, e1, e3⟩
      cases e1
      have e3 : ys[l]? = some x2 := e3
      obtain ⟨di, hdi, hxi⟩ := hls.get e3
      have s5 := same_to s4 (s4.free np3) (o := .tup [.int (l : Nat), x2])
      have hxi' := hxi.same s5
      refine ⟨p3, _, rfl, SqT.of upd_same, rfl, _, _, rfl, _, _, rfl, rfl, ?_⟩
      refine ⟨_, rfl, rfl, _, rfl, ?_⟩
      have step : itemB n m di = true → ∀ j dj, j < l + 1 → ds0[j]? = some dj → itemB n m dj = true := fun c4 j dj hj hdj => by
        by_cases e : j = l
        · subst e
          rw [hdi] at hdj
          cases hdj
          exact c4
        · exact al3 j dj (by omega) hdj
      by_cases hx : x2 = .non
      · have ed : di = .non := (is_non hxi).mp hx
        rw [decide_eq_true hx]
        exact iteF ⟨_, _, rfl, s5, step (by rw [ed]; rfl)⟩
      · have ed : di ≠ .non := fun z => hx ((is_non hxi).mpr z)
        rw [decide_eq_false hx]
        refine iteT ?_
        refine ⟨_, rfl, _, rfl, _, rfl, _, _, _, _, _, rfl, hxi', _, rfl, ?_⟩
        cases c4 : arrB n m di with
        | true => exact iteF ⟨_, _, rfl, s5, step (by rw [itemB_some ed]; exact c4)⟩
        | false =>
          refine iteT ⟨_, rfl, ?_⟩
          have f := all_no (f := itemB n m) hdi (by rw [itemB_some ed]; exact c4)
          exact k _ _ s5 (fun z => by rw [f] at z; cases z) (fun _ => ⟨l, rfl⟩)
    · rintro σ H3 ⟨y5, y6, rfl, s4, al3⟩
      have f : ds0.all (itemB n m) = true := all_yes fun l d hd => al3 l d (by rw [hls.len]; exact (List.getElem?_eq_some_iff.mp hd).1) hd
      exact k _ _ s4 (fun _ => rfl) (fun z => by rw [f] at z; cases z)
def spFault (C : Addr) : Sp := fun vs H Q _ => ∃ (n m : Int) (x : V) (d : Td) (h : Addr), vs = [.int n, .int m, x] ∧ Is C h H x d ∧ ∀ (H' : Hp) (v : V), Same H H' → (arrsB n m d = true → v = .non) → (arrsB n m d = false → v ≠ .non) → Q v H'
theorem ok_arrivals_fault (T : Top K mg A) : FnOk P w K mg base CX0 7 A.a_arrivals_fault A.d_arrivals_fault P_arrivals_fault (spFault A.c_Cell) := by
  refine T.F_arrivals_fault.ok sc_arrivals_fault (fun vs H Q E h => ?_) (fun cdv A' outer s H vs Q E hr h => ?_)
  · obtain ⟨n, m, x, d, h, rfl, _⟩ := h
    rfl
  · obtain ⟨n, m, x, d, h, rfl, ht, k⟩ := h
    obtain ⟨t, ty, _, _, e3⟩ := is_ty T ht
    refine ⟨_, (pss_cons (ps_if (PW.pt (pw_or (pt_not (pt_val (pe_callB call_isi (by rfl) T.z_isinstance (by decide +kernel) (pa_cons (pv 2) (pa_cons (pe_bltn (v := .ty "tuple") (by rfl) T.z_tuple (by decide +kernel) rfl) pa_nil))))) (pw_or1 (pt_cmpR op_gt (pe_callB call_len_seq (by rfl) T.z_len (by decide +kernel) (pa_cons (pv 2) pa_nil)) (pe_glob (v := .int 200) rfl (T.k_MOST_BEATS).choose_spec ⟨_, rfl⟩) (nomark _))))) (pss_one (ps_ret (pe_un un_neg pe_int))) pss_nil)
    (pss_cons (ps_for PassesOwn.never rfl (GE.pi_enumA (by rfl) T.z_enumerate (pa_cons (pv 2) pa_nil)) (pg_tup rfl (pgs_cons (pg_name (i := 3) sc_arrivals_fault.nd rfl (.inl rfl)) (pgs_cons (pg_name (i := 4) sc_arrivals_fault.nd rfl (.inl rfl)) pgs_nil))) (pss_one (ps_if (pt_not (pt_val (pe_call (ok_is_tuple_of T) (hr.mono (by decide)) (by rfl) T.g_is_tuple_of T.F_is_tuple_of.kp T.b_is_tuple_of .nil pass0 (pa_cons (pv 0) (pa_cons (pv 4) pa_nil))))) (pss_one (ps_ret (pv 3))) pss_nil)))
    (pss_cons (ps_for PassesOwn.never rfl (GE.pi_enumA (by rfl) T.z_enumerate (pa_cons (pv 2) pa_nil)) (pg_tup rfl (pgs_cons (pg_name (i := 3) sc_arrivals_fault.nd rfl (.inl rfl)) (pgs_cons (pg_name (i := 4) sc_arrivals_fault.nd rfl (.inl rfl)) pgs_nil))) (pss_cons (ps_set (i := 5) sc_arrivals_fault.nd rfl (.inl rfl) (pe_call (ok_first_wrong_item T) (hr.mono (by decide)) (by rfl) T.g_first_wrong_item T.F_first_wrong_item.kp T.b_first_wrong_item .nil pass0 (pa_cons (pv 0) (pa_cons (pv 1) (pa_cons (pv 4) pa_nil)))))
    (pss_one (ps_if (pt_cmpR op_notN (pv 5) pe_non (nomark _)) (pss_one (ps_ret (pe_tup (pa_cons (pv 3) (pa_cons (pv 5) pa_nil))))) pss_nil))))
    (pss_one (ps_ret pe_non))))), ?_⟩
    have bad : ∀ {H' : Hp} {v : V}, Same H H' → arrsB n m d = false → v ≠ .non → Q v H' := fun s c hv => k _ _ s (fun z => by rw [c] at z; cases z) (fun _ => hv)
    refine ⟨_, rfl, _, _, _, _, _, rfl, .ty "tuple", ty, e3, _, rfl, ?_⟩
    cases c : isT d with
    | false => exact iteT ⟨_, rfl, bad (fun _ _ e => e) (arrsB_no c) (by intro z; cases z)⟩
    | true =>
      obtain ⟨a, xs, rs, rfl, rfl, ha, hl⟩ := isT_of ht c
      refine iteF ?_
      refine ⟨_, rfl, _, _, rfl, .inr (SqT.of ha), _, _, rfl, rfl, _, rfl, ite2 (fun c2 => ?_) (fun c2 => ?_)⟩
      · refine ⟨_, rfl, bad (fun _ _ e => e) ?_ (by intro z; cases z)⟩
        have q := of_decide_eq_true c2
        show (decide ((rs.length : Int) ≤ 200) && _) = false
        rw [decide_eq_false (by rw [← hl.len]; omega)]
        rfl
      · have q : ¬ (200 < (xs.length : Int)) := fun z => c2 (decide_eq_true z)
        have e0 : arrsB n m (.tup rs) = rs.all (rowB n m) := by
          show (decide ((rs.length : Int) ≤ 200) && _) = _
          rw [decide_eq_true (by rw [← hl.len]; omega)]
          rfl
        rw [e0] at bad k
        -- the rows' lengths
        refine ⟨_, rfl, a, xs, rfl, .inr ⟨SqT.of ha, for_it GE.walk (fun i σ H' => ∃ y3 y4 : Option V, σ = [some (.int n), some (.int m), some (.ref a), y3, y4, none] ∧ Same H H' ∧ ∀ j dj, j < i → rs[j]? = some dj → tupN n dj = true)
          ⟨none, none, rfl, fun _ _ e => e, fun j _ hj => absurd hj (Nat.not_lt_zero _)⟩ (fun i σ H' _ ⟨_, _, _, s1, _⟩ => SqT.of (s1 _ _ ha)) ?_ ?_⟩⟩
        · rintro i v σ H1 H1' hi ⟨y3, y4, rfl, s1, al⟩ ⟨p, x1, x2, rfl, np, rfl, e1, e2⟩
          cases e1
          have e2 : xs[i]? = some x2 := e2
          obtain ⟨dr, hdr, hxr⟩ := hl.get e2
          have s2 := same_to s1 (s1.free np) (o := .tup [.int (i : Nat), x2])
          refine ⟨p, _, rfl, SqT.of upd_same, rfl, _, _, rfl, _, _, rfl, rfl, ?_⟩
          refine ⟨_, rfl, _, rfl, _, _, _, _, rfl, hxr.same s2, _, rfl, ?_⟩
          cases c3 : tupN n dr with
          | false => exact iteT ⟨_, rfl, bad s2 (all_no hdr (rowB_no c3)) (by intro z; cases z)⟩
          | true =>
            refine iteF ⟨_, _, rfl, s2, fun j dj hj hdj => ?_⟩
            by_cases e : j = i
            · subst e
              rw [hdr] at hdj
              cases hdj
              exact c3
            · exact al j dj (by omega) hdj
        · rintro σ H1 ⟨y3, y4, rfl, s1, al⟩
          have al : ∀ j dj, rs[j]? = some dj → tupN n dj = true := fun j dj hj => al j dj (by rw [hl.len]; exact (List.getElem?_eq_some_iff.mp hj).1) hj
          -- the items
          refine ⟨_, rfl, a, xs, rfl, .inr ⟨SqT.of (s1 _ _ ha), for_it GE.walk (fun i σ H' => ∃ y3 y4 y5 : Option V, σ = [some (.int n), some (.int m), some (.ref a), y3, y4, y5] ∧ Same H H' ∧ ∀ j dj, j < i → rs[j]? = some dj → rowB n m dj = true)
            ⟨y3, y4, none, rfl, s1, fun j _ hj => absurd hj (Nat.not_lt_zero _)⟩ (fun i σ H' _ ⟨_, _, _, _, s1, _⟩ => SqT.of (s1 _ _ ha)) ?_ ?_⟩⟩
          · rintro i v σ H2 H2' hi ⟨y3, y4, y5, rfl, s2, al2⟩ ⟨p, x1, x2, rfl, np, rfl, e1, e2⟩
            cases e1
            have e2 : xs[i]? = some x2 := e2
            obtain ⟨dr, hdr, hxr⟩ := hl.get e2
            have s3 := same_to s2 (s2.free np) (o := .tup [.int (i : Nat), x2])
            refine ⟨p, _, rfl, SqT.of upd_same, rfl, _, _, rfl, _, _, rfl, rfl, ?_⟩
            obtain ⟨ds, rfl, er⟩ := rowB_yes (m := m) (al i dr hdr)
            obtain ⟨b, ys, ds', rfl, ed, hb, hls⟩ := isT_of hxr rfl
            refine ⟨_, rfl, _, rfl, _, rfl, n, m, b, ds, _, rfl, hxr.same s3, fun H4 v s4 y1 y2 => ?_⟩
            cases c4 : ds.all (itemB n m) with
            | true =>
              cases y1 c4
              refine ⟨_, rfl, rfl, _, rfl, ?_⟩
              rw [decide_eq_true rfl]
              refine iteF ⟨_, _, _, rfl, s3.trans s4, fun j dj hj hdj => ?_⟩
              by_cases e : j = i
              · subst e
                rw [hdr] at hdj
                cases hdj
                rw [er]
                exact c4
              · exact al2 j dj (by omega) hdj
            | false =>
              obtain ⟨l, rfl⟩ := y2 c4
              refine ⟨_, rfl, rfl, _, rfl, ?_⟩
              rw [decide_eq_false (by intro z; cases z)]
              refine iteT ⟨_, rfl, _, rfl, (by show 2 ≤ sizeLine; decide), fun q nq => ?_⟩
              exact bad (same_to (s3.trans s4) ((s3.trans s4).free nq)) (all_no hdr (by rw [er]; exact c4)) (by intro z; cases z)
          · rintro σ H2 ⟨y3, y4, y5, rfl, s2, al2⟩
            refine k _ _ s2 (fun _ => rfl) (fun c3 => ?_)
            rw [all_yes fun i d hd => al2 i d (by rw [hl.len]; exact (List.getElem?_eq_some_iff.mp hd).1) hd] at c3
            cases c3
def spIsArrs (C NL NM : Addr) : Sp := fun vs H Q E => ∃ (x y z : V) (dx dy dz : Td) (h : Addr), vs = [x, y, z] ∧ Is C h H x dx ∧ Is C h H y dy ∧ Is C h H z dz ∧ (inI 1 12 dx = false → E (.ref NL) none H) ∧ (inI 1 12 dx = true → inI 1 3 dy = false → E (.ref NM) none H) ∧
  ∀ (n m : Int) (H' : Hp), dx = .int n → dy = .int m → inI 1 12 dx = true → inI 1 3 dy = true → Same H H' → Q (.bl (arrsB n m dz)) H'
theorem inI_int {lo hi : Int} {d : Td} (c : inI lo hi d = true) : ∃ i, d = .int i ∧ lo ≤ i ∧ i ≤ hi := by
  cases d with
  | int i =>
    have q : (decide (lo ≤ i) && decide (i ≤ hi)) = true := c
    rw [Bool.and_eq_true, decide_eq_true_iff, decide_eq_true_iff] at q
    exact ⟨i, rfl, q.1, q.2⟩
  | _ => cases c
theorem ok_is_arrivals (T : Top K mg A) : FnOk P w K mg base (L2.CX P w) 8 A.a_is_arrivals A.d_is_arrivals P_is_arrivals (spIsArrs A.c_Cell A.c_NoLines A.c_NoMost) := by
  refine T.F_is_arrivals.okX sc_is_arrivals (fun vs H Q E h => ?_) (fun cdv A' outer s H vs Q E hr h => ?_)
  · obtain ⟨x, y, z, dx, dy, dz, h, rfl, _⟩ := h
    rfl
  · obtain ⟨x, y, z, dx, dy, dz, h, rfl, hx, hy, hz, e1, e2, k⟩ := h
    refine ⟨_, (pss_cons (ps_expr (pe_call (ok_check_lines T) (hr.mono (by decide)) (by rfl) T.g_check_lines T.F_check_lines.kp T.b_check_lines .nil (GX.passX rfl rfl rfl rfl) (pa_cons (pv 0) pa_nil)))
    (pss_cons (ps_expr (pe_call (ok_check_most T) (hr.mono (by decide)) (by rfl) T.g_check_most T.F_check_most.kp T.b_check_most .nil (GX.passX rfl rfl rfl rfl) (pa_cons (pv 1) pa_nil)))
    (pss_one (ps_ret (pe_cmpR op_isN (pe_call (ok_arrivals_fault T) (hr.mono (by decide)) (by rfl) T.g_arrivals_fault T.F_arrivals_fault.kp T.b_arrivals_fault .nil pass0 (pa_cons (pv 0) (pa_cons (pv 1) (pa_cons (pv 2) pa_nil)))) pe_non (nomark _)))))), ?_⟩
    refine ⟨_, rfl, x, dx, h, rfl, hx, fun c1 => ?_, e1⟩
    refine ⟨_, rfl, y, dy, h, rfl, hy, fun c2 => ?_, e2 c1⟩
    obtain ⟨n, rfl, _, _⟩ := inI_int c1
    obtain ⟨m, rfl, _, _⟩ := inI_int c2
    cases hx
    cases hy
    refine ⟨_, rfl, _, rfl, _, rfl, n, m, z, dz, h, rfl, hz, fun H' v s y1 y2 => ⟨rfl, ?_⟩⟩
    have q := k n m H' rfl rfl c1 c2 s
    cases c3 : arrsB n m dz with
    | true =>
      rw [c3] at q
      rw [y1 c3]
      exact q
    | false =>
      rw [c3] at q
      rw [decide_eq_false (y2 c3)]
      exact q
end

section
variable {P : Program} {w : World} {K : PySem.W.Frag} {mg : Str → Option Value} {base : Heap} {A : Adr}
/-! ### the error for arrivals; a cell -/
def spXInit (C : Addr) (f : Str) : Sp := fun vs H Q _ => ∃ (a : Addr) (v : V), vs = [.ref a, v] ∧ H a = some (exo a C none) ∧ ∀ dx, H dx = none → dx ≠ a → Q .non (upd (upd H dx (exd dx [(f, v)])) a (exo a C (some dx)))
theorem ok_BadArrivals___init__ (T : Top K mg A) : FnOk P w K mg base CX0 1 A.a_BadArrivals___init__ A.d_BadArrivals___init__ P_BadArrivals___init__ (spXInit A.c_BadArrivals "at") := by
  refine T.F_BadArrivals___init__.ok sc_BadArrivals___init__ (fun vs H Q E h => ?_) (fun cdv A' outer s H vs Q E hr h => ?_)
  · obtain ⟨a, v, rfl, _⟩ := h
    rfl
  · obtain ⟨a, v, rfl, ha, k⟩ := h
    refine ⟨_, (pss_one (ps_ost (pv 0) (pv 1))), ?_⟩
    exact ⟨_, rfl, _, rfl, a, _, rfl, T.ox_BadArrivals, T.nf_BadArrivals_at, .inl ⟨ha, k⟩⟩
theorem ascT_mono {hi hi' : Int} (h : hi ≤ hi') : ∀ {ds : List Td} {lo : Int}, ascT hi lo ds = true → ascT hi' lo ds = true
  | [], _, _ => rfl
  | d :: ds, lo, e => by
    cases c : inI lo hi d with
    | false =>
      rw [ascT_no c] at e
      cases e
    | true =>
      obtain ⟨i, rfl, e1⟩ := ascT_yes (r := ds) c
      rw [e1] at e
      have q : (decide (lo ≤ i) && decide (i ≤ hi)) = true := c
      rw [Bool.and_eq_true, decide_eq_true_iff, decide_eq_true_iff] at q
      show (decide (lo ≤ i) && decide (i ≤ hi') && ascT hi' (i + 1) ds) = true
      rw [decide_eq_true q.1, decide_eq_true (show i ≤ hi' by omega), ascT_mono h e]
      rfl
theorem outsB_mono {n m n' m' : Int} {d : Td} (hn : n ≤ n') (hm : m ≤ m') (h : outsB n m d = true) : outsB n' m' d = true := by
  cases d with
  | tup ds =>
    have q : (ascT (n - 1) 0 ds && (decide (1 ≤ (ds.length : Int)) && decide ((ds.length : Int) ≤ m))) = true := h
    rw [Bool.and_eq_true, Bool.and_eq_true, decide_eq_true_iff, decide_eq_true_iff] at q
    show (ascT (n' - 1) 0 ds && (decide (1 ≤ (ds.length : Int)) && decide ((ds.length : Int) ≤ m'))) = true
    rw [ascT_mono (show n - 1 ≤ n' - 1 by omega) q.1, decide_eq_true q.2.1, decide_eq_true (show (ds.length : Int) ≤ m' by omega)]
    rfl
  | _ => cases h
def cellF (num line : Int) (s k o : V) : List (Str × V) := putF "to_outs" o (putF "of_kind" k (putF "of_stream" s (putF "at_line" (.int line) (putF "came_as" (.int num) []))))
theorem putF_len {f : Str} {v : V} : ∀ fs : List (Str × V), (putF f v fs).length ≤ fs.length + 1
  | [] => Nat.le_refl _
  | (g, u) :: fs => by
    show (if _ then _ else _ : List (Str × V)).length ≤ _
    split
    · exact Nat.le_succ _
    · rw [List.length_cons, List.length_cons]
      exact Nat.succ_le_succ (putF_len fs)
def spCell (C : Addr) : Sp := fun vs H Q _ => ∃ (x dx : Addr) (num line : Int) (s k o : V) (ds dk d : Td) (h : Addr), vs = [.ref x, .int num, .int line, s, k, o] ∧ (0 ≤ num ∧ num ≤ 1000000000) ∧ (0 ≤ line ∧ line < 12) ∧ Is C h H s ds ∧ Is C h H k dk ∧ Is C h H o d ∧
  inI 0 99 ds = true ∧ inI 0 7 dk = true ∧ outsB 12 3 d = true ∧ H x = some (.ins C dx []) ∧ ∀ H', (∀ q, q ≠ x → H' q = H q) → H' x = some (.ins C dx (cellF num line s k o)) → Q .non H'
theorem ok_Cell___init__ (T : Top K mg A) : FnOk P w K mg base CX0 6 A.a_Cell___init__ A.d_Cell___init__ P_Cell___init__ (spCell A.c_Cell) := by
  refine T.F_Cell___init__.ok sc_Cell___init__ (fun vs H Q E h => ?_) (fun cdv A' outer s H vs Q E hr h => ?_)
  · obtain ⟨x, dx, num, line, s, k, o, ds, dk, d, h, rfl, _⟩ := h
    rfl
  · obtain ⟨x, dx, num, line, s, k, o, ds, dk, d, h, rfl, ⟨n0, n1⟩, ⟨l0, l1⟩, hs, hk, ho, cs, ck, co, hx, q⟩ := h
    refine ⟨_, (pss_cons (ps_if (pt_not (pt_val (pe_call (ok_is_cell_number T) (hr.mono (by decide)) (by rfl) T.g_is_cell_number T.F_is_cell_number.kp T.b_is_cell_number .nil pass0 (pa_cons (pv 1) pa_nil)))) (pss_one ps_never) pss_nil)
    (pss_cons (ps_if (pt_not (pt_val (pe_call (ok_is_number_below T) (hr.mono (by decide)) (by rfl) T.g_is_number_below T.F_is_number_below.kp T.b_is_number_below .nil pass0 (pa_cons (pe_glob (v := .int 12) rfl (T.k_MOST_LINES).choose_spec ⟨_, rfl⟩) (pa_cons (pv 2) pa_nil))))) (pss_one ps_never) pss_nil)
    (pss_cons (ps_if (pt_not (pt_val (pe_call (ok_is_number_below T) (hr.mono (by decide)) (by rfl) T.g_is_number_below T.F_is_number_below.kp T.b_is_number_below .nil pass0 (pa_cons (pe_glob (v := .int 100) rfl (T.k_STREAMS).choose_spec ⟨_, rfl⟩) (pa_cons (pv 3) pa_nil))))) (pss_one ps_never) pss_nil)
    (pss_cons (ps_if (pt_not (pt_val (pe_call (ok_is_number_below T) (hr.mono (by decide)) (by rfl) T.g_is_number_below T.F_is_number_below.kp T.b_is_number_below .nil pass0 (pa_cons (pe_glob (v := .int 8) rfl (T.k_KINDS).choose_spec ⟨_, rfl⟩) (pa_cons (pv 4) pa_nil))))) (pss_one ps_never) pss_nil)
    (pss_cons (ps_if (pt_not (pt_val (pe_call (ok_are_outs T) (hr.mono (by decide)) (by rfl) T.g_are_outs T.F_are_outs.kp T.b_are_outs .nil pass0 (pa_cons (pe_glob (v := .int 12) rfl (T.k_MOST_LINES).choose_spec ⟨_, rfl⟩) (pa_cons (pe_glob (v := .int 3) rfl (T.k_MOST_COPIES).choose_spec ⟨_, rfl⟩) (pa_cons (pv 5) pa_nil)))))) (pss_one ps_never) pss_nil)
    (pss_cons (ps_fld (pv 0) (pv 1) (by rfl))
    (pss_cons (ps_fld (pv 0) (pv 2) (by rfl))
    (pss_cons (ps_fld (pv 0) (pv 3) (by rfl))
    (pss_cons (ps_fld (pv 0) (pv 4) (by rfl))
    (pss_one (ps_fld (pv 0) (pv 5) (by rfl)))))))))))), ?_⟩
    refine ⟨_, rfl, _, _, h, rfl, .int num, true, ?_, iteF ?_⟩
    · show V.bl (decide (0 ≤ num) && decide (num ≤ 1000000000)) = _
      rw [decide_eq_true n0, decide_eq_true n1]
      rfl
    refine ⟨_, rfl, _, _, _, h, rfl, .int line, true, ?_, iteF ?_⟩
    · show V.bl (decide (0 ≤ line) && decide (line ≤ 12 - 1)) = _
      rw [decide_eq_true l0, decide_eq_true (show line ≤ 12 - 1 by omega)]
      rfl
    refine ⟨_, rfl, _, _, _, h, rfl, hs, true, congrArg V.bl cs, iteF ?_⟩
    refine ⟨_, rfl, _, _, _, h, rfl, hk, true, congrArg V.bl ck, iteF ?_⟩
    refine ⟨_, rfl, _, _, _, _, h, rfl, ho, true, congrArg V.bl co, iteF ?_⟩
    refine ⟨_, rfl, _, rfl, x, _, dx, _, rfl, hx, T.cl_Cell, T.n_Cell_came_as, (by show 0 < 1000; decide), ?_⟩
    refine ⟨_, rfl, _, rfl, x, _, dx, _, rfl, upd_same, T.cl_Cell, T.n_Cell_at_line, Nat.lt_of_le_of_lt (putF_len _) (by show 1 < 1000; decide), ?_⟩
    refine ⟨_, rfl, _, rfl, x, _, dx, _, rfl, upd_same, T.cl_Cell, T.n_Cell_of_stream, Nat.lt_of_le_of_lt (Nat.le_trans (putF_len _) (Nat.succ_le_succ (putF_len _))) (by show 2 < 1000; decide), ?_⟩
    refine ⟨_, rfl, _, rfl, x, _, dx, _, rfl, upd_same, T.cl_Cell, T.n_Cell_of_kind, Nat.lt_of_le_of_lt (Nat.le_trans (putF_len _) (Nat.succ_le_succ (Nat.le_trans (putF_len _) (Nat.succ_le_succ (putF_len _))))) (by show 3 < 1000; decide), ?_⟩
    refine ⟨_, rfl, _, rfl, x, _, dx, _, rfl, upd_same, T.cl_Cell, T.n_Cell_to_outs, Nat.lt_of_le_of_lt (Nat.le_trans (putF_len _) (Nat.succ_le_succ (Nat.le_trans (putF_len _) (Nat.succ_le_succ (Nat.le_trans (putF_len _) (Nat.succ_le_succ (putF_len _))))))) (by show 4 < 1000; decide), ?_⟩
    refine q _ (fun y hy => ?_) upd_same
    rw [upd_ne hy, upd_ne hy, upd_ne hy, upd_ne hy, upd_ne hy]
def spCells (C NL NM BA : Addr) : Sp := fun vs H Q E => ∃ (x y z : V) (dx dy dz : Td) (h : Addr), vs = [x, y, z] ∧ Is C h H x dx ∧ Is C h H y dy ∧ Is C h H z dz ∧ (inI 1 12 dx = false → E (.ref NL) none H) ∧ (inI 1 12 dx = true → inI 1 3 dy = false → E (.ref NM) none H) ∧
  (∀ (n m : Int), dx = .int n → dy = .int m → inI 1 12 dx = true → inI 1 3 dy = true → arrsB n m dz = false → ∀ (H' : Hp) (dd : Addr) (fs : List (Str × V)), Same H H' → H' dd = some (.xd fs) → E (.ref BA) (some dd) H') ∧
  ∀ (n m : Int), dx = .int n → dy = .int m → inI 1 12 dx = true → inI 1 3 dy = true → arrsB n m dz = true → ∀ (v : V) (H' : Hp), Same H H' → Q v H'
theorem ok_cells (T : Top K mg A) : FnOk P w K mg base (L2.CX P w) 8 A.a_cells A.d_cells P_cells (spCells A.c_Cell A.c_NoLines A.c_NoMost A.c_BadArrivals) := by
  refine T.F_cells.okX sc_cells (fun vs H Q E h => ?_) (fun cdv A' outer s H vs Q E hr h => ?_)
  · obtain ⟨x, y, z, dx, dy, dz, h, rfl, _⟩ := h
    rfl
  · obtain ⟨x, y, z, dx, dy, dz, h, rfl, hx, hy, hz, e1, e2, e3, k⟩ := h
    refine ⟨_, (pss_cons (ps_expr (pe_call (ok_check_lines T) (hr.mono (by decide)) (by rfl) T.g_check_lines T.F_check_lines.kp T.b_check_lines .nil (GX.passX rfl rfl rfl rfl) (pa_cons (pv 0) pa_nil)))
    (pss_cons (ps_expr (pe_call (ok_check_most T) (hr.mono (by decide)) (by rfl) T.g_check_most T.F_check_most.kp T.b_check_most .nil (GX.passX rfl rfl rfl rfl) (pa_cons (pv 1) pa_nil)))
    (pss_cons (ps_set (i := 3) sc_cells.nd rfl (.inl rfl) (pe_call (ok_arrivals_fault T) (hr.mono (by decide)) (by rfl) T.g_arrivals_fault T.F_arrivals_fault.kp T.b_arrivals_fault .nil pass0 (pa_cons (pv 0) (pa_cons (pv 1) (pa_cons (pv 2) pa_nil)))))
    (pss_cons (ps_if (pt_cmpR op_notN (pv 3) pe_non (nomark _)) (pss_one (ps_raise rfl (takes_of rfl rfl rfl rfl) (pmk_oex T.ox_BadArrivals T.xi_BadArrivals T.xt_BadArrivals (ok_BadArrivals___init__ T) (hr.mono (by decide)) T.b_BadArrivals___init__ .nil pass0 rfl T.gc_BadArrivals (pa_cons (pv 3) pa_nil)))) pss_nil)
    (pss_cons (ps_set (i := 4) sc_cells.nd rfl (.inl rfl) (pe_lst pa_nil))
    (pss_cons (ps_set (i := 5) sc_cells.nd rfl (.inl rfl) pe_int)
    (pss_cons (ps_for (L2.passes_of rfl) rfl (pi_tup (pv 2)) (pg_name (i := 6) sc_cells.nd rfl (.inl rfl)) (pss_cons (ps_set (i := 7) sc_cells.nd rfl (.inl rfl) (pe_lst pa_nil))
    (pss_cons (ps_for (L2.passes_of rfl) rfl (GE.pi_enumA (by rfl) T.z_enumerate (pa_cons (pv 6) pa_nil)) (pg_tup rfl (pgs_cons (pg_name (i := 8) sc_cells.nd rfl (.inl rfl)) (pgs_cons (pg_name (i := 9) sc_cells.nd rfl (.inl rfl)) pgs_nil))) (pss_one (ps_if (pt_cmpR op_notN (pv 9) pe_non (nomark _)) (pss_cons (ps_asg (pv 9) (pg_tup rfl (pgs_cons (pg_name (i := 10) sc_cells.nd rfl (.inl rfl)) (pgs_cons (pg_name (i := 11) sc_cells.nd rfl (.inl rfl)) (pgs_cons (pg_name (i := 12) sc_cells.nd rfl (.inl rfl)) pgs_nil)))))
    (pss_cons (ps_expr (pe_bm PySem.F.plainAttrs_list PySem.F.slot_list_append PySem.F.type_list_append mt_append (pv 7) (pa_cons (pe_make T.mk_Cell (ok_Cell___init__ T) (hr.mono (by decide)) (by rfl) T.gc_Cell T.b_Cell___init__ .nil pass0 (pa_cons (pv 5) (pa_cons (pv 8) (pa_cons (pv 10) (pa_cons (pv 11) (pa_cons (pv 12) pa_nil)))))) pa_nil)))
    (pss_one (ps_aug (i := 5) sc_cells.nd rfl (.inl rfl) pe_int ip_add)))) pss_nil)))
    (pss_one (ps_expr (pe_bm PySem.F.plainAttrs_list PySem.F.slot_list_append PySem.F.type_list_append mt_append (pv 4) (pa_cons (pv 7) pa_nil)))))))
    (pss_one (ps_ret (pv 4)))))))))), ?_⟩
    refine ⟨_, rfl, x, dx, h, rfl, hx, fun c1 => ?_, e1⟩
    refine ⟨_, rfl, y, dy, h, rfl, hy, fun c2 => ?_, e2 c1⟩
    obtain ⟨n, rfl, hn0, hn1⟩ := inI_int c1
    obtain ⟨m, rfl, hm0, hm1⟩ := inI_int c2
    cases hx
    cases hy
    have e3 := e3 n m rfl rfl c1 c2
    have k := k n m rfl rfl c1 c2
    refine ⟨_, rfl, _, rfl, _, rfl, n, m, z, dz, h, rfl, hz, fun H1 v s1 y1 y2 => ?_⟩
    refine ⟨_, rfl, rfl, _, rfl, ?_⟩
    cases c3 : arrsB n m dz with
    | false =>
      rw [decide_eq_false (y2 c3)]
      refine iteT ?_
      refine ⟨_, rfl, (by show 1 ≤ 1000; decide), fun a na => ?_⟩
      refine ⟨a, v, rfl, upd_same, fun dd nd hne => ⟨rfl, dd, [("at", v)], upd_same, ?_, ?_, ?_⟩⟩
      · rw [upd_ne hne, upd_same]
      · rw [upd_ne hne] at nd
        exact nd
      · refine e3 c3 _ dd _ (fun q o e => ?_) upd_same
        have e' := s1 _ _ e
        have hqa : q ≠ a := ne_of_none e' na
        have hqd : q ≠ dd := ne_of_none e' (by rw [upd_ne hne] at nd; exact nd)
        rw [upd_ne hqd]
        rw [del_ne hqa, upd_ne hqa, upd_ne hqd, upd_ne hqa]
        exact e'
    | true =>
      rw [y1 c3]
      refine iteF ?_
      have ct : isT dz = true := by
        cases dz with
        | tup ds => rfl
        | _ => cases c3
      obtain ⟨a, xs, rs, rfl, rfl, ha, hl⟩ := isT_of hz ct
      have q3 : (decide ((rs.length : Int) ≤ 200) && rs.all (rowB n m)) = true := c3
      rw [Bool.and_eq_true, decide_eq_true_iff, List.all_eq_true] at q3
      have k := k c3
      refine ⟨(by show 0 ≤ sizeLine; decide), fun B nB => ?_⟩
      have s2 := same_to s1 (s1.free nB) (o := .lst [])
      have nB0 := s1.free nB
      -- the beats
      refine ⟨_, rfl, a, rfl, ⟨_, SqT.of (s2 _ _ ha)⟩, for_tup (xs := xs) (fun i σ H' => ∃ (c : Nat) (bs : List V) (y6 y7 y8 y9 y10 y11 y12 : Option V), σ = [some (.int n), some (.int m), some (.ref a), some .non, some (.ref B), some (.int (c : Int)), y6, y7, y8, y9, y10, y11, y12] ∧ Same H H' ∧ c ≤ 12 * i ∧ H' B = some (.lst bs) ∧ bs.length = i)
        ⟨0, [], none, none, none, none, none, none, none, rfl, s2, Nat.le_refl _, upd_same, rfl⟩ (fun i σ H' _ ⟨_, _, _, _, _, _, _, _, _, _, s', _⟩ => SqT.of (s' _ _ ha)) ?_ ?_⟩
      · rintro i x σ H2 hx ⟨c, bs, y6, y7, y8, y9, y10, y11, y12, rfl, s3, hc, eB, lb⟩
        obtain ⟨dr, hdr, hxr⟩ := hl.get hx
        have hi : i < 200 := by
          have z := (List.getElem?_eq_some_iff.mp hx).1
          rw [hl.len] at z
          omega
        have hrow := q3.2 dr (List.mem_of_getElem? hdr)
        have ctr : isT dr = true := by
          cases dr with
          | tup ds => rfl
          | _ => cases hrow
        obtain ⟨b, ys, ds, rfl, rfl, hb, hls⟩ := isT_of hxr ctr
        have q4 : (decide ((ds.length : Int) = n) && ds.all (itemB n m)) = true := hrow
        rw [Bool.and_eq_true, decide_eq_true_iff, List.all_eq_true] at q4
        refine ⟨(by show 0 ≤ sizeLine; decide), fun D nD => ?_⟩
        have s4 := same_to s3 (s3.free nD) (o := .lst [])
        have nD0 := s3.free nD
        have hBD : B ≠ D := ne_of_none eB nD
        refine ⟨_, rfl, b, ys, rfl, .inr ⟨SqT.of (s4 _ _ hb), for_it GE.walk (fun l σ H' => ∃ (c : Nat) (cs : List V) (y8 y9 y10 y11 y12 : Option V), σ = [some (.int n), some (.int m), some (.ref a), some .non, some (.ref B), some (.int (c : Int)), some (.ref b), some (.ref D), y8, y9, y10, y11, y12] ∧ Same H H' ∧ c ≤ 12 * i + l ∧ H' B = some (.lst bs) ∧ H' D = some (.lst cs) ∧ cs.length ≤ l)
          ⟨c, [], y8, y9, y10, y11, y12, rfl, s4, hc, by rw [upd_ne hBD]; exact eB, upd_same, Nat.le_refl _⟩ (fun i σ H' _ ⟨_, _, _, _, _, _, _, _, s', _⟩ => SqT.of (s' _ _ hb)) ?_ ?_⟩⟩
        · rintro l v σ H3 H3' hl3 ⟨c, cs, y8, y9, y10, y11, y12, rfl, s5, hc, eB5, eD5, lc⟩ ⟨p3, x1, x2, rfl, np3, rfl, ex1, ex2⟩
          cases ex1
          have ex2 : ys[l]? = some x2 := ex2
          obtain ⟨di, hdi, hxi⟩ := hls.get ex2
          have hl12 : l < 12 := by
            have z := (List.getElem?_eq_some_iff.mp ex2).1
            rw [hls.len] at z
            omega
          have s6 := same_to s5 (s5.free np3) (o := .tup [.int (l : Nat), x2])
          have eB6 : (upd H3 p3 (.tup [.int (l : Nat), x2])) B = some (.lst bs) := by
            rw [upd_ne (ne_of_none eB5 np3)]
            exact eB5
          have eD6 : (upd H3 p3 (.tup [.int (l : Nat), x2])) D = some (.lst cs) := by
            rw [upd_ne (ne_of_none eD5 np3)]
            exact eD5
          refine ⟨p3, _, rfl, SqT.of upd_same, rfl, _, _, rfl, _, _, rfl, rfl, ?_⟩
          generalize (upd H3 p3 (.tup [.int (l : Nat), x2])) = H4 at s6 eB6 eD6 ⊢
          clear s5 eB5 eD5 np3
          refine ⟨_, rfl, rfl, _, rfl, ?_⟩
          by_cases hx2 : x2 = .non
          · rw [decide_eq_true hx2]
            exact iteF ⟨c, cs, _, _, _, _, _, rfl, s6, by omega, eB6, eD6, by omega⟩
          rw [decide_eq_false hx2]
          refine iteT ?_
          have edi : di ≠ .non := fun z => hx2 ((is_non hxi).mpr z)
          have hit := q4.2 di (List.mem_of_getElem? hdi)
          rw [itemB_some edi] at hit
          have c5 : tupN 3 di = true := by
            cases c6 : tupN 3 di with
            | true => rfl
            | false =>
              rw [arrB_no c6] at hit
              cases hit
          obtain ⟨e, u, v, z, du, dv, dw, rfl, rfl, he, hu, hv, hz'⟩ := three (hxi.same s6) c5
          have q5 : (inI 0 99 du && (inI 0 7 dv && outsB n m dw)) = true := hit
          rw [Bool.and_eq_true, Bool.and_eq_true] at q5
          refine ⟨_, rfl, e, _, rfl, SqT.of he, rfl, _, _, rfl, _, _, rfl, _, _, rfl, rfl, ?_⟩
          -- a cell
          refine ⟨_, rfl, .inl ⟨rfl, _, SqL.of eD6⟩, _, rfl, _, rfl, _, rfl, _, rfl, _, rfl, fun x dx nx ndx hne => ?_⟩
          have si : Same H4 (upd (upd H4 dx (.own x)) x (.ins A.c_Cell dx [])) := fun q o e => by
            rw [upd_ne (ne_of_none e nx), upd_ne (ne_of_none e ndx)]
            exact e
          refine ⟨x, dx, (c : Int), (l : Int), u, v, z, du, dv, dw, h, rfl, ⟨by omega, by omega⟩, ⟨by omega, by omega⟩, hu.same si, hv.same si, hz'.same si, q5.1, q5.2.1, outsB_mono hn1 hm1 q5.2.2, upd_same, fun H5 k5 e5 => ⟨rfl, ?_⟩⟩
          have s45 : Same H4 H5 := fun q o e => by
            rw [k5 q (ne_of_none e nx)]
            exact si q o e
          refine ⟨D, _, _, rfl, rfl, s45 _ _ eD6, small1000 (by omega), ?_⟩
          have s7 := s6.trans s45
          refine ⟨_, rfl, _, _, rfl, rfl, c + 1, cs ++ [.ref x], _, _, _, _, _, rfl, same_to s7 nD0, by omega, ?_, upd_same, ?_⟩
          · rw [upd_ne hBD]
            exact s45 _ _ eB6
          · rw [List.length_append, List.length_singleton]
            omega
        · rintro σ H3 ⟨c, cs, y8, y9, y10, y11, y12, rfl, s5, hc, eB5, eD5, lc⟩
          refine ⟨_, rfl, .inl ⟨rfl, _, SqL.of eB5⟩, _, rfl, B, _, _, rfl, rfl, eB5, small1000 (by omega), ?_⟩
          refine ⟨c, bs ++ [.ref D], _, _, _, _, _, _, _, rfl, same_to s5 nB0, ?_, upd_same, ?_⟩
          · rw [hls.len] at hc
            omega
          · rw [List.length_append, List.length_singleton, lb]
      · rintro σ H2 ⟨c, bs, y6, y7, y8, y9, y10, y11, y12, rfl, s3, hc, eB, lb⟩
        exact ⟨_, rfl, k _ _ s3⟩
end

section
variable {P : Program} {w : World} {K : PySem.W.Frag} {mg : Str → Option Value} {base : Heap} {A : Adr}
/-! ### the hand: a list of five, [the script's numbers, place, rest, mix, turns] -/
theorem upd_upd {H : Hp} {a : Addr} {o u : HO} : upd (upd H a o) a u = upd H a u := by
  funext b
  by_cases h : b = a
  · subst h
    rw [upd_same, upd_same]
  · rw [upd_ne h, upd_ne h, upd_ne h]
def handO (g : Addr) (i m s t : Int) : HO := .lst [.ref g, .int i, .int m, .int s, .int t]
/-- the hand stands at h, its numbers at g -/
structure HandAt (H : Hp) (h g : Addr) : Prop where
  cells : ∃ ns : List Int, H g = some (.lst (ns.map V.int))
  five : ∃ i m s t, H h = some (handO g i m s t) ∧ 0 ≤ i ∧ -(2 ^ 64) < s ∧ s < 2 ^ 64
  ne : h ≠ g
/-- as H but at h -/
def But (h : Addr) (H H' : Hp) : Prop := ∀ b, b ≠ h → H' b = H b
theorem But.upd {h : Addr} {H : Hp} {o : HO} : But h H (upd H h o) := fun _ hb => upd_ne hb
theorem But.trans {h : Addr} {H H1 H2 : Hp} (a : But h H H1) (b : But h H1 H2) : But h H H2 := fun c hc => (b c hc).trans (a c hc)
theorem But.refl (h : Addr) (H : Hp) : But h H H := fun _ _ => rfl
theorem hand_upd {H : Hp} {h g : Addr} (a : HandAt H h g) {i m s t : Int} (hi : 0 ≤ i) (hs : -(2 ^ 64) < s) (hs2 : s < 2 ^ 64) : HandAt (upd H h (handO g i m s t)) h g :=
  ⟨by
    obtain ⟨ns, e⟩ := a.cells
    exact ⟨ns, by rw [upd_ne a.ne.symm]; exact e⟩, ⟨i, m, s, t, upd_same, hi, hs, hs2⟩, a.ne⟩
def spDraw : Sp := fun vs H Q _ => ∃ (h g : Addr) (n : Int), vs = [.ref h, .int n] ∧ HandAt H h g ∧ 0 < n ∧ n < 1073741824 ∧ ∀ (H' : Hp) (d : Int), But h H H' → HandAt H' h g → 0 ≤ d → d < n → Q (.int d) H'
theorem ixn5 {g : Addr} {i m s t : Int} {v : V} : ∀ j : Nat, [V.ref g, V.int i, V.int m, V.int s, V.int t][j]? = some v → atI [V.ref g, V.int i, V.int m, V.int s, V.int t] (j : Int) = some v := fun j h => atI_nat h
theorem ok_law_draw (T : Top K mg A) : FnOk P w K mg base CX0 1 A.a_law_draw A.d_law_draw P_law_draw spDraw := by
  refine T.F_law_draw.ok sc_law_draw (fun vs H Q E h => ?_) (fun cdv A outer s H vs Q E hr h => ?_)
  · obtain ⟨h, g, n, rfl, _⟩ := h
    rfl
  · obtain ⟨h, g, n, rfl, ha, hn, hn2, k⟩ := h
    obtain ⟨ns, eg⟩ := ha.cells
    obtain ⟨i, m, sd, t, eh, hi, hs1, hs2⟩ := ha.five
    have hne := ha.ne
    refine ⟨_, (Evl.pss_cut (ps_if (PW.pt (pw_and (pt_cmpR op_eq (pe_ix ix_list (pv 0) pe_int (fun _ _ => rfl)) pe_int (nomark _)) (pw_and1 (pt_cmpR op_lt (pe_ix ix_list (pv 0) pe_int (fun _ _ => rfl)) (pe_callB call_len_seq (by rfl) T.z_len (by decide +kernel) (pa_cons (pe_ix ix_list (pv 0) pe_int (fun _ _ => rfl)) pa_nil)) (nomark _))))) (pss_cons (ps_set (i := 2) sc_law_draw.nd rfl (.inl rfl) (pe_ix ix_list (pe_ix ix_list (pv 0) pe_int (fun _ _ => rfl)) (pe_ix ix_list (pv 0) pe_int (fun _ _ => rfl)) (fun _ _ => rfl)))
    (pss_cons (ps_asg (pe_op op_add (pe_ix ix_list (pv 0) pe_int (fun _ _ => rfl)) pe_int) (pg_sub (pv 0) pe_int set_list))
    (pss_cons (ps_asg (pe_op op_mod (pe_callTy call_int1 (by rfl) T.z_int (by decide +kernel) (pa_cons (pe_op op_add (pe_op op_add (pe_op op_mul (pe_ix ix_list (pv 0) pe_int (fun _ _ => rfl)) pe_int) (pv 2)) pe_int) pa_nil)) pe_int) (pg_sub (pv 0) pe_int set_list))
    (pss_one (ps_if (pt_cmpR op_ge (pv 2) (pe_op op_pow pe_int pe_int) (nomark _)) (pss_one (ps_asg (pv 2) (pg_sub (pv 0) pe_int set_list))) pss_nil))))) pss_nil)
    (pss_cons (ps_if (pt_cmpR op_gt (pe_ix ix_list (pv 0) pe_int (fun _ _ => rfl)) pe_int (nomark _)) (pss_cons (ps_set (i := 3) sc_law_draw.nd rfl (.inl rfl) (pe_op op_mod (pe_callTy call_int1 (by rfl) T.z_int (by decide +kernel) (pa_cons (pe_ix ix_list (pv 0) pe_int (fun _ _ => rfl)) pa_nil)) (pv 1)))
    (pss_cons (ps_asg (pe_op op_fdiv (pe_ix ix_list (pv 0) pe_int (fun _ _ => rfl)) (pv 1)) (pg_sub (pv 0) pe_int set_list))
    (pss_one (ps_ret (pv 3))))) pss_nil)
    (pss_cons (ps_asg (pe_op op_add (pe_ix ix_list (pv 0) pe_int (fun _ _ => rfl)) pe_int) (pg_sub (pv 0) pe_int set_list))
    (pss_cons (ps_set (i := 4) sc_law_draw.nd rfl (.inl rfl) (pe_op op_mod (pe_callTy call_int1 (by rfl) T.z_int (by decide +kernel) (pa_cons (pe_op op_mul (pe_callTy call_int1 (by rfl) T.z_int (by decide +kernel) (pa_cons (pe_op op_add (pe_ix ix_list (pv 0) pe_int (fun _ _ => rfl)) (pe_op op_mul pe_int (pe_ix ix_list (pv 0) pe_int (fun _ _ => rfl)))) pa_nil)) pe_int) pa_nil)) pe_int))
    (pss_cons (ps_set (i := 4) sc_law_draw.nd rfl (.inl rfl) (pe_op op_mod (pe_callTy call_int1 (by rfl) T.z_int (by decide +kernel) (pa_cons (pe_op op_mul (pv 4) (pe_op op_add (pe_op op_fdiv (pv 4) pe_int) pe_int)) pa_nil)) pe_int))
    (pss_cons (ps_set (i := 4) sc_law_draw.nd rfl (.inl rfl) (pe_op op_mod (pe_callTy call_int1 (by rfl) T.z_int (by decide +kernel) (pa_cons (pe_op op_mul (pv 4) (pe_op op_add (pe_op op_fdiv (pv 4) pe_int) pe_int)) pa_nil)) pe_int))
    (pss_one (ps_ret (pe_op op_mod (pe_callTy call_int1 (by rfl) T.z_int (by decide +kernel) (pa_cons (pe_op op_fdiv (pv 4) pe_int) pa_nil)) (pv 1)))))))))), ?_⟩
    refine ⟨fun σ' H' => ∃ y2, σ' = [some (.ref h), some (.int n), y2, none, none] ∧ But h H H' ∧ HandAt H' h g, ?_, ?_⟩
    · -- the first if
      have stay : ∃ y2, (start N_law_draw [V.ref h, V.int n]) = [some (.ref h), some (.int n), y2, none, none] ∧ But h H H ∧ HandAt H h g := ⟨none, rfl, But.refl h H, ha⟩
      refine ⟨_, rfl, h, _, 2, _, rfl, rfl, SqL.of eh, atI_nat (j := 2) rfl, rfl, _, rfl, ite2 (fun c1 => ?_) (fun _ => iteF stay)⟩
      refine ⟨_, rfl, h, _, 1, _, rfl, rfl, SqL.of eh, atI_nat (j := 1) rfl, _, rfl, h, _, 0, _, rfl, rfl, SqL.of eh, atI_nat (j := 0) rfl, g, _, rfl, .inl (SqL.of eg), _, _, rfl, rfl, _, rfl, ite2 (fun c2 => ?_) (fun _ => stay)⟩
      have c3 : i < (ns.length : Int) := by
        have q := of_decide_eq_true c2
        rw [List.length_map] at q
        exact q
      have hj : i.toNat < ns.length := by omega
      have ej : (ns.map V.int)[i.toNat]? = some (.int ns[i.toNat]) := by
        rw [List.getElem?_map, List.getElem?_eq_getElem hj]
        rfl
      -- cell = hand[0][hand[1]]
      refine ⟨_, rfl, h, _, 0, _, rfl, rfl, SqL.of eh, atI_nat (j := 0) rfl, _, rfl, h, _, 1, _, rfl, rfl, SqL.of eh, atI_nat (j := 1) rfl, g, _, i, _, rfl, rfl, SqL.of eg, at_of (by omega) ej, ?_⟩
      -- hand[1] = hand[1] + 1
      refine ⟨_, rfl, h, _, 1, _, rfl, rfl, SqL.of eh, atI_nat (j := 1) rfl, i, 1, rfl, rfl, _, rfl, h, _, _, 1, rfl, rfl, eh, rfl, ?_⟩
      have eh1 : (upd H h (handO g (i + 1) m sd t)) h = some (handO g (i + 1) m sd t) := upd_same
      -- hand[3] = int(hand[3] * 69621 + cell + 11) % 2147483629
      refine ⟨_, rfl, h, _, 3, _, rfl, rfl, SqL.of eh1, atI_nat (j := 3) rfl, _, _, rfl, rfl, .inl ⟨hs1, hs2⟩, _, rfl, _, _, rfl, rfl, _, _, rfl, rfl, .inl ⟨_, rfl, _, _, rfl, rfl, (by show (0 : Int) < 2147483629; decide), _, rfl, h, _, _, 3, rfl, rfl, eh1, rfl, ?_⟩⟩
      have hm0 := Int.emod_nonneg (sd * 69621 + ns[i.toNat] + 11) (show (2147483629 : Int) ≠ 0 by decide)
      have hm1 := Int.emod_lt_of_pos (sd * 69621 + ns[i.toNat] + 11) (show (0 : Int) < 2147483629 by decide)
      obtain ⟨s2, es⟩ : ∃ s2, (sd * 69621 + ns[i.toNat] + 11) % 2147483629 = s2 := ⟨_, rfl⟩
      rw [es] at hm0 hm1
      rw [show ((fun i j => V.int (i % j)) (sd * 69621 + ns[i.toNat] + 11) 2147483629) = V.int s2 from congrArg V.int es]
      have eh2 : (upd (upd H h (handO g (i + 1) m sd t)) h (handO g (i + 1) m s2 t)) h = some (handO g (i + 1) m s2 t) := upd_same
      have h2 : HandAt (upd (upd H h (handO g (i + 1) m sd t)) h (handO g (i + 1) m s2 t)) h g := by
        rw [upd_upd]
        exact hand_upd ha (by omega) (by omega) (by omega)
      have b2 : But h H (upd (upd H h (handO g (i + 1) m sd t)) h (handO g (i + 1) m s2 t)) := But.upd.trans But.upd
      -- if cell >= 10 ** 18: hand[2] = cell
      refine ⟨_, rfl, 10, 18, rfl, rfl, ⟨by decide, by decide, by decide⟩, _, _, rfl, rfl, _, rfl, ite2 (fun _ => ?_) (fun _ => ⟨_, rfl, b2, h2⟩)⟩
      refine ⟨_, rfl, _, rfl, h, _, _, 2, rfl, rfl, eh2, rfl, ?_⟩
      exact ⟨_, rfl, b2.trans But.upd, hand_upd h2 (by omega) (by omega) (by omega)⟩
    · rintro σ' H1 ⟨y2, rfl, b1, h1⟩
      obtain ⟨i, m, sd, t, eh, hi, hs1, hs2⟩ := h1.five
      -- if hand[2] > 0
      refine ⟨_, rfl, h, _, 2, _, rfl, rfl, SqL.of eh, atI_nat (j := 2) rfl, _, _, rfl, rfl, _, rfl, ite2 (fun c => ?_) (fun _ => ?_)⟩
      · refine ⟨_, rfl, h, _, 2, _, rfl, rfl, SqL.of eh, atI_nat (j := 2) rfl, .inl ⟨_, rfl, _, rfl, _, _, rfl, rfl, hn, ?_⟩⟩
        refine ⟨_, rfl, h, _, 2, _, rfl, rfl, SqL.of eh, atI_nat (j := 2) rfl, _, rfl, _, _, rfl, rfl, ⟨hn, hn2⟩, _, rfl, h, _, _, 2, rfl, rfl, eh, rfl, ?_⟩
        exact ⟨_, rfl, k _ _ (b1.trans But.upd) (hand_upd h1 hi hs1 hs2) (Int.emod_nonneg _ (by omega)) (Int.emod_lt_of_pos _ hn)⟩
      · -- hand[4] = hand[4] + 1
        refine ⟨_, rfl, h, _, 4, _, rfl, rfl, SqL.of eh, atI_nat (j := 4) rfl, _, _, rfl, rfl, _, rfl, h, _, _, 4, rfl, rfl, eh, rfl, ?_⟩
        have eh1 : (upd H1 h (handO g i m sd (t + 1))) h = some (handO g i m sd (t + 1)) := upd_same
        have h3 : HandAt (upd H1 h (handO g i m sd (t + 1))) h g := hand_upd h1 hi hs1 hs2
        -- number = int(int(hand[3] + 7919 * hand[4]) * 48271) % 2147483647
        refine ⟨_, rfl, h, _, 3, _, rfl, rfl, SqL.of eh1, atI_nat (j := 3) rfl, _, rfl, h, _, 4, _, rfl, rfl, SqL.of eh1, atI_nat (j := 4) rfl, _, _, rfl, rfl, .inl ⟨by decide, by decide⟩, _, _, rfl, rfl, .inl ⟨_, rfl, _, _, rfl, rfl, .inr ⟨by decide, by decide⟩, .inl ⟨_, rfl, _, _, rfl, rfl, (by show (0 : Int) < 2147483647; decide), ?_⟩⟩⟩
        have hm0 := Int.emod_nonneg ((sd + 7919 * (t + 1)) * 48271) (show (2147483647 : Int) ≠ 0 by decide)
        have hm1 := Int.emod_lt_of_pos ((sd + 7919 * (t + 1)) * 48271) (show (0 : Int) < 2147483647 by decide)
        generalize ((sd + 7919 * (t + 1)) * 48271) % 2147483647 = x1 at hm0 hm1 ⊢
        refine ⟨_, rfl, _, rfl, _, _, rfl, rfl, ⟨by decide, by decide⟩, _, _, rfl, rfl, _, _, rfl, rfl, .inl ⟨by omega, by omega⟩, .inl ⟨_, rfl, _, _, rfl, rfl, (by show (0 : Int) < 2147483647; decide), ?_⟩⟩
        have hn0 := Int.emod_nonneg (x1 * (x1 / 1009 + 69621)) (show (2147483647 : Int) ≠ 0 by decide)
        have hn1 := Int.emod_lt_of_pos (x1 * (x1 / 1009 + 69621)) (show (0 : Int) < 2147483647 by decide)
        generalize (x1 * (x1 / 1009 + 69621)) % 2147483647 = x2 at hn0 hn1 ⊢
        refine ⟨_, rfl, _, rfl, _, _, rfl, rfl, ⟨by decide, by decide⟩, _, _, rfl, rfl, _, _, rfl, rfl, .inl ⟨by omega, by omega⟩, .inl ⟨_, rfl, _, _, rfl, rfl, (by show (0 : Int) < 2147483399; decide), ?_⟩⟩
        refine ⟨_, rfl, _, _, rfl, rfl, ⟨by decide, by decide⟩, .inl ⟨_, rfl, _, rfl, _, _, rfl, rfl, hn, ?_⟩⟩
        exact k _ _ (b1.trans But.upd) h3 (Int.emod_nonneg _ (by omega)) (Int.emod_lt_of_pos _ hn)
end
section
variable {P : Program} {w : World} {K : PySem.W.Frag} {mg : Str → Option Value} {base : Heap} {A : Adr}
theorem cut_mem {xs : List V} {lo hi : Option Int} {v : V} (h : v ∈ cutV xs lo hi) : v ∈ xs := by
  unfold cutV at h
  first
    | exact List.mem_of_mem_drop (List.mem_of_mem_take h)
    | exact List.mem_of_mem_take (List.mem_of_mem_drop h)
theorem take_map_more {xs : List V} {f : V → Int} {i : Nat} {x : V} (h : xs[i]? = some x) : ((xs.take (i + 1)).map f).map V.int = ((xs.take i).map f).map V.int ++ [V.int (f x)] := by
  rw [List.take_add_one, h, List.map_append, List.map_append]
  rfl
theorem len_cut {xs : List V} {lo hi : Option Int} : (cutV xs lo hi).length ≤ xs.length := by
  unfold cutV
  first
    | (rw [List.length_take, List.length_drop]; omega)
    | (rw [List.length_drop, List.length_take]; omega)
def vInt : V → Int
  | .int n => n
  | _ => 0
def spHand (K : PySem.W.Frag) : Sp := fun vs H Q _ => ∃ (a : Addr) (ns : List Int), vs = [.ref a] ∧ SqL K H a (ns.map V.int) ∧ ns.length ≤ 63 ∧ ∀ (H' : Hp) (h g : Addr), Same H H' → H h = none → H g = none → HandAt H' h g → Q (.ref h) H'
theorem ok_law_hand (T : Top K mg A) : FnOk P w K mg base CX0 1 A.a_law_hand A.d_law_hand P_law_hand (spHand K) := by
  refine T.F_law_hand.ok sc_law_hand (fun vs H Q E h => ?_) (fun cdv A outer s H vs Q E hr h => ?_)
  · obtain ⟨a, ns, rfl, _⟩ := h
    rfl
  · obtain ⟨a, ns, rfl, ha, hn, k⟩ := h
    refine ⟨_, (pss_cons (ps_setLc (i := 1) (own := [("_law_cell", 2)]) (by rfl) sc_law_hand.nd rfl rfl (sw_true rfl rfl rfl (by decide +kernel)) (pi_list (pe_slice sl_list (pv 0) po_none (po_some pe_int))) (blkOk_by (own := [("_law_cell", 2)]) (N := N_law_hand) (sc := defScope s_law_hand) (by decide +kernel)) (fun _ _ _ _ _ => (pg_name (i := 2) sc_law_hand.nd rfl (.inl rfl))) (fun _ _ _ _ _ => pts_nil) (fun _ _ _ _ _ => (pe_callB call_abs (by rfl) T.z_abs (by decide +kernel) (pa_cons (pe_callTy call_int1 (by rfl) T.z_int (by decide +kernel) (pa_cons (pv 2) pa_nil)) pa_nil))))
    (pss_one (ps_ret (pe_lst (pa_cons (pv 1) (pa_cons pe_int (pa_cons pe_int (pa_cons (pe_op op_add pe_int (pe_callB call_len_seq (by rfl) T.z_len (by decide +kernel) (pa_cons (pv 1) pa_nil))) (pa_cons pe_int pa_nil))))))))), ?_⟩
    refine ⟨_, rfl, _, rfl, a, _, rfl, ha, fun p np => ?_⟩
    have sp : Same H (upd H p (.lst (cutV (ns.map V.int) none (some 63)))) := same_upd np
    refine ⟨p, rfl, ⟨_, SqL.of upd_same⟩, fun D hD => ?_⟩
    have hpD : p ≠ D := fun e => by
      rw [← e, upd_same] at hD
      cases hD
    have hDn := sp.free hD
    refine lc_list (K := K) (a := p) (xs := cutV (ns.map V.int) none (some 63)) (fun i H' => Same H H' ∧ H' p = some (.lst (cutV (ns.map V.int) none (some 63))) ∧ ∃ zs : List Int, H' D = some (.lst (zs.map V.int)) ∧ zs.length ≤ i)
      ⟨same_to sp hDn, by rw [upd_ne hpD]; exact upd_same, [], upd_same, Nat.le_refl _⟩ (fun i H' _ h => SqL.of h.2.1) ?_ ?_
    · rintro i x H' hi ⟨s1, p1, zs, d1, l1⟩
      obtain ⟨n, _, rfl⟩ := List.mem_map.mp (cut_mem (List.mem_of_getElem? hi))
      have hi2 : i < 63 := by
        have q := (List.getElem?_eq_some_iff.mp hi).1
        have q2 := len_cut (xs := ns.map V.int) (lo := none) (hi := some 63)
        rw [List.length_map] at q2
        omega
      refine ⟨rfl, ?_⟩
      refine ⟨_, rfl, .inl ⟨_, rfl, _, rfl, _, d1, ?_, same_to s1 hDn, ?_, zs ++ [if n < 0 then -n else n], ?_, ?_⟩⟩
      · rw [List.length_map]
        exact small1000 (by omega)
      · rw [upd_ne hpD]
        exact p1
      · rw [upd_same, List.map_append]
        rfl
      · rw [List.length_append, List.length_singleton]
        omega
    · rintro H' ⟨s1, p1, zs, d1, l1⟩
      have lz : zs.length ≤ 63 := by
        have q2 := len_cut (xs := ns.map V.int) (lo := none) (hi := some 63)
        rw [List.length_map] at q2
        omega
      -- return [given, 0, 0, 1 + len(given), 0]
      refine ⟨_, rfl, _, rfl, D, _, rfl, .inl (SqL.of d1), 1, _, rfl, rfl, (by show 5 ≤ sizeLine; decide), fun h hh => ?_⟩
      have hhD : h ≠ D := fun e => by
        rw [e, d1] at hh
        cases hh
      refine k _ h D (same_to s1 (s1.free hh)) (s1.free hh) hDn ⟨⟨zs, by rw [upd_ne hhD.symm]; exact d1⟩, ⟨0, 0, 1 + (zs.length : Int), 0, ?_, Int.le_refl _, by omega, by omega⟩, hhD⟩
      rw [upd_same, List.length_map]
      rfl
def spAny (K : PySem.W.Frag) : Sp := fun vs H Q _ => ∃ (h g l : Addr) (xs : List V), vs = [.ref h, .ref l] ∧ HandAt H h g ∧ SqL K H l xs ∧ (∀ H', But h H H' → SqL K H' l xs) ∧ 0 < xs.length ∧ xs.length ≤ 100000 ∧ ∀ (H' : Hp) (j : Nat) (v : V), But h H H' → HandAt H' h g → xs[j]? = some v → Q v H'
theorem ok_law_any (T : Top K mg A) : FnOk P w K mg base CX0 2 A.a_law_any A.d_law_any P_law_any (spAny K) := by
  refine T.F_law_any.ok sc_law_any (fun vs H Q E h => ?_) (fun cdv A outer s H vs Q E hr h => ?_)
  · obtain ⟨h, g, l, xs, rfl, _⟩ := h
    rfl
  · obtain ⟨h, g, l, xs, rfl, ha, hl, hst, h0, h1, k⟩ := h
    refine ⟨_, (pss_one (ps_ret (pe_ix ix_list (pv 1) (pe_call (ok_law_draw T) (hr.mono (by decide)) (by rfl) T.g_law_draw T.F_law_draw.kp T.b_law_draw .nil pass0 (pa_cons (pv 0) (pa_cons (pe_callB call_len_seq (by rfl) T.z_len (by decide +kernel) (pa_cons (pv 1) pa_nil)) pa_nil))) (fun _ _ => rfl)))), ?_⟩
    refine ⟨_, rfl, _, rfl, _, rfl, l, _, rfl, .inl hl, h, g, _, rfl, ha, by omega, by omega, fun H' d hb hh d0 d1 => ?_⟩
    have hj : d.toNat < xs.length := by omega
    exact ⟨l, xs, d, _, rfl, rfl, hst H' hb, at_of (by omega) (List.getElem?_eq_getElem hj), k H' _ _ hb hh (List.getElem?_eq_getElem hj)⟩
end
theorem But.kp {h : Addr} {H H' : Hp} (b : But h H H') : Kp h H H' := fun q o hq e => (b q hq).trans e
theorem HandAt.same {h g : Addr} {H H' : Hp} (s : Same H H') (a : HandAt H h g) : HandAt H' h g :=
  ⟨by obtain ⟨ns, e⟩ := a.cells; exact ⟨ns, s _ _ e⟩, by obtain ⟨i, m, s', t, e, q⟩ := a.five; exact ⟨i, m, s', t, s _ _ e, q⟩, a.ne⟩
theorem HandAt.some {h g : Addr} {H : Hp} (a : HandAt H h g) : ∃ ys, H h = some (.lst ys) := by
  obtain ⟨i, m, s', t, e, q⟩ := a.five
  exact ⟨_, e⟩
theorem HandAt.ne_none {h g p : Addr} {H : Hp} (a : HandAt H h g) (hp : H p = none) : p ≠ h := by
  obtain ⟨o, e⟩ := a.some
  exact (ne_of_none e hp).symm
theorem cut_lo {xs : List V} {n : Nat} (h : n ≤ xs.length) : cutV xs none (some (n : Int)) = xs.take n := by
  unfold cutV
  rw [HT.sIx_none, HT.sIx_nat, Nat.min_eq_left h]
  rfl
theorem cut_hi {xs : List V} {n : Nat} (h : n ≤ xs.length) : cutV xs (some (n : Int)) none = xs.drop n := by
  unfold cutV
  rw [HT.sIx_none, HT.sIx_nat, Nat.min_eq_left h]
  exact List.take_of_length_le (by rw [List.length_drop]; omega)
theorem Is.kp {C h g : Addr} {H H' : Hp} {v : V} {d : Td} (t : Is C h H v d) (k : Kp h H H') (a : HandAt H h g) : Is C h H' v d := t.mv (.of k) a.some
theorem IsL.kp {C h g : Addr} {H H' : Hp} {v : List V} {d : List Td} (t : IsL C h H v d) (k : Kp h H H') (a : HandAt H h g) : IsL C h H' v d := t.mv (.of k) a.some
/-- a new tuple, a new list, told as data -/
theorem Is.newT {C h : Addr} {H : Hp} {p : Addr} {xs : List V} {ds : List Td} (l : IsL C h H xs ds) (np : H p = none) : Is C h (upd H p (.tup xs)) (.ref p) (.tup ds) := .tup upd_same (l.same (same_upd np))
theorem Is.newL {C h g : Addr} {H : Hp} {p : Addr} {xs : List V} (np : H p = none) (a : HandAt H h g) : Is C h (upd H p (.lst xs)) (.ref p) .oth := .lst upd_same (a.ne_none np)

section
variable {P : Program} {w : World} {K : PySem.W.Frag} {mg : Str → Option Value} {base : Heap} {A : Adr}
/-! ### the law's own looks -/
def spLInt (C : Addr) : Sp := fun vs H Q _ => ∃ (lo hi : Int) (x : V) (d : Td) (h : Addr), vs = [x, .int lo, .int hi] ∧ Is C h H x d ∧ Q (.bl (inI lo hi d)) H
theorem ok_law_is_int (T : Top K mg A) : FnOk P w K mg base CX0 1 A.a_law_is_int A.d_law_is_int P_law_is_int (spLInt A.c_Cell) := by
  refine T.F_law_is_int.ok sc_law_is_int (fun vs H Q E h => ?_) (fun cdv A' outer s H vs Q E hr h => ?_)
  · obtain ⟨lo, hi, x, d, h, rfl, _⟩ := h
    rfl
  · obtain ⟨lo, hi, x, d, h, rfl, ht, k⟩ := h
    obtain ⟨t, ty, e1, e2, _⟩ := is_ty T ht
    refine ⟨_, (pss_one (ps_ret (pe_and (pe_callB call_isi (by rfl) T.z_isinstance (by decide +kernel) (pa_cons (pv 0) (pa_cons (pe_bltn (v := .ty "int") (by rfl) T.z_int (by decide +kernel) rfl) pa_nil))) (pe_and (pe_not (pe_callB call_isi (by rfl) T.z_isinstance (by decide +kernel) (pa_cons (pv 0) (pa_cons (pe_bltn (v := .ty "bool") (by rfl) T.z_bool (by decide +kernel) rfl) pa_nil)))) (pe_one (pe_chain op_le op_le (pv 1) (pv 0) (pv 2))))))), ?_⟩
    refine ⟨_, rfl, _, _, _, _, _, rfl, .ty "int", ty, e1, (isI d || isBl d), rfl, ?_⟩
    cases c : isI d with
    | true =>
      obtain ⟨i, rfl, rfl⟩ := is_int ht c
      refine iteT ?_
      refine ⟨_, rfl, _, _, _, _, _, rfl, .ty "bool", ty, e2, false, rfl, true, rfl, iteT ?_⟩
      refine ⟨_, rfl, _, rfl, _, _, rfl, rfl, _, rfl, ?_⟩
      by_cases c : lo ≤ i
      · simp only [inI, decide_eq_true c, Bool.true_and] at k
        rw [decide_eq_true c]
        refine iteT ⟨_, rfl, _, _, rfl, rfl, k⟩
      · simp only [inI, decide_eq_false c, Bool.false_and] at k
        rw [decide_eq_false c]
        exact iteF k
    | false =>
      rw [inI_no c] at k
      cases c2 : isBl d with
      | false => exact iteF k
      | true =>
        rw [c2] at e2
        exact iteT ⟨_, rfl, _, _, _, _, _, rfl, .ty "bool", ty, e2, true, rfl, false, rfl, iteF k⟩
def zipB (ns : List Int) : List Bool := List.zipWith (fun a b => decide (a < b)) ns (ns.drop 1)
theorem asc_zip {hi : Int} : ∀ {ns : List Int} {lo : Int}, (∀ x ∈ ns, x ≤ hi) → (∀ x, ns.head? = some x → lo ≤ x) → ascT hi lo (ns.map Td.int) = (zipB ns).all id
  | [], _, _, _ => rfl
  | [x], lo, h1, h2 => by
    show (decide (lo ≤ x) && decide (x ≤ hi) && true) = true
    rw [decide_eq_true (h2 x rfl), decide_eq_true (h1 x (by simp))]
    rfl
  | x :: y :: r, lo, h1, h2 => by
    show (decide (lo ≤ x) && decide (x ≤ hi) && ascT hi (x + 1) (Td.int y :: r.map Td.int)) = (decide (x < y) && (zipB (y :: r)).all id)
    rw [decide_eq_true (h2 x rfl), decide_eq_true (h1 x (by simp))]
    by_cases c : x < y
    · have ih := asc_zip (hi := hi) (ns := y :: r) (lo := x + 1) (fun z hz => h1 z (List.mem_cons_of_mem _ hz)) (fun z hz => by cases hz; omega)
      rw [decide_eq_true c, ← ih]
      rfl
    · have e : ascT hi (x + 1) (Td.int y :: r.map Td.int) = false := ascT_no (by
        show (decide (x + 1 ≤ y) && _) = false
        rw [decide_eq_false (show ¬ (x + 1 ≤ y) by omega)]
        rfl)
      rw [e, decide_eq_false c]
      rfl
theorem asc_in {hi : Int} : ∀ {ds : List Td} {lo : Int}, 0 ≤ lo → ascT hi lo ds = true → ds.all (inI 0 hi) = true
  | [], _, _, _ => rfl
  | d :: ds, lo, h, e => by
    cases c : inI lo hi d with
    | false =>
      rw [ascT_no c] at e
      cases e
    | true =>
      obtain ⟨i, rfl, e1⟩ := ascT_yes (r := ds) c
      rw [e1] at e
      have q : (decide (lo ≤ i) && decide (i ≤ hi)) = true := c
      rw [Bool.and_eq_true, decide_eq_true_iff, decide_eq_true_iff] at q
      rw [List.all_cons, asc_in (show 0 ≤ i + 1 by omega) e]
      show (decide (0 ≤ i) && decide (i ≤ hi) && true) = true
      rw [decide_eq_true (show 0 ≤ i by omega), decide_eq_true q.2]
      rfl
theorem all_ints {lo hi : Int} : ∀ {ds : List Td}, ds.all (inI lo hi) = true → ∃ ns : List Int, ds = ns.map Td.int ∧ ∀ x ∈ ns, lo ≤ x ∧ x ≤ hi
  | [], _ => ⟨[], rfl, fun x hx => absurd hx List.not_mem_nil⟩
  | d :: ds, e => by
    rw [List.all_cons, Bool.and_eq_true] at e
    obtain ⟨ns, rfl, h⟩ := all_ints e.2
    obtain ⟨i, rfl, q⟩ := inI_int e.1
    exact ⟨i :: ns, rfl, fun x hx => by
      rcases List.mem_cons.mp hx with z | z
      · rw [z]
        exact q
      · exact h x z⟩
theorem IsL.of_ints {C h : Addr} {H : Hp} : ∀ {ns : List Int} {xs : List V}, IsL C h H xs (ns.map Td.int) → xs = ns.map V.int
  | [], _, .nil => rfl
  | _ :: _, _, .cons (.int _) t => by rw [t.of_ints]; rfl
def spLLot (C : Addr) : Sp := fun vs H Q _ => ∃ (n : Int) (x : V) (d : Td) (h : Addr), vs = [x, .int n] ∧ Is C h H x d ∧ (∀ ds, d = .tup ds → ds.length ≤ 100000) ∧ ∀ H', Same H H' → Q (.bl (lotB n d)) H'
theorem ok_law_is_lot (T : Top K mg A) : FnOk P w K mg base CX0 2 A.a_law_is_lot A.d_law_is_lot P_law_is_lot (spLLot A.c_Cell) := by
  refine T.F_law_is_lot.ok sc_law_is_lot (fun vs H Q E h => ?_) (fun cdv A' outer s H vs Q E hr h => ?_)
  · obtain ⟨n, x, d, h, rfl, _⟩ := h
    rfl
  · obtain ⟨n, x, d, h, rfl, ht, hlen, k⟩ := h
    obtain ⟨t, ty, _, _, e3⟩ := is_ty T ht
    refine ⟨_, (pss_cons (ps_if (PW.pt (pw_or (pt_not (pt_val (pe_callB call_isi (by rfl) T.z_isinstance (by decide +kernel) (pa_cons (pv 0) (pa_cons (pe_bltn (v := .ty "tuple") (by rfl) T.z_tuple (by decide +kernel) rfl) pa_nil))))) (pw_or1 (pt_not (pt_val (pe_callB (cr_all rfl) (by rfl) T.z_all (by decide +kernel) (pa_cons (pe_lc (own := [("_law_item", 4)]) (by rfl) sc_law_is_lot.nd (pi_tup (pv 0)) (blkOk_by (own := [("_law_item", 4)]) (N := N_law_is_lot) (sc := defScope s_law_is_lot) (by decide +kernel)) (fun _ _ _ _ _ => (pg_name (i := 4) sc_law_is_lot.nd rfl (.inl rfl))) (fun _ _ _ _ _ => pts_nil) (fun _ _ _ _ _ => (pe_call (ok_law_is_int (P := P) (w := w) T) (hr.mono (by decide)) (by rfl) T.g_law_is_int T.F_law_is_int.kp T.b_law_is_int .nil pass0 (pa_cons (pv 4) (pa_cons pe_int (pa_cons (pe_op op_sub (pv 1) pe_int) pa_nil)))))) pa_nil))))))) (pss_one (ps_ret pe_bl)) pss_nil)
    (pss_one (ps_ret (pe_callB (cr_all rfl) (by rfl) T.z_all (by decide +kernel) (pa_cons (pe_lc (own := [("_law_one", 2), ("_law_other", 3)]) (by rfl) sc_law_is_lot.nd (RZ.pi_zipA (by rfl) T.z_zip (pa_cons (pv 0) (pa_cons (pe_slice sl_tupA (pv 0) (po_some pe_int) po_none) pa_nil))) (blkOk_by (own := [("_law_one", 2), ("_law_other", 3)]) (N := N_law_is_lot) (sc := defScope s_law_is_lot) (by decide +kernel)) (fun _ _ _ _ _ => (show PG _ _ (gTup K 2 _) from (pg_tup rfl (pgs_cons (pg_name (i := 2) sc_law_is_lot.nd rfl (.inl rfl)) (pgs_cons (pg_name (i := 3) sc_law_is_lot.nd rfl (.inl rfl)) pgs_nil))))) (fun _ _ _ _ _ => pts_nil) (fun _ _ _ _ _ => (pe_cmpR op_lt (pv 2) (pv 3) (nomark _)))) pa_nil))))), ?_⟩
    refine ⟨_, rfl, _, _, _, _, _, rfl, .ty "tuple", ty, e3, _, rfl, ?_⟩
    cases c : isT d with
    | false =>
      have q := k H (fun _ _ e => e)
      rw [lotB_no c] at q
      exact iteT q
    | true =>
      obtain ⟨a, xs, ds, rfl, rfl, ha, hl⟩ := isT_of ht c
      have hlen := hlen ds rfl
      refine iteF ?_
      refine ⟨_, rfl, a, rfl, ⟨_, SqT.of ha⟩, fun D nD => ?_⟩
      refine lc_tup (K := K) (a := a) (xs := xs) (fun i H' => Same H H' ∧ H' D = some (.lst (((ds.take i).map (inI 0 (n - 1))).map V.bl))) ⟨same_upd nD, upd_same⟩ (fun i H' _ q => SqT.of (q.1 _ _ ha)) ?_ ?_
      · rintro i x H' hx ⟨s1, d1⟩
        obtain ⟨d, hd, hxd⟩ := hl.get hx
        have hi := (List.getElem?_eq_some_iff.mp hd).1
        refine ⟨rfl, ?_⟩
        refine ⟨_, rfl, _, rfl, _, _, rfl, rfl, _, _, x, d, h, rfl, hxd.same s1, ?_⟩
        refine ⟨_, d1, ?_, same_to s1 nD, ?_⟩
        · rw [List.length_map, List.length_map, List.length_take]
          exact Nat.lt_of_le_of_lt (Nat.le_trans (Nat.min_le_right _ _) hlen) (by decide)
        · rw [upd_same, List.take_add_one, hd, List.map_append, List.map_append]
          rfl
      · rintro H' ⟨s1, d1⟩
        rw [hl.len, List.take_length] at d1
        refine ⟨D, _, rfl, SqL.of d1, _, rfl, ?_⟩
        have eall : (ds.map (inI 0 (n - 1))).all id = ds.all (inI 0 (n - 1)) := by
          rw [List.all_map]
          rfl
        rw [eall]
        cases c1 : ds.all (inI 0 (n - 1)) with
        | false =>
          have q := k H' s1
          have e : lotB n (.tup ds) = false := by
            show ascT (n - 1) 0 ds = false
            cases c2 : ascT (n - 1) 0 ds with
            | false => rfl
            | true =>
              rw [asc_in (Int.le_refl 0) c2] at c1
              cases c1
          rw [e] at q
          exact iteT q
        | true =>
          refine iteF ?_
          obtain ⟨ns, rfl, hns⟩ := all_ints c1
          have exs := hl.of_ints
          subst exs
          have elot : lotB n (.tup (ns.map Td.int)) = (zipB ns).all id := asc_zip (fun x hx => (hns x hx).2) (fun x hx => (hns x (List.mem_of_mem_head? hx)).1)
          rw [elot] at k
          rw [List.length_map] at hlen
          have epr : (ns.map V.int).length = ns.length := List.length_map _
          refine ⟨_, rfl, _, rfl, 1, rfl, a, ns.map V.int, rfl, SqT.of (s1 _ _ ha), fun full => ?_, fun _ q nq => ?_⟩
          · have e0 : ns = [] := by
              have z := full.1
              rw [show HT.sIx (List.map V.int ns).length 0 (some 1) = min 1 (List.map V.int ns).length from HT.sIx_nat _ _ 1, epr] at z
              cases ns with
              | nil => rfl
              | cons y r =>
                rw [List.length_cons] at z
                omega
            have s2 := s1
            have hq : H' a = some (.tup ((ns.drop 1).map V.int)) := by
              rw [e0]
              have z := s1 _ _ ha
              rw [e0] at z
              exact z
            refine ⟨a, a, _, _, rfl, .inr ⟨SqT.of (s2 _ _ ha), SqT.of hq, fun D2 nD2 => ?_⟩⟩
            have nD20 := s2.free nD2
            refine lc_it (GE.walk_zipT rfl) (fun i H3 => Same H' H3 ∧ H3 D2 = some (.lst (((zipB ns).take i).map V.bl))) ⟨same_upd nD2, upd_same⟩ (fun i H3 _ z => ⟨SqT.of (z.1 _ _ (s2 _ _ ha)), SqT.of (z.1 _ _ hq)⟩) ?_ ?_
            · rintro i x H3 H3' hi ⟨s3, d3⟩ ⟨p, x1, x2, rfl, np, rfl, ex1, ex2⟩
              have ex1 : (ns.map V.int)[i]? = some x1 := ex1
              have ex2 : ((ns.drop 1).map V.int)[i]? = some x2 := ex2
              rw [List.getElem?_map] at ex1 ex2
              obtain ⟨u, hu, rfl⟩ := Option.map_eq_some_iff.mp ex1
              obtain ⟨v, hv, rfl⟩ := Option.map_eq_some_iff.mp ex2
              have s4 := same_to s3 (s3.free np) (o := .tup [.int u, .int v])
              have d4 : (upd H3 p (.tup [.int u, .int v])) D2 = some (.lst (((zipB ns).take i).map V.bl)) := by
                rw [upd_ne (ne_of_none d3 np)]
                exact d3
              refine ⟨p, _, rfl, SqT.of upd_same, rfl, _, _, rfl, _, _, rfl, rfl, rfl, ?_⟩
              have ez : (zipB ns)[i]? = some (decide (u < v)) := by
                unfold zipB
                rw [List.getElem?_zipWith, hu, hv]
              refine ⟨_, rfl, _, rfl, _, _, rfl, rfl, _, d4, ?_, same_to s4 nD2, ?_⟩
              · rw [List.length_map, List.length_take]
                have z : (zipB ns).length ≤ ns.length := by
                  unfold zipB
                  rw [List.length_zipWith]
                  omega
                exact Nat.lt_of_le_of_lt (Nat.le_trans (Nat.min_le_right _ _) (Nat.le_trans z hlen)) (by decide)
              · rw [upd_same, List.take_add_one, ez, List.map_append]
                rfl
            · rintro H3 ⟨s3, d3⟩
              have e9 : (zipB ns).take (min (ns.map V.int).length ((ns.drop 1).map V.int).length) = zipB ns := by
                refine List.take_of_length_le ?_
                unfold zipB
                rw [List.length_zipWith, List.length_map, List.length_map]
                exact Nat.le_refl _
              rw [e9] at d3
              refine ⟨D2, _, rfl, SqL.of d3, k _ (s2.trans s3)⟩
          · have s2 := same_to s1 (s1.free nq) (o := .tup (cutV (ns.map V.int) (some 1) none))
            have hq : (upd H' q (.tup (cutV (ns.map V.int) (some 1) none))) q = some (.tup ((ns.drop 1).map V.int)) := by
              rw [upd_same]
              cases ns with
              | nil => rfl
              | cons y r =>
                rw [show cutV ((y :: r).map V.int) (some 1) none = ((y :: r).map V.int).drop 1 from cut_hi (n := 1) (by rw [List.length_map, List.length_cons]; omega)]
                rfl
            generalize (upd H' q (.tup (cutV (ns.map V.int) (some 1) none))) = H2 at s2 hq ⊢
            refine ⟨a, q, _, _, rfl, .inr ⟨SqT.of (s2 _ _ ha), SqT.of hq, fun D2 nD2 => ?_⟩⟩
            have nD20 := s2.free nD2
            refine lc_it (GE.walk_zipT rfl) (fun i H3 => Same H2 H3 ∧ H3 D2 = some (.lst (((zipB ns).take i).map V.bl))) ⟨same_upd nD2, upd_same⟩ (fun i H3 _ z => ⟨SqT.of (z.1 _ _ (s2 _ _ ha)), SqT.of (z.1 _ _ hq)⟩) ?_ ?_
            · rintro i x H3 H3' hi ⟨s3, d3⟩ ⟨p, x1, x2, rfl, np, rfl, ex1, ex2⟩
              have ex1 : (ns.map V.int)[i]? = some x1 := ex1
              have ex2 : ((ns.drop 1).map V.int)[i]? = some x2 := ex2
              rw [List.getElem?_map] at ex1 ex2
              obtain ⟨u, hu, rfl⟩ := Option.map_eq_some_iff.mp ex1
              obtain ⟨v, hv, rfl⟩ := Option.map_eq_some_iff.mp ex2
              have s4 := same_to s3 (s3.free np) (o := .tup [.int u, .int v])
              have d4 : (upd H3 p (.tup [.int u, .int v])) D2 = some (.lst (((zipB ns).take i).map V.bl)) := by
                rw [upd_ne (ne_of_none d3 np)]
                exact d3
              refine ⟨p, _, rfl, SqT.of upd_same, rfl, _, _, rfl, _, _, rfl, rfl, rfl, ?_⟩
              have ez : (zipB ns)[i]? = some (decide (u < v)) := by
                unfold zipB
                rw [List.getElem?_zipWith, hu, hv]
              refine ⟨_, rfl, _, rfl, _, _, rfl, rfl, _, d4, ?_, same_to s4 nD2, ?_⟩
              · rw [List.length_map, List.length_take]
                have z : (zipB ns).length ≤ ns.length := by
                  unfold zipB
                  rw [List.length_zipWith]
                  omega
                exact Nat.lt_of_le_of_lt (Nat.le_trans (Nat.min_le_right _ _) (Nat.le_trans z hlen)) (by decide)
              · rw [upd_same, List.take_add_one, ez, List.map_append]
                rfl
            · rintro H3 ⟨s3, d3⟩
              have e9 : (zipB ns).take (min (ns.map V.int).length ((ns.drop 1).map V.int).length) = zipB ns := by
                refine List.take_of_length_le ?_
                unfold zipB
                rw [List.length_zipWith, List.length_map, List.length_map]
                exact Nat.le_refl _
              rw [e9] at d3
              refine ⟨D2, _, rfl, SqL.of d3, k _ (s2.trans s3)⟩
/-- whether a tuple's third item is short enough to be walked -/
def Short (d : Td) : Prop := ∀ ds, d = .tup ds → ds.length ≤ 100000 ∧ ∀ e ∈ ds, ∀ es, e = .tup es → es.length ≤ 100000 ∧ ∀ f ∈ es, ∀ fs, f = .tup fs → fs.length ≤ 100000 ∧ ∀ g ∈ fs, ∀ gs, g = .tup gs → gs.length ≤ 100000
def spLArr (C : Addr) : Sp := fun vs H Q _ => ∃ (n m : Int) (x : V) (d : Td) (h : Addr), vs = [.int n, .int m, x] ∧ Is C h H x d ∧ (∀ fs, d = .tup fs → ∀ g ∈ fs, ∀ gs, g = .tup gs → gs.length ≤ 100000) ∧ ∀ H', Same H H' → Q (.bl (arrB n m d)) H'
theorem ok_law_is_arrival (T : Top K mg A) : FnOk P w K mg base CX0 3 A.a_law_is_arrival A.d_law_is_arrival P_law_is_arrival (spLArr A.c_Cell) := by
  refine T.F_law_is_arrival.ok sc_law_is_arrival (fun vs H Q E h => ?_) (fun cdv A' outer s H vs Q E hr h => ?_)
  · obtain ⟨n, m, x, d, h, rfl, _⟩ := h
    rfl
  · obtain ⟨n, m, x, d, h, rfl, ht, hsh, k⟩ := h
    obtain ⟨t, ty, _, _, e3⟩ := is_ty T ht
    have k0 := k H (fun _ _ e => e)
    refine ⟨_, (pss_cons (ps_if (PW.pt (pw_or (pt_not (pt_val (pe_callB call_isi (by rfl) T.z_isinstance (by decide +kernel) (pa_cons (pv 2) (pa_cons (pe_bltn (v := .ty "tuple") (by rfl) T.z_tuple (by decide +kernel) rfl) pa_nil))))) (pw_or (pt_cmpR op_ne (pe_callB call_len_seq (by rfl) T.z_len (by decide +kernel) (pa_cons (pv 2) pa_nil)) pe_int (nomark _)) (pw_or1 (pt_not (pt_val (pe_call (ok_law_is_int T) (hr.mono (by decide)) (by rfl) T.g_law_is_int T.F_law_is_int.kp T.b_law_is_int .nil pass0 (pa_cons (pe_ix ix_tup (pv 2) pe_int (fun _ _ => rfl)) (pa_cons pe_int (pa_cons pe_int pa_nil)))))))))) (pss_one (ps_ret pe_bl)) pss_nil)
    (pss_one (ps_ret (pe_and (pe_call (ok_law_is_int T) (hr.mono (by decide)) (by rfl) T.g_law_is_int T.F_law_is_int.kp T.b_law_is_int .nil pass0 (pa_cons (pe_ix ix_tup (pv 2) pe_int (fun _ _ => rfl)) (pa_cons pe_int (pa_cons pe_int pa_nil)))) (pe_and (pe_call (ok_law_is_lot T) (hr.mono (by decide)) (by rfl) T.g_law_is_lot T.F_law_is_lot.kp T.b_law_is_lot .nil pass0 (pa_cons (pe_ix ix_tup (pv 2) pe_int (fun _ _ => rfl)) (pa_cons (pv 0) pa_nil))) (pe_one (pe_chain op_le op_le pe_int (pe_callB call_len_seq (by rfl) T.z_len (by decide +kernel) (pa_cons (pe_ix ix_tup (pv 2) pe_int (fun _ _ => rfl)) pa_nil)) (pv 1)))))))), ?_⟩
    refine ⟨_, rfl, _, _, _, _, _, rfl, .ty "tuple", ty, e3, _, rfl, ?_⟩
    cases c : isT d with
    | false =>
      have z : tupN 3 d = false := tupN_no c
      rw [arrB_no z] at k0
      exact iteT k0
    | true =>
      obtain ⟨a, xs, ds, rfl, rfl, ha, hl⟩ := isT_of ht c
      refine iteF ?_
      refine ⟨_, rfl, _, _, rfl, .inr (SqT.of ha), rfl, _, rfl, ?_⟩
      rw [dec_int]
      by_cases c2 : (xs.length : Int) = 3
      · rw [decide_eq_true c2]
        refine iteF ?_
        have c3 : tupN 3 (.tup ds) = true := by
          show decide ((ds.length : Int) = 3) = true
          rw [← hl.len]
          exact decide_eq_true c2
        obtain ⟨a', u, v, z, du, dv, dz, e1, e2, ha', hu, hv, hz⟩ := three (.tup ha hl : Is A.c_Cell h H (.ref a) (.tup ds)) c3
        cases e1
        cases e2
        have e : arrB n m (.tup [du, dv, dz]) = (inI 0 99 du && (inI 0 7 dv && outsB n m dz)) := rfl
        rw [e] at k k0
        refine ⟨_, rfl, a, _, 0, _, rfl, rfl, SqT.of ha', atI_nat (j := 0) rfl, _, _, _, _, h, rfl, hu, _, rfl, ?_⟩
        cases c4 : inI 0 99 du with
        | false =>
          rw [c4] at k0
          exact iteT k0
        | true =>
          rw [c4] at k k0
          refine iteF ?_
          refine ⟨_, rfl, a, _, 1, _, rfl, rfl, SqT.of ha', atI_nat (j := 1) rfl, _, _, _, _, h, rfl, hv, _, rfl, ?_⟩
          cases c5 : inI 0 7 dv with
          | false =>
            rw [c5] at k0
            exact iteF k0
          | true =>
            rw [c5] at k k0
            refine iteT ?_
            refine ⟨_, rfl, a, _, 2, _, rfl, rfl, SqT.of ha', atI_nat (j := 2) rfl, _, rfl, n, _, _, h, rfl, hz, hsh _ rfl dz (by simp), fun H1 s1 => ⟨_, rfl, ?_⟩⟩
            have k1 := k H1 s1
            cases c6 : lotB n dz with
            | false =>
              rw [outsB_no c6] at k1
              exact iteF k1
            | true =>
              have ct : isT dz = true := by
                cases dz with
                | tup ds => rfl
                | _ => cases c6
              obtain ⟨b, ys, es, rfl, rfl, hb, hls⟩ := isT_of hz ct
              have e : outsB n m (.tup es) = (decide (1 ≤ (es.length : Int)) && decide ((es.length : Int) ≤ m)) := by
                show (ascT (n - 1) 0 es && _) = _
                rw [show ascT (n - 1) 0 es = true from c6]
                rfl
              rw [e] at k1
              refine iteT ?_
              refine ⟨_, rfl, a, _, 2, _, rfl, rfl, SqT.of (s1 _ _ ha'), atI_nat (j := 2) rfl, _, _, rfl, .inr (SqT.of (s1 _ _ hb)), _, _, rfl, rfl, _, rfl, ?_⟩
              rw [hls.len]
              by_cases c1 : 1 ≤ (es.length : Int)
              · rw [decide_eq_true c1] at k1 ⊢
                exact iteT ⟨_, rfl, _, _, rfl, rfl, k1⟩
              · rw [decide_eq_false c1] at k1 ⊢
                exact iteF k1
      · rw [decide_eq_false c2]
        have c3 : tupN 3 (.tup ds) = false := by
          show decide ((ds.length : Int) = 3) = false
          rw [← hl.len]
          exact decide_eq_false c2
        rw [arrB_no c3] at k0
        exact iteT k0
end

section
variable {P : Program} {w : World} {K : PySem.W.Frag} {mg : Str → Option Value} {base : Heap} {A : Adr}
/-- all its tuples are short -/
inductive Sh : Td → Prop where
  | int (i : Int) : Sh (.int i)
  | bl (b : Bool) : Sh (.bl b)
  | non : Sh .non
  | str (s : Str) : Sh (.str s)
  | oth : Sh .oth
  | tup {ds : List Td} : ds.length ≤ 1000 → (∀ d ∈ ds, Sh d) → Sh (.tup ds)
theorem Sh.len {ds : List Td} (s : Sh (.tup ds)) : ds.length ≤ 1000 := by
  cases s with
  | tup h _ => exact h
theorem Sh.item {ds : List Td} {d : Td} (s : Sh (.tup ds)) (h : d ∈ ds) : Sh d := by
  cases s with
  | tup _ k => exact k d h
theorem Sh.third {d : Td} (s : Sh d) : ∀ fs, d = .tup fs → ∀ g ∈ fs, ∀ gs, g = .tup gs → gs.length ≤ 100000 := by
  intro fs e g hg gs e2
  subst e e2
  exact Nat.le_trans (s.item hg).len (by decide)
def spLWrong (C : Addr) : Sp := fun vs H Q _ => ∃ (n m : Int) (x : V) (d : Td) (h : Addr), vs = [.int n, .int m, x] ∧ Is C h H x d ∧ Sh d ∧ ∀ (H' : Hp) (v : V), Same H H' → (arrsB n m d = true → v = .non) → (arrsB n m d = false → v ≠ .non) → Q v H'
theorem ok_law_wrong (T : Top K mg A) : FnOk P w K mg base CX0 4 A.a_law_wrong A.d_law_wrong P_law_wrong (spLWrong A.c_Cell) := by
  refine T.F_law_wrong.ok sc_law_wrong (fun vs H Q E h => ?_) (fun cdv A' outer s H vs Q E hr h => ?_)
  · obtain ⟨n, m, x, d, h, rfl, _⟩ := h
    rfl
  · obtain ⟨n, m, x, d, h, rfl, ht, hsh, k⟩ := h
    obtain ⟨t, ty, _, _, e3⟩ := is_ty T ht
    refine ⟨_, (pss_cons (ps_if (PW.pt (pw_or (pt_not (pt_val (pe_callB call_isi (by rfl) T.z_isinstance (by decide +kernel) (pa_cons (pv 2) (pa_cons (pe_bltn (v := .ty "tuple") (by rfl) T.z_tuple (by decide +kernel) rfl) pa_nil))))) (pw_or1 (pt_cmpR op_gt (pe_callB call_len_seq (by rfl) T.z_len (by decide +kernel) (pa_cons (pv 2) pa_nil)) pe_int (nomark _))))) (pss_one (ps_ret (pe_un un_neg pe_int))) pss_nil)
    (pss_cons (ps_for PassesOwn.never rfl (GE.pi_enumA (by rfl) T.z_enumerate (pa_cons (pv 2) pa_nil)) (pg_tup rfl (pgs_cons (pg_name (i := 3) sc_law_wrong.nd rfl (.inl rfl)) (pgs_cons (pg_name (i := 4) sc_law_wrong.nd rfl (.inl rfl)) pgs_nil))) (pss_cons (ps_if (PW.pt (pw_or (pt_not (pt_val (pe_callB call_isi (by rfl) T.z_isinstance (by decide +kernel) (pa_cons (pv 4) (pa_cons (pe_bltn (v := .ty "tuple") (by rfl) T.z_tuple (by decide +kernel) rfl) pa_nil))))) (pw_or1 (pt_cmpR op_ne (pe_callB call_len_seq (by rfl) T.z_len (by decide +kernel) (pa_cons (pv 4) pa_nil)) (pv 0) (nomark _))))) (pss_one (ps_ret (pv 3))) pss_nil)
    (pss_one (ps_for PassesOwn.never rfl (GE.pi_enumA (by rfl) T.z_enumerate (pa_cons (pv 4) pa_nil)) (pg_tup rfl (pgs_cons (pg_name (i := 5) sc_law_wrong.nd rfl (.inl rfl)) (pgs_cons (pg_name (i := 6) sc_law_wrong.nd rfl (.inl rfl)) pgs_nil))) (pss_one (ps_if (PW.pt (pw_and (pt_cmpR op_notN (pv 6) pe_non (nomark _)) (pw_and1 (pt_not (pt_val (pe_call (ok_law_is_arrival T) (hr.mono (by decide)) (by rfl) T.g_law_is_arrival T.F_law_is_arrival.kp T.b_law_is_arrival .nil pass0 (pa_cons (pv 0) (pa_cons (pv 1) (pa_cons (pv 6) pa_nil))))))))) (pss_one (ps_ret (pe_tup (pa_cons (pv 3) (pa_cons (pv 5) pa_nil))))) pss_nil))))))
    (pss_one (ps_ret pe_non)))), ?_⟩
    have bad : ∀ {H' : Hp} {v : V}, Same H H' → arrsB n m d = false → v ≠ .non → Q v H' := fun s c hv => k _ _ s (fun z => by rw [c] at z; cases z) (fun _ => hv)
    refine ⟨_, rfl, _, _, _, _, _, rfl, .ty "tuple", ty, e3, _, rfl, ?_⟩
    cases c : isT d with
    | false => exact iteT ⟨_, rfl, bad (fun _ _ e => e) (arrsB_no c) (by intro z; cases z)⟩
    | true =>
      obtain ⟨a, xs, rs, rfl, rfl, ha, hl⟩ := isT_of ht c
      refine iteF ?_
      refine ⟨_, rfl, _, _, rfl, .inr (SqT.of ha), _, _, rfl, rfl, _, rfl, ite2 (fun c2 => ?_) (fun c2 => ?_)⟩
      · refine ⟨_, rfl, bad (fun _ _ e => e) ?_ (by intro z; cases z)⟩
        have q := of_decide_eq_true c2
        show (decide ((rs.length : Int) ≤ 200) && _) = false
        rw [decide_eq_false (by rw [← hl.len]; omega)]
        rfl
      · have q : ¬ (200 < (xs.length : Int)) := fun z => c2 (decide_eq_true z)
        have e0 : arrsB n m (.tup rs) = rs.all (rowB n m) := by
          show (decide ((rs.length : Int) ≤ 200) && _) = _
          rw [decide_eq_true (by rw [← hl.len]; omega)]
          rfl
        rw [e0] at bad k
        refine ⟨_, rfl, a, xs, rfl, .inr ⟨SqT.of ha, for_it GE.walk (fun i σ H' => ∃ y3 y4 y5 y6 : Option V, σ = [some (.int n), some (.int m), some (.ref a), y3, y4, y5, y6] ∧ Same H H' ∧ ∀ j dj, j < i → rs[j]? = some dj → rowB n m dj = true)
          ⟨none, none, none, none, rfl, fun _ _ e => e, fun j _ hj => absurd hj (Nat.not_lt_zero _)⟩ (fun i σ H' _ ⟨_, _, _, _, _, s1, _⟩ => SqT.of (s1 _ _ ha)) ?_ ?_⟩⟩
        · rintro i v σ H2 H2' hi ⟨y3, y4, y5, y6, rfl, s2, al2⟩ ⟨p, x1, x2, rfl, np, rfl, e1, e2⟩
          cases e1
          have e2 : xs[i]? = some x2 := e2
          obtain ⟨dr, hdr, hxr⟩ := hl.get e2
          have s3 := same_to s2 (s2.free np) (o := .tup [.int (i : Nat), x2])
          refine ⟨p, _, rfl, SqT.of upd_same, rfl, _, _, rfl, _, _, rfl, rfl, ?_⟩
          obtain ⟨t2, ty2, _, _, e4⟩ := is_ty T (hxr.same s3)
          refine ⟨_, rfl, _, _, _, _, _, rfl, .ty "tuple", ty2, e4, _, rfl, ?_⟩
          cases c3 : isT dr with
          | false => exact iteT ⟨_, rfl, bad s3 (all_no hdr (rowB_no (tupN_no c3))) (by intro z; cases z)⟩
          | true =>
            obtain ⟨b, ys, ds, rfl, rfl, hb, hls⟩ := isT_of hxr c3
            refine iteF ?_
            refine ⟨_, rfl, _, _, rfl, .inr (SqT.of (s3 _ _ hb)), _, rfl, rfl, _, rfl, ?_⟩
            rw [dec_int]
            by_cases c4 : (ys.length : Int) = n
            · rw [decide_eq_true c4]
              refine iteF ?_
              have er : rowB n m (.tup ds) = ds.all (itemB n m) := by
                show (decide ((ds.length : Int) = n) && _) = _
                rw [decide_eq_true (by rw [← hls.len]; exact c4)]
                rfl
              refine ⟨_, rfl, b, ys, rfl, .inr ⟨SqT.of (s3 _ _ hb), for_it GE.walk (fun l σ H' => ∃ y5 y6 : Option V, σ = [some (.int n), some (.int m), some (.ref a), some (.int (i : Nat)), some (.ref b), y5, y6] ∧ Same H H' ∧ ∀ j dj, j < l → ds[j]? = some dj → itemB n m dj = true)
                ⟨y5, y6, rfl, s3, fun j _ hj => absurd hj (Nat.not_lt_zero _)⟩ (fun i σ H' _ ⟨_, _, _, s1, _⟩ => SqT.of (s1 _ _ hb)) ?_ ?_⟩⟩
              · rintro l v σ H3 H3' hl3 ⟨y5, y6, rfl, s4, al3⟩ ⟨p3, x1, x2, rfl, np3, rfl, e1, e3⟩
                cases e1
                have e3 : ys[l]? = some x2 := e3
                obtain ⟨di, hdi, hxi⟩ := hls.get e3
                have s5 := same_to s4 (s4.free np3) (o := .tup [.int (l : Nat), x2])
                have hxi' := hxi.same s5
                refine ⟨p3, _, rfl, SqT.of upd_same, rfl, _, _, rfl, _, _, rfl, rfl, ?_⟩
                refine ⟨_, rfl, rfl, _, rfl, ?_⟩
                have step : itemB n m di = true → ∀ j dj, j < l + 1 → ds[j]? = some dj → itemB n m dj = true := fun c4 j dj hj hdj => by
                  by_cases e : j = l
                  · subst e
                    rw [hdi] at hdj
                    cases hdj
                    exact c4
                  · exact al3 j dj (by omega) hdj
                by_cases hx : x2 = .non
                · have ed : di = .non := (is_non hxi).mp hx
                  rw [decide_eq_true hx]
                  exact iteF ⟨_, _, rfl, s5, step (by rw [ed]; rfl)⟩
                · have ed : di ≠ .non := fun z => hx ((is_non hxi).mpr z)
                  rw [decide_eq_false hx]
                  refine iteT ?_
                  refine ⟨_, rfl, _, rfl, _, rfl, n, m, x2, di, h, rfl, hxi', ((hsh.item (List.mem_of_getElem? hdr)).item (List.mem_of_getElem? hdi)).third, fun H6 s6 => ?_⟩
                  have s7 := s5.trans s6
                  refine ⟨_, rfl, ?_⟩
                  cases c4 : arrB n m di with
                  | true => exact iteF ⟨_, _, rfl, s7, step (by rw [itemB_some ed]; exact c4)⟩
                  | false =>
                    refine iteT ⟨_, rfl, _, rfl, (by show 2 ≤ sizeLine; decide), fun q nq => ?_⟩
                    exact bad (same_to s7 (s7.free nq)) (all_no hdr (by rw [er]; exact all_no hdi (by rw [itemB_some ed]; exact c4))) (by intro z; cases z)
              · rintro σ H3 ⟨y5, y6, rfl, s4, al3⟩
                refine ⟨_, _, _, _, rfl, s4, fun j dj hj hdj => ?_⟩
                by_cases e : j = i
                · subst e
                  rw [hdr] at hdj
                  cases hdj
                  rw [er]
                  exact all_yes fun l d hd => al3 l d (by rw [hls.len]; exact (List.getElem?_eq_some_iff.mp hd).1) hd
                · exact al2 j dj (by omega) hdj
            · rw [decide_eq_false c4]
              refine iteT ⟨_, rfl, bad s3 (all_no hdr (rowB_no ?_)) (by intro z; cases z)⟩
              show decide ((ds.length : Int) = n) = false
              rw [← hls.len]
              exact decide_eq_false c4
        · rintro σ H2 ⟨y3, y4, y5, y6, rfl, s2, al2⟩
          refine k _ _ s2 (fun _ => rfl) (fun c3 => ?_)
          rw [all_yes fun i d hd => al2 i d (by rw [hl.len]; exact (List.getElem?_eq_some_iff.mp hd).1) hd] at c3
          cases c3
end

section
variable {P : Program} {w : World} {K : PySem.W.Frag} {mg : Str → Option Value} {base : Heap} {A : Adr}
theorem Is.lset {C h D : Addr} {H : Hp} {us vs : List V} {v : V} {d : Td} (t : Is C h H v d) (e : H D = some (.lst us)) : Is C h (upd H D (.lst vs)) v d := by
  refine Is.rec (motive_1 := fun v d _ => Is C h (upd H D (.lst vs)) v d) (motive_2 := fun vs' ds _ => IsL C h (upd H D (.lst vs)) vs' ds) (fun i => .int i) (fun b => .bl b) .non (fun s => .str s)
    (fun e1 _ ih => .tup (by rw [upd_ne (ne_of e1 e (by intro z; cases z))]; exact e1) ih) (fun {a xs} e1 n => ?_) (fun e1 => .dK (by rw [upd_ne (ne_of e1 e (by intro z; cases z))]; exact e1)) (fun e1 => .ins (by rw [upd_ne (ne_of e1 e (by intro z; cases z))]; exact e1)) .nil (fun _ _ a b => .cons a b) t
  by_cases z : a = D
  · subst z
    exact .lst upd_same n
  · exact .lst (by rw [upd_ne z]; exact e1) n
theorem IsL.lset {C h D : Addr} {H : Hp} {us vs : List V} : ∀ {xs : List V} {ds : List Td}, IsL C h H xs ds → H D = some (.lst us) → IsL C h (upd H D (.lst vs)) xs ds
  | _, _, .nil, _ => .nil
  | _, _, .cons a t, e => .cons (a.lset e) (t.lset e)
theorem asc_pair {hi : Int} : ∀ {ns : List Int} {lo : Int}, ns.Pairwise (· < ·) → (∀ x ∈ ns, lo ≤ x ∧ x ≤ hi) → ascT hi lo (ns.map Td.int) = true
  | [], _, _, _ => rfl
  | x :: r, lo, p, h => by
    obtain ⟨p1, p2⟩ := List.pairwise_cons.mp p
    have hx := h x List.mem_cons_self
    show (decide (lo ≤ x) && decide (x ≤ hi) && ascT hi (x + 1) (r.map Td.int)) = true
    rw [decide_eq_true hx.1, decide_eq_true hx.2, asc_pair p2 fun y hy => ⟨by have := p1 y hy; omega, (h y (List.mem_cons_of_mem _ hy)).2⟩]
    rfl
def spOutsD : Sp := fun vs H Q _ => ∃ (h g : Addr) (n m : Int), vs = [.ref h, .int n, .int m] ∧ HandAt H h g ∧ (1 ≤ n ∧ n ≤ 1000) ∧ (1 ≤ m ∧ m ≤ 60) ∧
  ∀ (H' : Hp) (p : Addr) (ns : List Int), Kp h H H' → HandAt H' h g → H p = none → H' p = some (.tup (ns.map V.int)) → ascT (n - 1) 0 (ns.map Td.int) = true → 1 ≤ (ns.length : Int) → (ns.length : Int) ≤ m → Q (.ref p) H'
theorem ok_law_outs (T : Top K mg A) : FnOk P w K mg base CX0 2 A.a_law_outs A.d_law_outs P_law_outs spOutsD := by
  refine T.F_law_outs.ok sc_law_outs (fun vs H Q E h => ?_) (fun cdv A' outer s H vs Q E hr h => ?_)
  · obtain ⟨h, g, n, m, rfl, _⟩ := h
    rfl
  · obtain ⟨h, g, n, m, rfl, ha, ⟨n0, n1⟩, ⟨m0, m1⟩, k⟩ := h
    refine ⟨_, (pss_one (ps_ret (pe_callTy call_tuple_of (by rfl) T.z_tuple (by decide +kernel) (pa_cons (pe_callB (cr_sortedSet rfl) (by rfl) T.z_sorted (by decide +kernel) (pa_cons (pe_callTy (GX.cr_setI rfl) (by rfl) T.z_set (by decide +kernel) (pa_cons (pe_lc (own := [("_law_turn", 3)]) (by rfl) sc_law_outs.nd (pi_range1 rfl T.z_range (pa_cons (pe_op op_add pe_int (pe_call (ok_law_draw T) (hr.mono (by decide)) (by rfl) T.g_law_draw T.F_law_draw.kp T.b_law_draw .nil pass0 (pa_cons (pv 0) (pa_cons (pv 2) pa_nil)))) pa_nil)) (blkOk_by (own := [("_law_turn", 3)]) (N := N_law_outs) (sc := defScope s_law_outs) (by decide +kernel)) (fun _ _ _ _ _ => (pg_name (i := 3) sc_law_outs.nd rfl (.inl rfl))) (fun _ _ _ _ _ => pts_nil) (fun _ _ _ _ _ => (pe_call (ok_law_draw (P := P) (w := w) T) (hr.mono (by decide)) (by rfl) T.g_law_draw T.F_law_draw.kp T.b_law_draw .nil pass0 (pa_cons (pv 0) (pa_cons (pv 1) pa_nil))))) pa_nil)) pa_nil)) pa_nil)))), ?_⟩
    refine ⟨_, rfl, _, rfl, h, g, m, rfl, ha, by omega, by omega, fun H1 d b1 h1 d0 d1 => ?_⟩
    refine ⟨_, _, rfl, rfl, _, rfl, by omega, by omega, fun D nD => ?_⟩
    have hDh := h1.ne_none nD
    refine lc_range (lo := 0) (n := (1 + d).toNat) (fun i H' => ∃ ns : List Int, Kp h H1 H' ∧ HandAt H' h g ∧ H' D = some (.lst (ns.map V.int)) ∧ ns.length = i ∧ ∀ x ∈ ns, 0 ≤ x ∧ x ≤ n - 1)
      ⟨[], kp_of (same_upd nD) h, h1.same (same_upd nD), upd_same, rfl, fun x hx => absurd hx List.not_mem_nil⟩ ?_ ?_
    · rintro i H' hi ⟨ns, k1, a1, d1', ln, hns⟩
      refine ⟨rfl, ?_⟩
      refine ⟨_, rfl, _, rfl, h, g, n, rfl, a1, by omega, by omega, fun H2 c b2 a2 c0 c1 => ?_⟩
      have d2 : H2 D = some (.lst (ns.map V.int)) := b2.kp _ _ hDh d1'
      refine ⟨_, d2, by rw [List.length_map]; exact small1000 (by omega), ns ++ [c], ?_, ?_, ?_, by rw [List.length_append, List.length_singleton, ln], ?_⟩
      · exact fun q o hq e => by
          rw [upd_ne (ne_of_none e nD)]
          exact b2.kp _ _ hq (k1 _ _ hq e)
      · have z : Kp D H2 (upd H2 D (.lst (ns.map V.int ++ [V.int c]))) := fun q o hq e => by rw [upd_ne hq]; exact e
        refine ⟨?_, ?_, a2.ne⟩
        · obtain ⟨gs, eg⟩ := a2.cells
          refine ⟨gs, z _ _ (fun e => ?_) eg⟩
          obtain ⟨gs1, eg1⟩ := h1.cells
          rw [e, nD] at eg1
          cases eg1
        · obtain ⟨i', m', s', t', e', q'⟩ := a2.five
          exact ⟨i', m', s', t', z _ _ hDh.symm e', q'⟩
      · rw [upd_same, List.map_append]
        rfl
      · intro x hx
        rcases List.mem_append.mp hx with hx | hx
        · exact hns x hx
        · rw [List.mem_singleton] at hx
          subst hx
          exact ⟨c0, by omega⟩
    · rintro H' ⟨ns, k1, a1, d1', ln, hns⟩
      refine ⟨D, ns, rfl, SqL.of d1', by omega, fun p c np cl => ?_⟩
      refine ⟨p, _, c, rfl, upd_same, by omega, fun ns' q pw mem len nq => ?_⟩
      refine ⟨q, _, rfl, .inl ⟨SqL.of upd_same, fun r nr => ?_⟩⟩
      have s1 := same_upd np (o := SetO w p (fun j => decide (j ∈ ns)) c)
      have s2 := s1.trans (same_upd nq (o := .lst (ns'.map V.int)))
      have s3 := s2.trans (same_upd nr (o := .tup (ns'.map V.int)))
      have hin : ∀ x ∈ ns', 0 ≤ x ∧ x ≤ n - 1 := fun x hx => hns x (of_decide_eq_true ((mem x).mp hx))
      have k3 : Kp h H _ := (b1.kp.trans k1).same s3
      refine k _ r ns' k3 (a1.same s3) ((b1.kp.trans k1).free ((a1.same s2).ne_none nr) (s2.free nr)) upd_same (asc_pair pw hin) ?_ (by omega)
      cases ns with
      | nil =>
        have z : ([] : List Int).length = (1 + d).toNat := ln
        have z2 : (1 + d).toNat = 0 := z.symm
        omega
      | cons y t =>
        have z : y ∈ ns' := (mem y).mpr (decide_eq_true List.mem_cons_self)
        have z2 : 0 < ns'.length := List.length_pos_of_mem z
        omega
theorem HandAt.lset {h g D : Addr} {H : Hp} {xs : List V} (a : HandAt H h g) (h1 : D ≠ h) (h2 : D ≠ g) : HandAt (upd H D (.lst xs)) h g :=
  ⟨by obtain ⟨gs, eg⟩ := a.cells; exact ⟨gs, by rw [upd_ne h2.symm]; exact eg⟩, by obtain ⟨i', m', s', t', e', q'⟩ := a.five; exact ⟨i', m', s', t', by rw [upd_ne h1.symm]; exact e', q'⟩, a.ne⟩
theorem HandAt.ne_cells {h g p : Addr} {H : Hp} (a : HandAt H h g) (hp : H p = none) : p ≠ g := by
  obtain ⟨gs, e⟩ := a.cells
  exact (ne_of_none e hp).symm
theorem Sh.ints {ns : List Int} (h : ns.length ≤ 1000) : Sh (.tup (ns.map Td.int)) := .tup (by rw [List.length_map]; exact h) fun d hd => by
  obtain ⟨i, _, rfl⟩ := List.mem_map.mp hd
  exact .int i
def spArrD (C : Addr) : Sp := fun vs H Q _ => ∃ (h g : Addr) (n m : Int), vs = [.ref h, .int n, .int m] ∧ HandAt H h g ∧ (1 ≤ n ∧ n ≤ 1000) ∧ (1 ≤ m ∧ m ≤ 60) ∧
  ∀ (H' : Hp) (v : V) (d : Td), Kp h H H' → HandAt H' h g → Is C h H' v d → arrB n m d = true → Sh d → v ≠ .non → Q v H'
theorem ok_law_arrival (T : Top K mg A) : FnOk P w K mg base CX0 3 A.a_law_arrival A.d_law_arrival P_law_arrival (spArrD A.c_Cell) := by
  refine T.F_law_arrival.ok sc_law_arrival (fun vs H Q E h => ?_) (fun cdv A' outer s H vs Q E hr h => ?_)
  · obtain ⟨h, g, n, m, rfl, _⟩ := h
    rfl
  · obtain ⟨h, g, n, m, rfl, ha, hn, hm, k⟩ := h
    refine ⟨_, (pss_cons (ps_par (by rfl) sc_law_arrival.nd (i := 3) (j := 4) rfl rfl (by decide) rfl rfl (pa_cons (pe_call (ok_law_any T) (hr.mono (by decide)) (by rfl) T.g_law_any T.F_law_any.kp T.b_law_any .nil pass0 (pa_cons (pv 0) (pa_cons (pe_lst (pa_cons pe_int (pa_cons pe_int (pa_cons pe_int (pa_cons (pe_call (ok_law_draw T) (hr.mono (by decide)) (by rfl) T.g_law_draw T.F_law_draw.kp T.b_law_draw .nil pass0 (pa_cons (pv 0) (pa_cons pe_int pa_nil))) pa_nil))))) pa_nil))) (pa_cons (pe_call (ok_law_any T) (hr.mono (by decide)) (by rfl) T.g_law_any T.F_law_any.kp T.b_law_any .nil pass0 (pa_cons (pv 0) (pa_cons (pe_lst (pa_cons pe_int (pa_cons pe_int (pa_cons pe_int (pa_cons pe_int (pa_cons (pe_call (ok_law_draw T) (hr.mono (by decide)) (by rfl) T.g_law_draw T.F_law_draw.kp T.b_law_draw .nil pass0 (pa_cons (pv 0) (pa_cons pe_int pa_nil))) pa_nil)))))) pa_nil))) pa_nil)) (by rfl))
    (pss_one (ps_ret (pe_tup (pa_cons (pv 3) (pa_cons (pv 4) (pa_cons (pe_call (ok_law_outs T) (hr.mono (by decide)) (by rfl) T.g_law_outs T.F_law_outs.kp T.b_law_outs .nil pass0 (pa_cons (pv 0) (pa_cons (pv 1) (pa_cons (pv 2) pa_nil)))) pa_nil))))))), ?_⟩
    refine ⟨_, rfl, _, rfl, h, g, 100, rfl, ha, by decide, by decide, fun H1 d1 b1 h1 x0 x1 => ?_⟩
    refine ⟨(by show 4 ≤ sizeLine; decide), fun l nl => ?_⟩
    have hl := h1.ne_none nl
    refine ⟨h, g, l, _, rfl, h1.same (same_upd nl), SqL.of upd_same, fun H' b => SqL.of (by rw [b l hl]; exact upd_same), by show 0 < 4; decide, by show 4 ≤ 100000; decide, fun H2 j v b2 h2 hv => ?_⟩
    have hmem := List.mem_of_getElem? hv
    obtain ⟨st, rfl, st0, st1⟩ : ∃ i : Int, v = .int i ∧ 0 ≤ i ∧ i ≤ 99 := by
      simp only [List.mem_cons, List.not_mem_nil, or_false] at hmem
      rcases hmem with e | e | e | e <;> subst e
      · exact ⟨0, rfl, by decide, by decide⟩
      · exact ⟨1, rfl, by decide, by decide⟩
      · exact ⟨99, rfl, by decide, by decide⟩
      · exact ⟨d1, rfl, by omega, by omega⟩
    have k2 : Kp h H H2 := (b1.kp.same (same_upd nl)).trans b2.kp
    refine ⟨_, rfl, _, rfl, h, g, 8, rfl, h2, by decide, by decide, fun H3 d3 b3 h3 z0 z1 => ?_⟩
    refine ⟨(by show 5 ≤ sizeLine; decide), fun l2 nl2 => ?_⟩
    have hl2 := h3.ne_none nl2
    refine ⟨h, g, l2, _, rfl, h3.same (same_upd nl2), SqL.of upd_same, fun H' b => SqL.of (by rw [b l2 hl2]; exact upd_same), by show 0 < 5; decide, by show 5 ≤ 100000; decide, fun H4 j v b4 h4 hv => ?_⟩
    have hmem := List.mem_of_getElem? hv
    obtain ⟨kd, rfl, kd0, kd1⟩ : ∃ i : Int, v = .int i ∧ 0 ≤ i ∧ i ≤ 7 := by
      simp only [List.mem_cons, List.not_mem_nil, or_false] at hmem
      rcases hmem with e | e | e | e | e <;> subst e
      · exact ⟨0, rfl, by decide, by decide⟩
      · exact ⟨0, rfl, by decide, by decide⟩
      · exact ⟨1, rfl, by decide, by decide⟩
      · exact ⟨7, rfl, by decide, by decide⟩
      · exact ⟨d3, rfl, by omega, by omega⟩
    have k4 : Kp h H H4 := (k2.trans (b3.kp.same (same_upd nl2))).trans b4.kp
    refine ⟨_, _, rfl, ?_⟩
    refine ⟨_, rfl, _, rfl, _, rfl, _, rfl, _, rfl, h, g, n, m, rfl, h4, hn, hm, fun H5 p ns k5 h5 np ep easc len1 len2 => ?_⟩
    refine ⟨(by show 3 ≤ sizeLine; decide), fun q nq => ?_⟩
    have s6 := same_upd nq (o := .tup [.int st, .int kd, .ref p])
    refine k _ _ (.tup [.int st, .int kd, .tup (ns.map Td.int)]) ((k4.trans k5).same s6) (h5.same s6) (.tup upd_same (.cons (.int _) (.cons (.int _) (.cons (.tup (s6 _ _ ep) IsL.ints) .nil)))) ?_ ?_ (by intro z; cases z)
    · show ((decide (0 ≤ st) && decide (st ≤ 99)) && ((decide (0 ≤ kd) && decide (kd ≤ 7)) && (ascT (n - 1) 0 (ns.map Td.int) && (decide (1 ≤ ((ns.map Td.int).length : Int)) && decide (((ns.map Td.int).length : Int) ≤ m))))) = true
      rw [List.length_map, decide_eq_true st0, decide_eq_true st1, decide_eq_true kd0, decide_eq_true kd1, easc, decide_eq_true len1, decide_eq_true len2]
      rfl
    · refine .tup (by show 3 ≤ 1000; decide) fun d hd => ?_
      simp only [List.mem_cons, List.not_mem_nil, or_false] at hd
      rcases hd with e | e | e <;> subst e
      · exact .int _
      · exact .int _
      · exact .ints (by omega)
def spArrsD (C : Addr) : Sp := fun vs H Q _ => ∃ (h g : Addr) (n m b : Int), vs = [.ref h, .int n, .int m, .int b] ∧ HandAt H h g ∧ (1 ≤ n ∧ n ≤ 1000) ∧ (1 ≤ m ∧ m ≤ 60) ∧ (0 ≤ b ∧ b ≤ 200) ∧
  ∀ (H' : Hp) (v : V) (ds : List Td), Kp h H H' → HandAt H' h g → Is C h H' v (.tup ds) → (ds.length : Int) = b → arrsB n m (.tup ds) = true → Sh (.tup ds) → Q v H'
theorem ok_law_arrivals (T : Top K mg A) : FnOk P w K mg base CX0 4 A.a_law_arrivals A.d_law_arrivals P_law_arrivals (spArrsD A.c_Cell) := by
  refine T.F_law_arrivals.ok sc_law_arrivals (fun vs H Q E h => ?_) (fun cdv A' outer s H vs Q E hr h => ?_)
  · obtain ⟨h, g, n, m, b, rfl, _⟩ := h
    rfl
  · obtain ⟨h, g, n, m, b, rfl, ha, ⟨n0, n1⟩, hm, ⟨b0, b1⟩, k⟩ := h
    refine ⟨_, (pss_cons (ps_set (i := 4) sc_law_arrivals.nd rfl (.inr rfl) (pe_op op_add pe_int (pe_call (ok_law_draw T) (hr.mono (by decide)) (by rfl) T.g_law_draw T.F_law_draw.kp T.b_law_draw .nil pass0 (pa_cons (pv 0) (pa_cons pe_int pa_nil)))))
    (pss_cons (ps_set (i := 5) sc_law_arrivals.nd rfl (.inl rfl) (pe_lst pa_nil))
    (pss_cons (ps_for PassesOwn.never rfl (pi_range1 rfl T.z_range (pa_cons (pv 3) pa_nil)) (pg_name (i := 6) sc_law_arrivals.nd rfl (.inl rfl)) (pss_cons (ps_setLc (i := 7) (own := [("_law_line", 8)]) (by rfl) sc_law_arrivals.nd rfl rfl (sw_true rfl rfl rfl (by decide +kernel)) (pi_range1 rfl T.z_range (pa_cons (pv 1) pa_nil)) (blkOk_by (own := [("_law_line", 8)]) (N := N_law_arrivals) (sc := defScope s_law_arrivals) (by decide +kernel)) (fun _ _ _ _ _ => (pg_name (i := 8) sc_law_arrivals.nd rfl (.inl rfl))) (fun _ _ _ _ _ => pts_nil) (fun _ _ _ _ _ => (pe_ifExp (pt_cmpR op_lt (pe_call (ok_law_draw (P := P) (w := w) T) (hr.mono (by decide)) (by rfl) T.g_law_draw T.F_law_draw.kp T.b_law_draw .nil pass0 (pa_cons (pv 0) (pa_cons pe_int pa_nil))) (pv 4) (nomark _)) (pe_call (ok_law_arrival (P := P) (w := w) T) (hr.mono (by decide)) (by rfl) T.g_law_arrival T.F_law_arrival.kp T.b_law_arrival .nil pass0 (pa_cons (pv 0) (pa_cons (pv 1) (pa_cons (pv 2) pa_nil)))) pe_non)))
    (pss_one (ps_expr (pe_bm PySem.F.plainAttrs_list PySem.F.slot_list_append PySem.F.type_list_append mt_append (pv 5) (pa_cons (pe_callTy call_tuple_of (by rfl) T.z_tuple (by decide +kernel) (pa_cons (pv 7) pa_nil)) pa_nil))))))
    (pss_one (ps_ret (pe_callTy call_tuple_of (by rfl) T.z_tuple (by decide +kernel) (pa_cons (pv 5) pa_nil))))))), ?_⟩
    refine ⟨_, rfl, h, g, 4, rfl, ha, by decide, by decide, fun H1 d1 k1 h1 x0 x1 => ?_⟩
    refine ⟨_, _, rfl, rfl, ?_⟩
    refine ⟨(by show 0 ≤ sizeLine; decide), fun F nF => ?_⟩
    have hFh := h1.ne_none nF
    have hFg := h1.ne_cells nF
    have s2 := same_upd nF (o := .lst [])
    refine ⟨_, rfl, b, rfl, by omega, by omega, ?_⟩
    refine for_range (lo := 0) (n := b.toNat) (fun i σ H' => ∃ (xs : List V) (ds : List Td) (y6 y7 : Option V), σ = [some (.ref h), some (.int n), some (.int m), some (.int b), some (.int (1 + d1)), some (.ref F), y6, y7, none] ∧ Kp h H H' ∧ HandAt H' h g ∧ H' F = some (.lst xs) ∧ IsL A.c_Cell h H' xs ds ∧ ds.length = i ∧ (∀ d ∈ ds, rowB n m d = true ∧ Sh d))
      ⟨[], [], none, none, rfl, k1.kp.same s2, h1.same s2, upd_same, .nil, rfl, fun d hd => absurd hd List.not_mem_nil⟩ ?_ ?_
    · rintro i σ H2 hi ⟨xs, ds, y6, y7, rfl, k2, h2, eF, il, ln, hds⟩
      refine ⟨_, rfl, n, rfl, by omega, by omega, fun D nD => ?_⟩
      have hDh := h2.ne_none nD
      have hDg := h2.ne_cells nD
      have hFD : F ≠ D := ne_of_none eF nD
      have s3 := same_upd nD (o := .lst [])
      refine lc_range (lo := 0) (n := n.toNat) (fun l H' => ∃ (ys : List V) (es : List Td), Kp h H2 H' ∧ HandAt H' h g ∧ H' F = some (.lst xs) ∧ H' D = some (.lst ys) ∧ IsL A.c_Cell h H' ys es ∧ es.length = l ∧ (∀ d ∈ es, itemB n m d = true ∧ Sh d))
        ⟨[], [], kp_of s3 h, h2.same s3, s3 _ _ eF, upd_same, .nil, rfl, fun d hd => absurd hd List.not_mem_nil⟩ ?_ ?_
      · rintro l H3 hl ⟨ys, es, k3, h3, eF3, eD3, il3, ln3, hes⟩
        refine ⟨rfl, ?_⟩
        refine ⟨_, rfl, h, g, 4, rfl, h3, by decide, by decide, fun H4 e b4 h4 e0 e1 => ?_⟩
        have eF4 := b4.kp _ _ hFh eF3
        have eD4 := b4.kp _ _ hDh eD3
        have il4 := il3.kp b4.kp h3
        have k4 := k3.trans b4.kp
        have fin : ∀ (H5 : Hp) (v : V) (d : Td), Kp h H2 H5 → HandAt H5 h g → H5 F = some (.lst xs) → H5 D = some (.lst ys) → IsL A.c_Cell h H5 ys es → Is A.c_Cell h H5 v d → itemB n m d = true → Sh d →
            ∃ acc, H5 D = some (.lst acc) ∧ acc.length < sizeLine ∧ ∃ (ys : List V) (es : List Td), Kp h H2 (upd H5 D (.lst (acc ++ [v]))) ∧ HandAt (upd H5 D (.lst (acc ++ [v]))) h g ∧ (upd H5 D (.lst (acc ++ [v]))) F = some (.lst xs) ∧ (upd H5 D (.lst (acc ++ [v]))) D = some (.lst ys) ∧
              IsL A.c_Cell h (upd H5 D (.lst (acc ++ [v]))) ys es ∧ es.length = l + 1 ∧ (∀ d ∈ es, itemB n m d = true ∧ Sh d) := fun H5 v d k5 h5 eF5 eD5 il5 iv c sh => by
          refine ⟨ys, eD5, by rw [il5.len, ln3]; exact small1000 (by omega), ys ++ [v], es ++ [d], fun q o hq z => ?_, h5.lset hDh hDg, by rw [upd_ne hFD]; exact eF5, upd_same, (il5.lset eD5).append (.cons (iv.lset eD5) .nil), by rw [List.length_append, List.length_singleton, ln3], fun d' hd' => ?_⟩
          · rw [upd_ne (ne_of_none z nD)]
            exact k5 q o hq z
          · rcases List.mem_append.mp hd' with z | z
            · exact hes d' z
            · rw [List.mem_singleton] at z
              subst z
              exact ⟨c, sh⟩
        refine ⟨_, rfl, _, _, rfl, rfl, _, rfl, ite2 (fun _ => ?_) (fun _ => ?_)⟩
        · refine ⟨_, rfl, _, rfl, _, rfl, h, g, n, m, rfl, h4, ⟨n0, n1⟩, hm, fun H5 v d k5 h5 iv c sh hv => ?_⟩
          have hd : d ≠ .non := fun z => hv ((is_non iv).mpr z)
          exact fin H5 v d (k4.trans k5) h5 (k5 _ _ hFh eF4) (k5 _ _ hDh eD4) (il4.kp k5 h4) iv (by rw [itemB_some hd]; exact c) sh
        · exact fin H4 .non .non k4 h4 eF4 eD4 il4 .non rfl .non
      · rintro H3 ⟨ys, es, k3, h3, eF3, eD3, il3, ln3, hes⟩
        refine ⟨_, rfl, .inl ⟨rfl, _, SqL.of eF3⟩, _, rfl, D, ys, rfl, .inl ⟨SqL.of eD3, fun p np => ?_⟩⟩
        have s4 := same_upd np (o := .tup ys)
        have eF4 := s4 _ _ eF3
        refine ⟨F, _, _, rfl, rfl, eF4, small1000 (by rw [il.len, ln]; omega), ?_⟩
        refine ⟨xs ++ [.ref p], ds ++ [.tup es], _, _, rfl, fun q o hq z => ?_, (h3.same s4).lset hFh hFg, upd_same, ?_, by rw [List.length_append, List.length_singleton, ln], fun d hd => ?_⟩
        · have z2 := s4 _ _ (k3 _ _ hq (k2 _ _ hq z))
          have hqF : q ≠ F := fun e => by
            have z3 := k1.kp q o hq z
            rw [e, nF] at z3
            cases z3
          rw [upd_ne hqF]
          exact z2
        · have h4 := il.kp k3 h2
          exact ((h4.same s4).lset eF4).append (.cons ((Is.newT il3 np).lset eF4) .nil)
        · rcases List.mem_append.mp hd with z | z
          · exact hds d z
          · rw [List.mem_singleton] at z
            subst z
            refine ⟨?_, .tup (by omega) fun d hd => (hes d hd).2⟩
            show (decide ((es.length : Int) = n) && es.all (itemB n m)) = true
            rw [decide_eq_true (by omega), List.all_eq_true.mpr fun d hd => (hes d hd).1]
            rfl
    · rintro σ H2 ⟨xs, ds, y6, y7, rfl, k2, h2, eF, il, ln, hds⟩
      refine ⟨_, rfl, F, xs, rfl, .inl ⟨SqL.of eF, fun p np => ?_⟩⟩
      have s4 := same_upd np (o := .tup xs)
      refine k _ _ ds (k2.same s4) (h2.same s4) (Is.newT il np) (by omega) ?_ (.tup (by omega) fun d hd => (hds d hd).2)
      show (decide ((ds.length : Int) ≤ 200) && ds.all (rowB n m)) = true
      rw [decide_eq_true (by omega), List.all_eq_true.mpr fun d hd => (hds d hd).1]
      rfl
def spSizes : Sp := fun vs H Q _ => ∃ (h g : Addr), vs = [.ref h] ∧ HandAt H h g ∧ ∀ (H' : Hp) (p : Addr) (n m : Int), Kp h H H' → HandAt H' h g → H' p = some (.tup [.int n, .int m]) → 1 ≤ n → n ≤ 12 → 1 ≤ m → m ≤ 3 → Q (.ref p) H'
theorem ok_law_sizes (T : Top K mg A) : FnOk P w K mg base CX0 3 A.a_law_sizes A.d_law_sizes P_law_sizes spSizes := by
  refine T.F_law_sizes.ok sc_law_sizes (fun vs H Q E h => ?_) (fun cdv A' outer s H vs Q E hr h => ?_)
  · obtain ⟨h, g, rfl, _⟩ := h
    rfl
  · obtain ⟨h, g, rfl, ha, k⟩ := h
    refine ⟨_, (pss_one (ps_ret (pe_tup (pa_cons (pe_call (ok_law_any T) (hr.mono (by decide)) (by rfl) T.g_law_any T.F_law_any.kp T.b_law_any .nil pass0 (pa_cons (pv 0) (pa_cons (pe_lst (pa_cons pe_int (pa_cons pe_int (pa_cons pe_int (pa_cons pe_int (pa_cons pe_int (pa_cons pe_int (pa_cons pe_int pa_nil)))))))) pa_nil))) (pa_cons (pe_op op_add pe_int (pe_call (ok_law_draw T) (hr.mono (by decide)) (by rfl) T.g_law_draw T.F_law_draw.kp T.b_law_draw .nil pass0 (pa_cons (pv 0) (pa_cons pe_int pa_nil)))) pa_nil))))), ?_⟩
    refine ⟨_, rfl, (by show 7 ≤ sizeLine; decide), fun l nl => ?_⟩
    have hl := ha.ne_none nl
    refine ⟨h, g, l, _, rfl, ha.same (same_upd nl), SqL.of upd_same, fun H' b => SqL.of (by rw [b l hl]; exact upd_same), by show 0 < 7; decide, by show 7 ≤ 100000; decide, fun H2 j v b2 h2 hv => ?_⟩
    have hmem := List.mem_of_getElem? hv
    obtain ⟨n, rfl, n0, n1⟩ : ∃ i : Int, v = .int i ∧ 1 ≤ i ∧ i ≤ 12 := by
      simp only [List.mem_cons, List.not_mem_nil, or_false] at hmem
      rcases hmem with e | e | e | e | e | e | e <;> subst e <;> exact ⟨_, rfl, by decide, by decide⟩
    refine ⟨_, rfl, h, g, 3, rfl, h2, by decide, by decide, fun H3 d b3 h3 d0 d1 => ?_⟩
    refine ⟨_, _, rfl, rfl, (by show 2 ≤ sizeLine; decide), fun p np => ?_⟩
    have s4 := same_upd np (o := .tup [.int n, .int (1 + d)])
    exact k _ p n (1 + d) (((Kp.trans (kp_of (same_upd nl) h) b2.kp).trans b3.kp).same s4) (h3.same s4) upd_same n0 n1 (by omega) (by omega)
end

section
variable {P : Program} {w : World} {K : PySem.W.Frag} {mg : Str → Option Value} {base : Heap} {A : Adr}
/-- a thing that can be told, its tuples short -/
def Gd (C h : Addr) (H : Hp) (v : V) : Prop := ∃ d, Is C h H v d ∧ Sh d
theorem Gd.same {C h : Addr} {H H' : Hp} {v : V} (t : Gd C h H v) (s : Same H H') : Gd C h H' v := by
  obtain ⟨d, a, b⟩ := t
  exact ⟨d, a.same s, b⟩
theorem Gd.kp {C h g : Addr} {H H' : Hp} {v : V} (t : Gd C h H v) (k : Kp h H H') (a : HandAt H h g) : Gd C h H' v := by
  obtain ⟨d, i, b⟩ := t
  exact ⟨d, i.kp k a, b⟩
theorem Sh.nil : Sh (.tup []) := .tup (Nat.zero_le _) fun d hd => by cases hd
theorem Sh.one {d : Td} (s : Sh d) : Sh (.tup [d]) := .tup (by show 1 ≤ 1000; decide) fun e he => by
  rw [List.mem_singleton.mp he]
  exact s
theorem Sh.two {d e : Td} (s : Sh d) (t : Sh e) : Sh (.tup [d, e]) := .tup (by show 2 ≤ 1000; decide) fun f hf => by
  simp only [List.mem_cons, List.not_mem_nil, or_false] at hf
  rcases hf with z | z <;> subst z <;> assumption
def spDeep (C : Addr) : Sp := fun vs H Q _ => ∃ (h g : Addr), vs = [.ref h] ∧ HandAt H h g ∧ ∀ (H' : Hp) (v : V), Kp h H H' → HandAt H' h g → Gd C h H' v → Q v H'
theorem ok_law_deep (T : Top K mg A) : FnOk P w K mg base CX0 3 A.a_law_deep A.d_law_deep P_law_deep (spDeep A.c_Cell) := by
  refine T.F_law_deep.ok sc_law_deep (fun vs H Q E h => ?_) (fun cdv A' outer s H vs Q E hr h => ?_)
  · obtain ⟨h, g, rfl, _⟩ := h
    rfl
  · obtain ⟨h, g, rfl, ha, k⟩ := h
    refine ⟨_, (pss_cons (ps_set (i := 1) sc_law_deep.nd rfl (.inl rfl) (pe_call (ok_law_any T) (hr.mono (by decide)) (by rfl) T.g_law_any T.F_law_any.kp T.b_law_any .nil pass0 (pa_cons (pv 0) (pa_cons (pe_lst (pa_cons pe_int (pa_cons (pe_tup pa_nil) (pa_cons pe_str pa_nil)))) pa_nil))))
    (pss_cons (ps_for PassesOwn.never rfl (pi_range1 rfl T.z_range (pa_cons (pe_op op_add pe_int (pe_call (ok_law_draw T) (hr.mono (by decide)) (by rfl) T.g_law_draw T.F_law_draw.kp T.b_law_draw .nil pass0 (pa_cons (pv 0) (pa_cons pe_int pa_nil)))) pa_nil)) (pg_name (i := 2) sc_law_deep.nd rfl (.inl rfl)) (pss_one (ps_set (i := 1) sc_law_deep.nd rfl (.inl rfl) (pe_ifExp (pt_cmpR op_gt (pe_call (ok_law_draw T) (hr.mono (by decide)) (by rfl) T.g_law_draw T.F_law_draw.kp T.b_law_draw .nil pass0 (pa_cons (pv 0) (pa_cons pe_int pa_nil))) pe_int (nomark _)) (pe_tup (pa_cons (pv 1) pa_nil)) (pe_lst (pa_cons (pv 1) pa_nil))))))
    (pss_one (ps_ret (pv 1))))), ?_⟩
    refine ⟨_, rfl, Nat.zero_le _, fun p1 n1 => ⟨(by show 3 ≤ sizeLine; decide), fun l nl => ?_⟩⟩
    have s1 := same_upd n1 (o := .tup [])
    have s2 := s1.trans (same_upd nl (o := .lst [.int 0, .ref p1, .str "a"]))
    have hl := (ha.same s1).ne_none nl
    have a2 := ha.same s2
    refine ⟨h, g, l, _, rfl, a2, SqL.of upd_same, fun H' b => SqL.of (by rw [b l hl]; exact upd_same), by show 0 < 3; decide, by show 3 ≤ 100000; decide, fun H2 j v b2 h2 hv => ?_⟩
    have g2 : Gd A.c_Cell h H2 v := by
      refine Gd.kp ?_ b2.kp a2
      have hm := List.mem_of_getElem? hv
      simp only [List.mem_cons, List.not_mem_nil, or_false] at hm
      rcases hm with e | e | e <;> subst e
      · exact ⟨_, .int 0, .int 0⟩
      · exact ⟨.tup [], .tup (by rw [upd_ne (fun e => by rw [← e, upd_same] at nl; cases nl)]; exact upd_same) .nil, .nil⟩
      · exact ⟨_, .str _, .str _⟩
    have k2 : Kp h H H2 := Kp.trans (kp_of s2 h) b2.kp
    refine ⟨_, rfl, h, g, 12, rfl, h2, by decide, by decide, fun H3 d b3 h3 d0 d1 => ?_⟩
    refine ⟨_, _, rfl, rfl, _, rfl, by omega, by omega, ?_⟩
    refine for_range (lo := 0) (n := (18 + d).toNat) (fun i σ H' => ∃ (u : V) (y2 : Option V), σ = [some (.ref h), some u, y2] ∧ Kp h H H' ∧ HandAt H' h g ∧ Gd A.c_Cell h H' u)
      ⟨v, none, rfl, k2.trans b3.kp, h3, g2.kp b3.kp h2⟩ ?_ ?_
    · rintro i σ H4 hi ⟨u, y2, rfl, k4, h4, g4⟩
      refine ⟨_, rfl, h, g, 3, rfl, h4, by decide, by decide, fun H5 e b5 h5 e0 e1 => ?_⟩
      obtain ⟨du, iu, su⟩ := g4.kp b5.kp h4
      have k5 := k4.trans b5.kp
      refine ⟨_, _, rfl, rfl, _, rfl, ite2 (fun _ => ?_) (fun _ => ?_)⟩
      · refine ⟨_, rfl, (by show 1 ≤ sizeLine; decide), fun p np => ?_⟩
        have s5 := same_upd np (o := .tup [u])
        exact ⟨_, _, rfl, k5.same s5, h5.same s5, .tup [du], Is.newT (.cons iu .nil) np, su.one⟩
      · refine ⟨_, rfl, (by show 1 ≤ sizeLine; decide), fun p np => ?_⟩
        have s5 := same_upd np (o := .lst [u])
        exact ⟨_, _, rfl, k5.same s5, h5.same s5, .oth, Is.newL np h5, .oth⟩
    · rintro σ H4 ⟨u, y2, rfl, k4, h4, g4⟩
      exact ⟨_, rfl, k H4 u k4 h4 g4⟩
def spOdd (C : Addr) : Sp := fun vs H Q _ => ∃ (h g : Addr) (o : V), vs = [.ref h, o] ∧ HandAt H h g ∧ Gd C h H o ∧ ∀ (H' : Hp) (v : V), Kp h H H' → HandAt H' h g → Gd C h H' v → Q v H'
theorem ok_law_odd (T : Top K mg A) : FnOk P w K mg base CX0 4 A.a_law_odd A.d_law_odd P_law_odd (spOdd A.c_Cell) := by
  refine T.F_law_odd.ok sc_law_odd (fun vs H Q E h => ?_) (fun cdv A' outer s H vs Q E hr h => ?_)
  · obtain ⟨h, g, o, rfl, _⟩ := h
    rfl
  · obtain ⟨h, g, o, rfl, ha, ho, k⟩ := h
    refine ⟨_, (pss_cons (ps_set (i := 2) sc_law_odd.nd rfl (.inl rfl) (pe_lst (pa_cons pe_non (pa_cons pe_bl (pa_cons pe_bl (pa_cons (pe_un un_neg pe_int) (pa_cons pe_int (pa_cons pe_int (pa_cons (pe_op op_pow pe_int pe_int) (pa_cons pe_str (pa_cons pe_str (pa_cons (pe_tup pa_nil) (pa_cons (pe_lst pa_nil) (pa_cons pe_dnewK (pa_cons (pe_tup (pa_cons pe_int pa_nil)) (pa_cons (pe_lst (pa_cons pe_int pa_nil)) (pa_cons (pe_tup (pa_cons pe_bl pa_nil)) (pa_cons (pe_tup (pa_cons pe_str pa_nil)) (pa_cons (pe_tup (pa_cons pe_non (pa_cons pe_int pa_nil))) pa_nil)))))))))))))))))))
    (pss_one (ps_ret (pe_call (ok_law_any T) (hr.mono (by decide)) (by rfl) T.g_law_any T.F_law_any.kp T.b_law_any .nil pass0 (pa_cons (pv 0) (pa_cons (pe_op op_cat (pv 2) (pe_lst (pa_cons (pe_disp (pps_cons pe_int pe_int pps_nil) (by rfl) (by rfl) (fun z => by cases z) (by decide)) (pa_cons (pv 1) (pa_cons (pe_call (ok_law_deep T) (hr.mono (by decide)) (by rfl) T.g_law_deep T.F_law_deep.kp T.b_law_deep .nil pass0 (pa_cons (pv 0) pa_nil)) pa_nil))))) pa_nil)))))), ?_⟩
    refine ⟨1, rfl, 10, 59, rfl, rfl, ⟨by decide, by decide, by decide⟩, ?_⟩
    refine ⟨(by show 0 ≤ sizeLine; decide), fun p1 n1 => ?_⟩
    have s1 := same_upd n1 (o := .tup [])
    have f1 : (upd H p1 (.tup [])) p1 = some (.tup []) := upd_same
    have a1 := ha.same s1
    have t1 : Same H (upd H p1 (.tup [])) := s1
    generalize (upd H p1 (.tup [])) = G1 at s1 f1 a1 t1  ⊢
    refine ⟨(by show 0 ≤ sizeLine; decide), fun p2 n2 => ?_⟩
    have s2 := same_upd n2 (o := .lst [])
    have f2 : (upd G1 p2 (.lst [])) p2 = some (.lst []) := upd_same
    have q2 := a1.ne_none n2
    have a2 := a1.same s2
    have f1 := s2 _ _ f1
    have t2 := t1.trans s2
    generalize (upd G1 p2 (.lst [])) = G2 at s2 f2 a2 t2 f1 ⊢
    intro p3 n3
    have s3 := same_upd n3 (o := .dK [])
    have f3 : (upd G2 p3 (.dK [])) p3 = some (.dK []) := upd_same
    have a3 := a2.same s3
    have f1 := s3 _ _ f1
    have f2 := s3 _ _ f2
    have t3 := t2.trans s3
    generalize (upd G2 p3 (.dK [])) = G3 at s3 f3 a3 t3 f1 f2 ⊢
    refine ⟨(by show 1 ≤ sizeLine; decide), fun p4 n4 => ?_⟩
    have s4 := same_upd n4 (o := .tup [.int 0])
    have f4 : (upd G3 p4 (.tup [.int 0])) p4 = some (.tup [.int 0]) := upd_same
    have a4 := a3.same s4
    have f1 := s4 _ _ f1
    have f2 := s4 _ _ f2
    have f3 := s4 _ _ f3
    have t4 := t3.trans s4
    generalize (upd G3 p4 (.tup [.int 0])) = G4 at s4 f4 a4 t4 f1 f2 f3 ⊢
    refine ⟨(by show 1 ≤ sizeLine; decide), fun p5 n5 => ?_⟩
    have s5 := same_upd n5 (o := .lst [.int 0])
    have f5 : (upd G4 p5 (.lst [.int 0])) p5 = some (.lst [.int 0]) := upd_same
    have q5 := a4.ne_none n5
    have a5 := a4.same s5
    have f1 := s5 _ _ f1
    have f2 := s5 _ _ f2
    have f3 := s5 _ _ f3
    have f4 := s5 _ _ f4
    have t5 := t4.trans s5
    generalize (upd G4 p5 (.lst [.int 0])) = G5 at s5 f5 a5 t5 f1 f2 f3 f4 ⊢
    refine ⟨(by show 1 ≤ sizeLine; decide), fun p6 n6 => ?_⟩
    have s6 := same_upd n6 (o := .tup [.bl true])
    have f6 : (upd G5 p6 (.tup [.bl true])) p6 = some (.tup [.bl true]) := upd_same
    have a6 := a5.same s6
    have f1 := s6 _ _ f1
    have f2 := s6 _ _ f2
    have f3 := s6 _ _ f3
    have f4 := s6 _ _ f4
    have f5 := s6 _ _ f5
    have t6 := t5.trans s6
    generalize (upd G5 p6 (.tup [.bl true])) = G6 at s6 f6 a6 t6 f1 f2 f3 f4 f5 ⊢
    refine ⟨(by show 1 ≤ sizeLine; decide), fun p7 n7 => ?_⟩
    have s7 := same_upd n7 (o := .tup [.str "0"])
    have f7 : (upd G6 p7 (.tup [.str "0"])) p7 = some (.tup [.str "0"]) := upd_same
    have a7 := a6.same s7
    have f1 := s7 _ _ f1
    have f2 := s7 _ _ f2
    have f3 := s7 _ _ f3
    have f4 := s7 _ _ f4
    have f5 := s7 _ _ f5
    have f6 := s7 _ _ f6
    have t7 := t6.trans s7
    generalize (upd G6 p7 (.tup [.str "0"])) = G7 at s7 f7 a7 t7 f1 f2 f3 f4 f5 f6 ⊢
    refine ⟨(by show 2 ≤ sizeLine; decide), fun p8 n8 => ?_⟩
    have s8 := same_upd n8 (o := .tup [.non, .int 0])
    have f8 : (upd G7 p8 (.tup [.non, .int 0])) p8 = some (.tup [.non, .int 0]) := upd_same
    have a8 := a7.same s8
    have f1 := s8 _ _ f1
    have f2 := s8 _ _ f2
    have f3 := s8 _ _ f3
    have f4 := s8 _ _ f4
    have f5 := s8 _ _ f5
    have f6 := s8 _ _ f6
    have f7 := s8 _ _ f7
    have t8 := t7.trans s8
    generalize (upd G7 p8 (.tup [.non, .int 0])) = G8 at s8 f8 a8 t8 f1 f2 f3 f4 f5 f6 f7 ⊢
    refine ⟨(by show 17 ≤ sizeLine; decide), fun p9 n9 => ?_⟩
    have s9 := same_upd n9 (o := .lst [.non, .bl true, .bl false, .int (-1), .int 13, .int 100, .int (10 ^ 59), .str "0", .str "", .ref p1, .ref p2, .ref p3, .ref p4, .ref p5, .ref p6, .ref p7, .ref p8])
    have f9 : (upd G8 p9 (.lst [.non, .bl true, .bl false, .int (-1), .int 13, .int 100, .int (10 ^ 59), .str "0", .str "", .ref p1, .ref p2, .ref p3, .ref p4, .ref p5, .ref p6, .ref p7, .ref p8])) p9 = some (.lst [.non, .bl true, .bl false, .int (-1), .int 13, .int 100, .int (10 ^ 59), .str "0", .str "", .ref p1, .ref p2, .ref p3, .ref p4, .ref p5, .ref p6, .ref p7, .ref p8]) := upd_same
    have q9 := a8.ne_none n9
    have a9 := a8.same s9
    have f1 := s9 _ _ f1
    have f2 := s9 _ _ f2
    have f3 := s9 _ _ f3
    have f4 := s9 _ _ f4
    have f5 := s9 _ _ f5
    have f6 := s9 _ _ f6
    have f7 := s9 _ _ f7
    have f8 := s9 _ _ f8
    have t9 := t8.trans s9
    rw [show (upd G8 p9 (.lst [.non, .bl true, .bl false, (fun i => V.int (-i)) (1 : Int), .int 13, .int 100, (fun (i j : Int) => V.int (i ^ j.toNat)) 10 59, .str "0", .str "", .ref p1, .ref p2, .ref p3, .ref p4, .ref p5, .ref p6, .ref p7, .ref p8])) = upd G8 p9 (.lst [.non, .bl true, .bl false, .int (-1), .int 13, .int 100, .int (10 ^ 59), .str "0", .str "", .ref p1, .ref p2, .ref p3, .ref p4, .ref p5, .ref p6, .ref p7, .ref p8]) from rfl]
    generalize (upd G8 p9 (.lst [.non, .bl true, .bl false, .int (-1), .int 13, .int 100, .int (10 ^ 59), .str "0", .str "", .ref p1, .ref p2, .ref p3, .ref p4, .ref p5, .ref p6, .ref p7, .ref p8])) = G9 at s9 f9 a9 t9 f1 f2 f3 f4 f5 f6 f7 f8 ⊢
    -- {0: 0}
    refine ⟨_, rfl, _, rfl, fun pd nd => ?_⟩
    refine ⟨upd_same, [(Sum.inl 0, .int 0)], rfl, by decide, ?_⟩
    rw [upd_upd]
    have s10 := same_upd nd (o := .dK (mergeK [] [(Sum.inl 0, .int 0)]))
    have fd : (upd G9 pd (.dK (mergeK [] [(Sum.inl 0, .int 0)]))) pd = some (.dK (mergeK [] [(Sum.inl 0, .int 0)])) := upd_same
    have a10 := a9.same s10
    have t10 := t9.trans s10
    have f1 := s10 _ _ f1
    have f2 := s10 _ _ f2
    have f3 := s10 _ _ f3
    have f4 := s10 _ _ f4
    have f5 := s10 _ _ f5
    have f6 := s10 _ _ f6
    have f7 := s10 _ _ f7
    have f8 := s10 _ _ f8
    have f9 := s10 _ _ f9
    generalize (upd G9 pd (.dK (mergeK [] [(Sum.inl 0, .int 0)]))) = G10 at s10 fd a10 t10 f1 f2 f3 f4 f5 f6 f7 f8 f9 ⊢
    refine ⟨_, rfl, _, rfl, h, g, rfl, a10, fun H' v k4 h4 g4 => ?_⟩
    have m : ∀ y ∈ ([.non, .bl true, .bl false, .int (-1), .int 13, .int 100, .int (10 ^ 59), .str "0", .str "", .ref p1, .ref p2, .ref p3, .ref p4, .ref p5, .ref p6, .ref p7, .ref p8] ++ [.ref pd, o, v] : List V), Gd A.c_Cell h H' y := by
      intro y hy
      simp only [List.mem_append, List.mem_cons, List.not_mem_nil, or_false] at hy
      rcases hy with (e | e | e | e | e | e | e | e | e | e | e | e | e | e | e | e | e) | (e | e | e) <;> subst e
      · exact ⟨_, .non, .non⟩
      · exact ⟨_, .bl _, .bl _⟩
      · exact ⟨_, .bl _, .bl _⟩
      · exact ⟨_, .int _, .int _⟩
      · exact ⟨_, .int _, .int _⟩
      · exact ⟨_, .int _, .int _⟩
      · exact ⟨_, .int _, .int _⟩
      · exact ⟨_, .str _, .str _⟩
      · exact ⟨_, .str _, .str _⟩
      · exact Gd.kp ⟨.tup [], .tup f1 .nil, .nil⟩ k4 a10
      · exact Gd.kp ⟨.oth, .lst f2 q2, .oth⟩ k4 a10
      · exact Gd.kp ⟨.oth, .dK f3, .oth⟩ k4 a10
      · exact Gd.kp ⟨.tup [.int 0], .tup f4 (.cons (.int 0) .nil), (Sh.int 0).one⟩ k4 a10
      · exact Gd.kp ⟨.oth, .lst f5 q5, .oth⟩ k4 a10
      · exact Gd.kp ⟨.tup [.bl true], .tup f6 (.cons (.bl true) .nil), (Sh.bl true).one⟩ k4 a10
      · exact Gd.kp ⟨.tup [.str "0"], .tup f7 (.cons (.str "0") .nil), (Sh.str "0").one⟩ k4 a10
      · exact Gd.kp ⟨.tup [.non, .int 0], .tup f8 (.cons .non (.cons (.int 0) .nil)), Sh.non.two (.int 0)⟩ k4 a10
      · exact Gd.kp ⟨.oth, .dK fd, .oth⟩ k4 a10
      · exact (ho.same t10).kp k4 a10
      · exact g4
    have el := k4 _ _ q9 f9
    refine ⟨(by show 3 ≤ sizeLine; decide), fun p3' n3' => ?_⟩
    have s11 := same_upd n3' (o := .lst [.ref pd, o, v])
    refine ⟨p9, p3', _, _, rfl, rfl, s11 _ _ el, upd_same, (by show 20 ≤ sizeLine; decide), fun q nq => ?_⟩
    have s12 := s11.trans (same_upd nq (o := .lst ([.non, .bl true, .bl false, .int (-1), .int 13, .int 100, .int (10 ^ 59), .str "0", .str "", .ref p1, .ref p2, .ref p3, .ref p4, .ref p5, .ref p6, .ref p7, .ref p8] ++ [.ref pd, o, v])))
    have hq := (h4.same s11).ne_none nq
    refine ⟨h, g, q, _, rfl, h4.same s12, SqL.of upd_same, fun H' b => SqL.of (by rw [b q hq]; exact upd_same), by show 0 < 20; decide, by show 20 ≤ 100000; decide, fun H2 j y b2 h2 hv => ?_⟩
    exact k H2 y (((Kp.trans (kp_of t10 h) k4).same s12).trans b2.kp) h2 (((m y (List.mem_of_getElem? hv)).same s12).kp b2.kp (h4.same s12))
end

section
variable {P : Program} {w : World} {K : PySem.W.Frag} {mg : Str → Option Value} {base : Heap} {A : Adr}
/-! ### words -/
theorem take_fil {xs : List V} {i : Nat} {x : V} (f : V → Bool) (h : xs[i]? = some x) : (xs.take (i + 1)).filter f = (xs.take i).filter f ++ (if f x = true then [x] else []) := by
  rw [List.take_add_one, h, List.filter_append]
  congr 1
  show List.filter f [x] = _
  by_cases c : f x = true
  · rw [if_pos c, List.filter_cons_of_pos c]
    rfl
  · rw [if_neg c, List.filter_cons_of_neg c]
    rfl
theorem fil_lt {xs : List V} {f : V → Bool} {i : Nat} (h : xs.length ≤ 100000) : ((xs.take i).filter f).length < sizeLine := by
  have h1 : ((xs.take i).filter f).length ≤ (xs.take i).length := List.length_filter_le _ _
  rw [List.length_take] at h1
  exact Nat.lt_of_le_of_lt (Nat.le_trans h1 (Nat.le_trans (Nat.min_le_right _ _) h)) (by decide)
def WordsAt (H : Hp) (wd : V → Str × Bool) (xs : List V) : Prop := ∀ v ∈ xs, ∃ a, v = .ref a ∧ H a = some (.tup [.str (wd v).1, .bl (wd v).2])
theorem WordsAt.same {H H' : Hp} {wd : V → Str × Bool} {xs : List V} (e : Same H H') (h : WordsAt H wd xs) : WordsAt H' wd xs := fun v hv => by
  obtain ⟨a, e1, e2⟩ := h v hv
  exact ⟨a, e1, e _ _ e2⟩
def firstW (wd : V → Str × Bool) (xs : List V) : Str := ((xs.filter fun v => !(wd v).2).map (fun v => (wd v).1) ++ [("let" : Str)]).headD "let"
theorem take_film {xs : List V} {i : Nat} {x : V} (f : V → Bool) (m : V → V) (h : xs[i]? = some x) : ((xs.take (i + 1)).filter f).map m = ((xs.take i).filter f).map m ++ (if f x = true then [m x] else []) := by
  rw [take_fil f h, List.map_append]
  by_cases c : f x = true
  · rw [if_pos c, if_pos c]
    rfl
  · rw [if_neg c, if_neg c]
    rfl
def spFirst (K : PySem.W.Frag) : Sp := fun vs H Q _ => ∃ (l : Addr) (xs : List V) (wd : V → Str × Bool), vs = [.ref l] ∧ SqL K H l xs ∧ WordsAt H wd xs ∧ xs.length ≤ 1000 ∧ ∀ H', Same H H' → Q (.str (firstW wd xs)) H'
theorem ok_law_first (T : Top K mg A) : FnOk P w K mg base CX0 1 A.a_law_first A.d_law_first P_law_first (spFirst K) := by
  refine T.F_law_first.ok sc_law_first (fun vs H Q E h => ?_) (fun cdv A' outer s H vs Q E hr h => ?_)
  · obtain ⟨l, xs, wd, rfl, _⟩ := h
    rfl
  · obtain ⟨l, xs, wd, rfl, hl, hw, hn, k⟩ := h
    refine ⟨_, (pss_one (ps_ret (pe_ix ix_list (pe_op op_cat (pe_lc (own := [("_law_word_here", 1), ("_law_is_right", 2)]) (by rfl) sc_law_first.nd (pi_list (pv 0)) (blkOk_by (own := [("_law_word_here", 1), ("_law_is_right", 2)]) (N := N_law_first) (sc := defScope s_law_first) (by decide +kernel)) (fun _ _ _ _ _ => (show PG _ _ (gTup K 2 _) from (pg_tup rfl (pgs_cons (pg_name (i := 1) sc_law_first.nd rfl (.inl rfl)) (pgs_cons (pg_name (i := 2) sc_law_first.nd rfl (.inl rfl)) pgs_nil))))) (fun _ _ _ _ _ => (pts_one (pt_not (show PT _ _ (GX.tTru K _) from pt_truth (pv 2) (by intro _; rfl))))) (fun _ _ _ _ _ => (pv 1))) (pe_lst (pa_cons pe_str pa_nil))) pe_int (fun _ _ => rfl)))), ?_⟩
    refine ⟨_, rfl, l, rfl, ⟨_, hl⟩, fun D hD => ?_⟩
    refine lc_list (K := K) (a := l) (xs := xs) (fun i H' => Same H H' ∧ H' D = some (.lst (((xs.take i).filter fun v => !(wd v).2).map fun v => V.str (wd v).1))) ⟨same_upd hD, upd_same⟩ (fun i H' _ h => h.1.seq hl) ?_ ?_
    · rintro i x H' hi ⟨s1, d1⟩
      obtain ⟨a, rfl, ha⟩ := hw x (List.mem_of_getElem? hi)
      have ha' := s1 _ _ ha
      refine ⟨a, _, rfl, SqT.of ha', rfl, _, _, rfl, _, _, rfl, rfl, rfl, ?_⟩
      have et := take_film (fun v => !(wd v).2) (fun v => V.str (wd v).1) hi
      refine ⟨_, rfl, (wd (.ref a)).2, rfl, ?_⟩
      cases c : (wd (.ref a)).2 with
      | false =>
        rw [c] at et
        refine iteT ⟨_, rfl, _, d1, ?_, same_to s1 hD, ?_⟩
        · rw [List.length_map]
          exact fil_lt (Nat.le_trans hn (by decide))
        · rw [upd_same, et]
          rfl
      | true =>
        rw [c] at et
        refine iteF ⟨s1, ?_⟩
        rw [et, d1]
        simp
    · rintro H' ⟨s1, d1⟩
      rw [List.take_length] at d1
      refine ⟨(by show 1 ≤ sizeLine; decide), fun p np => ?_⟩
      have hDp : D ≠ p := ne_of_none d1 np
      refine ⟨D, p, _, _, rfl, rfl, by rw [upd_ne hDp]; exact d1, upd_same, ?_, fun q nq => ?_⟩
      · rw [List.length_map]
        have z : (xs.filter fun v => !(wd v).2).length ≤ xs.length := List.length_filter_le _ _
        exact Nat.le_trans (Nat.add_le_add_right (Nat.le_trans z hn) 1) (by decide)
      have s2 := (same_to s1 (s1.free np) (o := .lst [.str "let"]))
      have s3 := same_to s2 (s2.free nq) (o := .lst (((xs.filter fun v => !(wd v).2).map fun v => V.str (wd v).1) ++ [.str "let"]))
      have e0 : (((xs.filter fun v => !(wd v).2).map fun v => V.str (wd v).1) ++ [V.str "let"])[0]? = some (.str (firstW wd xs)) := by
        unfold firstW
        cases (xs.filter fun v => !(wd v).2) with
        | nil => rfl
        | cons a r => rfl
      exact ⟨q, _, _, _, rfl, rfl, SqL.of upd_same, atI_nat (j := 0) e0, k _ s3⟩
/-- the word for an error -/
inductive WordOf (A : Adr) (H : Hp) : Value → Option Addr → Str → Prop where
  | lines : WordOf A H (.ref A.c_NoLines) none "lines"
  | most : WordOf A H (.ref A.c_NoMost) none "most"
  | arr {dd : Addr} {fs : List (Str × V)} : H dd = some (.xd fs) → WordOf A H (.ref A.c_BadArrivals) (some dd) "arrivals"
/-- what _law_word tells of a call -/
def ttWord (A : Adr) (tl : XK → Hp → VK → Prop) (H : Hp) (Q : VK) : Prop :=
  ∀ (E : XK) (Q' : VK), (∀ cls d H' w, WordOf A H' cls d w → (∀ H'', Same H' H'' → Q (.str w) H'') → E cls d H') → (∀ v H', Q (.str "let") H' → Q' v H') → tl E H Q'
theorem word_data (T : Top K mg A) {H : Hp} {cls : Value} {d : Option Addr} {w : Str} (hw : WordOf A H cls d w) : ∃ (D : Addr) (b1 b2 b3 : Bool) (j : Nat), cls = .ref D ∧ ExcC K D ∧ (∀ H', Same H H' → d = none ∨ ∃ dd fs, d = some dd ∧ H' dd = some (.xd fs)) ∧ PySem.W.exmOne K (.ref D) (.ref A.c_FabricError) = some true ∧
    PySem.W.kitOne K (.ref D) (.ref A.c_NoLines) = some b1 ∧ PySem.W.kitOne K (.ref D) (.ref A.c_NoMost) = some b2 ∧ PySem.W.kitOne K (.ref D) (.ref A.c_BadArrivals) = some b3 ∧ PySem.W.kitOne K (.ref D) (.type "ValueError") = some true ∧
    [b1, b2, b3].countP (fun b => b == true) = 1 ∧ ([b1, b2, b3].map V.bl)[j]? = some (.bl true) ∧ (∀ m z, m < j → ([b1, b2, b3].map V.bl)[m]? = some z → eqV z (.bl true) = false) ∧ ([.str "lines", .str "most", .str "arrivals"] : List V)[j]? = some (.str w) := by
  cases hw with
  | lines => exact ⟨A.c_NoLines, true, false, false, 0, rfl, ⟨T.e1_NoLines, T.e2_NoLines, T.s_NoLines, T.e3_NoLines, T.e4_NoLines, T.en1, T.en2, T.e5_NoLines⟩, fun _ _ => .inl rfl, T.xm_NoLines_FabricError, T.kt_NoLines_NoLines, T.kt_NoLines_NoMost, T.kt_NoLines_BadArrivals, T.kt_NoLines_ValueError, rfl, rfl, (fun m z hm _ => absurd hm (Nat.not_lt_zero _)), rfl⟩
  | most => exact ⟨A.c_NoMost, false, true, false, 1, rfl, ⟨T.e1_NoMost, T.e2_NoMost, T.s_NoMost, T.e3_NoMost, T.e4_NoMost, T.en1, T.en2, T.e5_NoMost⟩, fun _ _ => .inl rfl, T.xm_NoMost_FabricError, T.kt_NoMost_NoLines, T.kt_NoMost_NoMost, T.kt_NoMost_BadArrivals, T.kt_NoMost_ValueError, rfl, rfl, (by
      intro m z hm hz
      match m, hm with
      | 0, _ => (cases hz; rfl)), rfl⟩
  | arr e => exact ⟨A.c_BadArrivals, false, false, true, 2, rfl, ⟨T.e1_BadArrivals, T.e2_BadArrivals, T.s_BadArrivals, T.e3_BadArrivals, T.e4_BadArrivals, T.en1, T.en2, T.e5_BadArrivals⟩, fun _ s => .inr ⟨_, _, rfl, s _ _ e⟩, T.xm_BadArrivals_FabricError, T.kt_BadArrivals_NoLines, T.kt_BadArrivals_NoMost, T.kt_BadArrivals_BadArrivals, T.kt_BadArrivals_ValueError, rfl, rfl, (by
      intro m z hm hz
      match m, hm with
      | 0, _ => (cases hz; rfl)
      | 1, _ => (cases hz; rfl)), rfl⟩
theorem word_aux (T : Top K mg A) {outer : List Env} {A' : Around} (cdv : Value) (f c' : Addr) (s : Shared) (H : Hp) (Q : VK) (q : Str) (tl : XK → Hp → VK → Prop)
    (hc : ∀ (W : WX) (pn : List (Addr × Obj)) (xe : Value → Shared → Prop) (E : XK) (p1 p2 : Pos), Takes ((cxOf C8.CX0 P w K mg base N_law_word "_law_word" (defScope s_law_word) A.a_law_word cdv A' outer s H C8.E0).tr pn xe) W →
      (∀ (cls : Value) (d : Option Addr) (σ' : L2.St) (H' : Hp), E cls d H' → W cls d σ' H') →
      PE ((cxOf C8.CX0 P w K mg base N_law_word "_law_word" (defScope s_law_word) A.a_law_word cdv A' outer s H C8.E0).tr pn xe) ((Expr.Name "_law_call" p1).Call [] [] p2) fun σZ HZ Q => σZ[0]? = some (some (V.ref f)) ∧ HZ c' = some (LamX.CodeO c' q) ∧ tl E HZ Q)
    (hC : H c' = some (LamX.CodeO c' q)) (hT : ttWord A tl H Q) :
    ∃ t, PSs (cxOf C8.CX0 P w K mg base N_law_word "_law_word" (defScope s_law_word) A.a_law_word cdv A' outer s H C8.E0).nox (defBody s_law_word) t ∧ t { nx := fun x H' => Q V.non H', rt := Q } (L2.start N_law_word [V.ref f]) H := by
  refine ⟨_, (pss_cons (ps_set (i := 1) sc_law_word.nd rfl (.inl rfl) pe_str)
    (pss_cons (ps_try_as (i := 2) rfl rfl sc_law_word.nd rfl rfl (by exact ⟨rfl, by decide, .inl T.gc_FabricError⟩) LamX.takes0 (fun W pn xe tk _ => (pss_one (ps_expr (hc (GX.WL 4 W) pn xe (GX.EE 4 W) _ _ (GX.takes_len tk) (fun _ _ _ _ h hl => h _ hl))))) (fun a oe cls d pn hz hf => by exact (pss_cons (ps_set (i := 3) sc_law_word.nd rfl (.inl rfl) (pe_lst (pa_cons (pe_callB (GX.call_isEa (a := a) (pn := pn) hz hf) (by rfl) T.z_isinstance (by decide +kernel) (pa_cons (pv 2) (pa_cons (pe_glob (v := .ref A.c_NoLines) (by rfl) T.gc_NoLines (by rfl)) pa_nil))) (pa_cons (pe_callB (GX.call_isEa (a := a) (pn := pn) hz hf) (by rfl) T.z_isinstance (by decide +kernel) (pa_cons (pv 2) (pa_cons (pe_glob (v := .ref A.c_NoMost) (by rfl) T.gc_NoMost (by rfl)) pa_nil))) (pa_cons (pe_callB (GX.call_isEa (a := a) (pn := pn) hz hf) (by rfl) T.z_isinstance (by decide +kernel) (pa_cons (pv 2) (pa_cons (pe_glob (v := .ref A.c_BadArrivals) (by rfl) T.gc_BadArrivals (by rfl)) pa_nil))) pa_nil)))))
    (pss_cons (ps_set (i := 1) sc_law_word.nd rfl (.inl rfl) pe_str)
    (pss_one (ps_if (PW.pt (pw_and (pt_cmpR op_eq (show PE _ _ (tBM K "list" (rCntB K) _ _) from pe_bm PySem.F.plainAttrs_list PySem.F.slot_list_count PySem.F.type_list_count mt_count_bl (pv 3) (pa_cons pe_bl pa_nil)) pe_int (nomark _)) (pw_and1 (pt_val (pe_callB (GX.call_isEa (a := a) (pn := pn) hz hf) (by rfl) T.z_isinstance (by decide +kernel) (pa_cons (pv 2) (pa_cons (pe_bltn (v := .ty "ValueError") (by rfl) T.z_ValueError (by decide +kernel) rfl) pa_nil))))))) (pss_one (ps_set (i := 1) sc_law_word.nd rfl (.inl rfl) (pe_ix (show IxR _ (rIxL K) from ix_list) (pe_lst (pa_cons pe_str (pa_cons pe_str (pa_cons pe_str pa_nil)))) (show PE _ _ (tBM K "list" (rIndex K) _ _) from pe_bm PySem.F.plainAttrs_list PySem.F.slot_list_index PySem.F.type_list_index mt_index (pv 3) (pa_cons pe_bl pa_nil)) (fun _ _ => rfl)))) pss_nil))))))
    (pss_one (ps_ret (pv 1))))), ?_⟩
  refine ⟨rfl, hC, hT _ _ (fun cls d H' w hw hQ => ?_) (fun v H' hQ => ⟨_, rfl, hQ⟩)⟩
  intro σ hσ
  obtain ⟨x0, x1, x2, x3, rfl⟩ : ∃ x0 x1 x2 x3, σ = [x0, x1, x2, x3] := by
    match σ, hσ with
    | [x0, x1, x2, x3], _ => exact ⟨x0, x1, x2, x3, rfl⟩
  obtain ⟨D, b1, b2, b3, j, rfl, xD, hd, xm, k1, k2, k3, kv, hcnt, hj, hbef, hwj⟩ := word_data T hw
  refine ⟨true, xm, fun _ a ha => ?_, fun z => by cases z⟩
  have h0 := hd H' (fun _ _ e => e)
  refine ⟨_, rfl, D, rfl, xD, h0, _, _, b1, rfl, fun u r => r, k1, ?_⟩
  refine ⟨_, rfl, D, rfl, xD, h0, _, _, b2, rfl, fun u r => r, k2, ?_⟩
  refine ⟨_, rfl, D, rfl, xD, h0, _, _, b3, rfl, fun u r => r, k3, ?_⟩
  refine ⟨(by show 3 ≤ sizeLine; decide), fun p np => ?_⟩
  have s1 := same_upd np (o := .lst [.bl b1, .bl b2, .bl b3])
  have d2 : SqL K (upd H' p (.lst [.bl b1, .bl b2, .bl b3])) p ([b1, b2, b3].map V.bl) := SqL.of upd_same
  refine ⟨_, rfl, .inl ⟨rfl, _, d2⟩, p, [b1, b2, b3], true, rfl, rfl, d2, rfl, ?_⟩
  rw [hcnt]
  refine ⟨_, rfl, iteT ?_⟩
  refine ⟨_, rfl, D, rfl, xD, hd _ s1, _, _, true, rfl, fun u r => r, kv, true, rfl, iteT ?_⟩
  refine ⟨(by show 3 ≤ sizeLine; decide), fun q nq => ?_⟩
  have hpq : p ≠ q := fun e => by rw [← e, upd_same] at nq; cases nq
  have s3 := s1.trans (same_upd nq (o := .lst [.str "lines", .str "most", .str "arrivals"]))
  have d3 : SqL K (upd (upd H' p (.lst [.bl b1, .bl b2, .bl b3])) q (.lst [.str "lines", .str "most", .str "arrivals"])) p ([b1, b2, b3].map V.bl) := SqL.of (by rw [upd_ne hpq]; exact upd_same)
  refine ⟨_, rfl, .inl ⟨rfl, _, d3⟩, p, _, .bl true, j, .bl true, rfl, rfl, d3, rfl, rfl, hj, rfl, hbef, ?_⟩
  exact ⟨q, _, _, _, rfl, rfl, SqL.of upd_same, atI_nat hwj, _, rfl, hQ _ s3⟩
theorem gives_law_word (T : Top K mg A) {X : Cx} {q : Str} (hK : X.K = K) (hm : X.mg = mg) : ∀ cdv, LamX.GivesTo X N_law_word "_law_word" (defScope s_law_word) A.a_law_word cdv (defBody s_law_word) "_law_call" q (ttWord A) := by
  intro cdv f c' s H Q tl hc hC hT
  cases hK
  cases hm
  exact word_aux T cdv f c' s H Q q tl hc hC hT
end

abbrev Tb (P : Addr) (q : Str) (H : Hp) : Prop := LamX.Tabs [(P, q)] H
theorem Tb.kp {P x : Addr} {q : Str} {H H' : Hp} (t : Tb P q H) (k : Kp x H H') (hx : ∃ o, H x = some o ∧ NT o ∧ ∀ f, o ≠ .ext f) : Tb P q H' := by
  obtain ⟨o, hx, n1, n2⟩ := hx
  intro p hp
  obtain ⟨ps, e1, e2, e3⟩ := t p hp
  refine ⟨ps, k _ _ (fun z => ?_) e1, e2, fun pos cv hc => ?_⟩
  · rw [z, hx] at e1
    exact n1 _ (Option.some.inj e1)
  · obtain ⟨c, rfl, e4⟩ := e3 pos cv hc
    refine ⟨c, rfl, k _ _ (fun z => ?_) e4⟩
    rw [z, hx] at e4
    exact n2 _ (Option.some.inj e4)
theorem Tb.same {P : Addr} {q : Str} {H H' : Hp} (t : Tb P q H) (s : Same H H') : Tb P q H' := LamX.Tabs.ext t s
theorem Tb.hand {P h g : Addr} {q : Str} {H H' : Hp} (t : Tb P q H) (k : Kp h H H') (a : HandAt H h g) : Tb P q H' := by
  obtain ⟨i, m, s, tt, e, _⟩ := a.five
  exact t.kp k ⟨_, e, nt_lst, fun _ z => by cases z⟩
theorem HandAt.ext {h g : Addr} {H H' : Hp} (a : HandAt H h g) (k : LamX.ExtN H H') : HandAt H' h g :=
  ⟨by obtain ⟨ns, e⟩ := a.cells; exact ⟨ns, k _ _ e nt_lst⟩, by obtain ⟨i, m, s', t, e, q⟩ := a.five; exact ⟨i, m, s', t, k _ _ e nt_lst, q⟩, a.ne⟩
/-- the hand, and three things -/
structure Tri (A : Adr) (h g : Addr) (H : Hp) (vl vm vt : V) (dl dm dt : Td) : Prop where
  hand : HandAt H h g
  tb : Tb A.tb_law qlam_law H
  l : Is A.c_Cell h H vl dl
  m : Is A.c_Cell h H vm dm
  t : Is A.c_Cell h H vt dt
  sl : Sh dl
  sm : Sh dm
  st : Sh dt
section
variable {A : Adr} {h g : Addr} {H H' : Hp} {vl vm vt : V} {dl dm dt : Td}
theorem Tri.same (w : Tri A h g H vl vm vt dl dm dt) (s : Same H H') : Tri A h g H' vl vm vt dl dm dt := ⟨w.hand.same s, w.tb.same s, w.l.same s, w.m.same s, w.t.same s, w.sl, w.sm, w.st⟩
theorem Tri.kp (w : Tri A h g H vl vm vt dl dm dt) (k : Kp h H H') (a : HandAt H' h g) : Tri A h g H' vl vm vt dl dm dt := ⟨a, w.tb.hand k w.hand, w.l.kp k w.hand, w.m.kp k w.hand, w.t.kp k w.hand, w.sl, w.sm, w.st⟩
theorem Tri.ext (w : Tri A h g H vl vm vt dl dm dt) (k : LamX.ExtN H H') (t : Tb A.tb_law qlam_law H') : Tri A h g H' vl vm vt dl dm dt := ⟨w.hand.ext k, t, w.l.mv (.ext k) w.hand.some, w.m.mv (.ext k) w.hand.some, w.t.mv (.ext k) w.hand.some, w.sl, w.sm, w.st⟩
end
def due1 (dl dm : Td) : Str := if inI 1 12 dl = true then (if inI 1 3 dm = true then "let" else "most") else "lines"
def intOf : Td → Int
  | .int i => i
  | _ => 0
def due2 (dl dm dt : Td) : Str := if inI 1 12 dl = true then (if inI 1 3 dm = true then (if arrsB (intOf dl) (intOf dm) dt = true then "let" else "arrivals") else "most") else "lines"
def spLaw (K : PySem.W.Frag) (A : Adr) : Sp := fun vs H Q _ => ∃ (a : Addr) (ns : List Int), vs = [.ref a] ∧ SqL K H a (ns.map V.int) ∧ ns.length ≤ 63 ∧ Tb A.tb_law qlam_law H ∧ ∀ H', Q (.bl true) H'
section
variable {P : Program} {w : World} {K : PySem.W.Frag} {mg : Str → Option Value} {base : Heap} {A : Adr}
theorem ok_law (T : Top K mg A) (B : Tbs base mg A) : FnOk P w K mg base CX0 20 A.a_law A.d_law P_law (spLaw K A) := by
  refine T.L_law.ok sc_law (fun vs H Q E h => ?_) (fun A' outer s H vs Q E hr h => ?_)
  · obtain ⟨a, ns, rfl, _⟩ := h
    rfl
  · obtain ⟨sa, ns, rfl, hS, hn, tb0, kq⟩ := h
    refine ⟨_, (pss_cons (ps_set (i := 1) sc_law.nd rfl (.inl rfl) (pe_call (ok_law_hand T) (hr.mono (by decide)) (by rfl) T.g_law_hand T.F_law_hand.kp T.b_law_hand .nil pass0 (pa_cons (pv 0) pa_nil)))
    (pss_cons (ps_for PassesOwn.never rfl (pi_range1 rfl T.z_range (pa_cons pe_int pa_nil)) (pg_name (i := 2) sc_law.nd rfl (.inl rfl)) (pss_cons (ps_asg (pe_call (ok_law_sizes T) (hr.mono (by decide)) (by rfl) T.g_law_sizes T.F_law_sizes.kp T.b_law_sizes .nil pass0 (pa_cons (pv 1) pa_nil)) (pg_tup rfl (pgs_cons (pg_name (i := 5) sc_law.nd rfl (.inr rfl)) (pgs_cons (pg_name (i := 6) sc_law.nd rfl (.inr rfl)) pgs_nil))))
    (pss_cons (ps_set (i := 7) sc_law.nd rfl (.inr rfl) (pe_call (ok_law_arrivals T) (hr.mono (by decide)) (by rfl) T.g_law_arrivals T.F_law_arrivals.kp T.b_law_arrivals .nil pass0 (pa_cons (pv 1) (pa_cons (pv 5) (pa_cons (pv 6) (pa_cons (pe_call (ok_law_draw T) (hr.mono (by decide)) (by rfl) T.g_law_draw T.F_law_draw.kp T.b_law_draw .nil pass0 (pa_cons (pv 1) (pa_cons pe_int pa_nil))) pa_nil))))))
    (Evl.pss_cut (ps_if (pt_cmpR op_eq (pe_call (ok_law_draw T) (hr.mono (by decide)) (by rfl) T.g_law_draw T.F_law_draw.kp T.b_law_draw .nil pass0 (pa_cons (pv 1) (pa_cons pe_int pa_nil))) pe_int (nomark _)) (pss_one (ps_set (i := 7) sc_law.nd rfl (.inr rfl) (pe_call (ok_law_odd T) (hr.mono (by decide)) (by rfl) T.g_law_odd T.F_law_odd.kp T.b_law_odd .nil pass0 (pa_cons (pv 1) (pa_cons pe_non pa_nil))))) pss_nil)
    (Evl.pss_cut (ps_if (pt_cmpR op_eq (pe_call (ok_law_draw T) (hr.mono (by decide)) (by rfl) T.g_law_draw T.F_law_draw.kp T.b_law_draw .nil pass0 (pa_cons (pv 1) (pa_cons pe_int pa_nil))) pe_int (nomark _)) (pss_one (ps_set (i := 5) sc_law.nd rfl (.inr rfl) (pe_call (ok_law_any T) (hr.mono (by decide)) (by rfl) T.g_law_any T.F_law_any.kp T.b_law_any .nil pass0 (pa_cons (pv 1) (pa_cons (pe_lst (pa_cons pe_int (pa_cons pe_int (pa_cons pe_int (pa_cons pe_int (pa_cons (pe_call (ok_law_odd T) (hr.mono (by decide)) (by rfl) T.g_law_odd T.F_law_odd.kp T.b_law_odd .nil pass0 (pa_cons (pv 1) (pa_cons (pv 7) pa_nil))) pa_nil)))))) pa_nil))))) pss_nil)
    (Evl.pss_cut (ps_if (pt_cmpR op_eq (pe_call (ok_law_draw T) (hr.mono (by decide)) (by rfl) T.g_law_draw T.F_law_draw.kp T.b_law_draw .nil pass0 (pa_cons (pv 1) (pa_cons pe_int pa_nil))) pe_int (nomark _)) (pss_one (ps_set (i := 6) sc_law.nd rfl (.inr rfl) (pe_call (ok_law_any T) (hr.mono (by decide)) (by rfl) T.g_law_any T.F_law_any.kp T.b_law_any .nil pass0 (pa_cons (pv 1) (pa_cons (pe_lst (pa_cons pe_int (pa_cons pe_int (pa_cons pe_int (pa_cons pe_int (pa_cons (pe_call (ok_law_odd T) (hr.mono (by decide)) (by rfl) T.g_law_odd T.F_law_odd.kp T.b_law_odd .nil pass0 (pa_cons (pv 1) (pa_cons (pv 7) pa_nil))) pa_nil)))))) pa_nil))))) pss_nil)
    (pss_cons (ps_set (i := 3) sc_law.nd rfl (.inl rfl) (pe_lst (pa_cons (pe_tup (pa_cons pe_str (pa_cons (pe_call (ok_law_is_int T) (hr.mono (by decide)) (by rfl) T.g_law_is_int T.F_law_is_int.kp T.b_law_is_int .nil pass0 (pa_cons (pv 5) (pa_cons pe_int (pa_cons pe_int pa_nil)))) pa_nil))) (pa_cons (pe_tup (pa_cons pe_str (pa_cons (pe_call (ok_law_is_int T) (hr.mono (by decide)) (by rfl) T.g_law_is_int T.F_law_is_int.kp T.b_law_is_int .nil pass0 (pa_cons (pv 6) (pa_cons pe_int (pa_cons pe_int pa_nil)))) pa_nil))) pa_nil))))
    (Evl.pss_cut (ps_set (i := 4) sc_law.nd rfl (.inl rfl) (pe_call (ok_law_first T) (hr.mono (by decide)) (by rfl) T.g_law_first T.F_law_first.kp T.b_law_first .nil pass0 (pa_cons (pv 3) pa_nil)))
    (Evl.pss_cut (ps_if (pt_cmpR op_ne (GX.pe_lam (k := 12) (T := [(A.tb_law, qlam_law)]) T.F_law_word sc_law_word (by rfl) T.g_law_word T.b_law_word rfl (.inl rfl) (gives_law_word T rfl rfl) B.t_law rfl (List.mem_singleton.mpr rfl) (fun p hp _ => by rw [List.mem_singleton.mp hp]; rfl) (hr.mono (by decide)) (show LamX.LamS (defScope s_law) _ from LamX.lamS_by (by decide +kernel)) rfl (fun _ _ _ _ _ => rfl) (fun _ _ _ _ _ _ _ hr => (pe_call (ok_is_arrivals T) (hr.mono (by decide)) (by rfl) T.g_is_arrivals T.F_is_arrivals.kp T.b_is_arrivals .nil (GX.passX rfl rfl rfl rfl) (pa_cons (pv 5) (pa_cons (pv 6) (pa_cons (pv 7) pa_nil)))))) (pv 4) (nomark _)) (pss_one (ps_ret pe_bl)) pss_nil)
    (Evl.pss_cut (ps_if (PW.pt (pw_and (pt_cmpR op_eq (pv 4) pe_str (nomark _)) (pw_and1 (pt_cmpR op_notN (pe_call (ok_law_wrong T) (hr.mono (by decide)) (by rfl) T.g_law_wrong T.F_law_wrong.kp T.b_law_wrong .nil pass0 (pa_cons (pv 5) (pa_cons (pv 6) (pa_cons (pv 7) pa_nil)))) pe_non (nomark _))))) (pss_one (ps_set (i := 4) sc_law.nd rfl (.inl rfl) pe_str)) pss_nil)
    (pss_one (ps_if (pt_cmpR op_ne (GX.pe_lam (k := 12) (T := [(A.tb_law, qlam_law)]) T.F_law_word sc_law_word (by rfl) T.g_law_word T.b_law_word rfl (.inl rfl) (gives_law_word T rfl rfl) B.t_law rfl (List.mem_singleton.mpr rfl) (fun p hp _ => by rw [List.mem_singleton.mp hp]; rfl) (hr.mono (by decide)) (show LamX.LamS (defScope s_law) _ from LamX.lamS_by (by decide +kernel)) rfl (fun _ _ _ _ _ => rfl) (fun _ _ _ _ _ _ _ hr => (pe_call (ok_cells T) (hr.mono (by decide)) (by rfl) T.g_cells T.F_cells.kp T.b_cells .nil (GX.passX rfl rfl rfl rfl) (pa_cons (pv 5) (pa_cons (pv 6) (pa_cons (pv 7) pa_nil)))))) (pv 4) (nomark _)) (pss_one (ps_ret pe_bl)) pss_nil))))))))))))
    (pss_one (ps_ret pe_bl)))), ?_⟩
    refine ⟨_, rfl, sa, ns, rfl, hS, hn, fun H1 h g s1 _ _ a1 => ?_⟩
    have tb1 := tb0.same s1
    refine ⟨10, rfl, by decide, by decide, ?_⟩
    refine for_range (lo := 0) (n := (10 : Int).toNat) (fun i σ H' => ∃ y2 y3 y4 y5 y6 y7 : Option V, σ = [some (.ref sa), some (.ref h), y2, y3, y4, y5, y6, y7] ∧ HandAt H' h g ∧ Tb A.tb_law qlam_law H') ⟨_, _, _, _, _, _, rfl, a1, tb1⟩ ?_ ?_
    · rintro i σ H2 hi ⟨y2, y3, y4, y5, y6, y7, rfl, a2, tb2⟩
      refine ⟨_, rfl, h, g, rfl, a2, fun H3 p n m k3 a3 ep n0 n1 m0 m1 => ?_⟩
      have tb3 := tb2.hand k3 a2
      refine ⟨p, _, rfl, SqT.of ep, rfl, _, _, rfl, _, _, rfl, rfl, ?_⟩
      refine ⟨_, rfl, _, rfl, _, rfl, _, rfl, h, g, 4, rfl, a3, by decide, by decide, fun H4 b b4 a4 b0 b1 => ?_⟩
      have tb4 := tb3.hand b4.kp a3
      refine ⟨h, g, n, m, b, rfl, a4, ⟨n0, by omega⟩, ⟨m0, by omega⟩, ⟨b0, by omega⟩, fun H5 vt ds k5 a5 it _ _ sh => ?_⟩
      have w5 : Tri A h g H5 (.int n) (.int m) vt (.int n) (.int m) (.tup ds) := ⟨a5, tb4.hand k5 a4, .int n, .int m, it, .int n, .int m, sh⟩
      clear k3 a3 tb3 b4 a4 tb4 k5 a5 it sh ep a2 tb2
      -- another thing
      refine ⟨fun σ' H' => ∃ vt dt, σ' = [some (.ref sa), some (.ref h), some (.int (0 + (i : Int))), y3, y4, some (.int n), some (.int m), some vt] ∧ Tri A h g H' (.int n) (.int m) vt (.int n) (.int m) dt, ?_, ?_⟩
      · refine ⟨_, rfl, h, g, 3, rfl, w5.hand, by decide, by decide, fun H6 c b6 a6 _ _ => ?_⟩
        have w6 := w5.kp b6.kp a6
        refine ⟨rfl, _, rfl, ite2 (fun _ => ?_) (fun _ => ⟨vt, _, rfl, w6⟩)⟩
        refine ⟨_, rfl, h, g, .non, rfl, a6, ⟨.non, .non, .non⟩, fun H7 v k7 a7 gv => ?_⟩
        have w7 := w6.kp k7 a7
        obtain ⟨dv, iv, sv⟩ := gv
        exact ⟨v, dv, rfl, ⟨w7.hand, w7.tb, w7.l, w7.m, iv, w7.sl, w7.sm, sv⟩⟩
      rintro σ' H6 ⟨vt, dt, rfl, w6⟩
      clear w5
      -- other lines
      refine ⟨fun σ' H' => ∃ vl dl, σ' = [some (.ref sa), some (.ref h), some (.int (0 + (i : Int))), y3, y4, some vl, some (.int m), some vt] ∧ Tri A h g H' vl (.int m) vt dl (.int m) dt, ?_, ?_⟩
      · refine ⟨_, rfl, h, g, 2, rfl, w6.hand, by decide, by decide, fun H7 c b7 a7 _ _ => ?_⟩
        have w7 := w6.kp b7.kp a7
        refine ⟨rfl, _, rfl, ite2 (fun _ => ?_) (fun _ => ⟨_, _, rfl, w7⟩)⟩
        refine ⟨_, rfl, _, rfl, _, rfl, h, g, vt, rfl, a7, ⟨dt, w7.t, w7.st⟩, fun H8 v k8 a8 gv => ?_⟩
        have w8 := w7.kp k8 a8
        refine ⟨(by show 5 ≤ sizeLine; decide), fun l nl => ?_⟩
        have s9 := same_upd nl (o := .lst [.int 0, .int 1, .int 12, .int 13, v])
        have hl := a8.ne_none nl
        have w9 := w8.same s9
        refine ⟨h, g, l, _, rfl, w9.hand, SqL.of upd_same, fun H' b => SqL.of (by rw [b l hl]; exact upd_same), by show 0 < 5; decide, by show 5 ≤ 100000; decide, fun H10 j u b10 a10 hu => ?_⟩
        have w10 := w9.kp b10.kp a10
        have gu : Gd A.c_Cell h H10 u := by
          have hm := List.mem_of_getElem? hu
          simp only [List.mem_cons, List.not_mem_nil, or_false] at hm
          rcases hm with e | e | e | e | e <;> subst e
          · exact ⟨_, .int _, .int _⟩
          · exact ⟨_, .int _, .int _⟩
          · exact ⟨_, .int _, .int _⟩
          · exact ⟨_, .int _, .int _⟩
          · exact (gv.same s9).kp b10.kp w9.hand
        obtain ⟨du, iu, su⟩ := gu
        exact ⟨u, du, rfl, ⟨w10.hand, w10.tb, iu, w10.m, w10.t, su, w10.sm, w10.st⟩⟩
      rintro σ' H7 ⟨vl, dl, rfl, w7⟩
      clear w6
      -- other most
      refine ⟨fun σ' H' => ∃ vm dm, σ' = [some (.ref sa), some (.ref h), some (.int (0 + (i : Int))), y3, y4, some vl, some vm, some vt] ∧ Tri A h g H' vl vm vt dl dm dt, ?_, ?_⟩
      · refine ⟨_, rfl, h, g, 2, rfl, w7.hand, by decide, by decide, fun H7 c b7 a7 _ _ => ?_⟩
        have w7 := w7.kp b7.kp a7
        refine ⟨rfl, _, rfl, ite2 (fun _ => ?_) (fun _ => ⟨_, _, rfl, w7⟩)⟩
        refine ⟨_, rfl, _, rfl, _, rfl, h, g, vt, rfl, a7, ⟨dt, w7.t, w7.st⟩, fun H8 v k8 a8 gv => ?_⟩
        have w8 := w7.kp k8 a8
        refine ⟨(by show 5 ≤ sizeLine; decide), fun l nl => ?_⟩
        have s9 := same_upd nl (o := .lst [.int 0, .int 1, .int 3, .int 4, v])
        have hl := a8.ne_none nl
        have w9 := w8.same s9
        refine ⟨h, g, l, _, rfl, w9.hand, SqL.of upd_same, fun H' b => SqL.of (by rw [b l hl]; exact upd_same), by show 0 < 5; decide, by show 5 ≤ 100000; decide, fun H10 j u b10 a10 hu => ?_⟩
        have w10 := w9.kp b10.kp a10
        have gu : Gd A.c_Cell h H10 u := by
          have hm := List.mem_of_getElem? hu
          simp only [List.mem_cons, List.not_mem_nil, or_false] at hm
          rcases hm with e | e | e | e | e <;> subst e
          · exact ⟨_, .int _, .int _⟩
          · exact ⟨_, .int _, .int _⟩
          · exact ⟨_, .int _, .int _⟩
          · exact ⟨_, .int _, .int _⟩
          · exact (gv.same s9).kp b10.kp w9.hand
        obtain ⟨du, iu, su⟩ := gu
        exact ⟨u, du, rfl, ⟨w10.hand, w10.tb, w10.l, iu, w10.t, w10.sl, su, w10.st⟩⟩
      rintro σ' H8 ⟨vm, dm, rfl, w8⟩
      clear w7
      -- the word that is due
      refine ⟨_, rfl, 1, 12, vl, dl, h, rfl, w8.l, (by show 2 ≤ sizeLine; decide), fun t1 n1 => ?_⟩
      have s1' := same_upd n1 (o := .tup [.str "lines", .bl (inI 1 12 dl)])
      have w9 := w8.same s1'
      have e1 : (upd H8 t1 (.tup [.str "lines", .bl (inI 1 12 dl)])) t1 = some (.tup [.str "lines", .bl (inI 1 12 dl)]) := upd_same
      generalize (upd H8 t1 (.tup [.str "lines", .bl (inI 1 12 dl)])) = H9 at s1' w9 e1 ⊢
      refine ⟨_, rfl, 1, 3, vm, dm, h, rfl, w9.m, (by show 2 ≤ sizeLine; decide), fun t2 n2 => ?_⟩
      have s2' := same_upd n2 (o := .tup [.str "most", .bl (inI 1 3 dm)])
      have w10 := w9.same s2'
      have e2 : (upd H9 t2 (.tup [.str "most", .bl (inI 1 3 dm)])) t2 = some (.tup [.str "most", .bl (inI 1 3 dm)]) := upd_same
      have h12 : t2 ≠ t1 := (ne_of_none e1 n2).symm
      have e1 := s2' _ _ e1
      generalize (upd H9 t2 (.tup [.str "most", .bl (inI 1 3 dm)])) = H10 at s2' w10 e1 e2 ⊢
      refine ⟨(by show 2 ≤ sizeLine; decide), fun l nl => ?_⟩
      have s3' := same_upd nl (o := .lst [.ref t1, .ref t2])
      have w11 := w10.same s3'
      clear w8 w9 w10 s1' s2' n1 n2
      refine ⟨fun σ' H' => ∃ y3, σ' = [some (.ref sa), some (.ref h), some (.int (0 + (i : Int))), y3, some (.str (due1 dl dm)), some vl, some vm, some vt] ∧ Tri A h g H' vl vm vt dl dm dt, ?_, ?_⟩
      · refine ⟨_, rfl, l, [.ref t1, .ref t2], fun v => if v = .ref t1 then ("lines", inI 1 12 dl) else ("most", inI 1 3 dm), rfl, SqL.of upd_same, ?_, (by show 2 ≤ 1000; decide), fun H' s => ⟨some (.ref l), ?_, w11.same s⟩⟩
        · intro v hv
          simp only [List.mem_cons, List.not_mem_nil, or_false] at hv
          rcases hv with e | e <;> subst e
          · refine ⟨t1, rfl, ?_⟩
            dsimp only
            rw [if_pos rfl]
            exact s3' _ _ e1
          · refine ⟨t2, rfl, ?_⟩
            dsimp only
            rw [if_neg (fun z => h12 (V.ref.inj z))]
            exact s3' _ _ e2
        · have ef : firstW (fun v => if v = V.ref t1 then (("lines" : Str), inI 1 12 dl) else (("most" : Str), inI 1 3 dm)) [.ref t1, .ref t2] = due1 dl dm := by
            have z : ¬ (V.ref t2 = V.ref t1) := fun z => h12 (V.ref.inj z)
            unfold firstW due1
            cases c1 : inI 1 12 dl <;> cases c2 : inI 1 3 dm <;> simp [z, c1, c2]
          rw [ef]
          rfl
      clear w11 e1 e2 s3' nl
      rintro σ' H11 ⟨y3', rfl, w11⟩
      -- is_arrivals
      refine ⟨fun σ' H' => σ' = [some (.ref sa), some (.ref h), some (.int (0 + (i : Int))), y3', some (.str (due1 dl dm)), some vl, some vm, some vt] ∧ Tri A h g H' vl vm vt dl dm dt, ?_, ?_⟩
      · refine ⟨w11.tb, fun H6 x6 t6 E Q' hE hQ => ?_⟩
        have w6 := w11.ext x6 t6
        refine ⟨_, rfl, _, rfl, _, rfl, vl, vm, vt, dl, dm, dt, h, rfl, w6.l, w6.m, w6.t, fun c1 => ?_, fun c1 c2 => ?_, fun n m H7 el em c1 c2 s7 => ?_⟩
        · refine hE _ _ _ "lines" .lines fun H'' s'' => ?_
          refine ⟨_, rfl, rfl, _, rfl, ?_⟩
          rw [show due1 dl dm = "lines" from if_neg (by rw [c1]; exact Bool.false_ne_true)]
          exact iteF ⟨rfl, w6.same s''⟩
        · refine hE _ _ _ "most" .most fun H'' s'' => ?_
          refine ⟨_, rfl, rfl, _, rfl, ?_⟩
          rw [show due1 dl dm = "most" from (if_pos c1).trans (if_neg (by rw [c2]; exact Bool.false_ne_true))]
          exact iteF ⟨rfl, w6.same s''⟩
        · refine hQ _ _ ?_
          refine ⟨_, rfl, rfl, _, rfl, ?_⟩
          rw [show due1 dl dm = "let" from (if_pos c1).trans (if_pos c2)]
          exact iteF ⟨rfl, w6.same s7⟩
      rintro σ' H12 ⟨rfl, w12⟩
      clear w11
      -- the due word of cells
      refine ⟨fun σ' H' => σ' = [some (.ref sa), some (.ref h), some (.int (0 + (i : Int))), y3', some (.str (due2 dl dm dt)), some vl, some vm, some vt] ∧ Tri A h g H' vl vm vt dl dm dt, ?_, ?_⟩
      · cases c1 : inI 1 12 dl with
        | false =>
          rw [show due1 dl dm = "lines" from if_neg (by rw [c1]; exact Bool.false_ne_true), show due2 dl dm dt = "lines" from if_neg (by rw [c1]; exact Bool.false_ne_true)]
          exact ⟨_, rfl, rfl, _, rfl, iteF ⟨rfl, w12⟩⟩
        | true =>
          cases c2 : inI 1 3 dm with
          | false =>
            rw [show due1 dl dm = "most" from (if_pos c1).trans (if_neg (by rw [c2]; exact Bool.false_ne_true)), show due2 dl dm dt = "most" from (if_pos c1).trans (if_neg (by rw [c2]; exact Bool.false_ne_true))]
            exact ⟨_, rfl, rfl, _, rfl, iteF ⟨rfl, w12⟩⟩
          | true =>
            obtain ⟨n, rfl, _, _⟩ := inI_int c1
            obtain ⟨m, rfl, _, _⟩ := inI_int c2
            have hl := w12.l
            have hm := w12.m
            cases hl
            cases hm
            rw [show due1 (.int n) (.int m) = "let" from (if_pos c1).trans (if_pos c2), show due2 (.int n) (.int m) dt = (if arrsB n m dt = true then ("let" : Str) else "arrivals") from (if_pos c1).trans (if_pos c2)]
            refine ⟨_, rfl, rfl, _, rfl, iteT ?_⟩
            refine ⟨_, rfl, _, rfl, _, rfl, n, m, vt, dt, h, rfl, w12.t, w12.st, fun H13 v s13 y1 y2 => ⟨rfl, _, rfl, ?_⟩⟩
            cases c3 : arrsB n m dt with
            | true =>
              rw [y1 c3]
              exact iteF ⟨rfl, w12.same s13⟩
            | false =>
              rw [decide_eq_false (y2 c3)]
              exact iteT ⟨rfl, w12.same s13⟩
      rintro σ' H13 ⟨rfl, w13⟩
      clear w12
      -- cells
      refine ⟨w13.tb, fun H6 x6 t6 E Q' hE hQ => ?_⟩
      have w6 := w13.ext x6 t6
      refine ⟨_, rfl, _, rfl, _, rfl, vl, vm, vt, dl, dm, dt, h, rfl, w6.l, w6.m, w6.t, fun c1 => ?_, fun c1 c2 => ?_, fun n m el em c1 c2 c3 H7 dd fs s7 ed => ?_, fun n m el em c1 c2 c3 v H7 s7 => ?_⟩
      · refine hE _ _ _ "lines" .lines fun H'' s'' => ?_
        refine ⟨_, rfl, rfl, _, rfl, ?_⟩
        rw [show due2 dl dm dt = "lines" from if_neg (by rw [c1]; exact Bool.false_ne_true)]
        have w7 := w6.same s''
        exact iteF ⟨_, _, _, _, _, _, rfl, w7.hand, w7.tb⟩
      · refine hE _ _ _ "most" .most fun H'' s'' => ?_
        refine ⟨_, rfl, rfl, _, rfl, ?_⟩
        rw [show due2 dl dm dt = "most" from (if_pos c1).trans (if_neg (by rw [c2]; exact Bool.false_ne_true))]
        have w7 := w6.same s''
        exact iteF ⟨_, _, _, _, _, _, rfl, w7.hand, w7.tb⟩
      · subst el em
        refine hE _ _ _ "arrivals" (.arr ed) fun H'' s'' => ?_
        refine ⟨_, rfl, rfl, _, rfl, ?_⟩
        rw [show due2 (.int n) (.int m) dt = "arrivals" from (if_pos c1).trans ((if_pos c2).trans (if_neg (by rw [show arrsB (intOf (.int n)) (intOf (.int m)) dt = false from c3]; exact Bool.false_ne_true)))]
        have w7 := (w6.same s7).same s''
        exact iteF ⟨_, _, _, _, _, _, rfl, w7.hand, w7.tb⟩
      · subst el em
        refine hQ _ _ ?_
        refine ⟨_, rfl, rfl, _, rfl, ?_⟩
        rw [show due2 (.int n) (.int m) dt = "let" from (if_pos c1).trans ((if_pos c2).trans (if_pos c3))]
        have w7 := w6.same s7
        exact iteF ⟨_, _, _, _, _, _, rfl, w7.hand, w7.tb⟩
    · rintro σ H2 ⟨y2, y3, y4, y5, y6, y7, rfl, a2, tb2⟩
      exact kq H2
end

theorem top_end {l : PySem.W.OpenLaw} {w : World} {K : PySem.W.Frag} {h : Heap} {mg : Str → Option Value} {fa : Addr} (X : K.In h) (G : h.Ns mainGlobals mg) (hfa : mg "law" = some (.ref fa))
    {f_BadArrivals___init__ : Addr} {od_BadArrivals___init__ an_BadArrivals___init__ : Option Addr} {sl_BadArrivals___init__ : Array (Option Value)} {oc_BadArrivals___init__ kV_BadArrivals___init__ dc_BadArrivals___init__ pm_BadArrivals___init__ cd_BadArrivals___init__ ct_BadArrivals___init__ : Value}
    {f_is_integer : Addr} {od_is_integer an_is_integer : Option Addr} {sl_is_integer : Array (Option Value)} {oc_is_integer kV_is_integer dc_is_integer pm_is_integer cd_is_integer ct_is_integer : Value}
    {f_is_integer_from : Addr} {od_is_integer_from an_is_integer_from : Option Addr} {sl_is_integer_from : Array (Option Value)} {oc_is_integer_from kV_is_integer_from dc_is_integer_from pm_is_integer_from cd_is_integer_from ct_is_integer_from : Value}
    {f_is_number_below : Addr} {od_is_number_below an_is_number_below : Option Addr} {sl_is_number_below : Array (Option Value)} {oc_is_number_below kV_is_number_below dc_is_number_below pm_is_number_below cd_is_number_below ct_is_number_below : Value}
    {f_is_tuple_of : Addr} {od_is_tuple_of an_is_tuple_of : Option Addr} {sl_is_tuple_of : Array (Option Value)} {oc_is_tuple_of kV_is_tuple_of dc_is_tuple_of pm_is_tuple_of cd_is_tuple_of ct_is_tuple_of : Value}
    {f_is_lot_below : Addr} {od_is_lot_below an_is_lot_below : Option Addr} {sl_is_lot_below : Array (Option Value)} {oc_is_lot_below kV_is_lot_below dc_is_lot_below pm_is_lot_below cd_is_lot_below ct_is_lot_below : Value}
    {f_check_lines : Addr} {od_check_lines an_check_lines : Option Addr} {sl_check_lines : Array (Option Value)} {oc_check_lines kV_check_lines dc_check_lines pm_check_lines cd_check_lines ct_check_lines : Value}
    {f_check_most : Addr} {od_check_most an_check_most : Option Addr} {sl_check_most : Array (Option Value)} {oc_check_most kV_check_most dc_check_most pm_check_most cd_check_most ct_check_most : Value}
    {f_is_cell_number : Addr} {od_is_cell_number an_is_cell_number : Option Addr} {sl_is_cell_number : Array (Option Value)} {oc_is_cell_number kV_is_cell_number dc_is_cell_number pm_is_cell_number cd_is_cell_number ct_is_cell_number : Value}
    {f_are_outs : Addr} {od_are_outs an_are_outs : Option Addr} {sl_are_outs : Array (Option Value)} {oc_are_outs kV_are_outs dc_are_outs pm_are_outs cd_are_outs ct_are_outs : Value}
    {f_Cell___init__ : Addr} {od_Cell___init__ an_Cell___init__ : Option Addr} {sl_Cell___init__ : Array (Option Value)} {oc_Cell___init__ kV_Cell___init__ dc_Cell___init__ pm_Cell___init__ cd_Cell___init__ ct_Cell___init__ : Value}
    {f_Cell___eq__ : Addr} {od_Cell___eq__ an_Cell___eq__ : Option Addr} {sl_Cell___eq__ : Array (Option Value)} {oc_Cell___eq__ kV_Cell___eq__ dc_Cell___eq__ pm_Cell___eq__ cd_Cell___eq__ ct_Cell___eq__ : Value}
    {f_is_arrival : Addr} {od_is_arrival an_is_arrival : Option Addr} {sl_is_arrival : Array (Option Value)} {oc_is_arrival kV_is_arrival dc_is_arrival pm_is_arrival cd_is_arrival ct_is_arrival : Value}
    {f_first_wrong_item : Addr} {od_first_wrong_item an_first_wrong_item : Option Addr} {sl_first_wrong_item : Array (Option Value)} {oc_first_wrong_item kV_first_wrong_item dc_first_wrong_item pm_first_wrong_item cd_first_wrong_item ct_first_wrong_item : Value}
    {f_arrivals_fault : Addr} {od_arrivals_fault an_arrivals_fault : Option Addr} {sl_arrivals_fault : Array (Option Value)} {oc_arrivals_fault kV_arrivals_fault dc_arrivals_fault pm_arrivals_fault cd_arrivals_fault ct_arrivals_fault : Value}
    {f_is_arrivals : Addr} {od_is_arrivals an_is_arrivals : Option Addr} {sl_is_arrivals : Array (Option Value)} {oc_is_arrivals kV_is_arrivals dc_is_arrivals pm_is_arrivals cd_is_arrivals ct_is_arrivals : Value}
    {f_cells : Addr} {od_cells an_cells : Option Addr} {sl_cells : Array (Option Value)} {oc_cells kV_cells dc_cells pm_cells cd_cells ct_cells : Value}
    {f_law_hand : Addr} {od_law_hand an_law_hand : Option Addr} {sl_law_hand : Array (Option Value)} {oc_law_hand kV_law_hand dc_law_hand pm_law_hand cd_law_hand ct_law_hand : Value}
    {f_law_draw : Addr} {od_law_draw an_law_draw : Option Addr} {sl_law_draw : Array (Option Value)} {oc_law_draw kV_law_draw dc_law_draw pm_law_draw cd_law_draw ct_law_draw : Value}
    {f_law_any : Addr} {od_law_any an_law_any : Option Addr} {sl_law_any : Array (Option Value)} {oc_law_any kV_law_any dc_law_any pm_law_any cd_law_any ct_law_any : Value}
    {f_law_is_int : Addr} {od_law_is_int an_law_is_int : Option Addr} {sl_law_is_int : Array (Option Value)} {oc_law_is_int kV_law_is_int dc_law_is_int pm_law_is_int cd_law_is_int ct_law_is_int : Value}
    {f_law_deep : Addr} {od_law_deep an_law_deep : Option Addr} {sl_law_deep : Array (Option Value)} {oc_law_deep kV_law_deep dc_law_deep pm_law_deep cd_law_deep ct_law_deep : Value}
    {f_law_odd : Addr} {od_law_odd an_law_odd : Option Addr} {sl_law_odd : Array (Option Value)} {oc_law_odd kV_law_odd dc_law_odd pm_law_odd cd_law_odd ct_law_odd : Value}
    {f_law_is_lot : Addr} {od_law_is_lot an_law_is_lot : Option Addr} {sl_law_is_lot : Array (Option Value)} {oc_law_is_lot kV_law_is_lot dc_law_is_lot pm_law_is_lot cd_law_is_lot ct_law_is_lot : Value}
    {f_law_first : Addr} {od_law_first an_law_first : Option Addr} {sl_law_first : Array (Option Value)} {oc_law_first kV_law_first dc_law_first pm_law_first cd_law_first ct_law_first : Value}
    {f_law_outs : Addr} {od_law_outs an_law_outs : Option Addr} {sl_law_outs : Array (Option Value)} {oc_law_outs kV_law_outs dc_law_outs pm_law_outs cd_law_outs ct_law_outs : Value}
    {f_law_arrival : Addr} {od_law_arrival an_law_arrival : Option Addr} {sl_law_arrival : Array (Option Value)} {oc_law_arrival kV_law_arrival dc_law_arrival pm_law_arrival cd_law_arrival ct_law_arrival : Value}
    {f_law_arrivals : Addr} {od_law_arrivals an_law_arrivals : Option Addr} {sl_law_arrivals : Array (Option Value)} {oc_law_arrivals kV_law_arrivals dc_law_arrivals pm_law_arrivals cd_law_arrivals ct_law_arrivals : Value}
    {f_law_sizes : Addr} {od_law_sizes an_law_sizes : Option Addr} {sl_law_sizes : Array (Option Value)} {oc_law_sizes kV_law_sizes dc_law_sizes pm_law_sizes cd_law_sizes ct_law_sizes : Value}
    {f_law_is_arrival : Addr} {od_law_is_arrival an_law_is_arrival : Option Addr} {sl_law_is_arrival : Array (Option Value)} {oc_law_is_arrival kV_law_is_arrival dc_law_is_arrival pm_law_is_arrival cd_law_is_arrival ct_law_is_arrival : Value}
    {f_law_wrong : Addr} {od_law_wrong an_law_wrong : Option Addr} {sl_law_wrong : Array (Option Value)} {oc_law_wrong kV_law_wrong dc_law_wrong pm_law_wrong cd_law_wrong ct_law_wrong : Value}
    {f_law_word : Addr} {od_law_word an_law_word : Option Addr} {sl_law_word : Array (Option Value)} {oc_law_word kV_law_word dc_law_word pm_law_word cd_law_word ct_law_word : Value}
    {f_law : Addr} {od_law an_law : Option Addr} {sl_law : Array (Option Value)} {oc_law kV_law dc_law pm_law ct_law : Value}
    {c_Cell : Addr}
    {c_FabricError : Addr}
    {c_NoLines : Addr}
    {c_NoMost : Addr}
    {c_BadArrivals : Addr}
    {co_law tb_law : Addr}
    {t_MOST_LINES : Tok}
    {t_MOST_COPIES : Tok}
    {t_MOST_BEATS : Tok}
    {t_STREAMS : Tok}
    {t_KINDS : Tok}
    {t_GREATEST_CELL : Tok}
    (ht_law : h.get? tb_law = some (PySem.W.tabObj #[]))
    (hk_law : K.lookup tb_law = none)
    (hd_law : PySem.W.codeHdIn K co_law tb_law = true)
    (ac_Cell : PySem.W.nsIn K mainGlobals "Cell" = some (some (.ref c_Cell)))
    (ac_FabricError : PySem.W.nsIn K mainGlobals "FabricError" = some (some (.ref c_FabricError)))
    (ac_NoLines : PySem.W.nsIn K mainGlobals "NoLines" = some (some (.ref c_NoLines)))
    (ac_NoMost : PySem.W.nsIn K mainGlobals "NoMost" = some (some (.ref c_NoMost)))
    (ac_BadArrivals : PySem.W.nsIn K mainGlobals "BadArrivals" = some (some (.ref c_BadArrivals)))
    (a_BadArrivals___init__ : PySem.W.findIn K (.ref c_BadArrivals) "__init__" = some (some (.ref f_BadArrivals___init__)))
    (i_BadArrivals___init__ : PySem.W.isFn K (.ref f_BadArrivals___init__) = true)
    (l_BadArrivals___init__ : K.lookup f_BadArrivals___init__ = some ⟨oc_BadArrivals___init__, od_BadArrivals___init__, .func (PySem.W.fnOf "__init__" "BadArrivals.__init__" (defArgs s_BadArrivals___init__) (defBody s_BadArrivals___init__) (defScope s_BadArrivals___init__) .none kV_BadArrivals___init__ dc_BadArrivals___init__ pm_BadArrivals___init__ an_BadArrivals___init__ cd_BadArrivals___init__ ct_BadArrivals___init__), sl_BadArrivals___init__⟩)
    (q_BadArrivals___init__ : PySem.W.codeIn K cd_BadArrivals___init__ "BadArrivals.__init__" = true)
    (p_BadArrivals___init__ : PySem.W.keepIn K (.ref f_BadArrivals___init__) = true)
    (a_is_integer : PySem.W.nsIn K mainGlobals "is_integer" = some (some (.ref f_is_integer)))
    (l_is_integer : K.lookup f_is_integer = some ⟨oc_is_integer, od_is_integer, .func (PySem.W.fnOf "is_integer" "is_integer" (defArgs s_is_integer) (defBody s_is_integer) (defScope s_is_integer) .none kV_is_integer dc_is_integer pm_is_integer an_is_integer cd_is_integer ct_is_integer), sl_is_integer⟩)
    (q_is_integer : PySem.W.codeIn K cd_is_integer "is_integer" = true)
    (p_is_integer : PySem.W.keepIn K (.ref f_is_integer) = true)
    (a_is_integer_from : PySem.W.nsIn K mainGlobals "is_integer_from" = some (some (.ref f_is_integer_from)))
    (l_is_integer_from : K.lookup f_is_integer_from = some ⟨oc_is_integer_from, od_is_integer_from, .func (PySem.W.fnOf "is_integer_from" "is_integer_from" (defArgs s_is_integer_from) (defBody s_is_integer_from) (defScope s_is_integer_from) .none kV_is_integer_from dc_is_integer_from pm_is_integer_from an_is_integer_from cd_is_integer_from ct_is_integer_from), sl_is_integer_from⟩)
    (q_is_integer_from : PySem.W.codeIn K cd_is_integer_from "is_integer_from" = true)
    (p_is_integer_from : PySem.W.keepIn K (.ref f_is_integer_from) = true)
    (a_is_number_below : PySem.W.nsIn K mainGlobals "is_number_below" = some (some (.ref f_is_number_below)))
    (l_is_number_below : K.lookup f_is_number_below = some ⟨oc_is_number_below, od_is_number_below, .func (PySem.W.fnOf "is_number_below" "is_number_below" (defArgs s_is_number_below) (defBody s_is_number_below) (defScope s_is_number_below) .none kV_is_number_below dc_is_number_below pm_is_number_below an_is_number_below cd_is_number_below ct_is_number_below), sl_is_number_below⟩)
    (q_is_number_below : PySem.W.codeIn K cd_is_number_below "is_number_below" = true)
    (p_is_number_below : PySem.W.keepIn K (.ref f_is_number_below) = true)
    (a_is_tuple_of : PySem.W.nsIn K mainGlobals "is_tuple_of" = some (some (.ref f_is_tuple_of)))
    (l_is_tuple_of : K.lookup f_is_tuple_of = some ⟨oc_is_tuple_of, od_is_tuple_of, .func (PySem.W.fnOf "is_tuple_of" "is_tuple_of" (defArgs s_is_tuple_of) (defBody s_is_tuple_of) (defScope s_is_tuple_of) .none kV_is_tuple_of dc_is_tuple_of pm_is_tuple_of an_is_tuple_of cd_is_tuple_of ct_is_tuple_of), sl_is_tuple_of⟩)
    (q_is_tuple_of : PySem.W.codeIn K cd_is_tuple_of "is_tuple_of" = true)
    (p_is_tuple_of : PySem.W.keepIn K (.ref f_is_tuple_of) = true)
    (a_is_lot_below : PySem.W.nsIn K mainGlobals "is_lot_below" = some (some (.ref f_is_lot_below)))
    (l_is_lot_below : K.lookup f_is_lot_below = some ⟨oc_is_lot_below, od_is_lot_below, .func (PySem.W.fnOf "is_lot_below" "is_lot_below" (defArgs s_is_lot_below) (defBody s_is_lot_below) (defScope s_is_lot_below) .none kV_is_lot_below dc_is_lot_below pm_is_lot_below an_is_lot_below cd_is_lot_below ct_is_lot_below), sl_is_lot_below⟩)
    (q_is_lot_below : PySem.W.codeIn K cd_is_lot_below "is_lot_below" = true)
    (p_is_lot_below : PySem.W.keepIn K (.ref f_is_lot_below) = true)
    (a_check_lines : PySem.W.nsIn K mainGlobals "check_lines" = some (some (.ref f_check_lines)))
    (l_check_lines : K.lookup f_check_lines = some ⟨oc_check_lines, od_check_lines, .func (PySem.W.fnOf "check_lines" "check_lines" (defArgs s_check_lines) (defBody s_check_lines) (defScope s_check_lines) .none kV_check_lines dc_check_lines pm_check_lines an_check_lines cd_check_lines ct_check_lines), sl_check_lines⟩)
    (q_check_lines : PySem.W.codeIn K cd_check_lines "check_lines" = true)
    (p_check_lines : PySem.W.keepIn K (.ref f_check_lines) = true)
    (a_check_most : PySem.W.nsIn K mainGlobals "check_most" = some (some (.ref f_check_most)))
    (l_check_most : K.lookup f_check_most = some ⟨oc_check_most, od_check_most, .func (PySem.W.fnOf "check_most" "check_most" (defArgs s_check_most) (defBody s_check_most) (defScope s_check_most) .none kV_check_most dc_check_most pm_check_most an_check_most cd_check_most ct_check_most), sl_check_most⟩)
    (q_check_most : PySem.W.codeIn K cd_check_most "check_most" = true)
    (p_check_most : PySem.W.keepIn K (.ref f_check_most) = true)
    (a_is_cell_number : PySem.W.nsIn K mainGlobals "is_cell_number" = some (some (.ref f_is_cell_number)))
    (l_is_cell_number : K.lookup f_is_cell_number = some ⟨oc_is_cell_number, od_is_cell_number, .func (PySem.W.fnOf "is_cell_number" "is_cell_number" (defArgs s_is_cell_number) (defBody s_is_cell_number) (defScope s_is_cell_number) .none kV_is_cell_number dc_is_cell_number pm_is_cell_number an_is_cell_number cd_is_cell_number ct_is_cell_number), sl_is_cell_number⟩)
    (q_is_cell_number : PySem.W.codeIn K cd_is_cell_number "is_cell_number" = true)
    (p_is_cell_number : PySem.W.keepIn K (.ref f_is_cell_number) = true)
    (a_are_outs : PySem.W.nsIn K mainGlobals "are_outs" = some (some (.ref f_are_outs)))
    (l_are_outs : K.lookup f_are_outs = some ⟨oc_are_outs, od_are_outs, .func (PySem.W.fnOf "are_outs" "are_outs" (defArgs s_are_outs) (defBody s_are_outs) (defScope s_are_outs) .none kV_are_outs dc_are_outs pm_are_outs an_are_outs cd_are_outs ct_are_outs), sl_are_outs⟩)
    (q_are_outs : PySem.W.codeIn K cd_are_outs "are_outs" = true)
    (p_are_outs : PySem.W.keepIn K (.ref f_are_outs) = true)
    (a_Cell___init__ : PySem.W.findIn K (.ref c_Cell) "__init__" = some (some (.ref f_Cell___init__)))
    (i_Cell___init__ : PySem.W.isFn K (.ref f_Cell___init__) = true)
    (l_Cell___init__ : K.lookup f_Cell___init__ = some ⟨oc_Cell___init__, od_Cell___init__, .func (PySem.W.fnOf "__init__" "Cell.__init__" (defArgs s_Cell___init__) (defBody s_Cell___init__) (defScope s_Cell___init__) .none kV_Cell___init__ dc_Cell___init__ pm_Cell___init__ an_Cell___init__ cd_Cell___init__ ct_Cell___init__), sl_Cell___init__⟩)
    (q_Cell___init__ : PySem.W.codeIn K cd_Cell___init__ "Cell.__init__" = true)
    (p_Cell___init__ : PySem.W.keepIn K (.ref f_Cell___init__) = true)
    (a_Cell___eq__ : PySem.W.findIn K (.ref c_Cell) "__eq__" = some (some (.ref f_Cell___eq__)))
    (i_Cell___eq__ : PySem.W.isFn K (.ref f_Cell___eq__) = true)
    (l_Cell___eq__ : K.lookup f_Cell___eq__ = some ⟨oc_Cell___eq__, od_Cell___eq__, .func (PySem.W.fnOf "__eq__" "Cell.__eq__" (defArgs s_Cell___eq__) (defBody s_Cell___eq__) (defScope s_Cell___eq__) .none kV_Cell___eq__ dc_Cell___eq__ pm_Cell___eq__ an_Cell___eq__ cd_Cell___eq__ ct_Cell___eq__), sl_Cell___eq__⟩)
    (q_Cell___eq__ : PySem.W.codeIn K cd_Cell___eq__ "Cell.__eq__" = true)
    (p_Cell___eq__ : PySem.W.keepIn K (.ref f_Cell___eq__) = true)
    (a_is_arrival : PySem.W.nsIn K mainGlobals "is_arrival" = some (some (.ref f_is_arrival)))
    (l_is_arrival : K.lookup f_is_arrival = some ⟨oc_is_arrival, od_is_arrival, .func (PySem.W.fnOf "is_arrival" "is_arrival" (defArgs s_is_arrival) (defBody s_is_arrival) (defScope s_is_arrival) .none kV_is_arrival dc_is_arrival pm_is_arrival an_is_arrival cd_is_arrival ct_is_arrival), sl_is_arrival⟩)
    (q_is_arrival : PySem.W.codeIn K cd_is_arrival "is_arrival" = true)
    (p_is_arrival : PySem.W.keepIn K (.ref f_is_arrival) = true)
    (a_first_wrong_item : PySem.W.nsIn K mainGlobals "first_wrong_item" = some (some (.ref f_first_wrong_item)))
    (l_first_wrong_item : K.lookup f_first_wrong_item = some ⟨oc_first_wrong_item, od_first_wrong_item, .func (PySem.W.fnOf "first_wrong_item" "first_wrong_item" (defArgs s_first_wrong_item) (defBody s_first_wrong_item) (defScope s_first_wrong_item) .none kV_first_wrong_item dc_first_wrong_item pm_first_wrong_item an_first_wrong_item cd_first_wrong_item ct_first_wrong_item), sl_first_wrong_item⟩)
    (q_first_wrong_item : PySem.W.codeIn K cd_first_wrong_item "first_wrong_item" = true)
    (p_first_wrong_item : PySem.W.keepIn K (.ref f_first_wrong_item) = true)
    (a_arrivals_fault : PySem.W.nsIn K mainGlobals "arrivals_fault" = some (some (.ref f_arrivals_fault)))
    (l_arrivals_fault : K.lookup f_arrivals_fault = some ⟨oc_arrivals_fault, od_arrivals_fault, .func (PySem.W.fnOf "arrivals_fault" "arrivals_fault" (defArgs s_arrivals_fault) (defBody s_arrivals_fault) (defScope s_arrivals_fault) .none kV_arrivals_fault dc_arrivals_fault pm_arrivals_fault an_arrivals_fault cd_arrivals_fault ct_arrivals_fault), sl_arrivals_fault⟩)
    (q_arrivals_fault : PySem.W.codeIn K cd_arrivals_fault "arrivals_fault" = true)
    (p_arrivals_fault : PySem.W.keepIn K (.ref f_arrivals_fault) = true)
    (a_is_arrivals : PySem.W.nsIn K mainGlobals "is_arrivals" = some (some (.ref f_is_arrivals)))
    (l_is_arrivals : K.lookup f_is_arrivals = some ⟨oc_is_arrivals, od_is_arrivals, .func (PySem.W.fnOf "is_arrivals" "is_arrivals" (defArgs s_is_arrivals) (defBody s_is_arrivals) (defScope s_is_arrivals) .none kV_is_arrivals dc_is_arrivals pm_is_arrivals an_is_arrivals cd_is_arrivals ct_is_arrivals), sl_is_arrivals⟩)
    (q_is_arrivals : PySem.W.codeIn K cd_is_arrivals "is_arrivals" = true)
    (p_is_arrivals : PySem.W.keepIn K (.ref f_is_arrivals) = true)
    (a_cells : PySem.W.nsIn K mainGlobals "cells" = some (some (.ref f_cells)))
    (l_cells : K.lookup f_cells = some ⟨oc_cells, od_cells, .func (PySem.W.fnOf "cells" "cells" (defArgs s_cells) (defBody s_cells) (defScope s_cells) .none kV_cells dc_cells pm_cells an_cells cd_cells ct_cells), sl_cells⟩)
    (q_cells : PySem.W.codeIn K cd_cells "cells" = true)
    (p_cells : PySem.W.keepIn K (.ref f_cells) = true)
    (a_law_hand : PySem.W.nsIn K mainGlobals "_law_hand" = some (some (.ref f_law_hand)))
    (l_law_hand : K.lookup f_law_hand = some ⟨oc_law_hand, od_law_hand, .func (PySem.W.fnOf "_law_hand" "_law_hand" (defArgs s_law_hand) (defBody s_law_hand) (defScope s_law_hand) .none kV_law_hand dc_law_hand pm_law_hand an_law_hand cd_law_hand ct_law_hand), sl_law_hand⟩)
    (q_law_hand : PySem.W.codeIn K cd_law_hand "_law_hand" = true)
    (p_law_hand : PySem.W.keepIn K (.ref f_law_hand) = true)
    (a_law_draw : PySem.W.nsIn K mainGlobals "_law_draw" = some (some (.ref f_law_draw)))
    (l_law_draw : K.lookup f_law_draw = some ⟨oc_law_draw, od_law_draw, .func (PySem.W.fnOf "_law_draw" "_law_draw" (defArgs s_law_draw) (defBody s_law_draw) (defScope s_law_draw) .none kV_law_draw dc_law_draw pm_law_draw an_law_draw cd_law_draw ct_law_draw), sl_law_draw⟩)
    (q_law_draw : PySem.W.codeIn K cd_law_draw "_law_draw" = true)
    (p_law_draw : PySem.W.keepIn K (.ref f_law_draw) = true)
    (a_law_any : PySem.W.nsIn K mainGlobals "_law_any" = some (some (.ref f_law_any)))
    (l_law_any : K.lookup f_law_any = some ⟨oc_law_any, od_law_any, .func (PySem.W.fnOf "_law_any" "_law_any" (defArgs s_law_any) (defBody s_law_any) (defScope s_law_any) .none kV_law_any dc_law_any pm_law_any an_law_any cd_law_any ct_law_any), sl_law_any⟩)
    (q_law_any : PySem.W.codeIn K cd_law_any "_law_any" = true)
    (p_law_any : PySem.W.keepIn K (.ref f_law_any) = true)
    (a_law_is_int : PySem.W.nsIn K mainGlobals "_law_is_int" = some (some (.ref f_law_is_int)))
    (l_law_is_int : K.lookup f_law_is_int = some ⟨oc_law_is_int, od_law_is_int, .func (PySem.W.fnOf "_law_is_int" "_law_is_int" (defArgs s_law_is_int) (defBody s_law_is_int) (defScope s_law_is_int) .none kV_law_is_int dc_law_is_int pm_law_is_int an_law_is_int cd_law_is_int ct_law_is_int), sl_law_is_int⟩)
    (q_law_is_int : PySem.W.codeIn K cd_law_is_int "_law_is_int" = true)
    (p_law_is_int : PySem.W.keepIn K (.ref f_law_is_int) = true)
    (a_law_deep : PySem.W.nsIn K mainGlobals "_law_deep" = some (some (.ref f_law_deep)))
    (l_law_deep : K.lookup f_law_deep = some ⟨oc_law_deep, od_law_deep, .func (PySem.W.fnOf "_law_deep" "_law_deep" (defArgs s_law_deep) (defBody s_law_deep) (defScope s_law_deep) .none kV_law_deep dc_law_deep pm_law_deep an_law_deep cd_law_deep ct_law_deep), sl_law_deep⟩)
    (q_law_deep : PySem.W.codeIn K cd_law_deep "_law_deep" = true)
    (p_law_deep : PySem.W.keepIn K (.ref f_law_deep) = true)
    (a_law_odd : PySem.W.nsIn K mainGlobals "_law_odd" = some (some (.ref f_law_odd)))
    (l_law_odd : K.lookup f_law_odd = some ⟨oc_law_odd, od_law_odd, .func (PySem.W.fnOf "_law_odd" "_law_odd" (defArgs s_law_odd) (defBody s_law_odd) (defScope s_law_odd) .none kV_law_odd dc_law_odd pm_law_odd an_law_odd cd_law_odd ct_law_odd), sl_law_odd⟩)
    (q_law_odd : PySem.W.codeIn K cd_law_odd "_law_odd" = true)
    (p_law_odd : PySem.W.keepIn K (.ref f_law_odd) = true)
    (a_law_is_lot : PySem.W.nsIn K mainGlobals "_law_is_lot" = some (some (.ref f_law_is_lot)))
    (l_law_is_lot : K.lookup f_law_is_lot = some ⟨oc_law_is_lot, od_law_is_lot, .func (PySem.W.fnOf "_law_is_lot" "_law_is_lot" (defArgs s_law_is_lot) (defBody s_law_is_lot) (defScope s_law_is_lot) .none kV_law_is_lot dc_law_is_lot pm_law_is_lot an_law_is_lot cd_law_is_lot ct_law_is_lot), sl_law_is_lot⟩)
    (q_law_is_lot : PySem.W.codeIn K cd_law_is_lot "_law_is_lot" = true)
    (p_law_is_lot : PySem.W.keepIn K (.ref f_law_is_lot) = true)
    (a_law_first : PySem.W.nsIn K mainGlobals "_law_first" = some (some (.ref f_law_first)))
    (l_law_first : K.lookup f_law_first = some ⟨oc_law_first, od_law_first, .func (PySem.W.fnOf "_law_first" "_law_first" (defArgs s_law_first) (defBody s_law_first) (defScope s_law_first) .none kV_law_first dc_law_first pm_law_first an_law_first cd_law_first ct_law_first), sl_law_first⟩)
    (q_law_first : PySem.W.codeIn K cd_law_first "_law_first" = true)
    (p_law_first : PySem.W.keepIn K (.ref f_law_first) = true)
    (a_law_outs : PySem.W.nsIn K mainGlobals "_law_outs" = some (some (.ref f_law_outs)))
    (l_law_outs : K.lookup f_law_outs = some ⟨oc_law_outs, od_law_outs, .func (PySem.W.fnOf "_law_outs" "_law_outs" (defArgs s_law_outs) (defBody s_law_outs) (defScope s_law_outs) .none kV_law_outs dc_law_outs pm_law_outs an_law_outs cd_law_outs ct_law_outs), sl_law_outs⟩)
    (q_law_outs : PySem.W.codeIn K cd_law_outs "_law_outs" = true)
    (p_law_outs : PySem.W.keepIn K (.ref f_law_outs) = true)
    (a_law_arrival : PySem.W.nsIn K mainGlobals "_law_arrival" = some (some (.ref f_law_arrival)))
    (l_law_arrival : K.lookup f_law_arrival = some ⟨oc_law_arrival, od_law_arrival, .func (PySem.W.fnOf "_law_arrival" "_law_arrival" (defArgs s_law_arrival) (defBody s_law_arrival) (defScope s_law_arrival) .none kV_law_arrival dc_law_arrival pm_law_arrival an_law_arrival cd_law_arrival ct_law_arrival), sl_law_arrival⟩)
    (q_law_arrival : PySem.W.codeIn K cd_law_arrival "_law_arrival" = true)
    (p_law_arrival : PySem.W.keepIn K (.ref f_law_arrival) = true)
    (a_law_arrivals : PySem.W.nsIn K mainGlobals "_law_arrivals" = some (some (.ref f_law_arrivals)))
    (l_law_arrivals : K.lookup f_law_arrivals = some ⟨oc_law_arrivals, od_law_arrivals, .func (PySem.W.fnOf "_law_arrivals" "_law_arrivals" (defArgs s_law_arrivals) (defBody s_law_arrivals) (defScope s_law_arrivals) .none kV_law_arrivals dc_law_arrivals pm_law_arrivals an_law_arrivals cd_law_arrivals ct_law_arrivals), sl_law_arrivals⟩)
    (q_law_arrivals : PySem.W.codeIn K cd_law_arrivals "_law_arrivals" = true)
    (p_law_arrivals : PySem.W.keepIn K (.ref f_law_arrivals) = true)
    (a_law_sizes : PySem.W.nsIn K mainGlobals "_law_sizes" = some (some (.ref f_law_sizes)))
    (l_law_sizes : K.lookup f_law_sizes = some ⟨oc_law_sizes, od_law_sizes, .func (PySem.W.fnOf "_law_sizes" "_law_sizes" (defArgs s_law_sizes) (defBody s_law_sizes) (defScope s_law_sizes) .none kV_law_sizes dc_law_sizes pm_law_sizes an_law_sizes cd_law_sizes ct_law_sizes), sl_law_sizes⟩)
    (q_law_sizes : PySem.W.codeIn K cd_law_sizes "_law_sizes" = true)
    (p_law_sizes : PySem.W.keepIn K (.ref f_law_sizes) = true)
    (a_law_is_arrival : PySem.W.nsIn K mainGlobals "_law_is_arrival" = some (some (.ref f_law_is_arrival)))
    (l_law_is_arrival : K.lookup f_law_is_arrival = some ⟨oc_law_is_arrival, od_law_is_arrival, .func (PySem.W.fnOf "_law_is_arrival" "_law_is_arrival" (defArgs s_law_is_arrival) (defBody s_law_is_arrival) (defScope s_law_is_arrival) .none kV_law_is_arrival dc_law_is_arrival pm_law_is_arrival an_law_is_arrival cd_law_is_arrival ct_law_is_arrival), sl_law_is_arrival⟩)
    (q_law_is_arrival : PySem.W.codeIn K cd_law_is_arrival "_law_is_arrival" = true)
    (p_law_is_arrival : PySem.W.keepIn K (.ref f_law_is_arrival) = true)
    (a_law_wrong : PySem.W.nsIn K mainGlobals "_law_wrong" = some (some (.ref f_law_wrong)))
    (l_law_wrong : K.lookup f_law_wrong = some ⟨oc_law_wrong, od_law_wrong, .func (PySem.W.fnOf "_law_wrong" "_law_wrong" (defArgs s_law_wrong) (defBody s_law_wrong) (defScope s_law_wrong) .none kV_law_wrong dc_law_wrong pm_law_wrong an_law_wrong cd_law_wrong ct_law_wrong), sl_law_wrong⟩)
    (q_law_wrong : PySem.W.codeIn K cd_law_wrong "_law_wrong" = true)
    (p_law_wrong : PySem.W.keepIn K (.ref f_law_wrong) = true)
    (a_law_word : PySem.W.nsIn K mainGlobals "_law_word" = some (some (.ref f_law_word)))
    (l_law_word : K.lookup f_law_word = some ⟨oc_law_word, od_law_word, .func (PySem.W.fnOf "_law_word" "_law_word" (defArgs s_law_word) (defBody s_law_word) (defScope s_law_word) .none kV_law_word dc_law_word pm_law_word an_law_word cd_law_word ct_law_word), sl_law_word⟩)
    (q_law_word : PySem.W.codeIn K cd_law_word "_law_word" = true)
    (p_law_word : PySem.W.keepIn K (.ref f_law_word) = true)
    (a_law : PySem.W.nsIn K mainGlobals "law" = some (some (.ref f_law)))
    (l_law : K.lookup f_law = some ⟨oc_law, od_law, .func (PySem.W.fnOf "law" "law" (defArgs s_law) (defBody s_law) (defScope s_law) .none kV_law dc_law pm_law an_law (.ref co_law) ct_law), sl_law⟩)
    (q_law : PySem.W.codeIn K (.ref co_law) "law" = true)
    (p_law : PySem.W.keepIn K (.ref f_law) = true)
    (pg_Cell : PySem.W.plainGet K c_Cell Str.empty = true)
    (hd_Cell : PySem.W.hasDictIn K c_Cell = true)
    (po_Cell : PySem.W.plainOver K c_Cell = true)
    (sa_Cell : PySem.W.findIn K (.ref c_Cell) "__setattr__" = some (some (.builtin "object.__setattr__")))
    (mk_Cell : PySem.W.makesIn K c_Cell = true)
    (kc_Cell : PySem.W.keepIn K (.ref c_Cell) = true)
    (n_Cell_came_as : PySem.W.findIn K (.ref c_Cell) "came_as" = some none)
    (n_Cell_at_line : PySem.W.findIn K (.ref c_Cell) "at_line" = some none)
    (n_Cell_of_stream : PySem.W.findIn K (.ref c_Cell) "of_stream" = some none)
    (n_Cell_of_kind : PySem.W.findIn K (.ref c_Cell) "of_kind" = some none)
    (n_Cell_to_outs : PySem.W.findIn K (.ref c_Cell) "to_outs" = some none)
    (x_NoLines : PySem.W.excIn K c_NoLines [.type "ValueError", .type "Exception", .type "BaseException", .type "object"] "ValueError.__new__" = true)
    (kp_NoLines : PySem.W.keepIn K (.ref c_NoLines) = true)
    (s_NoLines : PySem.W.subIn K (.ref c_NoLines) (.type "BaseException") = some true)
    (t_NoLines : PySem.W.typeIn K (.ref c_NoLines) = some (.type "type"))
    (e1_NoLines : PySem.W.findIn K (.ref c_NoLines) "__getattribute__" = some (some (.builtin "BaseException.__getattribute__")))
    (e2_NoLines : PySem.W.findIn K (.ref c_NoLines) "__getattr__" = some none)
    (e3_NoLines : PySem.W.hasDictIn K c_NoLines = true)
    (e4_NoLines : PySem.W.findIn K (.ref c_NoLines) "__class__" = some (some (.builtin "object.__class__")))
    (e5_NoLines : PySem.W.mroIn K c_NoLines (.type "object") = some true)
    (x_NoMost : PySem.W.excIn K c_NoMost [.type "ValueError", .type "Exception", .type "BaseException", .type "object"] "ValueError.__new__" = true)
    (kp_NoMost : PySem.W.keepIn K (.ref c_NoMost) = true)
    (s_NoMost : PySem.W.subIn K (.ref c_NoMost) (.type "BaseException") = some true)
    (t_NoMost : PySem.W.typeIn K (.ref c_NoMost) = some (.type "type"))
    (e1_NoMost : PySem.W.findIn K (.ref c_NoMost) "__getattribute__" = some (some (.builtin "BaseException.__getattribute__")))
    (e2_NoMost : PySem.W.findIn K (.ref c_NoMost) "__getattr__" = some none)
    (e3_NoMost : PySem.W.hasDictIn K c_NoMost = true)
    (e4_NoMost : PySem.W.findIn K (.ref c_NoMost) "__class__" = some (some (.builtin "object.__class__")))
    (e5_NoMost : PySem.W.mroIn K c_NoMost (.type "object") = some true)
    (xt_BadArrivals : PySem.W.typeIn K (.ref f_BadArrivals___init__) = some (.type "function"))
    (nf_BadArrivals_at : PySem.W.findIn K (.ref c_BadArrivals) "at" = some none)
    (kp_BadArrivals : PySem.W.keepIn K (.ref c_BadArrivals) = true)
    (s_BadArrivals : PySem.W.subIn K (.ref c_BadArrivals) (.type "BaseException") = some true)
    (t_BadArrivals : PySem.W.typeIn K (.ref c_BadArrivals) = some (.type "type"))
    (e1_BadArrivals : PySem.W.findIn K (.ref c_BadArrivals) "__getattribute__" = some (some (.builtin "BaseException.__getattribute__")))
    (e2_BadArrivals : PySem.W.findIn K (.ref c_BadArrivals) "__getattr__" = some none)
    (e3_BadArrivals : PySem.W.hasDictIn K c_BadArrivals = true)
    (e4_BadArrivals : PySem.W.findIn K (.ref c_BadArrivals) "__class__" = some (some (.builtin "object.__class__")))
    (e5_BadArrivals : PySem.W.mroIn K c_BadArrivals (.type "object") = some true)
    (ci_Cell : PySem.W.findIn K (.ref c_Cell) "__class__" = some (some (.builtin "object.__class__")))
    (em_Cell : PySem.W.mroIn K c_Cell (.type "object") = some true)
    (en1 : PySem.W.specialIn K (.builtin "object.__class__") "__get__" = some (some (.builtin "getset_descriptor.__get__")))
    (en2 : PySem.W.takesIn K (.builtin "object.__class__") = some true)
    (oc_BadArrivals : ∃ nm q N bs bm sn sub ab col dd k0 k1 k2 k3 k5, List.lookup c_BadArrivals K = some (excClassObj nm q c_BadArrivals N bs bm true sn sub ab col dd k0 k1 k2 k3 k5 "ValueError.__new__") ∧ HandSPX.refsVE bm = true)
    (os_BadArrivals : PySem.W.findIn K (.ref c_BadArrivals) "__setattr__" = some (some (.builtin "object.__setattr__")))
    (su_Cell_int : PySem.W.subIn K (.ref c_Cell) (.type "int") = some false)
    (su_Cell_bool : PySem.W.subIn K (.ref c_Cell) (.type "bool") = some false)
    (su_Cell_tuple : PySem.W.subIn K (.ref c_Cell) (.type "tuple") = some false)
    (s_FabricError : PySem.W.subIn K (.ref c_FabricError) (.type "BaseException") = some true)
    (t_FabricError : PySem.W.typeIn K (.ref c_FabricError) = some (.type "type"))
    (e3_FabricError : PySem.W.hasDictIn K c_FabricError = true)
    (su_FabricError_FabricError : PySem.W.subIn K (.ref c_FabricError) (.ref c_FabricError) = some true)
    (su_NoLines_FabricError : PySem.W.subIn K (.ref c_NoLines) (.ref c_FabricError) = some true)
    (su_NoLines_ValueError : PySem.W.subIn K (.ref c_NoLines) (.type "ValueError") = some true)
    (su_NoLines_BadArrivals : PySem.W.subIn K (.ref c_NoLines) (.ref c_BadArrivals) = some false)
    (su_NoLines_NoMost : PySem.W.subIn K (.ref c_NoLines) (.ref c_NoMost) = some false)
    (su_NoLines_NoLines : PySem.W.subIn K (.ref c_NoLines) (.ref c_NoLines) = some true)
    (su_NoMost_FabricError : PySem.W.subIn K (.ref c_NoMost) (.ref c_FabricError) = some true)
    (su_NoMost_ValueError : PySem.W.subIn K (.ref c_NoMost) (.type "ValueError") = some true)
    (su_NoMost_BadArrivals : PySem.W.subIn K (.ref c_NoMost) (.ref c_BadArrivals) = some false)
    (su_NoMost_NoMost : PySem.W.subIn K (.ref c_NoMost) (.ref c_NoMost) = some true)
    (su_NoMost_NoLines : PySem.W.subIn K (.ref c_NoMost) (.ref c_NoLines) = some false)
    (su_BadArrivals_FabricError : PySem.W.subIn K (.ref c_BadArrivals) (.ref c_FabricError) = some true)
    (su_BadArrivals_ValueError : PySem.W.subIn K (.ref c_BadArrivals) (.type "ValueError") = some true)
    (su_BadArrivals_BadArrivals : PySem.W.subIn K (.ref c_BadArrivals) (.ref c_BadArrivals) = some true)
    (su_BadArrivals_NoMost : PySem.W.subIn K (.ref c_BadArrivals) (.ref c_NoMost) = some false)
    (su_BadArrivals_NoLines : PySem.W.subIn K (.ref c_BadArrivals) (.ref c_NoLines) = some false)
    (k_MOST_LINES : PySem.W.nsIn K mainGlobals "MOST_LINES" = some (some (.int 12 t_MOST_LINES)))
    (k_MOST_COPIES : PySem.W.nsIn K mainGlobals "MOST_COPIES" = some (some (.int 3 t_MOST_COPIES)))
    (k_MOST_BEATS : PySem.W.nsIn K mainGlobals "MOST_BEATS" = some (some (.int 200 t_MOST_BEATS)))
    (k_STREAMS : PySem.W.nsIn K mainGlobals "STREAMS" = some (some (.int 100 t_STREAMS)))
    (k_KINDS : PySem.W.nsIn K mainGlobals "KINDS" = some (some (.int 8 t_KINDS)))
    (k_GREATEST_CELL : PySem.W.nsIn K mainGlobals "GREATEST_CELL" = some (some (.int 1000000000 t_GREATEST_CELL)))
    (z_ValueError : PySem.W.nsIn K mainGlobals "ValueError" = some none)
    (z_abs : PySem.W.nsIn K mainGlobals "abs" = some none)
    (z_all : PySem.W.nsIn K mainGlobals "all" = some none)
    (z_bool : PySem.W.nsIn K mainGlobals "bool" = some none)
    (z_enumerate : PySem.W.nsIn K mainGlobals "enumerate" = some none)
    (z_int : PySem.W.nsIn K mainGlobals "int" = some none)
    (z_isinstance : PySem.W.nsIn K mainGlobals "isinstance" = some none)
    (z_len : PySem.W.nsIn K mainGlobals "len" = some none)
    (z_range : PySem.W.nsIn K mainGlobals "range" = some none)
    (z_set : PySem.W.nsIn K mainGlobals "set" = some none)
    (z_sorted : PySem.W.nsIn K mainGlobals "sorted" = some none)
    (z_tuple : PySem.W.nsIn K mainGlobals "tuple" = some none)
    (z_zip : PySem.W.nsIn K mainGlobals "zip" = some none)
    : LamX.LawAtS l w K CX0 20 63 "_law_script" mg fa h := by
  obtain ⟨A, T, ed, ea, ec_law, et_law⟩ := top_mk (l := l) (w := w) (tb_law := tb_law) X G ac_Cell ac_FabricError ac_NoLines ac_NoMost ac_BadArrivals a_BadArrivals___init__ i_BadArrivals___init__ l_BadArrivals___init__ q_BadArrivals___init__ p_BadArrivals___init__ a_is_integer l_is_integer q_is_integer p_is_integer a_is_integer_from l_is_integer_from q_is_integer_from p_is_integer_from a_is_number_below l_is_number_below q_is_number_below p_is_number_below a_is_tuple_of l_is_tuple_of q_is_tuple_of p_is_tuple_of a_is_lot_below l_is_lot_below q_is_lot_below p_is_lot_below a_check_lines l_check_lines q_check_lines p_check_lines a_check_most l_check_most q_check_most p_check_most a_is_cell_number l_is_cell_number q_is_cell_number p_is_cell_number a_are_outs l_are_outs q_are_outs p_are_outs a_Cell___init__ i_Cell___init__ l_Cell___init__ q_Cell___init__ p_Cell___init__ a_Cell___eq__ i_Cell___eq__ l_Cell___eq__ q_Cell___eq__ p_Cell___eq__ a_is_arrival l_is_arrival q_is_arrival p_is_arrival a_first_wrong_item l_first_wrong_item q_first_wrong_item p_first_wrong_item a_arrivals_fault l_arrivals_fault q_arrivals_fault p_arrivals_fault a_is_arrivals l_is_arrivals q_is_arrivals p_is_arrivals a_cells l_cells q_cells p_cells a_law_hand l_law_hand q_law_hand p_law_hand a_law_draw l_law_draw q_law_draw p_law_draw a_law_any l_law_any q_law_any p_law_any a_law_is_int l_law_is_int q_law_is_int p_law_is_int a_law_deep l_law_deep q_law_deep p_law_deep a_law_odd l_law_odd q_law_odd p_law_odd a_law_is_lot l_law_is_lot q_law_is_lot p_law_is_lot a_law_first l_law_first q_law_first p_law_first a_law_outs l_law_outs q_law_outs p_law_outs a_law_arrival l_law_arrival q_law_arrival p_law_arrival a_law_arrivals l_law_arrivals q_law_arrivals p_law_arrivals a_law_sizes l_law_sizes q_law_sizes p_law_sizes a_law_is_arrival l_law_is_arrival q_law_is_arrival p_law_is_arrival a_law_wrong l_law_wrong q_law_wrong p_law_wrong a_law_word l_law_word q_law_word p_law_word a_law l_law q_law p_law pg_Cell hd_Cell po_Cell sa_Cell mk_Cell kc_Cell n_Cell_came_as n_Cell_at_line n_Cell_of_stream n_Cell_of_kind n_Cell_to_outs x_NoLines kp_NoLines s_NoLines t_NoLines e1_NoLines e2_NoLines e3_NoLines e4_NoLines e5_NoLines x_NoMost kp_NoMost s_NoMost t_NoMost e1_NoMost e2_NoMost e3_NoMost e4_NoMost e5_NoMost xt_BadArrivals nf_BadArrivals_at kp_BadArrivals s_BadArrivals t_BadArrivals e1_BadArrivals e2_BadArrivals e3_BadArrivals e4_BadArrivals e5_BadArrivals ci_Cell em_Cell en1 en2 oc_BadArrivals os_BadArrivals su_Cell_int su_Cell_bool su_Cell_tuple s_FabricError t_FabricError e3_FabricError su_FabricError_FabricError su_NoLines_FabricError su_NoLines_ValueError su_NoLines_BadArrivals su_NoLines_NoMost su_NoLines_NoLines su_NoMost_FabricError su_NoMost_ValueError su_NoMost_BadArrivals su_NoMost_NoMost su_NoMost_NoLines su_BadArrivals_FabricError su_BadArrivals_ValueError su_BadArrivals_BadArrivals su_BadArrivals_NoMost su_BadArrivals_NoLines k_MOST_LINES k_MOST_COPIES k_MOST_BEATS k_STREAMS k_KINDS k_GREATEST_CELL z_ValueError z_abs z_all z_bool z_enumerate z_int z_isinstance z_len z_range z_set z_sorted z_tuple z_zip
  have e := hfa.symm.trans T.g_law
  cases e
  subst ec_law et_law
  refine ⟨A.d_law, [(A.cd_law, A.tb_law)], spLaw K A, fun p hp => by
    simp only [List.mem_cons, List.not_mem_nil, or_false] at hp
    rcases hp with rfl
    · exact ht_law, fun p hp => by
    simp only [List.mem_cons, List.not_mem_nil, or_false] at hp
    rcases hp with rfl
    · exact hk_law, fun p hp => by
    simp only [List.mem_cons, List.not_mem_nil, or_false] at hp
    rcases hp with rfl
    · exact PySem.W.codeHd_of_K X hd_law, fun s v => by rw [ed]; exact .of_eq rfl, fun H a ns hn hb ht hS => ⟨a, ns, rfl, hS, hn, ?_, fun _ => rfl⟩, fun base kin gl tb => ok_law T ⟨tb (A.cd_law, A.tb_law) (by simp)⟩⟩
  · intro p hp
    simp only [List.mem_cons, List.not_mem_nil, or_false] at hp
    rcases hp with rfl
    · exact LamX.TabS.nil (ht (A.cd_law, A.tb_law) (by simp))

end KX
open PySem PySem.W PyProof.Rows in
set_option maxRecDepth 100000 in
set_option maxHeartbeats 0 in
theorem PySem.Challenge.cw_exactbeats_k04_numbers_of_lines_and_copi_holds : PySem.Challenge.rw_exactbeats_k04_numbers_of_lines_and_copi.Holds := by
  w_on; o_law; km_head; (case hw => w_witness2)
  refine LamX.walk_ofTs (l := PySem.Challenge.rw_exactbeats_k04_numbers_of_lines_and_copi) (n := 63) (k := 20) (x := "_law_script") (CX := fun _ => L2.CX0) rfl (by decide) rfl ⟨rfl, by decide, by decide⟩ (fun w h Y => PySem.W.km_in_of Y) ?F (fun _ _ _ _ _ h => h)
  case F =>
    intro w mg fa h Y_ KX_ G hmg
    have YT_ := PySem.W.km_tabs_of Y_
    refine' KX.top_end KX_ G hmg (YT_ _ List.mem_cons_self) ?hk_law ?hd_law ?ac_Cell ?ac_FabricError ?ac_NoLines ?ac_NoMost ?ac_BadArrivals ?a_BadArrivals___init__ ?i_BadArrivals___init__ ?l_BadArrivals___init__ ?q_BadArrivals___init__ ?p_BadArrivals___init__ ?a_is_integer ?l_is_integer ?q_is_integer ?p_is_integer ?a_is_integer_from ?l_is_integer_from ?q_is_integer_from ?p_is_integer_from ?a_is_number_below ?l_is_number_below ?q_is_number_below ?p_is_number_below ?a_is_tuple_of ?l_is_tuple_of ?q_is_tuple_of ?p_is_tuple_of ?a_is_lot_below ?l_is_lot_below ?q_is_lot_below ?p_is_lot_below ?a_check_lines ?l_check_lines ?q_check_lines ?p_check_lines ?a_check_most ?l_check_most ?q_check_most ?p_check_most ?a_is_cell_number ?l_is_cell_number ?q_is_cell_number ?p_is_cell_number ?a_are_outs ?l_are_outs ?q_are_outs ?p_are_outs ?a_Cell___init__ ?i_Cell___init__ ?l_Cell___init__ ?q_Cell___init__ ?p_Cell___init__ ?a_Cell___eq__ ?i_Cell___eq__ ?l_Cell___eq__ ?q_Cell___eq__ ?p_Cell___eq__ ?a_is_arrival ?l_is_arrival ?q_is_arrival ?p_is_arrival ?a_first_wrong_item ?l_first_wrong_item ?q_first_wrong_item ?p_first_wrong_item ?a_arrivals_fault ?l_arrivals_fault ?q_arrivals_fault ?p_arrivals_fault ?a_is_arrivals ?l_is_arrivals ?q_is_arrivals ?p_is_arrivals ?a_cells ?l_cells ?q_cells ?p_cells ?a_law_hand ?l_law_hand ?q_law_hand ?p_law_hand ?a_law_draw ?l_law_draw ?q_law_draw ?p_law_draw ?a_law_any ?l_law_any ?q_law_any ?p_law_any ?a_law_is_int ?l_law_is_int ?q_law_is_int ?p_law_is_int ?a_law_deep ?l_law_deep ?q_law_deep ?p_law_deep ?a_law_odd ?l_law_odd ?q_law_odd ?p_law_odd ?a_law_is_lot ?l_law_is_lot ?q_law_is_lot ?p_law_is_lot ?a_law_first ?l_law_first ?q_law_first ?p_law_first ?a_law_outs ?l_law_outs ?q_law_outs ?p_law_outs ?a_law_arrival ?l_law_arrival ?q_law_arrival ?p_law_arrival ?a_law_arrivals ?l_law_arrivals ?q_law_arrivals ?p_law_arrivals ?a_law_sizes ?l_law_sizes ?q_law_sizes ?p_law_sizes ?a_law_is_arrival ?l_law_is_arrival ?q_law_is_arrival ?p_law_is_arrival ?a_law_wrong ?l_law_wrong ?q_law_wrong ?p_law_wrong ?a_law_word ?l_law_word ?q_law_word ?p_law_word ?a_law ?l_law ?q_law ?p_law ?pg_Cell ?hd_Cell ?po_Cell ?sa_Cell ?mk_Cell ?kc_Cell ?n_Cell_came_as ?n_Cell_at_line ?n_Cell_of_stream ?n_Cell_of_kind ?n_Cell_to_outs ?x_NoLines ?kp_NoLines ?s_NoLines ?t_NoLines ?e1_NoLines ?e2_NoLines ?e3_NoLines ?e4_NoLines ?e5_NoLines ?x_NoMost ?kp_NoMost ?s_NoMost ?t_NoMost ?e1_NoMost ?e2_NoMost ?e3_NoMost ?e4_NoMost ?e5_NoMost ?xt_BadArrivals ?nf_BadArrivals_at ?kp_BadArrivals ?s_BadArrivals ?t_BadArrivals ?e1_BadArrivals ?e2_BadArrivals ?e3_BadArrivals ?e4_BadArrivals ?e5_BadArrivals ?ci_Cell ?em_Cell ?en1 ?en2 ?oc_BadArrivals ?os_BadArrivals ?su_Cell_int ?su_Cell_bool ?su_Cell_tuple ?s_FabricError ?t_FabricError ?e3_FabricError ?su_FabricError_FabricError ?su_NoLines_FabricError ?su_NoLines_ValueError ?su_NoLines_BadArrivals ?su_NoLines_NoMost ?su_NoLines_NoLines ?su_NoMost_FabricError ?su_NoMost_ValueError ?su_NoMost_BadArrivals ?su_NoMost_NoMost ?su_NoMost_NoLines ?su_BadArrivals_FabricError ?su_BadArrivals_ValueError ?su_BadArrivals_BadArrivals ?su_BadArrivals_NoMost ?su_BadArrivals_NoLines ?k_MOST_LINES ?k_MOST_COPIES ?k_MOST_BEATS ?k_STREAMS ?k_KINDS ?k_GREATEST_CELL ?z_ValueError ?z_abs ?z_all ?z_bool ?z_enumerate ?z_int ?z_isinstance ?z_len ?z_range ?z_set ?z_sorted ?z_tuple ?z_zip
    (case ac_Cell => k_is)
    (case ac_FabricError => k_is)
    (case ac_NoLines => k_is)
    (case ac_NoMost => k_is)
    (case ac_BadArrivals => k_is)
    (case a_BadArrivals___init__ => k_is)
    (case i_BadArrivals___init__ => k_is)
    (case l_BadArrivals___init__ => k_is)
    (case q_BadArrivals___init__ => k_is)
    (case p_BadArrivals___init__ => k_is)
    (case a_is_integer => k_is)
    (case l_is_integer => k_is)
    (case q_is_integer => k_is)
    (case p_is_integer => k_is)
    (case a_is_integer_from => k_is)
    (case l_is_integer_from => k_is)
    (case q_is_integer_from => k_is)
    (case p_is_integer_from => k_is)
    (case a_is_number_below => k_is)
    (case l_is_number_below => k_is)
    (case q_is_number_below => k_is)
    (case p_is_number_below => k_is)
    (case a_is_tuple_of => k_is)
    (case l_is_tuple_of => k_is)
    (case q_is_tuple_of => k_is)
    (case p_is_tuple_of => k_is)
    (case a_is_lot_below => k_is)
    (case l_is_lot_below => k_is)
    (case q_is_lot_below => k_is)
    (case p_is_lot_below => k_is)
    (case a_check_lines => k_is)
    (case l_check_lines => k_is)
    (case q_check_lines => k_is)
    (case p_check_lines => k_is)
    (case a_check_most => k_is)
    (case l_check_most => k_is)
    (case q_check_most => k_is)
    (case p_check_most => k_is)
    (case a_is_cell_number => k_is)
    (case l_is_cell_number => k_is)
    (case q_is_cell_number => k_is)
    (case p_is_cell_number => k_is)
    (case a_are_outs => k_is)
    (case l_are_outs => k_is)
    (case q_are_outs => k_is)
    (case p_are_outs => k_is)
    (case a_Cell___init__ => k_is)
    (case i_Cell___init__ => k_is)
    (case l_Cell___init__ => k_is)
    (case q_Cell___init__ => k_is)
    (case p_Cell___init__ => k_is)
    (case a_Cell___eq__ => k_is)
    (case i_Cell___eq__ => k_is)
    (case l_Cell___eq__ => k_is)
    (case q_Cell___eq__ => k_is)
    (case p_Cell___eq__ => k_is)
    (case a_is_arrival => k_is)
    (case l_is_arrival => k_is)
    (case q_is_arrival => k_is)
    (case p_is_arrival => k_is)
    (case a_first_wrong_item => k_is)
    (case l_first_wrong_item => k_is)
    (case q_first_wrong_item => k_is)
    (case p_first_wrong_item => k_is)
    (case a_arrivals_fault => k_is)
    (case l_arrivals_fault => k_is)
    (case q_arrivals_fault => k_is)
    (case p_arrivals_fault => k_is)
    (case a_is_arrivals => k_is)
    (case l_is_arrivals => k_is)
    (case q_is_arrivals => k_is)
    (case p_is_arrivals => k_is)
    (case a_cells => k_is)
    (case l_cells => k_is)
    (case q_cells => k_is)
    (case p_cells => k_is)
    (case a_law_hand => k_is)
    (case l_law_hand => k_is)
    (case q_law_hand => k_is)
    (case p_law_hand => k_is)
    (case a_law_draw => k_is)
    (case l_law_draw => k_is)
    (case q_law_draw => k_is)
    (case p_law_draw => k_is)
    (case a_law_any => k_is)
    (case l_law_any => k_is)
    (case q_law_any => k_is)
    (case p_law_any => k_is)
    (case a_law_is_int => k_is)
    (case l_law_is_int => k_is)
    (case q_law_is_int => k_is)
    (case p_law_is_int => k_is)
    (case a_law_deep => k_is)
    (case l_law_deep => k_is)
    (case q_law_deep => k_is)
    (case p_law_deep => k_is)
    (case a_law_odd => k_is)
    (case l_law_odd => k_is)
    (case q_law_odd => k_is)
    (case p_law_odd => k_is)
    (case a_law_is_lot => k_is)
    (case l_law_is_lot => k_is)
    (case q_law_is_lot => k_is)
    (case p_law_is_lot => k_is)
    (case a_law_first => k_is)
    (case l_law_first => k_is)
    (case q_law_first => k_is)
    (case p_law_first => k_is)
    (case a_law_outs => k_is)
    (case l_law_outs => k_is)
    (case q_law_outs => k_is)
    (case p_law_outs => k_is)
    (case a_law_arrival => k_is)
    (case l_law_arrival => k_is)
    (case q_law_arrival => k_is)
    (case p_law_arrival => k_is)
    (case a_law_arrivals => k_is)
    (case l_law_arrivals => k_is)
    (case q_law_arrivals => k_is)
    (case p_law_arrivals => k_is)
    (case a_law_sizes => k_is)
    (case l_law_sizes => k_is)
    (case q_law_sizes => k_is)
    (case p_law_sizes => k_is)
    (case a_law_is_arrival => k_is)
    (case l_law_is_arrival => k_is)
    (case q_law_is_arrival => k_is)
    (case p_law_is_arrival => k_is)
    (case a_law_wrong => k_is)
    (case l_law_wrong => k_is)
    (case q_law_wrong => k_is)
    (case p_law_wrong => k_is)
    (case a_law_word => k_is)
    (case l_law_word => k_is)
    (case q_law_word => k_is)
    (case p_law_word => k_is)
    (case a_law => k_is)
    (case l_law => k_is)
    (case q_law => k_is)
    (case p_law => k_is)
    (case pg_Cell => k_is)
    (case hd_Cell => k_is)
    (case po_Cell => k_is)
    (case sa_Cell => k_is)
    (case mk_Cell => k_is)
    (case kc_Cell => k_is)
    (case n_Cell_came_as => k_is)
    (case n_Cell_at_line => k_is)
    (case n_Cell_of_stream => k_is)
    (case n_Cell_of_kind => k_is)
    (case n_Cell_to_outs => k_is)
    (case x_NoLines => k_exc)
    (case kp_NoLines => k_is)
    (case s_NoLines => k_is)
    (case t_NoLines => k_is)
    (case e1_NoLines => k_is)
    (case e2_NoLines => k_is)
    (case e3_NoLines => k_is)
    (case e4_NoLines => k_is)
    (case e5_NoLines => k_is)
    (case x_NoMost => k_exc)
    (case kp_NoMost => k_is)
    (case s_NoMost => k_is)
    (case t_NoMost => k_is)
    (case e1_NoMost => k_is)
    (case e2_NoMost => k_is)
    (case e3_NoMost => k_is)
    (case e4_NoMost => k_is)
    (case e5_NoMost => k_is)
    (case xt_BadArrivals => k_is)
    (case nf_BadArrivals_at => k_is)
    (case kp_BadArrivals => k_is)
    (case s_BadArrivals => k_is)
    (case t_BadArrivals => k_is)
    (case e1_BadArrivals => k_is)
    (case e2_BadArrivals => k_is)
    (case e3_BadArrivals => k_is)
    (case e4_BadArrivals => k_is)
    (case e5_BadArrivals => k_is)
    (case ci_Cell => k_is)
    (case em_Cell => k_is)
    (case en1 => k_is)
    (case en2 => k_is)
    (case oc_BadArrivals => exact ⟨_, _, _, _, _, _, _, _, _, _, _, _, _, _, _, rfl, by decide +kernel⟩)
    (case os_BadArrivals => k_is)
    (case su_Cell_int => k_is)
    (case su_Cell_bool => k_is)
    (case su_Cell_tuple => k_is)
    (case s_FabricError => k_is)
    (case t_FabricError => k_is)
    (case e3_FabricError => k_is)
    (case su_FabricError_FabricError => k_is)
    (case su_NoLines_FabricError => k_is)
    (case su_NoLines_ValueError => k_is)
    (case su_NoLines_BadArrivals => k_is)
    (case su_NoLines_NoMost => k_is)
    (case su_NoLines_NoLines => k_is)
    (case su_NoMost_FabricError => k_is)
    (case su_NoMost_ValueError => k_is)
    (case su_NoMost_BadArrivals => k_is)
    (case su_NoMost_NoMost => k_is)
    (case su_NoMost_NoLines => k_is)
    (case su_BadArrivals_FabricError => k_is)
    (case su_BadArrivals_ValueError => k_is)
    (case su_BadArrivals_BadArrivals => k_is)
    (case su_BadArrivals_NoMost => k_is)
    (case su_BadArrivals_NoLines => k_is)
    (case k_MOST_LINES => k_is)
    (case k_MOST_COPIES => k_is)
    (case k_MOST_BEATS => k_is)
    (case k_STREAMS => k_is)
    (case k_KINDS => k_is)
    (case k_GREATEST_CELL => k_is)
    (case z_ValueError => k_is)
    (case z_abs => k_is)
    (case z_all => k_is)
    (case z_bool => k_is)
    (case z_enumerate => k_is)
    (case z_int => k_is)
    (case z_isinstance => k_is)
    (case z_len => k_is)
    (case z_range => k_is)
    (case z_set => k_is)
    (case z_sorted => k_is)
    (case z_tuple => k_is)
    (case z_zip => k_is)
    (case hd_law => first | rfl | kernel_rfl | decide +kernel)
    (case hk_law => first | rfl | kernel_rfl | decide +kernel)
