import PyProof.Rows.All
import Wide.All
import OpenK.AllK
import Wide.FinOn
import HandS.ForMost
import HandS.IsInst
import HandS.More
import HandS.SetFor
import HandS.Evl
import HandS.Walk
import PyProof.Rows.CountFlat
import HandS.ForExc
import HandS.TryMany
import HandS.Small
import HandS.Style
import HandS.Lambda
import HandS.EndTab
import HandS.ExcIs
import KE.KNestM
import HandS.Zip
import HandS.TupAny
import HandS.Strs
import HandS.SortInts
import HandS.ExcInit
import HandS.ExcField
import KE.KExcIs
import KE.GoesMore
import PyProof.EnumMake
import PyProof.Draws
import PyProof.ReprRoads
import PyProof.CallFns
import PyProof.ReprLen
import PyProof.InstEq
import HandS.TupMul
import HandS.Flow
import HandS.Dict
import HandS.DictComp
import HandS.Deep
import HandS.TupSets
import HandS.Conv
import HandS.Rev
import KE.SortData
import HandS.TupLe
import PyProof.TupleOfSeq
import HandS.ExcValue
import PyProof.Transfer
import HandS.TupSets
import HandS.SortKw
import HandS.Comp
import HandS.Sort
import KE.DataMinMax
import KE.KDictList
import PyProof.P3In
import HandS.Zip0
import PyProof.EnumIter
import PyProof.Rows.SumAny
import PySem.Challenge.RW_exactbeats_k54_buckets_judged_and_breach
set_option Elab.async false
set_option linter.all false
set_option maxRecDepth 100000
set_option maxHeartbeats 4000000
/-! Rules that the layer lacks: an own exception made without arguments; what a lambda's call may raise. -/
namespace GX
open PySem PySem.Spec PyProof.Rows L2
section
variable {X : Cx}
/-- X(): an own exception class without an __init__ of its own, no argument -/
theorem pmk_own0 {C : Addr} {bmB : List Value} {B newId initId : String} {x : Str} {p pos : Pos} (FB : ExcBaseFacts B newId initId bmB) (hx : PySem.W.excIn X.K C bmB newId = true) (hm : X.mg x = some (.ref C)) (hk : PySem.W.keepIn X.K (.ref C) = true)
    (hR : Raises X (.ref C)) (hg : Gl X x) (hdb : (x == ("__debug__" : Str)) = false := by decide) : PMk X (.Call (.Name x p) [] [] pos) (fun _ H Q => Q (.ref C) none H) := by
  intro pins s σ H Q I h
  refine wpAny_Call_Name_kw (ld_glob I hg hm (PySem.W.callWith_K0 I.kIn hk ?_) hdb)
  obtain ⟨bm, N, nm, qn, bs, hdct, sn, sub, ab, col, dd, k0, k1, k2, k3, k5, mN, e1, e2, e3, tail⟩ := exc_obj I.kIn hx
  refine wpAny_call_exc_subT (rest := [] ++ []) FB tail e1 e2 e3 (fun h' e made => ?_)
  refine mk_of I made hR h ?_
  -- the new address is tracked by nothing
  cases q : H e with
  | none => rfl
  | some o =>
    have z := made.new
    obtain ⟨b, hb⟩ := objOk_get (I.hok e o q)
    rw [hb] at z
    cases z
/-- raising calls within a def's own body (or a lambda's) -/
theorem passX {E : XK} (h1 : X.stack = X.env :: X.outer) (h2 : X.env.frame = some X.env.locals) (h3 : X.ex = []) {E₁ : Value → Shared → Prop}
    (h4 : X.xe = fun e s' => wpAny (model X.prog X.w) X.A (leaving X.env e) (fun _ s'' => L2.CX X.prog X.w X.outer X.H_0 X.s_0 E e s'') E₁ s') : Passes (L2.CX X.prog X.w) X E :=
  passes_call (takes_of h1 h2 h3 h4) fun _ _ _ _ h => h
theorem takes_len {W : WX} (h : Takes X W) : Takes X (fun cls d σ H => σ.length = X.N.length → W cls d σ H) := fun u s' z => by
  obtain ⟨a, B, sI, pins, σ, H, cls, d, e1, I, r1, r2, r3, r4, r5, r6, r7⟩ := z
  exact h u s' ⟨a, B, sI, pins, σ, H, cls, d, e1, I, r1, r2, r3, r4, r5, r6, r7 I.len⟩
theorem call_isEg {a : Addr} {cls : Value} {d : Option Addr} {oe : Obj} {pn : List (Addr × Obj)} (hz : Zc cls d oe) (hf : ∃ vs, oe.data = Data.fields vs) :
    CallR (X.suite a ((a, oe) :: pn)) (.builtin "isinstance") (fun xs H Q => ∃ D, cls = .ref D ∧ d = none ∧ ExcC X.K D ∧ rIsE X.K D a xs H Q) := by
  intro pins s σ H xs us Q I r h
  obtain ⟨D, rfl, rfl, hE, h⟩ := h
  exact call_isE hE hz hf pins s σ H xs us Q I r h
/-- isinstance(e, c), e the error that the suite holds, with fields or without -/
theorem call_isEa {a : Addr} {cls : Value} {d : Option Addr} {oe : Obj} {pn : List (Addr × Obj)} (hz : Zc cls d oe) (hf : ∃ vs, oe.data = Data.fields vs) :
    CallR (X.suite a ((a, oe) :: pn)) (.builtin "isinstance") (fun xs H Q => ∃ D, cls = .ref D ∧ ExcC X.K D ∧ (d = none ∨ ∃ dd fs, d = some dd ∧ H dd = some (.xd fs)) ∧ rIsE X.K D a xs H Q) := by
  intro pins s σ H xs us Q I r h
  obtain ⟨D, rfl, C, hd, c, cv, b, rfl, hcv, e, q⟩ := h
  obtain ⟨u, u2, rfl, ru, ru2⟩ := r.two
  cases (show u = Value.ref a from ru)
  cases hcv _ ru2
  obtain ⟨there, _⟩ := I.pin (a, oe) (List.mem_append.mpr (.inl List.mem_cons_self))
  obtain ⟨vs, hv⟩ := hf
  have nc : PySem.W.notCls oe = true := by
    unfold PySem.W.notCls
    rw [hv]
  have od : ∃ od, PySem.W.InstAt s.heap a oe D od := by
    rcases hd with e1 | ⟨dd, fs, e1, e2⟩
    · subst e1
      exact ⟨none, there, hz.1, nc, by rw [hz.2]; trivial⟩
    · subst e1
      obtain ⟨mA, hns, _⟩ : ObjOk X.prog X.w H s.heap dd (.xd fs) := I.hok dd _ e2
      obtain ⟨od, ho, _⟩ := lookIn_ns hns
      exact ⟨some od, there, hz.1, nc, by rw [hz.2]; exact ho⟩
  obtain ⟨od, J⟩ := od
  have isC : (PySem.W.clsIn X.K D).isSome = true := by
    obtain ⟨cd, hc, _⟩ := PySem.W.any_some C.hd
    rw [hc] <;> rfl
  exact PySem.W.kia_one (PySem.W.kitx_exc isC C.hg C.hk C.hs C.ha C.hn C.ht C.hm) I.kIn J e (fun z => nomatch z) fun tk => ⟨.bl b, H, I.kept (t' := tk) fun _ _ z => z, rfl, q⟩
theorem exm_kit {K : PySem.W.Frag} {t c : Value} {b : Bool} (h : PySem.W.exmOne K t c = some b) : PySem.W.kitCls K t c = some b := by
  unfold PySem.W.exmOne at h
  split at h
  · exact h
  · cases h
theorem kit_yes {K : PySem.W.Frag} {t c : Value} (h : PySem.W.exmOne K t c = some true) : PySem.W.kitOne K t c = some true := by
  unfold PySem.W.kitOne
  split
  · rfl
  · exact exm_kit h
theorem kit_no {K : PySem.W.Frag} {D C : Addr} (h : PySem.W.exmOne K (.ref D) (.ref C) = some false) (self : PySem.W.subIn K (.ref C) (.ref C) = some true) (no : PySem.W.subIn K (.ref D) (.ref C) = some false) : PySem.W.kitOne K (.ref D) (.ref C) = some false := by
  unfold PySem.W.kitOne
  split
  · rename_i e
    have e2 : (Value.ref D) = .ref C := eq_of_beq e
    rw [e2, self] at no
    cases no
  · exact exm_kit h
theorem kit_bi {K : PySem.W.Frag} {D : Addr} {T : String} {b : Bool} (m : PySem.W.kitMeta T = true) (h : PySem.W.subIn K (.ref D) (.type T) = some b) : PySem.W.kitOne K (.ref D) (.type T) = some b := by
  unfold PySem.W.kitOne
  split
  · rename_i e
    have e2 : (Value.ref D) = .type T := eq_of_beq e
    cases e2
  · show (if PySem.W.kitMeta T = true then PySem.W.subIn K (.ref D) (.type T) else none) = some b
    rw [if_pos m]
    exact h
/-- a def of the text whose code is known -/
structure FunC (K : PySem.W.Frag) (x qual : Str) (st : Stmt) (f : Addr) (fd : FuncData) (c : Addr) : Prop where
  ex : ∃ oc od kV doc pm an ct osl, fd = PySem.W.fnOf x qual (defArgs st) (defBody st) (defScope st) .none kV doc pm an (.ref c) ct ∧ K.lookup f = some ⟨oc, od, .func fd, osl⟩ ∧ PySem.W.codeIn K (.ref c) qual = true
theorem FunC.ok {P : Program} {w : World} {K : PySem.W.Frag} {mg : Str → Option Value} {base : Heap} {x qual : Str} {st : Stmt} {f c : Addr} {fd : FuncData} {N ps : List Str} {k : Nat} {sp : Sp} (F : FunC K x qual st f fd c) (S : FnScope N ps (defScope st))
    (len : ∀ vs H Q E, sp vs H Q E → vs.length = ps.length)
    (hb : ∀ (A : Around) (outer : List Env) (s : Shared) (H : Hp) (vs : List V) (Q : VK) (E : XK), Room k (A.deeper (envOfC qual (defScope st) s.heap.objs.size f (.ref c))) → sp vs H Q E →
      ∃ t, PSs (cxOf L2.CX0 P w K mg base N qual (defScope st) f (.ref c) A outer s H E).nox (defBody st) t ∧ t { nx := fun _ H' => Q .non H', rt := Q } (L2.start N vs) H) : FnOk P w K mg base L2.CX0 (k + 1) f fd ps sp := by
  obtain ⟨oc, od, kV, doc, pm, an, ct, osl, rfl, lk, hcd⟩ := F.ex
  refine fn_of lk hcd S len fun A outer s H vs Q E hr h => ?_
  obtain ⟨t, h1, h2⟩ := hb A outer s H vs Q E hr h
  exact ⟨t, h1.nox, h2⟩
def tTru (K : PySem.W.Frag) (ta : TE) : L2.St → Hp → (Bool → Hp → Prop) → Prop := fun σ H Q => ta σ H fun x H' => ∃ k, TruV K x H' k ∧ Q k H'
def WL (n : Nat) (W : WX) : WX := fun cls d σ H => σ.length = n → W cls d σ H
def EE (n : Nat) (W : WX) : XK := fun cls d H => ∀ σ : L2.St, σ.length = n → W cls d σ H
/-- raising calls within a try's body -/
theorem passT (n : Nat) {W : WX} (tk : Takes X W) (hn : X.N.length = n := by rfl) : Passes (L2.CX X.prog X.w) X (EE n W) := passes_call (takes_len tk) fun cls d σ H h hl => h σ (hl.trans hn)
/-- f(lambda: e) -/
theorem pe_lam {T : List (Addr × Str)} {TT : (XK → Hp → VK → Prop) → Hp → VK → Prop} {x a : Str} {g c P : Addr} {fd : FuncData} {k : Nat} {st : Stmt} {Ng : List Str} {params : Arguments} {body : Expr} {scope : Scope} {t : XK → TE} {p lpos pos : Pos}
    (F : Fun X.K x x st g fd) (Sg : FnScope Ng [a] (defScope st)) (hg : Gl X x) (hm : X.mg x = some (.ref g)) (hb : Binds X.K fd [a] []) (hNg : Ng[0]? = some a) (hva : Vis (defScope st) a)
    (hG : ∀ cdv, LamX.GivesTo X Ng x (defScope st) g cdv (defBody st) a (X.env.qual ++ "<lambda>") TT) (TB : LamX.TabB X.base X.mg c P) (hcode : X.env.code = .ref c) (hmT : (P, X.env.qual ++ "<lambda>") ∈ T)
    (hu : ∀ p ∈ T, p.1 = P → p.2 = X.env.qual ++ "<lambda>") (hr : Room (k + 2) X.A) (L : LamX.LamS X.env.scope scope) (hdef : defaultsOf params X.env = ([], []))
    (hbind : ∀ (q : Str) (cl : List (Str × Addr)) (pm cv ctv : Value), bindArgs (PySem.W.kla_fn "<lambda>" q params body scope cl pm cv ctv) ⟨[], []⟩ = pure [])
    (hbody : ∀ (A : Around) (outer : List Env) (s : Shared) (H : Hp) (E : XK) (f c' : Addr), Room k (A.deeper (LamX.lamEnv X scope s.heap.objs.size f c')) → PE (LamX.lamCx X A outer s H E scope f c') body (t E))
    (h1 : (x == ("__debug__" : Str)) = false := by decide) (h2 : (a == ("__debug__" : Str)) = false := by decide) (h3 : (a == ("__classdict__" : Str)) = false := by decide) :
    PE X (.Call (.Name x p) [.Lambda params body scope lpos] [] pos) (LamX.tLam T TT t) := by
  obtain ⟨oc, od, kV, doc, pm, an, cdv, ct, osl, rfl, lk, hcd⟩ := F.ex
  exact LamX.pe_lamcall hg hm F.kp lk hcd hb Sg hNg hva (hG cdv) TB hcode hmT hu hr L hdef hbind hbody h1 h2 h3
end
end GX
namespace KX
open PySem PySem.Spec PyProof.Rows L2
section
variable {X : Cx}
/-- xs.count(True), xs a list of bools -/
def rCntB (K : PySem.W.Frag) : V → List V → Hp → VK → Prop := fun x xs H Q => ∃ (p : Addr) (bs : List Bool) (k : Bool), x = .ref p ∧ xs = [.bl k] ∧ SqL K H p (bs.map V.bl) ∧ Q (.int (bs.countP (fun b => b == k) : Nat)) H
theorem bools_of : ∀ {bs : List Bool} {its : List Value}, Vals (bs.map V.bl) its → its = bs.map Value.bool
  | [], _, .nil => rfl
  | b :: bs, _, .cons r t => by
    cases (show _ = Value.bool b from r)
    rw [bools_of t]
    rfl
theorem mt_count_bl : MtR X "list.count" (rCntB X.K) := by
  intro pins s σ H x xs v us Q I rx rxs h
  obtain ⟨p, bs, k, rfl, rfl, hs, q⟩ := h
  cases rx
  obtain ⟨u, rfl, ru⟩ := rxs.one
  cases (show u = Value.bool k from ru)
  obtain ⟨its, rv, ⟨⟨cls, dd, data, sl⟩, n, ho, hc, hdn, hd⟩, hlen⟩ := I.list hs
  simp only at hc hd
  subst hc hd
  have hi := bools_of rv
  refine call_meets PySem.F.slot_list_count ⟨_, ho, rfl⟩ PySem.F.entry_list_count (PySem.F.args_list_count_2 _ _)
    (SeqAt.list_countAt p its.toArray n dd sl (.bool k) (isBoolOf k)) ⟨ho, fun y hy => ?_, ?_⟩
  · have hy' : y ∈ its := by simpa using hy
    rw [hi] at hy'
    obtain ⟨b, _, rfl⟩ := List.mem_map.mp hy'
    exact PySem.SeqAt.EqAt.bool_bool b k
  · have ec : its.toArray.toList.countP (isBoolOf k) = bs.countP (fun b => b == k) := by
      show its.countP (isBoolOf k) = _
      rw [hi, List.countP_map]
      rfl
    refine ⟨.int (bs.countP (fun b => b == k) : Nat), H, I.tok _, ⟨s.toks, ?_⟩, q⟩
    show Value.int ((its.toArray.toList.countP (isBoolOf k) : Nat) : Int) s.toks = _
    rw [ec]
end
end KX

/-! set(xs), xs a list of ints. -/
namespace GX
open PySem PySem.Spec PyProof.Rows PySem.Calls L2 Builtin
section
variable {P : Program} {w : World} {A : Around} {E : Value → Shared → Prop} {s : Shared}
abbrev bareSet (w : World) : Obj := { cls := .type "set", dict := none, data := .set #[] 0 (.fresh 0 0 (!w.params.followText "set-order")) }
set_option maxHeartbeats 8000000 in
theorem set_of_ints {l : Addr} {items : Array Value} (ns : List Int) {Q : Value → Shared → Prop} (calm : A.handled = none) (isl : s.heap.IsList l items) (are : IntsAre items.toList ns) (few : ns.length + 1 < scanBound)
    (k : ∀ (h' : Heap) (tk c : Nat), SetR w h' s.heap.objs.size (fun j => decide (j ∈ ns)) c → c ≤ ns.length → (∀ b o, s.heap.get? b = some o → h'.get? b = some o) → Q (.ref s.heap.objs.size) { s with heap := h', toks := tk }) :
    wpAny (model P w) A (call (.type "set") [.ref l]) Q E s := by
  have many : items.size = ns.length := by simpa using are.length
  obtain ⟨mc, mtl, hmro⟩ := F.called_set.mro
  have a1 := F.called_set.made
  have a2 := F.called_set.sub
  have a3 := F.called_set.notType
  have a4 := F.called_set.canCreate
  have a5 := F.typeCall_set_1 (.ref l)
  refine wpAny_call (codeAny_of_tree (show wpAny _ _ (callAny (.type "set") _) _ _ _ from wpAny_pure ⟨Code.quiet_builtin _ (by decide +kernel), codeAny_builtin F.entry_type_call ?_⟩))
  rw [Around.under_plain (weight_type_call_type "set" [.ref l] []) rfl]
  repeat (any_goals (first | assumption | wp_step))
  refine codeAny_mono (code_set_led1 (.ref l) (E := E) (Q₁ := fun obj s₁ => obj = .ref s.heap.objs.size ∧ s₁ = { s with heap := s.heap.push (bareSet w) }) ⟨rfl, rfl⟩) fun r s₁ made => ?_
  match r, made with
  | .error e, made => exact made
  | .ok .next, made => exact made.elim
  | .ok .brk, made => exact made.elim
  | .ok .cont, made => exact made.elim
  | .ok (.ret obj), made =>
    obtain ⟨rfl, rfl⟩ := made
    have at_ : (s.heap.push (bareSet w)).get? s.heap.objs.size = some (bareSet w) := Heap.get?_push_size _ rfl
    have ty : Shared.TypeIs { s with heap := s.heap.push (bareSet w) } (.ref s.heap.objs.size) "set" := ⟨_, at_, rfl⟩
    have b1 := F.called_set.init.lookup
    have b2 := F.called_set.init.bind (.ref s.heap.objs.size)
    repeat (any_goals (first | assumption | wp_step))
    refine codeAny_mono (codeAny_call_builtin (R := wants (fun r s₂ => r = .none ∧ ∃ h' tk c, s₂ = { s with heap := h', toks := tk } ∧ SetR w h' s.heap.objs.size (fun j => decide (j ∈ ns)) c ∧ c ≤ ns.length ∧ (∀ b o, s.heap.get? b = some o → h'.get? b = some o)) E)
      F.called_set.init.plain F.entry_set_init (check_set_init_1 ty ?_)) fun r₂ s₂ done => ?_
    · obtain ⟨ol, gl, cl, nl, dl⟩ := isl
      obtain ⟨ocls, odict, odata, oslots⟩ := ol
      simp only at cl dl
      subst cl; subst dl
      have gl' : (s.heap.push (bareSet w)).get? l = some { cls := .type "list", dict := odict, data := .seq items nl, slots := oslots } := Heap.get?_push_of_some _ gl
      have c1 := PySem.F.sub_list_set
      have c2 := PySem.F.sub_list_frozenset
      have c3 : (Value.type "list" == Value.type "dict") = false := by decide
      have isl' : (s.heap.push (bareSet w)).IsList l items := ⟨_, gl', rfl, nl, rfl⟩
      unfold Builtin.«set.__init__» noKeywords Builtin.Frozenset.updateFrom
      generalize hPI : pyIter = PI
      wp_walk
      subst hPI
      refine wpAny_pyIter_list isl' (wpAny_bind (wpAny_runValue ?_))
      have lt := Heap.lt_size gl
      have sz : (s.heap.push (bareSet w)).objs.size = s.heap.objs.size + 1 := Heap.size_push ..
      have apart : l ≠ (s.heap.push (bareSet w)).objs.size := by rw [sz]; exact Nat.ne_of_lt (Nat.lt_succ_of_lt lt)
      have quiet : A.in1.in1.in1.handled = none := by simp [calm]
      have each : ∀ (i : Nat) (v : Value), items[i]? = some v → ∃ z t, ns[i]? = some z ∧ v = .int z t := fun i v hv => by
        have lt' : i < ns.length := many ▸ (Array.getElem?_eq_some_iff.mp hv).1
        obtain ⟨t, e⟩ := IntsAre.int_at are i v (by rw [Array.getElem?_toList]; exact hv)
        exact ⟨ns[i], t, List.getElem?_eq_getElem lt', by rw [e, List.getD_eq_getElem?_getD, List.getElem?_eq_getElem lt'] <;> rfl⟩
      refine set_update_ints ((Walks.list quiet _ l apart items).toS) s.heap.objs.size (by simp only [List.mem_cons, List.not_mem_nil, or_false, not_or]; rw [sz]; exact ⟨Nat.ne_of_lt (Nat.lt_succ_self _), Nat.ne_of_gt lt⟩) ns many few each (items.size - 0) 0 _ (by omega) (Nat.zero_le _)
        ⟨⟨_, Heap.get?_push_size _ rfl, rfl, rfl⟩, isl'.push _⟩ ⟨0, Nat.le_refl 0, setR_new_at (Heap.get?_push_of_some _ at_)⟩ fun s' c' moved le is => ?_
      obtain ⟨h', g2, d', tk', os'⟩ := s'
      cases (show g2 = s.gens from moved.gens)
      cases (show d' = s.drawn from moved.drawn)
      cases (show os' = s.os from moved.os)
      show wpAny _ _ _ _ _ _
      refine wpAny_pure (show wpAny _ _ (ret Value.none) _ _ _ from wpAny_pure ⟨rfl, h', tk', c', rfl, is, many ▸ le, fun b o e => ?_⟩)
      have lb := Heap.lt_size e
      exact moved.heap b o (by simp only [List.mem_cons, List.not_mem_nil, or_false, not_or]; rw [sz]; exact ⟨Nat.ne_of_lt lb, Nat.ne_of_lt (Nat.lt_succ_of_lt lb)⟩) (Heap.get?_push_of_some _ (Heap.get?_push_of_some _ e))
    · match r₂, done with
      | .error e, done => exact done
      | .ok .next, done => exact done.elim
      | .ok .brk, done => exact done.elim
      | .ok .cont, done => exact done.elim
      | .ok (.ret r), done =>
        obtain ⟨rfl, h', tk, c', rfl, is, le, kept⟩ := done
        repeat (any_goals (first | assumption | wp_step))
        exact k _ _ _ is le kept
end
section
variable {X : Cx}
/-- set(xs), xs a list of ints -/
def rSetI (K : PySem.W.Frag) (w : World) : List V → Hp → VK → Prop := fun xs H Q => ∃ (l : Addr) (ns : List Int), xs = [.ref l] ∧ SqL K H l (ns.map V.int) ∧ ns.length ≤ 4000 ∧ ∀ (p : Addr) (c : Nat), H p = none → c ≤ ns.length → Q (.ref p) (upd H p (SetO w p (fun j => decide (j ∈ ns)) c))
theorem cr_setI (hc : X.calm = true) : CallR X (.type "set") (rSetI X.K X.w) := by
  intro pins s σ H xs us Q I r h
  obtain ⟨l, ns, rfl, hl, few, q⟩ := h
  obtain ⟨u, rfl, ru⟩ := vals1 r
  cases (show u = Value.ref l from ru)
  obtain ⟨its, rv, pl, _⟩ := I.list hl
  have sz : its.toArray.size = ns.length := by rw [List.size_toArray, ← rv.length, List.length_map]
  refine set_of_ints ns (I.ok.hd hc) pl.isList (by simpa using rv.ints) (by unfold scanBound; omega) fun h' tk c is le kept => ?_
  exact ⟨.ref _, _, I.laid (t' := tk) kept (Nat.le_refl _) (setO_new is), rfl, q _ c (I.hok.fresh (Nat.le_refl _)) le⟩
end
end GX

/-! enumerate(t), t a tuple. -/
namespace GE
open PySem PySem.Spec PyProof.Rows L2 Builtin
/-- a tuple's items with their places, a new pair at each turn -/
def Etp (K : PySem.W.Frag) (t : Addr) : It where
  go i H := ∃ xs x, SqT K H t xs ∧ xs[i]? = some x
  yld i H v H' := ∃ (p : Addr) (x : V), v = .ref p ∧ H p = none ∧ H' = upd H p (.tup [.int ((i : Nat) : Int), x]) ∧ ∀ xs, SqT K H t xs → xs[i]? = some x
  stop i H := ∃ xs, SqT K H t xs ∧ xs.length ≤ i
abbrev tIt (t : Addr) : Obj := { cls := .type "tuple_iterator", data := .fields #[.ref t, .int 0 0] }
abbrev eOb (i : Addr) : Obj := { cls := .type "enumerate", data := .fields #[.none, .bool false, .ref i, rawInt 0, .none, .none] }
set_option maxHeartbeats 8000000 in
theorem made (t : Addr) (vs : Array Value) : Meets (Builtin.«enumerate.__new__» ⟨[.type "enumerate", .ref t], []⟩)
    (fun _ R s => s.heap.IsTuple t vs ∧ R (.ok (.ret (.ref (s.heap.push (tIt t)).objs.size))) { s with heap := (s.heap.push (tIt t)).push (eOb s.heap.objs.size) }) := by
  refine Meets.of_wp fun prog w A R s both => ?_
  obtain ⟨h0, gs, dr, tk, os⟩ := s
  obtain ⟨isT, back⟩ := both
  have z1 := PySem.sub_enumerate
  have z2 : ∀ {B : Around} {F : Value → Shared → Prop} {G : Value → Shared → Prop}, G (.ref h0.objs.size) ⟨h0.push (tIt t), gs, dr, tk, os⟩ → wpAny (model prog w) B (pyIter (.ref t)) G F ⟨h0, gs, dr, tk, os⟩ := fun g => wpAny_pyIter_tuple isT g
  wp_walk using z2
  refine wpAny_stack_any fun st => ?_
  refine wpAny_pure ?_
  split
  · rename_i c _ _ _ _ _
    cases (c == Value.type "enumerate") <;> (wp_walk using z2; exact ⟨_, rfl, back⟩)
  · wp_walk using z2
    exact ⟨_, rfl, back⟩
section
variable {P : Program} {w : World} {A : Around} {E : Value → Shared → Prop} {s : Shared}
theorem begins {t : Addr} {vs : Array Value} {Q : Value → Shared → Prop} (isT : s.heap.IsTuple t vs)
    (k : ∀ h1, IsEnum h1 (s.heap.objs.size + 1) s.heap.objs.size 0 .none → h1.IsTupleIter s.heap.objs.size t 0 → h1.objs.size = s.heap.objs.size + 2 → (∀ b o, s.heap.get? b = some o → h1.get? b = some o) → Q (.ref (s.heap.objs.size + 1)) { s with heap := h1 }) :
    wpAny (model P w) A (call (.type "enumerate") [.ref t]) Q E s := by
  refine callType_new F.called_enumerate (by decide) (F.typeCall_enumerate_1 _) (F.newCall_enumerate_1 _) (fun y => F.args_object_init_2 y _) F.entry_enumerate_new (made t vs) ⟨isT, ?_⟩
  have sz : (s.heap.push (tIt t)).objs.size = s.heap.objs.size + 1 := Heap.size_push ..
  have at_ : IsEnum ((s.heap.push (tIt t)).push (eOb s.heap.objs.size)) (s.heap.objs.size + 1) s.heap.objs.size 0 .none := by
    have z := Heap.get?_push_size (s.heap.push (tIt t)) (o := eOb s.heap.objs.size) rfl
    rw [sz] at z
    exact z
  show _ ∧ _
  rw [sz]
  exact ⟨⟨_, at_, rfl⟩, k _ at_ ⟨_, Heap.get?_push_of_some _ (Heap.get?_push_size _ rfl), rfl, rfl⟩ (by rw [Heap.size_push, sz]) fun b o x => Heap.get?_push_of_some _ (Heap.get?_push_of_some _ x)⟩
end
theorem turn {P : Program} {w : World} {K : PySem.W.Frag} {elts : List Expr} {kk : Nat} {tpos : Pos} (t e i : Addr) :
    Turn P w K (.Tuple elts kk tpos) (Etp K t) [e, i] e (fun n h => (∃ old, IsEnum h e i ((n : Nat) : Int) old) ∧ h.IsTupleIter i t n ∧ e ≠ i) := by
  have two : ∀ {b : Addr}, b ∈ [e, i] → b = e ∨ b = i := fun hb => by simpa using hb
  constructor
  case mem => simp
  case obj =>
    rintro n h ⟨⟨old, h1⟩, ⟨o, h2, h3, h4⟩, _⟩ b hb
    rcases two hb with q | q <;> subst q
    · exact ⟨_, h1, fun v z => nomatch z⟩
    · exact ⟨o, h2, fun v z => by rw [h4] at z; cases z⟩
  case keep =>
    rintro n h h' ⟨⟨old, h1⟩, h2, h3⟩ k
    exact ⟨⟨old, k e (by simp) _ h1⟩, h2.at fun o q => k i (by simp) o q, h3⟩
  case item =>
    intro X eP ew eK calm n pins s σ H Er I free st go
    subst eP ew eK
    obtain ⟨⟨old, h1⟩, h2, apart⟩ := st
    obtain ⟨xs, x, hq, hx⟩ := go
    obtain ⟨vs, rv, isT, _⟩ := I.tuple hq
    obtain ⟨u, hu, ru⟩ := rv.get hx
    have le : e < s.heap.objs.size := Heap.lt_size h1
    have li : i < s.heap.objs.size := by
      obtain ⟨_, q, _⟩ := h2
      exact Heap.lt_size q
    have ti : t ≠ i := fun z => by
      subst z
      obtain ⟨o1, q1, c1, _⟩ := h2
      obtain ⟨o2, q2, c2, _⟩ := isT
      rw [q1] at q2
      cases q2
      rw [c1] at c2
      exact absurd (Value.type.inj c2) (by decide)
    have te : t ≠ e := fun z => by
      subst z
      obtain ⟨o2, q2, c2, _⟩ := isT
      rw [h1] at q2
      cases q2
      exact absurd (Value.type.inj c2) (by decide)
    have quiet : X.A.in1.handled = none := by
      have z := I.ok.hd calm
      simp [z]
    have lt : n < vs.toArray.size := by
      have z := (List.getElem?_eq_some_iff.mp hu).1
      simpa using z
    refine wpAny_pyNext_enum_itemD (Draws.tuple quiet i t ti vs.toArray) h1 ⟨h2, isT⟩ lt apart (by simp [apart, te.symm]) fun y h' tk py out st' tup size keep => ?_
    have ey : y = u := by
      have z : vs.toArray[n]? = some y := py
      rw [List.getElem?_toArray, hu] at z
      exact (Option.some.inj z).symm
    subst ey
    refine ⟨_, rfl, wpAny_letOwnedTupleGo_enum (s := { s with heap := h', toks := tk + 1 }) out fun h'' again sb => ?_⟩
    have tup2 : h''.get? s.heap.objs.size = some { cls := .type "tuple", data := .seq #[.int n tk, y] } := (sb.2 _ (Nat.ne_of_gt le)).trans tup
    have fresh : ObjOk X.prog X.w (upd H s.heap.objs.size (.tup [.int ((n : Nat) : Int), x])) h'' s.heap.objs.size (.tup [.int ((n : Nat) : Int), x]) :=
      ⟨by show 2 ≤ sizeLine; decide, [.int n tk, y], .cons ⟨_, rfl⟩ (.cons ru .nil), ⟨_, tup2, rfl, _, rfl⟩⟩
    have J : Inv X pins σ (upd H s.heap.objs.size (.tup [.int ((n : Nat) : Int), x])) { s with heap := h'', toks := tk + 1 } :=
      I.turnedNew (t' := tk + 1) (ch := [e, i]) (fun b ob hb q => (sb.2 b (fun z => hb (by simp [z]))).trans (keep b ob (fun z => hb (by simp [z])) (fun z => hb (by simp [z])) q)) free (Nat.le_refl _) fresh
    refine ⟨.ref s.heap.objs.size, _, J, rfl, ⟨_, x, rfl, I.hok.fresh (Nat.le_refl _), rfl, fun ys hy => by rw [I.tuple_inj hy hq]; exact hx⟩, ⟨⟨y, ?_⟩, st'.1.at fun o q => (sb.2 i (Ne.symm apart)).trans q, apart⟩, fun b hb => ?_⟩
    · rw [show ((n + 1 : Nat) : Int) = (n : Int) + 1 by omega]
      exact again
    · have lb : b < s.heap.objs.size := by
        rcases two hb with z | z <;> subst z
        · exact le
        · exact li
      rw [upd_ne (Nat.ne_of_lt lb)]
      exact (free b hb).1
  case done =>
    intro X eP ew eK calm n pins s σ H Er I free st stop
    subst eP ew eK
    obtain ⟨⟨old, h1⟩, h2, apart⟩ := st
    obtain ⟨xs, hq, hl⟩ := stop
    obtain ⟨vs, rv, isT, _⟩ := I.tuple hq
    have long := rv.length
    have quiet : X.A.in1.handled = none := by
      have z := I.ok.hd calm
      simp [z]
    have hT : s.TypeIs (.ref e) "enumerate" := ⟨_, h1, rfl⟩
    obtain ⟨f0, f1, f2, f3, f4, f5⟩ := free i (by simp)
    unfold pyNext
    refine wpAny_bind (wpAny_attempt (wpAny_callSpecial?_slot (name := Str.ofString "__next__") hT F.slot_enumerate_next (wpAny_call_entry F.slot_enumerate_next hT F.entry_enumerate_next ?_ (F.args_enumerate_next_1 _))))
    show wpAny _ _ (field (.ref e) 2 >>= _) _ _ _
    refine wpAny_bind (wpAny_field h1 rfl (x := .ref i) rfl (wpAny_bind ?_))
    refine wpAny_nextOf_tuple_end quiet h2 isT (by simp; omega) fun h' ex eb isx => ?_
    obtain ⟨o, ho, hc⟩ := isx
    refine wpAny_bind (wpAny_isInstance (T := "StopIteration") (b := true) ⟨o, ho, hc⟩ isSubtype_stop (wpAny_pure ?_))
    exact ⟨rfl, I.turned (t' := s.toks) (fun b o hb q => eb b o hb q) f0 f1 f3 f4 f5⟩
  case self =>
    rintro A n s Q Er ⟨⟨_, h1⟩, _⟩ q
    exact wpAny_pyIter_enum h1 q
/-- enumerate of a list or a tuple -/
def iEnA (K : PySem.W.Frag) (ta : TA) : TI := fun σ H R => ta σ H fun vs H1 => ∃ a xs, vs = [.ref a] ∧ ((SqL K H1 a xs ∧ R (Ite K a) H1) ∨ (SqT K H1 a xs ∧ R (Etp K a) H1))
theorem pi_enumA {X : Cx} {e : Expr} {ta : TA} {p pos tpos : Pos} {elts : List Expr} {kk : Nat} (hg : Gl X "enumerate") (hm : X.mg "enumerate" = none) (ha : PA X [e] ta) (hs : starEach [e] X.env = [(false, eval e X.env)] := by rfl) :
    PI X (.Tuple elts kk tpos) (.Call (.Name "enumerate" p) [e] [] pos) (iEnA X.K ta) := by
  constructor
  intro pins s σ H R I h
  refine Call_ (ld_blt I hg hm boot_enumerate (PyProof.Rows.callWith_type1 (thn (ha.run pos pins s σ H _ I h) fun us s1 got => ?_) hs rfl))
  obtain ⟨_, H1, I1, r1, a, xs, rfl, q⟩ := got
  have fp : ∀ b ∈ [s1.heap.objs.size + 1, s1.heap.objs.size], FpOk X pins H1 b := fun b hb => by
    have le : s1.heap.objs.size ≤ b := by
      rcases (show b = s1.heap.objs.size + 1 ∨ b = s1.heap.objs.size by simpa using hb) with z | z <;> omega
    exact I1.fpOk le (I1.hok.fresh le)
  cases r1 with
  | cons r rr =>
    cases rr
    cases r
    rcases q with ⟨hq, q⟩ | ⟨hq, q⟩
    · obtain ⟨vs, rv, isL, _⟩ := I1.list hq
      refine call_enumerate_list isL.isList fun h' at_ it size keep => wpAny_pyIter_enum at_ ?_
      exact ⟨_, _, _, _, H1, rfl, I1.kept (t' := s1.toks) keep, turn_enum a (s1.heap.objs.size + 1) s1.heap.objs.size, ⟨⟨.none, at_⟩, it, Nat.succ_ne_self _⟩, fp, q⟩
    · obtain ⟨vs, rv, isT, _⟩ := I1.tuple hq
      refine begins isT fun h' at_ it size keep => wpAny_pyIter_enum at_ ?_
      exact ⟨_, _, _, _, H1, rfl, I1.kept (t' := s1.toks) keep, turn a (s1.heap.objs.size + 1) s1.heap.objs.size, ⟨⟨.none, at_⟩, it, Nat.succ_ne_self _⟩, fp, q⟩
theorem walk {K : PySem.W.Frag} {a : Addr} {xs : List V} : Walk (Etp K a) xs.length (fun H => SqT K H a xs) (YPair (fun i => some (.int (i : Nat))) (fun i => xs[i]?)) := by
  constructor
  · exact fun i _ hi q => ⟨xs, xs[i], q, by simp [hi]⟩
  · exact fun _ q => ⟨xs, q, Nat.le_refl _⟩
  · rintro i H v H' _ q ⟨p, x, h1, h2, h3, h4⟩
    exact ⟨p, .int (i : Nat), x, h1, h2, h3, rfl, h4 xs q⟩
/-- zip of two tuples -/
theorem walk_zipT {K : PySem.W.Frag} {a b : Addr} {xs ys : List V} {n : Nat} (hn : n = min xs.length ys.length) : Walk (RZ.ItzT K a b) n (fun H => SqT K H a xs ∧ SqT K H b ys) (YPair (fun i => xs[i]?) (fun i => ys[i]?)) := by
  subst hn
  constructor
  · intro i _ hi q
    exact ⟨xs, ys, xs[i]'(by omega), ys[i]'(by omega), q.1, q.2, List.getElem?_eq_getElem _, List.getElem?_eq_getElem _⟩
  · exact fun _ q => ⟨xs, ys, q.1, q.2, by omega⟩
  · rintro i H v H' _ q ⟨p, x, y, h1, h2, h3, h4, h5⟩
    exact ⟨p, x, y, h1, h2, h3, h4 xs q.1, h5 ys q.2⟩
end GE

/-! comprehensions with two clauses, dict comprehensions, over any walk. -/
namespace GC
open PySem PySem.Spec PyProof.Rows L2
section
variable {J J1 : It} {n n1 : Nat} {G G1 : Hp → Prop} {Y Y1 : Nat → Hp → V → Hp → Prop}
/-- the outer clause -/
theorem lc2_it (w : Walk J n G Y) {g : TG} {tt : TT} {wi1 : TI} {g1 : TG} {tt1 : TT} {te : TE} {vs vs1 : List Nat} {σ : L2.St} {H1 : Hp} {D : Addr} {Qd : Hp → Prop} (Pv : Nat → Hp → Prop) (h0 : Pv 0 (upd H1 D (.lst []))) (hG : ∀ i H, i ≤ n → Pv i H → G H)
    (hs : ∀ i x H H', i < n → Pv i H → Y i H x H' → g x (wipe σ vs) H' fun σ2 H2 => wipe σ2 vs = wipe σ vs ∧ tt σ2 H2 fun b H3 =>
      if b = true then wi1 σ2 H3 fun J1 H4 => ∃ W1 : Nat → Nat → Hp → Prop, (∃ m, W1 0 m H4) ∧ ∀ j k H, W1 j k H →
        (J1.stop j H ∧ Pv (i + 1) H) ∨ (J1.go j H ∧ ∃ Nx1 : Hp → Prop, (∀ H', Nx1 H' → ∃ k', k' < k ∧ W1 (j + 1) k' H') ∧ ∀ x H', J1.yld j H x H' → g1 x (wipe σ2 vs1) H' fun σ3 H5 => wipe σ3 vs1 = wipe σ2 vs1 ∧ tt1 σ3 H5 fun b H6 =>
          if b = true then te σ3 H6 fun y H7 => ∃ acc, H7 D = some (.lst acc) ∧ acc.length < sizeLine ∧ Nx1 (upd H7 D (.lst (acc ++ [y]))) else Nx1 H6)
      else Pv (i + 1) H3) (hd : ∀ H, Pv n H → Qd H) :
    ∃ W : Nat → Nat → Hp → Prop, (∃ m, W 0 m (upd H1 D (.lst []))) ∧ ∀ i m H, W i m H →
      (J.stop i H ∧ Qd H) ∨ (J.go i H ∧ ∃ Nx : Hp → Prop, (∀ H', Nx H' → ∃ m', m' < m ∧ W (i + 1) m' H') ∧ ∀ x H', J.yld i H x H' → g x (wipe σ vs) H' fun σ2 H2 => wipe σ2 vs = wipe σ vs ∧ tt σ2 H2 fun b H3 =>
        if b = true then wi1 σ2 H3 fun J1 H4 => ∃ W1 : Nat → Nat → Hp → Prop, (∃ m, W1 0 m H4) ∧ ∀ j k H, W1 j k H →
          (J1.stop j H ∧ Nx H) ∨ (J1.go j H ∧ ∃ Nx1 : Hp → Prop, (∀ H', Nx1 H' → ∃ k', k' < k ∧ W1 (j + 1) k' H') ∧ ∀ x H', J1.yld j H x H' → g1 x (wipe σ2 vs1) H' fun σ3 H5 => wipe σ3 vs1 = wipe σ2 vs1 ∧ tt1 σ3 H5 fun b H6 =>
            if b = true then te σ3 H6 fun y H7 => ∃ acc, H7 D = some (.lst acc) ∧ acc.length < sizeLine ∧ Nx1 (upd H7 D (.lst (acc ++ [y]))) else Nx1 H6)
        else Nx H3) := by
  refine ⟨fun i m H => m = n - i ∧ i ≤ n ∧ Pv i H, ⟨n, by simp, Nat.zero_le _, h0⟩, ?_⟩
  rintro i m H ⟨rfl, hi, p⟩
  have q := hG i H hi p
  by_cases hlt : i < n
  · exact .inr ⟨w.goes i H hlt q, Pv (i + 1), fun H' p' => ⟨n - (i + 1), by omega, rfl, hlt, p'⟩, fun x H' y => hs i x H H' hlt p (w.yields i H x H' hlt q y)⟩
  · have e : i = n := by omega
    subst e
    exact .inl ⟨w.stops H q, hd H p⟩
/-- the inner clause -/
theorem lc2_in (w : Walk J1 n1 G1 Y1) {g1 : TG} {tt1 : TT} {te : TE} {vs1 : List Nat} {σ2 : L2.St} {H4 : Hp} {D : Addr} {Nx : Hp → Prop} (Pv : Nat → Hp → Prop) (h0 : Pv 0 H4) (hG : ∀ i H, i ≤ n1 → Pv i H → G1 H)
    (hs : ∀ i x H H', i < n1 → Pv i H → Y1 i H x H' → g1 x (wipe σ2 vs1) H' fun σ3 H5 => wipe σ3 vs1 = wipe σ2 vs1 ∧ tt1 σ3 H5 fun b H6 =>
      if b = true then te σ3 H6 fun y H7 => ∃ acc, H7 D = some (.lst acc) ∧ acc.length < sizeLine ∧ Pv (i + 1) (upd H7 D (.lst (acc ++ [y]))) else Pv (i + 1) H6) (hd : ∀ H, Pv n1 H → Nx H) :
    ∃ W1 : Nat → Nat → Hp → Prop, (∃ m, W1 0 m H4) ∧ ∀ j k H, W1 j k H →
      (J1.stop j H ∧ Nx H) ∨ (J1.go j H ∧ ∃ Nx1 : Hp → Prop, (∀ H', Nx1 H' → ∃ k', k' < k ∧ W1 (j + 1) k' H') ∧ ∀ x H', J1.yld j H x H' → g1 x (wipe σ2 vs1) H' fun σ3 H5 => wipe σ3 vs1 = wipe σ2 vs1 ∧ tt1 σ3 H5 fun b H6 =>
        if b = true then te σ3 H6 fun y H7 => ∃ acc, H7 D = some (.lst acc) ∧ acc.length < sizeLine ∧ Nx1 (upd H7 D (.lst (acc ++ [y]))) else Nx1 H6) := by
  refine ⟨fun i m H => m = n1 - i ∧ i ≤ n1 ∧ Pv i H, ⟨n1, by simp, Nat.zero_le _, h0⟩, ?_⟩
  rintro i m H ⟨rfl, hi, p⟩
  have q := hG i H hi p
  by_cases hlt : i < n1
  · exact .inr ⟨w.goes i H hlt q, Pv (i + 1), fun H' p' => ⟨n1 - (i + 1), by omega, rfl, hlt, p'⟩, fun x H' y => hs i x H H' hlt p (w.yields i H x H' hlt q y)⟩
  · have e : i = n1 := by omega
    subst e
    exact .inl ⟨w.stops H q, hd H p⟩
/-- a dict comprehension -/
theorem dc_it (w : Walk J n G Y) {g : TG} {tt : TT} {tk tv : TE} {vs : List Nat} {σ : L2.St} {H1 : Hp} {D : Addr} {Qd : Hp → Prop} (Pv : Nat → Hp → Prop) (h0 : Pv 0 (upd H1 D (.dK []))) (hG : ∀ i H, i ≤ n → Pv i H → G H)
    (hs : ∀ i x H H', i < n → Pv i H → Y i H x H' → g x (wipe σ vs) H' fun σ2 H2 => wipe σ2 vs = wipe σ vs ∧ tt σ2 H2 fun b H3 =>
      if b = true then tk σ2 H3 fun y H4 => tv σ2 H4 fun z H5 => ∃ kvs k, y = kV k ∧ H5 D = some (.dK kvs) ∧ kvs.length < sizeLine ∧ Pv (i + 1) (upd H5 D (.dK (putK kvs k z))) else Pv (i + 1) H3) (hd : ∀ H, Pv n H → Qd H) :
    ∃ W : Nat → Nat → Hp → Prop, (∃ m, W 0 m (upd H1 D (.dK []))) ∧ ∀ i m H, W i m H →
      (J.stop i H ∧ Qd H) ∨ (J.go i H ∧ ∃ Nx : Hp → Prop, (∀ H', Nx H' → ∃ m', m' < m ∧ W (i + 1) m' H') ∧ ∀ x H', J.yld i H x H' → g x (wipe σ vs) H' fun σ2 H2 => wipe σ2 vs = wipe σ vs ∧ tt σ2 H2 fun b H3 =>
        if b = true then tk σ2 H3 fun y H4 => tv σ2 H4 fun z H5 => ∃ kvs k, y = kV k ∧ H5 D = some (.dK kvs) ∧ kvs.length < sizeLine ∧ Nx (upd H5 D (.dK (putK kvs k z))) else Nx H3) := by
  refine ⟨fun i m H => m = n - i ∧ i ≤ n ∧ Pv i H, ⟨n, by simp, Nat.zero_le _, h0⟩, ?_⟩
  rintro i m H ⟨rfl, hi, p⟩
  have q := hG i H hi p
  by_cases hlt : i < n
  · exact .inr ⟨w.goes i H hlt q, Pv (i + 1), fun H' p' => ⟨n - (i + 1), by omega, rfl, hlt, p'⟩, fun x H' y => hs i x H H' hlt p (w.yields i H x H' hlt q y)⟩
  · have e : i = n := by omega
    subst e
    exact .inl ⟨w.stops H q, hd H p⟩
end
section
variable {X : Cx}
/-- xs[i], by values: for xs[i] += e -/
def rGetI : V → V → Hp → VK → Prop := fun x y H Q => ∃ p xs i j v, x = .ref p ∧ y = .int i ∧ H p = some (.lst xs) ∧ i = ((j : Nat) : Int) ∧ xs[j]? = some v ∧ Q v H
theorem get_listI : PGet X rGetI := by
  intro pins s σ H x y ov iv Q I rx ry h
  obtain ⟨p, xs, i, j, z, rfl, rfl, hq, rfl, he, q⟩ := h
  cases rx
  obtain ⟨t, rfl⟩ := ry
  obtain ⟨its, r, pl, hz⟩ := I.list (.inl (.inl hq))
  obtain ⟨w, ew, rw'⟩ := r.get he
  have hl := r.length
  have hn := line63
  have lt := (List.getElem?_eq_some_iff.mp he).1
  exact wpAny_getItem_list (x := w) pl.isList (by omega) (by omega) (by simpa using ew) ⟨z, H, I, rw', q⟩
end
theorem hu1 {k : Nat} {A : Around} (r : Room k A) : A.units + 1 < cLine := by have := r.un; omega
theorem hu65 {k : Nat} {A : Around} (r : Room k A) : A.units + 65 < cLine := by have := r.un; omega
theorem hu4 {k : Nat} {A : Around} (r : Room k A) : A.units + 4 < cLine := by have := r.un; omega
/-- tuple(xs), said for comprehensions -/
def rTupK (K : PySem.W.Frag) : List V → Hp → VK → Prop := fun xs H Q => ∃ p ys, xs = [.ref p] ∧ ((SqL K H p ys ∧ ∀ l, H l = none → Q (.ref l) (upd H l (.tup ys))) ∨ (SqT K H p ys ∧ Q (.ref p) H))
end GC

/-! len(set(xs)) of ints, t[::-1] of a tuple, what is never come to. -/
namespace GL
open PySem PySem.Spec PyProof.Rows PySem.Calls L2 Builtin
/-- the unlike ones, as met -/
def met (ns : List Int) : List Int := firstMet (fun i => ns.getD i 0) ns.length
theorem fold_dedup : ∀ (xs acc : List Int), acc.Nodup → (xs.foldl step_dedup acc).length ≤ acc.length + xs.length ∧ ((xs.foldl step_dedup acc).length = acc.length + xs.length ↔ xs.Nodup ∧ ∀ x ∈ xs, x ∉ acc)
  | [], acc, h => by simp
  | x :: xs, acc, h => by
    rw [List.foldl_cons]
    by_cases c : x ∈ acc
    · have e : step_dedup acc x = acc := by
        unfold step_dedup
        rw [if_pos (List.any_eq_true.mpr ⟨x, c, by simp⟩)]
      rw [e]
      obtain ⟨h1, h2⟩ := fold_dedup xs acc h
      refine ⟨by rw [List.length_cons]; omega, ⟨fun z => by rw [List.length_cons] at z; omega, fun ⟨z1, z2⟩ => absurd c (z2 x List.mem_cons_self)⟩⟩
    · have e : step_dedup acc x = acc ++ [x] := by
        unfold step_dedup
        rw [if_neg]
        intro z
        obtain ⟨y, hy, q⟩ := List.any_eq_true.mp z
        have q : y = x := by simpa using q
        exact c (by rw [← q]; exact hy)
      rw [e]
      have nd : (acc ++ [x]).Nodup := by
        rw [List.nodup_append]
        refine ⟨h, by simp, fun a ha b hb => ?_⟩
        rw [List.mem_singleton] at hb
        intro z
        exact c (by rw [← hb, ← z]; exact ha)
      obtain ⟨h1, h2⟩ := fold_dedup xs (acc ++ [x]) nd
      have el : (acc ++ [x]).length = acc.length + 1 := by rw [List.length_append]; rfl
      rw [el] at h1 h2
      rw [List.length_cons]
      refine ⟨by omega, ?_⟩
      rw [show acc.length + (xs.length + 1) = acc.length + 1 + xs.length by omega, h2, List.nodup_cons]
      constructor
      · rintro ⟨a, b⟩
        refine ⟨⟨fun z => b x z (by simp), a⟩, fun y hy => ?_⟩
        rcases List.mem_cons.mp hy with z | z
        · rw [z]
          exact c
        · exact fun q => b y z (List.mem_append_left _ q)
      · rintro ⟨⟨a, b⟩, d⟩
        refine ⟨b, fun y hy z => ?_⟩
        rcases List.mem_append.mp z with q | q
        · exact d y (List.mem_cons_of_mem _ hy) q
        · rw [List.mem_singleton] at q
          exact a (by rw [← q]; exact hy)
theorem getD_range (ns : List Int) : (List.range ns.length).map (fun i => ns.getD i 0) = ns := by
  refine List.ext_getElem? fun i => ?_
  rw [List.getElem?_map]
  by_cases h : i < ns.length
  · rw [List.getElem?_range h, List.getElem?_eq_getElem h]
    simp [List.getD_eq_getElem?_getD, h]
  · rw [List.getElem?_eq_none (by rw [List.length_range]; omega), List.getElem?_eq_none (by omega)]
    rfl
theorem met_len (ns : List Int) : (met ns).length ≤ ns.length ∧ ((met ns).length = ns.length ↔ ns.Nodup) := by
  unfold met firstMet
  rw [getD_range]
  obtain ⟨h1, h2⟩ := fold_dedup ns [] List.nodup_nil
  rw [List.length_nil, Nat.zero_add] at h1 h2
  refine ⟨h1, h2.trans ⟨fun z => z.1, fun z => ⟨z, fun x _ => List.not_mem_nil⟩⟩⟩
def tLenSetN (K : PySem.W.Frag) (ta : TE) : TE := fun σ H Q => ta σ H fun x H1 => ∃ (l : Addr) (ns : List Int), x = .ref l ∧ SqL K H1 l (ns.map V.int) ∧ ns.length ≤ 4000 ∧ Q (.int ((met ns).length : Nat)) H1
theorem pe_lenSetN {X : Cx} {a : Expr} {ta : TE} {p p2 q pos : Pos} (hg : Gl X "len") (hm : X.mg "len" = none) (hg2 : Gl X "set") (hm2 : X.mg "set" = none) (ha : PE X a ta) (hc : X.calm = true := by rfl)
    (na : starEach [a] X.env = (false, eval a X.env) :: starEach [] X.env := by rfl) : PE X (.Call (.Name "len" p) [.Call (.Name "set" p2) [a] [] q] [] pos) (tLenSetN X.K ta) := by
  refine ⟨fun pins s σ H Q I h => ?_⟩
  refine Call_ (ld_blt I hg hm boot_len ?_)
  refine PyProof.Rows.callWith_builtin1 (PyProof.Rows.args_cons ?_ rfl) rfl rfl
  refine Call_ (ld_blt I hg2 hm2 boot_set ?_)
  refine PyProof.Rows.callWith_type1 (PyProof.Rows.args_cons (thn (ha.run pins s σ H _ I h) fun v s1 ⟨x, H1, I1, r1, q1⟩ => PyProof.Rows.args_nil ?_) na) na rfl
  obtain ⟨l, ns, rfl, hq, hl, q1⟩ := q1
  cases r1
  obtain ⟨its, r, pl, hz⟩ := I1.list hq
  have hlen : its.toArray.size = ns.length := by rw [List.size_toArray, ← r.length, List.length_map]
  refine call_set_list (I1.ok.hd hc) pl.isList (by simpa using RZ.intsAre_vals r) (by rw [hlen]; unfold scanBound; omega) fun h' tk hS hk => ?_
  refine PyProof.Rows.args_nil ?_
  rw [hlen] at hS
  obtain ⟨o, es, ep, t, ho, hex, hd, _, _, _, hf, hn⟩ := hS
  have I2 : Inv X pins σ H1 { s1 with heap := h', toks := tk } := I1.kept fun b o e => hk b o (Heap.lt_size e) e
  have le := (met_len ns).1
  exact call_len_set ho hex hd hf (by rw [hn]; show ((met ns).length : Int) < _; omega) ⟨.int (met ns).length, H1, I2.tok _, ⟨_, by rw [hn]; rfl⟩, q1⟩
/-! ### t[::-1] -/
theorem filt_take {α : Type} {f : Nat → Option α} {L : List α} (h : ∀ m, m < L.length → f m = L[m]?) : ∀ n, n ≤ L.length → (List.range n).filterMap f = L.take n
  | 0, _ => rfl
  | n + 1, hn => by
    rw [List.range_succ, List.filterMap_append, filt_take h n (by omega), List.take_add_one]
    congr 1
    rw [List.filterMap_cons, h n (by omega), List.getElem?_eq_getElem (by omega)]
    rfl
theorem pick_back (xs : Array Value) : ((List.range xs.size).filterMap fun (m : Nat) => xs[((xs.size : Int) - 1 + (m : Int) * (-1)).toNat]?).toArray = xs.toList.reverse.toArray := by
  congr 1
  have e := filt_take (f := fun (m : Nat) => xs[((xs.size : Int) - 1 + (m : Int) * (-1)).toNat]?) (L := xs.toList.reverse) (fun m hm => ?_) xs.toList.reverse.length (Nat.le_refl _)
  · rw [List.length_reverse, Array.length_toList] at e
    rw [e]
    exact List.take_of_length_le (by rw [List.length_reverse, Array.length_toList]; omega)
  · rw [List.length_reverse, Array.length_toList] at hm
    rw [List.getElem?_reverse (by rw [Array.length_toList]; exact hm), Array.getElem?_toList, Array.length_toList]
    congr 1
    omega
section
variable {P : Program} {w : World} {A : Around} {E : Value → Shared → Prop} {s : Shared}
theorem sliceApplied_back {sl : Addr} {vs : Value} {n : Nat} {Q : Int × Int × Nat → Shared → Prop} (hs : s.heap.IsSliceOf sl .none .none vs) (ps : IsPart vs (some (-1)))
    (h : Q ((n : Int) - 1, -1, n) s) : wpAny (model P w) A (Builtin.Slice.sliceApplied (.ref sl) (pure (n : Int))) Q E s := by
  obtain ⟨os, hos, hcs, hds⟩ := id hs
  unfold Builtin.Slice.sliceApplied Builtin.Slice.sliceFields
  refine wpAny_bind (wpAny_bind (wpAny_field hos hds (x := .none) rfl (wpAny_bind (wpAny_field hos hds (x := .none) rfl (wpAny_bind (wpAny_field hos hds (x := vs) rfl (wpAny_pure ?_)))))))
  refine wpAny_bind (HT.slicePart_ ps ?_)
  show wpAny _ _ (if ((-1 : Int) == 0) = true then _ else _) _ _ s
  rw [if_neg (by decide)]
  refine wpAny_bind (HT.slicePart_ .none (wpAny_bind (HT.slicePart_ .none (wpAny_bind (wpAny_pure ?_)))))
  show wpAny _ _ (match Builtin.Slice.sliceAdjust none none (-1) (n : Int) with | (lo, hi) => pure (lo, (-1 : Int), Builtin.Slice.slicePlaces lo hi (-1))) _ _ s
  have e1 : Builtin.Slice.sliceAdjust none none (-1) (n : Int) = ((n : Int) - 1, -1) := by
    unfold Builtin.Slice.sliceAdjust
    simp
  rw [e1]
  show wpAny _ _ (pure ((n : Int) - 1, (-1 : Int), Builtin.Slice.slicePlaces ((n : Int) - 1) (-1) (-1))) _ _ s
  have e2 : Builtin.Slice.slicePlaces ((n : Int) - 1) (-1) (-1) = n := by
    unfold Builtin.Slice.slicePlaces
    have h1 : ¬ ((-1 : Int) > 0) := by omega
    simp only [h1, if_false, show (-(-1 : Int)) = 1 from rfl, Int.ediv_one]
    split <;> omega
  rw [e2]
  exact wpAny_pure h
theorem getItem_tuple_back {t sl : Addr} {items : Array Value} {vs : Value} {Q : Value → Shared → Prop} (ht : IsTup s.heap t items) (hs : s.heap.IsSliceOf sl .none .none vs) (ps : IsPart vs (some (-1)))
    (h : Q (.ref s.heap.objs.size) { s with heap := s.heap.push { cls := .type "tuple", data := .seq items.toList.reverse.toArray } })
    (hsz : items.size ≤ sizeLine) : wpAny (model P w) A (getItem (.ref t) (.ref sl)) Q E s := by
  have htake : sizeOk (.seq items.toList.reverse.toArray) := by
    show items.toList.reverse.toArray.size ≤ sizeLine
    rw [List.size_toArray, List.length_reverse, Array.length_toList]
    omega
  obtain ⟨os, hos, hcs, hds⟩ := id hs
  have hTs : s.TypeIs (.ref sl) "slice" := ⟨os, hos, hcs⟩
  unfold getItem
  try with_reducible refine wpAny_holding ?_
  first | refine wpAny_bind (wpAny_pure ?_) | skip
  refine wpAny_bind (wpAny_sequenceKey ht.typeIs (by decide) ?_)
  refine wpAny_bind (wpAny_callSpecial?_slot (name := Str.ofString "__getitem__") ht.typeIs PyProof.Rows.slot_tuple_getitem
    (wpAny_call_entry PyProof.Rows.slot_tuple_getitem ht.typeIs entry_tuple_getitem ?_ (args_tuple_getitem _ _)))
  show wpAny _ _ (Builtin.Tuple.tupleItemsOf (.ref t) >>= _) _ _ s
  refine wpAny_bind (tupleItemsOf_ ht ?_)
  refine wpAny_bind (wpAny_typeOf hTs ?_)
  rw [if_pos (by decide)]
  refine wpAny_bind (sliceApplied_back hs ps ?_)
  have hno : ¬ (((((items.size : Int) - 1) == 0 && (-1 : Int) == 1 && items.size == items.size)) = true) := by
    intro q
    rw [Bool.and_eq_true, Bool.and_eq_true] at q
    have q1 : (-1 : Int) = 1 := eq_of_beq q.1.2
    omega
  show wpAny _ _ (if ((((items.size : Int) - 1) == 0 && (-1 : Int) == 1 && items.size == items.size)) = true then _ else _) _ _ s
  rw [if_neg hno, pick_back]
  first
    | exact wpAny_bind (m := Builtin.Tuple.tupleExact _) (wpAny_newObj_type (wpAny_pure ⟨_, rfl, wpAny_pure h⟩) htake)
    | exact wpAny_bind (m := Builtin.Tuple.tupleExact _) (wpAny_newObj_type (wpAny_bind (wpAny_pure (wpAny_pure ⟨_, rfl, wpAny_pure h⟩))) htake)
    | exact wpAny_bind (wpAny_bind (m := Builtin.Tuple.tupleExact _) (wpAny_newObj_type (wpAny_pure (wpAny_pure ⟨_, rfl, wpAny_pure h⟩)) htake))
    | exact wpAny_bind (wpAny_bind (m := Builtin.Tuple.tupleExact _) (wpAny_newObj_type (wpAny_pure ⟨_, rfl, wpAny_pure h⟩) htake))
end
def tRevT (K : PySem.W.Frag) (te : TE) : TE := fun σ H Q => te σ H fun x H1 => ∃ a xs, x = .ref a ∧ SqT K H1 a xs ∧ ∀ p, H1 p = none → Q (.ref p) (upd H1 p (.tup xs.reverse))
theorem pe_revT {X : Cx} {e : Expr} {te : TE} {k : Nat} {p1 p2 p3 pos : Pos} (he : PE X e te) : PE X (.Subscript e (.Slice none none (some (.UnaryOp .USub (.Constant (.int 1) k p1) p2)) p3) pos) (tRevT X.K te) := by
  refine ⟨fun pins s σ H Q I h => ?_⟩
  refine Subscript_ (thn (he.run pins s σ H _ I h) fun v s1 ⟨x, H1, I1, r1, q1⟩ => ?_)
  obtain ⟨a, xs, ex, hx, q⟩ := q1
  subst ex
  cases r1
  have hst : PO X (some (.UnaryOp .USub (.Constant (.int 1) k p1) p2)) (tPart (tUn (rU fun i => .int (-i)) (tC (.int 1)))) := po_some (pe_un un_neg pe_int)
  refine wpAny_Slice (thn (po_none.run pins s1 σ H1 (fun o H2 => o = none ∧ H2 = H1) I1 ⟨rfl, rfl⟩) fun vl s2 ⟨l, H2, I2, pl, el, e2⟩ => ?_)
  subst el e2
  refine thn (po_none.run pins s2 σ H2 (fun o H3 => o = none ∧ H3 = H2) I2 ⟨rfl, rfl⟩) fun vu s3 ⟨u, H3, I3, pu, eu, e3⟩ => ?_
  subst eu e3
  refine thn (hst.run pins s3 σ H3 (fun o H4 => o = some (-1) ∧ H4 = H3) I3 ⟨1, rfl, -1, rfl, rfl, rfl⟩) fun vs s4 ⟨o, H4, I4, ps, eo, e4⟩ => ?_
  subst eo e4
  cases pl
  cases pu
  have I5 : Inv X pins σ H4 { s4 with heap := s4.heap.push { cls := .type "slice", data := .fields #[.none, .none, vs] } } := I4.kept (t' := s4.toks) fun b ob q => Heap.get?_push_of_some _ q
  obtain ⟨its, r, ht, hz⟩ := I5.tuple hx
  have hlen := r.length
  show wpAny (model X.prog X.w) X.A (subscriptTail e (.Slice none none (some (.UnaryOp .USub (.Constant (.int 1) k p1) p2)) p3) (.ref a) (.ref s4.heap.objs.size)) (EP X pins σ Q) X.xe { s4 with heap := s4.heap.push { cls := .type "slice", data := .fields #[.none, .none, vs] } }
  refine tail_any (ops := [.ref a, .ref s4.heap.objs.size]) ht.typeIs (PyProof.Rows.slot_tuple_getitem.lookup) ?_ (by with_unfolding_all rfl)
  refine getItem_tuple_back ht (Heap.IsSliceOf.new _ .none .none vs) ps ?_ (by rw [List.size_toArray]; omega)
  refine ⟨.ref _, _, I5.laid (t' := s4.toks) (o := .tup xs.reverse) (fun b ob q => Heap.get?_push_of_some _ q) (Nat.le_refl _) ?_, rfl, q _ (I5.hok.fresh (Nat.le_refl _))⟩
  exact ⟨by rw [List.length_reverse]; exact hz, _, r.reverse, IsTup.new _ _⟩
/-! ### what is never come to -/
def tDead : TE := fun _ _ _ => False
theorem pe_dead {X : Cx} {e : Expr} : PE X e tDead := ⟨fun _ _ _ _ _ _ h => h.elim⟩
def sDead : TS := fun _ _ _ => False
end GL

/-! x != y of instances of one class that has an __eq__ of its own and no __ne__. -/
namespace GO
open PySem PySem.Spec PyProof.Rows L2 Builtin
/-- what is asked of the class at C, its __eq__ at g -/
structure EqO (K : PySem.W.Frag) (C g : Addr) : Prop where
  top : PySem.W.mroIn K C (.type "object") = some true
  ne : PySem.W.findIn K (.ref C) "__ne__" = some (some (.builtin "object.__ne__"))
  eq : PySem.W.findIn K (.ref C) "__eq__" = some (some (.ref g))
  fn : PySem.W.isFn K (.ref g) = true
section
variable {P : Program} {w : World} {A : Around} {E : Value → Shared → Prop} {s : Shared} {K : PySem.W.Frag} {x y C D g : Addr} {ox oy : Obj} {od od' : Option Obj}
theorem bound {M : Model} {more : List Value} {Q : Option Value → Shared → Prop} (X : K.In s.heap) (I : PySem.W.InstAt s.heap x ox C od) (c : EqO K C g)
    (h : wpAny M A (call (.builtin "object.__ne__") (.ref x :: more)) (fun v => Q (some v)) E s) : wpAny M A (callSpecialIfBound? (.ref x) "__ne__" more) Q E s := by
  have last : wpAny M A (call (.builtin "object.__ne__") ([.ref x] ++ more) >>= fun v => pure (some v)) Q E s := wpAny_bind (wpAny_mono h (fun _ _ z => wpAny_pure z) fun _ _ z => z)
  simp only [callSpecialIfBound?, bindSpecialIfBound?]
  refine wpAny_holding (wpAny_bind ?_)
  refine wpAny_bind (wpAny_bind (I.type.here ((PySem.W.looks_findIn X c.ne).here ?_)))
  refine wpAny_bind (wpAny_askSetting (wpAny_ite ?_))
  split
  · exact wpAny_bind (wpAny_of_eq (F.cmp_object.ne.bind _) (wpAny_pure (by exact last)))
  · refine wpAny_tryCatch ?_
    exact wpAny_bind (wpAny_of_eq (F.cmp_object.ne.bind _) (wpAny_pure (by exact last)))
theorem entry {Q : Fin → Shared → Prop} (X : K.In s.heap) (I : PySem.W.InstAt s.heap x ox C od) (c : EqO K C g) (hu : A.units < cLine)
    (h : wpAny (model P w) A (call (.ref g) [.ref x, .ref y]) (fun v s' => ∃ b, v = .bool b ∧ Q (.done (.ret (.bool (!b)))) s') E s) :
    wpAny (model P w) A (Builtin.«object.__ne__» ⟨[.ref x, .ref y], []⟩) Q E s := by
  obtain ⟨h0, gs, dr, tk, os⟩ := s
  unfold Builtin.«object.__ne__»
  repeat (first
    | with_reducible refine wpAny_cRoomFor hu ?_
    | (refine wpAny_bind (m := callSpecialIfBound? (.ref x) (Str.ofString "__eq__") [.ref y]) (PySem.W.ifBound_K X I c.eq c.fn (wpAny_mono h (fun r s' got => by
        obtain ⟨b, rfl, q⟩ := got
        repeat (first | exact q | exact wpAny_pure q | exact wpAny_truthy_bool q | (refine wpAny_bind (m := truthy (.bool _)) (wpAny_truthy_bool ?_)) | wp_step)) fun _ _ z => z)))
    | wp_step)
theorem tried {Q : Option Value → Shared → Prop} (X : K.In s.heap) (I : PySem.W.InstAt s.heap x ox C od) (c : EqO K C g) (hu : A.units + 1 < cLine)
    (h : wpAny (model P w) A.in1 (call (.ref g) [.ref x, .ref y]) (fun v s' => ∃ b, v = .bool b ∧ Q (some (.bool (!b))) s') E s) : wpAny (model P w) A (tryCompare (.ref x) "__ne__" (.ref y)) Q E s := by
  unfold tryCompare
  refine wpAny_bind (bound X I c (wpAny_call (codeAny_call_builtin F.cmp_object.ne.plain F.cmpEntry_ne (PySem.W.check_slot F.cmpKind_ne F.cmpSplit_ne (I.type.andThen (PySem.W.looks_mroIn X c.top)) (F.cmpArgs_ne _ _) ?_))))
  refine entry X I c hu (wpAny_mono h (fun v s' got => ?_) fun _ _ z => z)
  obtain ⟨b, rfl, q⟩ := got
  first | exact ⟨b, rfl, wpAny_pure q⟩ | exact ⟨b, rfl, wpAny_pure (wpAny_pure q)⟩ | exact ⟨b, rfl, q⟩
theorem rich {Q : Value → Shared → Prop} (X : K.In s.heap) (I : PySem.W.InstAt s.heap x ox C od) (J : PySem.W.InstAt s.heap y oy C od') (c : EqO K C g) (hu : A.units + 1 < cLine)
    (h : wpAny (model P w) A.in1 (call (.ref g) [.ref x, .ref y]) (fun v s' => ∃ b, v = .bool b ∧ Q (.bool (!b)) s') E s) : wpAny (model P w) A (richCompare .NotEq (.ref x) (.ref y)) Q E s := by
  have one : wpAny (model P w) A (tryCompare (.ref x) "__ne__" (.ref y)) (fun r s' => ∃ b, r = some (.bool b) ∧ Q (.bool b) s') E s :=
    tried X I c hu (wpAny_mono h (fun v s' got => by obtain ⟨b, e, q⟩ := got; exact ⟨b, e, !b, rfl, q⟩) fun _ _ z => z)
  simp only [richCompare, cmpInfo_NotEq, oneThing_ref]
  refine wpAny_holding (wpAny_bind (wpAny_cRoomFor (Nat.lt_of_succ_lt hu) ?_))
  refine wpAny_bind (I.type.here (wpAny_bind (J.type.here ?_)))
  split
  · rename_i z
    exact absurd z (by simp)
  · refine wpAny_bind (wpAny_pure ?_)
    simp only [Bool.false_eq_true, if_false]
    refine wpAny_bind (wpAny_mono one (fun r s' got => ?_) fun _ _ z => z)
    obtain ⟨b, rfl, q⟩ := got
    exact wpAny_pure q
end
section
variable {X : Cx} {C g : Addr} {k : Nat} {fd : FuncData} {ps : List Str} {sp : Sp}
def rNeO (C : Addr) (sp : Sp) : V → V → Hp → VK → Prop := fun x y H Q => ∃ a b dx dy fs gs, x = .ref a ∧ y = .ref b ∧ H a = some (.ins C dx fs) ∧ H b = some (.ins C dy gs) ∧ sp [x, y] H (fun v H' => ∃ j, v = .bl j ∧ Q (.bl (!j)) H') (fun _ _ _ => False)
theorem op_neO (c : EqO X.K C g) (F : FnOk X.prog X.w X.K X.mg X.base L2.CX0 k g fd ps sp) (hb : Binds X.K fd ps []) (hr : Room (k + 2) X.A) : OpR X (compareOp .NotEq) (rNeO C sp) := by
  intro pins s σ H x y u v Q I rx ry h
  obtain ⟨a, b, dx, dy, fs, gs, rfl, rfl, ha, hb', q⟩ := h
  cases (show u = Value.ref a from rx)
  cases (show v = Value.ref b from ry)
  obtain ⟨mA, O, _⟩ := ins_get I.hok ha
  obtain ⟨od, J, _⟩ := O.look
  obtain ⟨mB, O', _⟩ := ins_get I.hok hb'
  obtain ⟨od', J', _⟩ := O'.look
  have hr1 : Room k X.A.in1 := (show Room (k + 1) X.A.in1 from Room.in1 hr).mono (Nat.le_succ k)
  show wpAny _ _ (richCompare .NotEq (.ref a) (.ref b)) _ _ _
  refine rich I.kIn J J' c ?_ ?_
  · exact Nat.lt_of_le_of_lt (Nat.add_le_add_left (by decide) _) hr.units
  · have ran := F.raw hb .nil X.A.in1 X.stack s H [.ref a, .ref b] [.ref a, .ref b] _ _ hr1 I.env0.in1 (.cons rfl (.cons rfl .nil)) (by exact q)
    refine wpAny_call (codeAny_mono ran fun r s' told => ?_)
    match r, told with
    | .error e, told => exact (show False from told).elim
    | .ok (.ret u), told =>
      obtain ⟨z, H', I', rz, j, ej, qz⟩ := I.after told
      subst ej
      cases (show u = Value.bool j from rz)
      exact ⟨j, rfl, .bl (!j), H', I', rfl, qz⟩
    | .ok .next, told => exact told.elim
    | .ok .brk, told => exact told.elim
    | .ok .cont, told => exact told.elim
end
end GO

/-! x == y, x an instance of a class that has an __eq__ of its own, y anything whose type is known. -/
namespace GP
open PySem PySem.Spec PyProof.Rows L2 Builtin
section
variable {X : Cx} {C g : Addr} {k : Nat} {fd : FuncData} {ps : List Str} {sp : Sp}
def rEqO (K : PySem.W.Frag) (C : Addr) (sp : Sp) : V → V → Hp → VK → Prop := fun x y H Q => ∃ a dx fs t, x = .ref a ∧ H a = some (.ins C dx fs) ∧ TyX K H y t ∧ PySem.W.notFirst K C t = true ∧ sp [x, y] H (fun v H' => ∃ j, v = .bl j ∧ Q (.bl j) H') (fun _ _ _ => False)
theorem op_eqO (hs : PySem.W.findIn X.K (.ref C) "__eq__" = some (some (.ref g))) (hf : PySem.W.isFn X.K (.ref g) = true) (F : FnOk X.prog X.w X.K X.mg X.base L2.CX0 k g fd ps sp) (hb : Binds X.K fd ps []) (hr : Room k X.A) : OpR X (compareOp .Eq) (rEqO X.K C sp) := by
  intro pins s σ H x y u v Q I rx ry h
  obtain ⟨a, dx, fs, t, rfl, ha, ty, nf, q⟩ := h
  cases (show u = Value.ref a from rx)
  obtain ⟨mA, O, _⟩ := ins_get I.hok ha
  obtain ⟨od, J, _⟩ := O.look
  obtain ⟨m, hF⟩ := I.fr
  obtain ⟨Pz, Z, pz, _⟩ := kit_of I ry ty
  show wpAny _ _ (richCompare .Eq (.ref a) v) _ _ _
  refine PySem.W.cmp_K (op := .Eq) (tb := t) (Nat.lt_of_le_of_lt (Nat.le_add_right _ _) hr.units) hF I.ok.mod.kin J (Z.ty _ _ I.kIn pz) nf hs hf ?_
  have ran := F.raw hb .nil X.A X.stack s H [.ref a, v] [.ref a, y] _ _ hr I.env0 (.cons rfl (.cons ry .nil)) (by exact q)
  refine wpAny_call (codeAny_mono ran fun r s' told => ?_)
  match r, told with
  | .error e, told => exact (show False from told).elim
  | .ok (.ret u), told =>
    obtain ⟨z, H', I', rz, j, ej, qz⟩ := I.after told
    subst ej
    cases (show u = Value.bool j from rz)
    exact ⟨.bl j, H', I', rfl, qz⟩
  | .ok .next, told => exact told.elim
  | .ok .brk, told => exact told.elim
  | .ok .cont, told => exact told.elim
end
def noRef (T : String) : Bool := match PySem.fastBuiltinMro T with
  | some l => l.all fun v => match v with | .type _ => true | _ => false
  | none => false
theorem sub_ref {K : PySem.W.Frag} {T : String} {C : Addr} (h : noRef T = true) : PySem.W.subIn K (.type T) (.ref C) = some false := by
  unfold noRef at h
  show (PySem.fastBuiltinMro T).map (·.contains (Value.ref C)) = some false
  cases e : PySem.fastBuiltinMro T with
  | none =>
    rw [e] at h
    cases h
  | some l =>
    rw [e] at h
    simp only [Option.map_some]
    congr 1
    rw [List.all_eq_true] at h
    rw [← Bool.not_eq_true]
    intro z
    have hm := List.contains_iff_mem.mp z
    have := h _ hm
    cases this
theorem kit_rev {K : PySem.W.Frag} {T : String} {C : Addr} (cl : Cls K C) (tt : PySem.W.typeIn K (.ref C) = some (.type "type")) (h : noRef T = true) : PySem.W.kitOne K (.type T) (.ref C) = some false := by
  obtain ⟨cd, hc, _⟩ := PySem.W.any_some cl.hd
  unfold PySem.W.kitOne
  rw [if_neg (by intro z; cases eq_of_beq z)]
  show (if ((PySem.W.clsIn K C).isSome && PySem.W.typeIn K (.ref C) == some (.type "type")) = true then PySem.W.subIn K (.type T) (.ref C) else none) = some false
  rw [if_pos (by rw [hc, tt] <;> rfl)]
  exact sub_ref h
theorem first_rev {K : PySem.W.Frag} {T : String} {C : Addr} (h : noRef T = true) : PySem.W.notFirst K C (.type T) = true := by
  unfold PySem.W.notFirst
  rw [sub_ref h]
  simp
theorem first_self {K : PySem.W.Frag} {C : Addr} : PySem.W.notFirst K C (.ref C) = true := by
  unfold PySem.W.notFirst
  simp
end GP

/-! set(xs), xs a tuple of ints. -/
namespace GTi
open PySem PySem.Spec PyProof.Rows PySem.Calls L2 Builtin
section
variable {P : Program} {w : World} {A : Around} {E : Value → Shared → Prop} {s : Shared}
abbrev bareSet (w : World) : Obj := { cls := .type "set", dict := none, data := .set #[] 0 (.fresh 0 0 (!w.params.followText "set-order")) }
set_option maxHeartbeats 8000000 in
theorem set_of_tints {l : Addr} {items : Array Value} (ns : List Int) {Q : Value → Shared → Prop} (calm : A.handled = none) (isl : s.heap.IsTuple l items) (are : IntsAre items.toList ns) (few : ns.length + 1 < scanBound)
    (k : ∀ (h' : Heap) (tk c : Nat), SetR w h' s.heap.objs.size (fun j => decide (j ∈ ns)) c → c ≤ ns.length → (∀ b o, s.heap.get? b = some o → h'.get? b = some o) → Q (.ref s.heap.objs.size) { s with heap := h', toks := tk }) :
    wpAny (model P w) A (call (.type "set") [.ref l]) Q E s := by
  have many : items.size = ns.length := by simpa using are.length
  obtain ⟨mc, mtl, hmro⟩ := F.called_set.mro
  have a1 := F.called_set.made
  have a2 := F.called_set.sub
  have a3 := F.called_set.notType
  have a4 := F.called_set.canCreate
  have a5 := F.typeCall_set_1 (.ref l)
  refine wpAny_call (codeAny_of_tree (show wpAny _ _ (callAny (.type "set") _) _ _ _ from wpAny_pure ⟨Code.quiet_builtin _ (by decide +kernel), codeAny_builtin F.entry_type_call ?_⟩))
  rw [Around.under_plain (weight_type_call_type "set" [.ref l] []) rfl]
  repeat (any_goals (first | assumption | wp_step))
  refine codeAny_mono (code_set_led1 (.ref l) (E := E) (Q₁ := fun obj s₁ => obj = .ref s.heap.objs.size ∧ s₁ = { s with heap := s.heap.push (bareSet w) }) ⟨rfl, rfl⟩) fun r s₁ made => ?_
  match r, made with
  | .error e, made => exact made
  | .ok .next, made => exact made.elim
  | .ok .brk, made => exact made.elim
  | .ok .cont, made => exact made.elim
  | .ok (.ret obj), made =>
    obtain ⟨rfl, rfl⟩ := made
    have at_ : (s.heap.push (bareSet w)).get? s.heap.objs.size = some (bareSet w) := Heap.get?_push_size _ rfl
    have ty : Shared.TypeIs { s with heap := s.heap.push (bareSet w) } (.ref s.heap.objs.size) "set" := ⟨_, at_, rfl⟩
    have b1 := F.called_set.init.lookup
    have b2 := F.called_set.init.bind (.ref s.heap.objs.size)
    repeat (any_goals (first | assumption | wp_step))
    refine codeAny_mono (codeAny_call_builtin (R := wants (fun r s₂ => r = .none ∧ ∃ h' tk c, s₂ = { s with heap := h', toks := tk } ∧ SetR w h' s.heap.objs.size (fun j => decide (j ∈ ns)) c ∧ c ≤ ns.length ∧ (∀ b o, s.heap.get? b = some o → h'.get? b = some o)) E)
      F.called_set.init.plain F.entry_set_init (check_set_init_1 ty ?_)) fun r₂ s₂ done => ?_
    · obtain ⟨ol, gl, cl, nl, dl⟩ := isl
      obtain ⟨ocls, odict, odata, oslots⟩ := ol
      simp only at cl dl
      subst cl; subst dl
      have gl' : (s.heap.push (bareSet w)).get? l = some { cls := .type "tuple", dict := odict, data := .seq items nl, slots := oslots } := Heap.get?_push_of_some _ gl
      have c1 := PySem.F.sub_tuple_set
      have c2 := PySem.F.sub_tuple_frozenset
      have c3 : (Value.type "tuple" == Value.type "dict") = false := by decide
      have isl' : (s.heap.push (bareSet w)).IsTuple l items := ⟨_, gl', rfl, nl, rfl⟩
      unfold Builtin.«set.__init__» noKeywords Builtin.Frozenset.updateFrom
      generalize hPI : pyIter = PI
      wp_walk
      subst hPI
      refine wpAny_pyIter_tuple isl' (wpAny_bind (wpAny_runValue ?_))
      have lt := Heap.lt_size gl
      have sz : (s.heap.push (bareSet w)).objs.size = s.heap.objs.size + 1 := Heap.size_push ..
      have apart : l ≠ (s.heap.push (bareSet w)).objs.size := by rw [sz]; exact Nat.ne_of_lt (Nat.lt_succ_of_lt lt)
      have quiet : A.in1.in1.in1.handled = none := by simp [calm]
      have each : ∀ (i : Nat) (v : Value), items[i]? = some v → ∃ z t, ns[i]? = some z ∧ v = .int z t := fun i v hv => by
        have lt' : i < ns.length := many ▸ (Array.getElem?_eq_some_iff.mp hv).1
        obtain ⟨t, e⟩ := IntsAre.int_at are i v (by rw [Array.getElem?_toList]; exact hv)
        exact ⟨ns[i], t, List.getElem?_eq_getElem lt', by rw [e, List.getD_eq_getElem?_getD, List.getElem?_eq_getElem lt'] <;> rfl⟩
      refine set_update_ints ((Walks.tuple quiet _ l apart items).toS) s.heap.objs.size (by simp only [List.mem_cons, List.not_mem_nil, or_false, not_or]; rw [sz]; exact ⟨Nat.ne_of_lt (Nat.lt_succ_self _), Nat.ne_of_gt lt⟩) ns many few each (items.size - 0) 0 _ (by omega) (Nat.zero_le _)
        ⟨⟨_, Heap.get?_push_size _ rfl, rfl, rfl⟩, isl'.push _⟩ ⟨0, Nat.le_refl 0, setR_new_at (Heap.get?_push_of_some _ at_)⟩ fun s' c' moved le is => ?_
      obtain ⟨h', g2, d', tk', os'⟩ := s'
      cases (show g2 = s.gens from moved.gens)
      cases (show d' = s.drawn from moved.drawn)
      cases (show os' = s.os from moved.os)
      show wpAny _ _ _ _ _ _
      refine wpAny_pure (show wpAny _ _ (ret Value.none) _ _ _ from wpAny_pure ⟨rfl, h', tk', c', rfl, is, many ▸ le, fun b o e => ?_⟩)
      have lb := Heap.lt_size e
      exact moved.heap b o (by simp only [List.mem_cons, List.not_mem_nil, or_false, not_or]; rw [sz]; exact ⟨Nat.ne_of_lt lb, Nat.ne_of_lt (Nat.lt_succ_of_lt lb)⟩) (Heap.get?_push_of_some _ (Heap.get?_push_of_some _ e))
    · match r₂, done with
      | .error e, done => exact done
      | .ok .next, done => exact done.elim
      | .ok .brk, done => exact done.elim
      | .ok .cont, done => exact done.elim
      | .ok (.ret r), done =>
        obtain ⟨rfl, h', tk, c', rfl, is, le, kept⟩ := done
        repeat (any_goals (first | assumption | wp_step))
        exact k _ _ _ is le kept
end
section
variable {X : Cx}
/-- set(xs), xs a tuple of ints -/
def rSetTI (K : PySem.W.Frag) (w : World) : List V → Hp → VK → Prop := fun xs H Q => ∃ (l : Addr) (ns : List Int), xs = [.ref l] ∧ SqT K H l (ns.map V.int) ∧ ns.length ≤ 4000 ∧ ∀ (p : Addr) (c : Nat), H p = none → c ≤ ns.length → Q (.ref p) (upd H p (SetO w p (fun j => decide (j ∈ ns)) c))
theorem cr_setTI (hc : X.calm = true) : CallR X (.type "set") (rSetTI X.K X.w) := by
  intro pins s σ H xs us Q I r h
  obtain ⟨l, ns, rfl, hl, few, q⟩ := h
  obtain ⟨u, rfl, ru⟩ := vals1 r
  cases (show u = Value.ref l from ru)
  obtain ⟨its, rv, isT, _⟩ := I.tuple hl
  have sz : its.toArray.size = ns.length := by rw [List.size_toArray, ← rv.length, List.length_map]
  refine set_of_tints ns (I.ok.hd hc) isT (by simpa using rv.ints) (by unfold scanBound; omega) fun h' tk c is le kept => ?_
  exact ⟨.ref _, _, I.laid (t' := tk) kept (Nat.le_refl _) (setO_new is), rfl, q _ c (I.hok.fresh (Nat.le_refl _)) le⟩
end
end GTi

namespace KX
open PySem L2
/-! ### the text by places -/
def top (i : Nat) : Stmt := PySem.Challenge.pw_exactbeats_k54_buckets_judged_and_breach.main.body.getD i (.Pass ⟨0, 0, 0, 0⟩)
abbrev s_BadBuckets___init__ : Stmt := inClass (top 5) 0
abbrev N_BadBuckets___init__ : List Str := ["self", "part"]
abbrev P_BadBuckets___init__ : List Str := ["self", "part"]
theorem sc_BadBuckets___init__ : FnScope N_BadBuckets___init__ P_BadBuckets___init__ (defScope s_BadBuckets___init__) := ⟨rfl, rfl, rfl, by decide +kernel, rfl, by decide +kernel, by decide +kernel⟩
abbrev s_is_integer : Stmt := top 7
abbrev N_is_integer : List Str := ["thing"]
abbrev P_is_integer : List Str := ["thing"]
theorem sc_is_integer : FnScope N_is_integer P_is_integer (defScope s_is_integer) := ⟨rfl, rfl, rfl, by decide +kernel, rfl, by decide +kernel, by decide +kernel⟩
abbrev s_is_integer_from : Stmt := top 8
abbrev N_is_integer_from : List Str := ["least", "greatest", "thing"]
abbrev P_is_integer_from : List Str := ["least", "greatest", "thing"]
theorem sc_is_integer_from : FnScope N_is_integer_from P_is_integer_from (defScope s_is_integer_from) := ⟨rfl, rfl, rfl, by decide +kernel, rfl, by decide +kernel, by decide +kernel⟩
abbrev s_is_number_below : Stmt := top 9
abbrev N_is_number_below : List Str := ["bound", "thing"]
abbrev P_is_number_below : List Str := ["bound", "thing"]
theorem sc_is_number_below : FnScope N_is_number_below P_is_number_below (defScope s_is_number_below) := ⟨rfl, rfl, rfl, by decide +kernel, rfl, by decide +kernel, by decide +kernel⟩
abbrev s_is_tuple_of : Stmt := top 10
abbrev N_is_tuple_of : List Str := ["many", "thing"]
abbrev P_is_tuple_of : List Str := ["many", "thing"]
theorem sc_is_tuple_of : FnScope N_is_tuple_of P_is_tuple_of (defScope s_is_tuple_of) := ⟨rfl, rfl, rfl, by decide +kernel, rfl, by decide +kernel, by decide +kernel⟩
abbrev s_is_lot_below : Stmt := top 11
abbrev N_is_lot_below : List Str := ["bound", "thing", "last", "item"]
abbrev P_is_lot_below : List Str := ["bound", "thing"]
theorem sc_is_lot_below : FnScope N_is_lot_below P_is_lot_below (defScope s_is_lot_below) := ⟨rfl, rfl, rfl, by decide +kernel, rfl, by decide +kernel, by decide +kernel⟩
abbrev s_is_bucket : Stmt := top 19
abbrev N_is_bucket : List Str := ["bottom", "thing", "burst", "top", "kind"]
abbrev P_is_bucket : List Str := ["bottom", "thing"]
theorem sc_is_bucket : FnScope N_is_bucket P_is_bucket (defScope s_is_bucket) := ⟨rfl, rfl, rfl, by decide +kernel, rfl, by decide +kernel, by decide +kernel⟩
abbrev s_Buckets___init__ : Stmt := inClass (top 20) 0
abbrev N_Buckets___init__ : List Str := ["self", "bottom", "rows", "line", "row"]
abbrev P_Buckets___init__ : List Str := ["self", "bottom", "rows"]
theorem sc_Buckets___init__ : FnScope N_Buckets___init__ P_Buckets___init__ (defScope s_Buckets___init__) := ⟨rfl, rfl, rfl, by decide +kernel, rfl, by decide +kernel, by decide +kernel⟩
abbrev s_Buckets___eq__ : Stmt := inClass (top 20) 1
abbrev N_Buckets___eq__ : List Str := ["self", "other"]
abbrev P_Buckets___eq__ : List Str := ["self", "other"]
theorem sc_Buckets___eq__ : FnScope N_Buckets___eq__ P_Buckets___eq__ (defScope s_Buckets___eq__) := ⟨rfl, rfl, rfl, by decide +kernel, rfl, by decide +kernel, by decide +kernel⟩
abbrev s_check_line : Stmt := top 21
abbrev N_check_line : List Str := ["buckets", "line"]
abbrev P_check_line : List Str := ["buckets", "line"]
theorem sc_check_line : FnScope N_check_line P_check_line (defScope s_check_line) := ⟨rfl, rfl, rfl, by decide +kernel, rfl, by decide +kernel, by decide +kernel⟩
abbrev s_check_number : Stmt := top 22
abbrev N_check_number : List Str := ["thing"]
abbrev P_check_number : List Str := ["thing"]
theorem sc_check_number : FnScope N_check_number P_check_number (defScope s_check_number) := ⟨rfl, rfl, rfl, by decide +kernel, rfl, by decide +kernel, by decide +kernel⟩
abbrev s_most_of : Stmt := top 23
abbrev N_most_of : List Str := ["bottom", "row", "beats", "burst", "top", "_"]
abbrev P_most_of : List Str := ["bottom", "row", "beats"]
theorem sc_most_of : FnScope N_most_of P_most_of (defScope s_most_of) := ⟨rfl, rfl, rfl, by decide +kernel, rfl, by decide +kernel, by decide +kernel⟩
abbrev s_most_sent : Stmt := top 24
abbrev N_most_sent : List Str := ["buckets", "line", "beats"]
abbrev P_most_sent : List Str := ["buckets", "line", "beats"]
theorem sc_most_sent : FnScope N_most_sent P_most_sent (defScope s_most_sent) := ⟨rfl, rfl, rfl, by decide +kernel, rfl, by decide +kernel, by decide +kernel⟩
abbrev s_check_stream : Stmt := top 25
abbrev N_check_stream : List Str := ["buckets", "stream", "lot"]
abbrev P_check_stream : List Str := ["buckets", "stream"]
theorem sc_check_stream : FnScope N_check_stream P_check_stream (defScope s_check_stream) := ⟨rfl, rfl, rfl, by decide +kernel, rfl, by decide +kernel, by decide +kernel⟩
abbrev s_first_beginning : Stmt := top 26
abbrev N_first_beginning : List Str := ["buckets", "stream", "line", "end", "beginning", "sent"]
abbrev P_first_beginning : List Str := ["buckets", "stream", "line", "end"]
theorem sc_first_beginning : FnScope N_first_beginning P_first_beginning (defScope s_first_beginning) := ⟨rfl, rfl, rfl, by decide +kernel, rfl, by decide +kernel, by decide +kernel⟩
abbrev s_Gauge___init__ : Stmt := inClass (top 27) 0
abbrev N_Gauge___init__ : List Str := ["self", "bottom", "row"]
abbrev P_Gauge___init__ : List Str := ["self", "bottom", "row"]
theorem sc_Gauge___init__ : FnScope N_Gauge___init__ P_Gauge___init__ (defScope s_Gauge___init__) := ⟨rfl, rfl, rfl, by decide +kernel, rfl, by decide +kernel, by decide +kernel⟩
abbrev s_Gauge_overflows : Stmt := inClass (top 27) 1
abbrev N_Gauge_overflows : List Str := ["self", "sent", "burst", "top", "_"]
abbrev P_Gauge_overflows : List Str := ["self", "sent"]
theorem sc_Gauge_overflows : FnScope N_Gauge_overflows P_Gauge_overflows (defScope s_Gauge_overflows) := ⟨rfl, rfl, rfl, by decide +kernel, rfl, by decide +kernel, by decide +kernel⟩
abbrev s_breach : Stmt := top 28
abbrev N_breach : List Str := ["buckets", "stream", "gauges", "beat", "lot", "line", "gauge", "row"]
abbrev P_breach : List Str := ["buckets", "stream"]
theorem sc_breach : FnScope N_breach P_breach (defScope s_breach) := ⟨rfl, rfl, rfl, by decide +kernel, rfl, by decide +kernel, by decide +kernel⟩
abbrev s_law_hand : Stmt := top 30
abbrev N_law_hand : List Str := ["_law_script", "_law_cells", "_law_cell"]
abbrev P_law_hand : List Str := ["_law_script"]
theorem sc_law_hand : FnScope N_law_hand P_law_hand (defScope s_law_hand) := ⟨rfl, rfl, rfl, by decide +kernel, rfl, by decide +kernel, by decide +kernel⟩
abbrev s_law_draw : Stmt := top 31
abbrev N_law_draw : List Str := ["_law_hand_here", "_law_many", "_law_cell", "_law_digit", "_law_number"]
abbrev P_law_draw : List Str := ["_law_hand_here", "_law_many"]
theorem sc_law_draw : FnScope N_law_draw P_law_draw (defScope s_law_draw) := ⟨rfl, rfl, rfl, by decide +kernel, rfl, by decide +kernel, by decide +kernel⟩
abbrev s_law_pick : Stmt := top 32
abbrev N_law_pick : List Str := ["_law_hand_here", "_law_things"]
abbrev P_law_pick : List Str := ["_law_hand_here", "_law_things"]
theorem sc_law_pick : FnScope N_law_pick P_law_pick (defScope s_law_pick) := ⟨rfl, rfl, rfl, by decide +kernel, rfl, by decide +kernel, by decide +kernel⟩
abbrev s_law_same : Stmt := top 33
abbrev N_law_same : List Str := ["_law_told_here", "_law_due_here", "_law_one", "_law_two"]
abbrev P_law_same : List Str := ["_law_told_here", "_law_due_here"]
theorem sc_law_same : FnScope N_law_same P_law_same (defScope s_law_same) := ⟨rfl, rfl, rfl, by decide +kernel, rfl, by decide +kernel, by decide +kernel⟩
abbrev s_law_rows : Stmt := top 34
abbrev N_law_rows : List Str := ["_law_hand_here", "_law_many", "_law_bottom", "_law_burst", "_law_share", "_law_found", "_law_left", "_law_line", "_law_top"]
abbrev P_law_rows : List Str := ["_law_hand_here", "_law_many", "_law_bottom", "_law_burst", "_law_share"]
theorem sc_law_rows : FnScope N_law_rows P_law_rows (defScope s_law_rows) := ⟨rfl, rfl, rfl, by decide +kernel, rfl, by decide +kernel, by decide +kernel⟩
abbrev s_law_sent : Stmt := top 35
abbrev N_law_sent : List Str := ["_law_row", "_law_bottom", "_law_beats"]
abbrev P_law_sent : List Str := ["_law_row", "_law_bottom", "_law_beats"]
theorem sc_law_sent : FnScope N_law_sent P_law_sent (defScope s_law_sent) := ⟨rfl, rfl, rfl, by decide +kernel, rfl, by decide +kernel, by decide +kernel⟩
abbrev s_law_is_int : Stmt := top 36
abbrev N_law_is_int : List Str := ["_law_thing", "_law_least", "_law_most"]
abbrev P_law_is_int : List Str := ["_law_thing", "_law_least", "_law_most"]
theorem sc_law_is_int : FnScope N_law_is_int P_law_is_int (defScope s_law_is_int) := ⟨rfl, rfl, rfl, by decide +kernel, rfl, by decide +kernel, by decide +kernel⟩
abbrev s_law_deep : Stmt := top 37
abbrev N_law_deep : List Str := ["_law_hand_here", "_law_found", "_law_turn"]
abbrev P_law_deep : List Str := ["_law_hand_here"]
theorem sc_law_deep : FnScope N_law_deep P_law_deep (defScope s_law_deep) := ⟨rfl, rfl, rfl, by decide +kernel, rfl, by decide +kernel, by decide +kernel⟩
abbrev s_law_stream : Stmt := top 38
abbrev N_law_stream : List Str := ["_law_hand_here", "_law_many", "_law_beats", "_law_share", "_law_found", "_law_beat", "_law_line"]
abbrev P_law_stream : List Str := ["_law_hand_here", "_law_many", "_law_beats"]
theorem sc_law_stream : FnScope N_law_stream P_law_stream (defScope s_law_stream) := ⟨rfl, rfl, rfl, by decide +kernel, rfl, by decide +kernel, by decide +kernel⟩
abbrev s_law_thinned : Stmt := top 39
abbrev N_law_thinned : List Str := ["_law_rows_here", "_law_bottom", "_law_stream_here", "_law_came", "_law_found", "_law_beat", "_law_lot", "_law_some", "_law_line", "_law_later", "_law_is_let", "_law_at", "_law_begin", "_law_row"]
abbrev P_law_thinned : List Str := ["_law_rows_here", "_law_bottom", "_law_stream_here"]
theorem sc_law_thinned : FnScope N_law_thinned P_law_thinned (defScope s_law_thinned) := ⟨rfl, rfl, rfl, by decide +kernel, rfl, by decide +kernel, by decide +kernel⟩
abbrev s_law_breach : Stmt := top 40
abbrev N_law_breach : List Str := ["_law_rows_here", "_law_bottom", "_law_stream_here", "_law_to", "_law_line", "_law_row", "_law_many", "_law_begin"]
abbrev P_law_breach : List Str := ["_law_rows_here", "_law_bottom", "_law_stream_here"]
theorem sc_law_breach : FnScope N_law_breach P_law_breach (defScope s_law_breach) := ⟨rfl, rfl, rfl, by decide +kernel, rfl, by decide +kernel, by decide +kernel⟩
abbrev s_law_is_row : Stmt := top 41
abbrev N_law_is_row : List Str := ["_law_bottom", "_law_thing"]
abbrev P_law_is_row : List Str := ["_law_bottom", "_law_thing"]
theorem sc_law_is_row : FnScope N_law_is_row P_law_is_row (defScope s_law_is_row) := ⟨rfl, rfl, rfl, by decide +kernel, rfl, by decide +kernel, by decide +kernel⟩
abbrev s_law_due : Stmt := top 42
abbrev N_law_due : List Str := ["_law_bottom", "_law_rows_here", "_law_line", "_law_row"]
abbrev P_law_due : List Str := ["_law_bottom", "_law_rows_here"]
theorem sc_law_due : FnScope N_law_due P_law_due (defScope s_law_due) := ⟨rfl, rfl, rfl, by decide +kernel, rfl, by decide +kernel, by decide +kernel⟩
abbrev s_law_told : Stmt := top 43
abbrev N_law_told : List Str := ["_law_bottom", "_law_rows_here", "_law_found", "e"]
abbrev P_law_told : List Str := ["_law_bottom", "_law_rows_here"]
theorem sc_law_told : FnScope N_law_told P_law_told (defScope s_law_told) := ⟨rfl, rfl, rfl, by decide +kernel, rfl, by decide +kernel, by decide +kernel⟩
abbrev s_law_odd_rows : Stmt := top 44
abbrev N_law_odd_rows : List Str := ["_law_hand_here", "_law_bottom", "_law_rows_here", "_law_at", "_law_row", "_law_side", "_law_part", "_law_more", "_law_some"]
abbrev P_law_odd_rows : List Str := ["_law_hand_here", "_law_bottom", "_law_rows_here"]
theorem sc_law_odd_rows : FnScope N_law_odd_rows P_law_odd_rows (defScope s_law_odd_rows) := ⟨rfl, rfl, rfl, by decide +kernel, rfl, by decide +kernel, by decide +kernel⟩
abbrev s_law_judged_right : Stmt := top 45
abbrev N_law_judged_right : List Str := ["_law_hand_here", "_law_bottom", "_law_rows_here", "_law_odd", "_law_some", "_law_part", "_law_told_here"]
abbrev P_law_judged_right : List Str := ["_law_hand_here", "_law_bottom", "_law_rows_here"]
theorem sc_law_judged_right : FnScope N_law_judged_right P_law_judged_right (defScope s_law_judged_right) := ⟨rfl, rfl, rfl, by decide +kernel, rfl, by decide +kernel, by decide +kernel⟩
abbrev s_law_long_right : Stmt := top 46
abbrev N_law_long_right : List Str := ["_law_hand_here", "_law_bottom", "_law_rows_here", "_law_beats", "_law_stream_here", "_law_beat", "_law_sends", "_law_rests"]
abbrev P_law_long_right : List Str := ["_law_hand_here"]
theorem sc_law_long_right : FnScope N_law_long_right P_law_long_right (defScope s_law_long_right) := ⟨rfl, rfl, rfl, by decide +kernel, rfl, by decide +kernel, by decide +kernel⟩
abbrev s_law : Stmt := top 47
abbrev N_law : List Str := ["_law_script", "_law_hand_here", "_law_turn", "_law_bottom", "_law_rows_here", "_law_part", "_law_buckets", "_law_line", "_law_beats", "_law_stream_here", "_law_again", "_law_more", "_law_change", "_law_at"]
abbrev P_law : List Str := ["_law_script"]
theorem sc_law : FnScope N_law P_law (defScope s_law) := ⟨rfl, rfl, rfl, by decide +kernel, rfl, by decide +kernel, by decide +kernel⟩
/-! ### what the top has left -/
structure Adr where
  a_BadBuckets___init__ : Addr
  d_BadBuckets___init__ : FuncData
  a_is_integer : Addr
  d_is_integer : FuncData
  a_is_integer_from : Addr
  d_is_integer_from : FuncData
  a_is_number_below : Addr
  d_is_number_below : FuncData
  a_is_tuple_of : Addr
  d_is_tuple_of : FuncData
  a_is_lot_below : Addr
  d_is_lot_below : FuncData
  a_is_bucket : Addr
  d_is_bucket : FuncData
  a_Buckets___init__ : Addr
  d_Buckets___init__ : FuncData
  a_Buckets___eq__ : Addr
  d_Buckets___eq__ : FuncData
  a_check_line : Addr
  d_check_line : FuncData
  a_check_number : Addr
  d_check_number : FuncData
  a_most_of : Addr
  d_most_of : FuncData
  a_most_sent : Addr
  d_most_sent : FuncData
  a_check_stream : Addr
  d_check_stream : FuncData
  a_first_beginning : Addr
  d_first_beginning : FuncData
  a_Gauge___init__ : Addr
  d_Gauge___init__ : FuncData
  a_Gauge_overflows : Addr
  d_Gauge_overflows : FuncData
  a_breach : Addr
  d_breach : FuncData
  a_law_hand : Addr
  d_law_hand : FuncData
  a_law_draw : Addr
  d_law_draw : FuncData
  a_law_pick : Addr
  d_law_pick : FuncData
  a_law_same : Addr
  d_law_same : FuncData
  a_law_rows : Addr
  d_law_rows : FuncData
  a_law_sent : Addr
  d_law_sent : FuncData
  a_law_is_int : Addr
  d_law_is_int : FuncData
  a_law_deep : Addr
  d_law_deep : FuncData
  a_law_stream : Addr
  d_law_stream : FuncData
  a_law_thinned : Addr
  d_law_thinned : FuncData
  a_law_breach : Addr
  d_law_breach : FuncData
  a_law_is_row : Addr
  d_law_is_row : FuncData
  a_law_due : Addr
  d_law_due : FuncData
  a_law_told : Addr
  d_law_told : FuncData
  a_law_odd_rows : Addr
  d_law_odd_rows : FuncData
  a_law_judged_right : Addr
  d_law_judged_right : FuncData
  a_law_long_right : Addr
  d_law_long_right : FuncData
  a_law : Addr
  d_law : FuncData
  c_Buckets : Addr
  c_Gauge : Addr
  c_BadBuckets : Addr
structure Top (K : PySem.W.Frag) (mg : Str → Option Value) (A : Adr) : Prop where
  F_BadBuckets___init__ : Fun K "__init__" "BadBuckets.__init__" s_BadBuckets___init__ A.a_BadBuckets___init__ A.d_BadBuckets___init__
  b_BadBuckets___init__ : Binds K A.d_BadBuckets___init__ P_BadBuckets___init__ []
  F_is_integer : Fun K "is_integer" "is_integer" s_is_integer A.a_is_integer A.d_is_integer
  g_is_integer : mg "is_integer" = some (.ref A.a_is_integer)
  b_is_integer : Binds K A.d_is_integer P_is_integer []
  F_is_integer_from : Fun K "is_integer_from" "is_integer_from" s_is_integer_from A.a_is_integer_from A.d_is_integer_from
  g_is_integer_from : mg "is_integer_from" = some (.ref A.a_is_integer_from)
  b_is_integer_from : Binds K A.d_is_integer_from P_is_integer_from []
  F_is_number_below : Fun K "is_number_below" "is_number_below" s_is_number_below A.a_is_number_below A.d_is_number_below
  g_is_number_below : mg "is_number_below" = some (.ref A.a_is_number_below)
  b_is_number_below : Binds K A.d_is_number_below P_is_number_below []
  F_is_tuple_of : Fun K "is_tuple_of" "is_tuple_of" s_is_tuple_of A.a_is_tuple_of A.d_is_tuple_of
  g_is_tuple_of : mg "is_tuple_of" = some (.ref A.a_is_tuple_of)
  b_is_tuple_of : Binds K A.d_is_tuple_of P_is_tuple_of []
  F_is_lot_below : Fun K "is_lot_below" "is_lot_below" s_is_lot_below A.a_is_lot_below A.d_is_lot_below
  g_is_lot_below : mg "is_lot_below" = some (.ref A.a_is_lot_below)
  b_is_lot_below : Binds K A.d_is_lot_below P_is_lot_below []
  F_is_bucket : Fun K "is_bucket" "is_bucket" s_is_bucket A.a_is_bucket A.d_is_bucket
  g_is_bucket : mg "is_bucket" = some (.ref A.a_is_bucket)
  b_is_bucket : Binds K A.d_is_bucket P_is_bucket []
  F_Buckets___init__ : Fun K "__init__" "Buckets.__init__" s_Buckets___init__ A.a_Buckets___init__ A.d_Buckets___init__
  b_Buckets___init__ : Binds K A.d_Buckets___init__ P_Buckets___init__ []
  F_Buckets___eq__ : Fun K "__eq__" "Buckets.__eq__" s_Buckets___eq__ A.a_Buckets___eq__ A.d_Buckets___eq__
  b_Buckets___eq__ : Binds K A.d_Buckets___eq__ P_Buckets___eq__ []
  F_check_line : Fun K "check_line" "check_line" s_check_line A.a_check_line A.d_check_line
  g_check_line : mg "check_line" = some (.ref A.a_check_line)
  b_check_line : Binds K A.d_check_line P_check_line []
  F_check_number : Fun K "check_number" "check_number" s_check_number A.a_check_number A.d_check_number
  g_check_number : mg "check_number" = some (.ref A.a_check_number)
  b_check_number : Binds K A.d_check_number P_check_number []
  F_most_of : Fun K "most_of" "most_of" s_most_of A.a_most_of A.d_most_of
  g_most_of : mg "most_of" = some (.ref A.a_most_of)
  b_most_of : Binds K A.d_most_of P_most_of []
  F_most_sent : Fun K "most_sent" "most_sent" s_most_sent A.a_most_sent A.d_most_sent
  g_most_sent : mg "most_sent" = some (.ref A.a_most_sent)
  b_most_sent : Binds K A.d_most_sent P_most_sent []
  F_check_stream : Fun K "check_stream" "check_stream" s_check_stream A.a_check_stream A.d_check_stream
  g_check_stream : mg "check_stream" = some (.ref A.a_check_stream)
  b_check_stream : Binds K A.d_check_stream P_check_stream []
  F_first_beginning : Fun K "first_beginning" "first_beginning" s_first_beginning A.a_first_beginning A.d_first_beginning
  g_first_beginning : mg "first_beginning" = some (.ref A.a_first_beginning)
  b_first_beginning : Binds K A.d_first_beginning P_first_beginning []
  F_Gauge___init__ : Fun K "__init__" "Gauge.__init__" s_Gauge___init__ A.a_Gauge___init__ A.d_Gauge___init__
  b_Gauge___init__ : Binds K A.d_Gauge___init__ P_Gauge___init__ []
  F_Gauge_overflows : Fun K "overflows" "Gauge.overflows" s_Gauge_overflows A.a_Gauge_overflows A.d_Gauge_overflows
  b_Gauge_overflows : Binds K A.d_Gauge_overflows P_Gauge_overflows []
  F_breach : Fun K "breach" "breach" s_breach A.a_breach A.d_breach
  g_breach : mg "breach" = some (.ref A.a_breach)
  b_breach : Binds K A.d_breach P_breach []
  F_law_hand : Fun K "_law_hand" "_law_hand" s_law_hand A.a_law_hand A.d_law_hand
  g_law_hand : mg "_law_hand" = some (.ref A.a_law_hand)
  b_law_hand : Binds K A.d_law_hand P_law_hand []
  F_law_draw : Fun K "_law_draw" "_law_draw" s_law_draw A.a_law_draw A.d_law_draw
  g_law_draw : mg "_law_draw" = some (.ref A.a_law_draw)
  b_law_draw : Binds K A.d_law_draw P_law_draw []
  F_law_pick : Fun K "_law_pick" "_law_pick" s_law_pick A.a_law_pick A.d_law_pick
  g_law_pick : mg "_law_pick" = some (.ref A.a_law_pick)
  b_law_pick : Binds K A.d_law_pick P_law_pick []
  F_law_same : Fun K "_law_same" "_law_same" s_law_same A.a_law_same A.d_law_same
  g_law_same : mg "_law_same" = some (.ref A.a_law_same)
  b_law_same : Binds K A.d_law_same P_law_same []
  F_law_rows : Fun K "_law_rows" "_law_rows" s_law_rows A.a_law_rows A.d_law_rows
  g_law_rows : mg "_law_rows" = some (.ref A.a_law_rows)
  b_law_rows : Binds K A.d_law_rows P_law_rows []
  F_law_sent : Fun K "_law_sent" "_law_sent" s_law_sent A.a_law_sent A.d_law_sent
  g_law_sent : mg "_law_sent" = some (.ref A.a_law_sent)
  b_law_sent : Binds K A.d_law_sent P_law_sent []
  F_law_is_int : Fun K "_law_is_int" "_law_is_int" s_law_is_int A.a_law_is_int A.d_law_is_int
  g_law_is_int : mg "_law_is_int" = some (.ref A.a_law_is_int)
  b_law_is_int : Binds K A.d_law_is_int P_law_is_int []
  F_law_deep : Fun K "_law_deep" "_law_deep" s_law_deep A.a_law_deep A.d_law_deep
  g_law_deep : mg "_law_deep" = some (.ref A.a_law_deep)
  b_law_deep : Binds K A.d_law_deep P_law_deep []
  F_law_stream : Fun K "_law_stream" "_law_stream" s_law_stream A.a_law_stream A.d_law_stream
  g_law_stream : mg "_law_stream" = some (.ref A.a_law_stream)
  b_law_stream : Binds K A.d_law_stream P_law_stream []
  F_law_thinned : Fun K "_law_thinned" "_law_thinned" s_law_thinned A.a_law_thinned A.d_law_thinned
  g_law_thinned : mg "_law_thinned" = some (.ref A.a_law_thinned)
  b_law_thinned : Binds K A.d_law_thinned P_law_thinned []
  F_law_breach : Fun K "_law_breach" "_law_breach" s_law_breach A.a_law_breach A.d_law_breach
  g_law_breach : mg "_law_breach" = some (.ref A.a_law_breach)
  b_law_breach : Binds K A.d_law_breach P_law_breach []
  F_law_is_row : Fun K "_law_is_row" "_law_is_row" s_law_is_row A.a_law_is_row A.d_law_is_row
  g_law_is_row : mg "_law_is_row" = some (.ref A.a_law_is_row)
  b_law_is_row : Binds K A.d_law_is_row P_law_is_row []
  F_law_due : Fun K "_law_due" "_law_due" s_law_due A.a_law_due A.d_law_due
  g_law_due : mg "_law_due" = some (.ref A.a_law_due)
  b_law_due : Binds K A.d_law_due P_law_due []
  F_law_told : Fun K "_law_told" "_law_told" s_law_told A.a_law_told A.d_law_told
  g_law_told : mg "_law_told" = some (.ref A.a_law_told)
  b_law_told : Binds K A.d_law_told P_law_told []
  F_law_odd_rows : Fun K "_law_odd_rows" "_law_odd_rows" s_law_odd_rows A.a_law_odd_rows A.d_law_odd_rows
  g_law_odd_rows : mg "_law_odd_rows" = some (.ref A.a_law_odd_rows)
  b_law_odd_rows : Binds K A.d_law_odd_rows P_law_odd_rows []
  F_law_judged_right : Fun K "_law_judged_right" "_law_judged_right" s_law_judged_right A.a_law_judged_right A.d_law_judged_right
  g_law_judged_right : mg "_law_judged_right" = some (.ref A.a_law_judged_right)
  b_law_judged_right : Binds K A.d_law_judged_right P_law_judged_right []
  F_law_long_right : Fun K "_law_long_right" "_law_long_right" s_law_long_right A.a_law_long_right A.d_law_long_right
  g_law_long_right : mg "_law_long_right" = some (.ref A.a_law_long_right)
  b_law_long_right : Binds K A.d_law_long_right P_law_long_right []
  F_law : Fun K "law" "law" s_law A.a_law A.d_law
  g_law : mg "law" = some (.ref A.a_law)
  b_law : Binds K A.d_law P_law []
  cl_Buckets : Cls K A.c_Buckets
  gc_Buckets : mg "Buckets" = some (.ref A.c_Buckets)
  mk_Buckets : Mk K A.c_Buckets A.a_Buckets___init__
  m_Buckets___eq__ : Meth K A.c_Buckets "__eq__" A.a_Buckets___eq__
  n_Buckets_bottom : NoAttr K A.c_Buckets "bottom"
  n_Buckets_rows : NoAttr K A.c_Buckets "rows"
  eo_Buckets : GO.EqO K A.c_Buckets A.a_Buckets___eq__
  cl_Gauge : Cls K A.c_Gauge
  gc_Gauge : mg "Gauge" = some (.ref A.c_Gauge)
  mk_Gauge : Mk K A.c_Gauge A.a_Gauge___init__
  m_Gauge_overflows : Meth K A.c_Gauge "overflows" A.a_Gauge_overflows
  n_Gauge_bottom : NoAttr K A.c_Gauge "bottom"
  n_Gauge_row : NoAttr K A.c_Gauge "row"
  n_Gauge_level : NoAttr K A.c_Gauge "level"
  n_Gauge_least : NoAttr K A.c_Gauge "least"
  em_Gauge : PySem.W.mroIn K A.c_Gauge (.type "object") = some true
  es_Gauge : PySem.W.findIn K (.ref A.c_Gauge) "__eq__" = some (some (.builtin "object.__eq__"))
  gc_BadBuckets : mg "BadBuckets" = some (.ref A.c_BadBuckets)
  ox_BadBuckets : L2.OexC K A.c_BadBuckets
  xi_BadBuckets : PySem.W.findIn K (.ref A.c_BadBuckets) "__init__" = some (some (.ref A.a_BadBuckets___init__))
  xt_BadBuckets : PySem.W.typeIn K (.ref A.a_BadBuckets___init__) = some (.type "function")
  nf_BadBuckets_part : PySem.W.findIn K (.ref A.c_BadBuckets) "part" = some none
  kp_BadBuckets : PySem.W.keepIn K (.ref A.c_BadBuckets) = true
  s_BadBuckets : PySem.W.subIn K (.ref A.c_BadBuckets) (.type "BaseException") = some true
  t_BadBuckets : PySem.W.typeIn K (.ref A.c_BadBuckets) = some (.type "type")
  e1_BadBuckets : PySem.W.findIn K (.ref A.c_BadBuckets) "__getattribute__" = some (some (.builtin "BaseException.__getattribute__"))
  e2_BadBuckets : PySem.W.findIn K (.ref A.c_BadBuckets) "__getattr__" = some none
  e3_BadBuckets : PySem.W.hasDictIn K A.c_BadBuckets = true
  e4_BadBuckets : PySem.W.findIn K (.ref A.c_BadBuckets) "__class__" = some (some (.builtin "object.__class__"))
  e5_BadBuckets : PySem.W.mroIn K A.c_BadBuckets (.type "object") = some true
  ki_Buckets_int : PySem.W.kitOne K (.ref A.c_Buckets) (.type "int") = some false
  ki_Buckets_bool : PySem.W.kitOne K (.ref A.c_Buckets) (.type "bool") = some false
  ki_Buckets_tuple : PySem.W.kitOne K (.ref A.c_Buckets) (.type "tuple") = some false
  tt_Buckets : PySem.W.typeIn K (.ref A.c_Buckets) = some (.type "type")
  ci_Buckets : PySem.W.findIn K (.ref A.c_Buckets) "__class__" = some (some (.builtin "object.__class__"))
  em_Buckets : PySem.W.mroIn K A.c_Buckets (.type "object") = some true
  ki_Gauge_int : PySem.W.kitOne K (.ref A.c_Gauge) (.type "int") = some false
  ki_Gauge_bool : PySem.W.kitOne K (.ref A.c_Gauge) (.type "bool") = some false
  ki_Gauge_tuple : PySem.W.kitOne K (.ref A.c_Gauge) (.type "tuple") = some false
  tt_Gauge : PySem.W.typeIn K (.ref A.c_Gauge) = some (.type "type")
  ci_Gauge : PySem.W.findIn K (.ref A.c_Gauge) "__class__" = some (some (.builtin "object.__class__"))
  en1 : PySem.W.specialIn K (.builtin "object.__class__") "__get__" = some (some (.builtin "getset_descriptor.__get__"))
  en2 : PySem.W.takesIn K (.builtin "object.__class__") = some true
  kt_BadBuckets_BadBuckets : PySem.W.kitOne K (.ref A.c_BadBuckets) (.ref A.c_BadBuckets) = some true
  xm_BadBuckets_BadBuckets : PySem.W.exmOne K (.ref A.c_BadBuckets) (.ref A.c_BadBuckets) = some true
  k_MOST_LINES : ∃ t, mg "MOST_LINES" = some (.int 12 t)
  k_KINDS : ∃ t, mg "KINDS" = some (.int 8 t)
  k_GREATEST_BOTTOM : ∃ t, mg "GREATEST_BOTTOM" = some (.int 20 t)
  k_GREATEST_BURST : ∃ t, mg "GREATEST_BURST" = some (.int 20 t)
  k_GREATEST_NUMBER : ∃ t, mg "GREATEST_NUMBER" = some (.int 1000000000 t)
  k_MOST_LOTS : ∃ t, mg "MOST_LOTS" = some (.int 6000 t)
  z_abs : mg "abs" = none
  z_all : mg "all" = none
  z_bool : mg "bool" = none
  z_enumerate : mg "enumerate" = none
  z_int : mg "int" = none
  z_isinstance : mg "isinstance" = none
  z_len : mg "len" = none
  z_list : mg "list" = none
  z_max : mg "max" = none
  z_min : mg "min" = none
  z_range : mg "range" = none
  z_set : mg "set" = none
  z_sorted : mg "sorted" = none
  z_tuple : mg "tuple" = none
  z_zip : mg "zip" = none
theorem top_mk {l : PySem.W.OpenLaw} {w : World} {K : PySem.W.Frag} {h : Heap} {mg : Str → Option Value} (X : K.In h) (G : h.Ns mainGlobals mg)
    {f_BadBuckets___init__ : Addr} {od_BadBuckets___init__ an_BadBuckets___init__ : Option Addr} {sl_BadBuckets___init__ : Array (Option Value)} {oc_BadBuckets___init__ kV_BadBuckets___init__ dc_BadBuckets___init__ pm_BadBuckets___init__ cd_BadBuckets___init__ ct_BadBuckets___init__ : Value}
    {f_is_integer : Addr} {od_is_integer an_is_integer : Option Addr} {sl_is_integer : Array (Option Value)} {oc_is_integer kV_is_integer dc_is_integer pm_is_integer cd_is_integer ct_is_integer : Value}
    {f_is_integer_from : Addr} {od_is_integer_from an_is_integer_from : Option Addr} {sl_is_integer_from : Array (Option Value)} {oc_is_integer_from kV_is_integer_from dc_is_integer_from pm_is_integer_from cd_is_integer_from ct_is_integer_from : Value}
    {f_is_number_below : Addr} {od_is_number_below an_is_number_below : Option Addr} {sl_is_number_below : Array (Option Value)} {oc_is_number_below kV_is_number_below dc_is_number_below pm_is_number_below cd_is_number_below ct_is_number_below : Value}
    {f_is_tuple_of : Addr} {od_is_tuple_of an_is_tuple_of : Option Addr} {sl_is_tuple_of : Array (Option Value)} {oc_is_tuple_of kV_is_tuple_of dc_is_tuple_of pm_is_tuple_of cd_is_tuple_of ct_is_tuple_of : Value}
    {f_is_lot_below : Addr} {od_is_lot_below an_is_lot_below : Option Addr} {sl_is_lot_below : Array (Option Value)} {oc_is_lot_below kV_is_lot_below dc_is_lot_below pm_is_lot_below cd_is_lot_below ct_is_lot_below : Value}
    {f_is_bucket : Addr} {od_is_bucket an_is_bucket : Option Addr} {sl_is_bucket : Array (Option Value)} {oc_is_bucket kV_is_bucket dc_is_bucket pm_is_bucket cd_is_bucket ct_is_bucket : Value}
    {f_Buckets___init__ : Addr} {od_Buckets___init__ an_Buckets___init__ : Option Addr} {sl_Buckets___init__ : Array (Option Value)} {oc_Buckets___init__ kV_Buckets___init__ dc_Buckets___init__ pm_Buckets___init__ cd_Buckets___init__ ct_Buckets___init__ : Value}
    {f_Buckets___eq__ : Addr} {od_Buckets___eq__ an_Buckets___eq__ : Option Addr} {sl_Buckets___eq__ : Array (Option Value)} {oc_Buckets___eq__ kV_Buckets___eq__ dc_Buckets___eq__ pm_Buckets___eq__ cd_Buckets___eq__ ct_Buckets___eq__ : Value}
    {f_check_line : Addr} {od_check_line an_check_line : Option Addr} {sl_check_line : Array (Option Value)} {oc_check_line kV_check_line dc_check_line pm_check_line cd_check_line ct_check_line : Value}
    {f_check_number : Addr} {od_check_number an_check_number : Option Addr} {sl_check_number : Array (Option Value)} {oc_check_number kV_check_number dc_check_number pm_check_number cd_check_number ct_check_number : Value}
    {f_most_of : Addr} {od_most_of an_most_of : Option Addr} {sl_most_of : Array (Option Value)} {oc_most_of kV_most_of dc_most_of pm_most_of cd_most_of ct_most_of : Value}
    {f_most_sent : Addr} {od_most_sent an_most_sent : Option Addr} {sl_most_sent : Array (Option Value)} {oc_most_sent kV_most_sent dc_most_sent pm_most_sent cd_most_sent ct_most_sent : Value}
    {f_check_stream : Addr} {od_check_stream an_check_stream : Option Addr} {sl_check_stream : Array (Option Value)} {oc_check_stream kV_check_stream dc_check_stream pm_check_stream cd_check_stream ct_check_stream : Value}
    {f_first_beginning : Addr} {od_first_beginning an_first_beginning : Option Addr} {sl_first_beginning : Array (Option Value)} {oc_first_beginning kV_first_beginning dc_first_beginning pm_first_beginning cd_first_beginning ct_first_beginning : Value}
    {f_Gauge___init__ : Addr} {od_Gauge___init__ an_Gauge___init__ : Option Addr} {sl_Gauge___init__ : Array (Option Value)} {oc_Gauge___init__ kV_Gauge___init__ dc_Gauge___init__ pm_Gauge___init__ cd_Gauge___init__ ct_Gauge___init__ : Value}
    {f_Gauge_overflows : Addr} {od_Gauge_overflows an_Gauge_overflows : Option Addr} {sl_Gauge_overflows : Array (Option Value)} {oc_Gauge_overflows kV_Gauge_overflows dc_Gauge_overflows pm_Gauge_overflows cd_Gauge_overflows ct_Gauge_overflows : Value}
    {f_breach : Addr} {od_breach an_breach : Option Addr} {sl_breach : Array (Option Value)} {oc_breach kV_breach dc_breach pm_breach cd_breach ct_breach : Value}
    {f_law_hand : Addr} {od_law_hand an_law_hand : Option Addr} {sl_law_hand : Array (Option Value)} {oc_law_hand kV_law_hand dc_law_hand pm_law_hand cd_law_hand ct_law_hand : Value}
    {f_law_draw : Addr} {od_law_draw an_law_draw : Option Addr} {sl_law_draw : Array (Option Value)} {oc_law_draw kV_law_draw dc_law_draw pm_law_draw cd_law_draw ct_law_draw : Value}
    {f_law_pick : Addr} {od_law_pick an_law_pick : Option Addr} {sl_law_pick : Array (Option Value)} {oc_law_pick kV_law_pick dc_law_pick pm_law_pick cd_law_pick ct_law_pick : Value}
    {f_law_same : Addr} {od_law_same an_law_same : Option Addr} {sl_law_same : Array (Option Value)} {oc_law_same kV_law_same dc_law_same pm_law_same cd_law_same ct_law_same : Value}
    {f_law_rows : Addr} {od_law_rows an_law_rows : Option Addr} {sl_law_rows : Array (Option Value)} {oc_law_rows kV_law_rows dc_law_rows pm_law_rows cd_law_rows ct_law_rows : Value}
    {f_law_sent : Addr} {od_law_sent an_law_sent : Option Addr} {sl_law_sent : Array (Option Value)} {oc_law_sent kV_law_sent dc_law_sent pm_law_sent cd_law_sent ct_law_sent : Value}
    {f_law_is_int : Addr} {od_law_is_int an_law_is_int : Option Addr} {sl_law_is_int : Array (Option Value)} {oc_law_is_int kV_law_is_int dc_law_is_int pm_law_is_int cd_law_is_int ct_law_is_int : Value}
    {f_law_deep : Addr} {od_law_deep an_law_deep : Option Addr} {sl_law_deep : Array (Option Value)} {oc_law_deep kV_law_deep dc_law_deep pm_law_deep cd_law_deep ct_law_deep : Value}
    {f_law_stream : Addr} {od_law_stream an_law_stream : Option Addr} {sl_law_stream : Array (Option Value)} {oc_law_stream kV_law_stream dc_law_stream pm_law_stream cd_law_stream ct_law_stream : Value}
    {f_law_thinned : Addr} {od_law_thinned an_law_thinned : Option Addr} {sl_law_thinned : Array (Option Value)} {oc_law_thinned kV_law_thinned dc_law_thinned pm_law_thinned cd_law_thinned ct_law_thinned : Value}
    {f_law_breach : Addr} {od_law_breach an_law_breach : Option Addr} {sl_law_breach : Array (Option Value)} {oc_law_breach kV_law_breach dc_law_breach pm_law_breach cd_law_breach ct_law_breach : Value}
    {f_law_is_row : Addr} {od_law_is_row an_law_is_row : Option Addr} {sl_law_is_row : Array (Option Value)} {oc_law_is_row kV_law_is_row dc_law_is_row pm_law_is_row cd_law_is_row ct_law_is_row : Value}
    {f_law_due : Addr} {od_law_due an_law_due : Option Addr} {sl_law_due : Array (Option Value)} {oc_law_due kV_law_due dc_law_due pm_law_due cd_law_due ct_law_due : Value}
    {f_law_told : Addr} {od_law_told an_law_told : Option Addr} {sl_law_told : Array (Option Value)} {oc_law_told kV_law_told dc_law_told pm_law_told cd_law_told ct_law_told : Value}
    {f_law_odd_rows : Addr} {od_law_odd_rows an_law_odd_rows : Option Addr} {sl_law_odd_rows : Array (Option Value)} {oc_law_odd_rows kV_law_odd_rows dc_law_odd_rows pm_law_odd_rows cd_law_odd_rows ct_law_odd_rows : Value}
    {f_law_judged_right : Addr} {od_law_judged_right an_law_judged_right : Option Addr} {sl_law_judged_right : Array (Option Value)} {oc_law_judged_right kV_law_judged_right dc_law_judged_right pm_law_judged_right cd_law_judged_right ct_law_judged_right : Value}
    {f_law_long_right : Addr} {od_law_long_right an_law_long_right : Option Addr} {sl_law_long_right : Array (Option Value)} {oc_law_long_right kV_law_long_right dc_law_long_right pm_law_long_right cd_law_long_right ct_law_long_right : Value}
    {f_law : Addr} {od_law an_law : Option Addr} {sl_law : Array (Option Value)} {oc_law kV_law dc_law pm_law cd_law ct_law : Value}
    {c_Buckets : Addr}
    {c_Gauge : Addr}
    {c_BadBuckets : Addr}
    {t_MOST_LINES : Tok}
    {t_KINDS : Tok}
    {t_GREATEST_BOTTOM : Tok}
    {t_GREATEST_BURST : Tok}
    {t_GREATEST_NUMBER : Tok}
    {t_MOST_LOTS : Tok}
    (ac_Buckets : PySem.W.nsIn K mainGlobals "Buckets" = some (some (.ref c_Buckets)))
    (ac_Gauge : PySem.W.nsIn K mainGlobals "Gauge" = some (some (.ref c_Gauge)))
    (ac_BadBuckets : PySem.W.nsIn K mainGlobals "BadBuckets" = some (some (.ref c_BadBuckets)))
    (a_BadBuckets___init__ : PySem.W.findIn K (.ref c_BadBuckets) "__init__" = some (some (.ref f_BadBuckets___init__)))
    (i_BadBuckets___init__ : PySem.W.isFn K (.ref f_BadBuckets___init__) = true)
    (l_BadBuckets___init__ : K.lookup f_BadBuckets___init__ = some ⟨oc_BadBuckets___init__, od_BadBuckets___init__, .func (PySem.W.fnOf "__init__" "BadBuckets.__init__" (defArgs s_BadBuckets___init__) (defBody s_BadBuckets___init__) (defScope s_BadBuckets___init__) .none kV_BadBuckets___init__ dc_BadBuckets___init__ pm_BadBuckets___init__ an_BadBuckets___init__ cd_BadBuckets___init__ ct_BadBuckets___init__), sl_BadBuckets___init__⟩)
    (q_BadBuckets___init__ : PySem.W.codeIn K cd_BadBuckets___init__ "BadBuckets.__init__" = true)
    (p_BadBuckets___init__ : PySem.W.keepIn K (.ref f_BadBuckets___init__) = true)
    (a_is_integer : PySem.W.nsIn K mainGlobals "is_integer" = some (some (.ref f_is_integer)))
    (l_is_integer : K.lookup f_is_integer = some ⟨oc_is_integer, od_is_integer, .func (PySem.W.fnOf "is_integer" "is_integer" (defArgs s_is_integer) (defBody s_is_integer) (defScope s_is_integer) .none kV_is_integer dc_is_integer pm_is_integer an_is_integer cd_is_integer ct_is_integer), sl_is_integer⟩)
    (q_is_integer : PySem.W.codeIn K cd_is_integer "is_integer" = true)
    (p_is_integer : PySem.W.keepIn K (.ref f_is_integer) = true)
    (a_is_integer_from : PySem.W.nsIn K mainGlobals "is_integer_from" = some (some (.ref f_is_integer_from)))
    (l_is_integer_from : K.lookup f_is_integer_from = some ⟨oc_is_integer_from, od_is_integer_from, .func (PySem.W.fnOf "is_integer_from" "is_integer_from" (defArgs s_is_integer_from) (defBody s_is_integer_from) (defScope s_is_integer_from) .none kV_is_integer_from dc_is_integer_from pm_is_integer_from an_is_integer_from cd_is_integer_from ct_is_integer_from), sl_is_integer_from⟩)
    (q_is_integer_from : PySem.W.codeIn K cd_is_integer_from "is_integer_from" = true)
    (p_is_integer_from : PySem.W.keepIn K (.ref f_is_integer_from) = true)
    (a_is_number_below : PySem.W.nsIn K mainGlobals "is_number_below" = some (some (.ref f_is_number_below)))
    (l_is_number_below : K.lookup f_is_number_below = some ⟨oc_is_number_below, od_is_number_below, .func (PySem.W.fnOf "is_number_below" "is_number_below" (defArgs s_is_number_below) (defBody s_is_number_below) (defScope s_is_number_below) .none kV_is_number_below dc_is_number_below pm_is_number_below an_is_number_below cd_is_number_below ct_is_number_below), sl_is_number_below⟩)
    (q_is_number_below : PySem.W.codeIn K cd_is_number_below "is_number_below" = true)
    (p_is_number_below : PySem.W.keepIn K (.ref f_is_number_below) = true)
    (a_is_tuple_of : PySem.W.nsIn K mainGlobals "is_tuple_of" = some (some (.ref f_is_tuple_of)))
    (l_is_tuple_of : K.lookup f_is_tuple_of = some ⟨oc_is_tuple_of, od_is_tuple_of, .func (PySem.W.fnOf "is_tuple_of" "is_tuple_of" (defArgs s_is_tuple_of) (defBody s_is_tuple_of) (defScope s_is_tuple_of) .none kV_is_tuple_of dc_is_tuple_of pm_is_tuple_of an_is_tuple_of cd_is_tuple_of ct_is_tuple_of), sl_is_tuple_of⟩)
    (q_is_tuple_of : PySem.W.codeIn K cd_is_tuple_of "is_tuple_of" = true)
    (p_is_tuple_of : PySem.W.keepIn K (.ref f_is_tuple_of) = true)
    (a_is_lot_below : PySem.W.nsIn K mainGlobals "is_lot_below" = some (some (.ref f_is_lot_below)))
    (l_is_lot_below : K.lookup f_is_lot_below = some ⟨oc_is_lot_below, od_is_lot_below, .func (PySem.W.fnOf "is_lot_below" "is_lot_below" (defArgs s_is_lot_below) (defBody s_is_lot_below) (defScope s_is_lot_below) .none kV_is_lot_below dc_is_lot_below pm_is_lot_below an_is_lot_below cd_is_lot_below ct_is_lot_below), sl_is_lot_below⟩)
    (q_is_lot_below : PySem.W.codeIn K cd_is_lot_below "is_lot_below" = true)
    (p_is_lot_below : PySem.W.keepIn K (.ref f_is_lot_below) = true)
    (a_is_bucket : PySem.W.nsIn K mainGlobals "is_bucket" = some (some (.ref f_is_bucket)))
    (l_is_bucket : K.lookup f_is_bucket = some ⟨oc_is_bucket, od_is_bucket, .func (PySem.W.fnOf "is_bucket" "is_bucket" (defArgs s_is_bucket) (defBody s_is_bucket) (defScope s_is_bucket) .none kV_is_bucket dc_is_bucket pm_is_bucket an_is_bucket cd_is_bucket ct_is_bucket), sl_is_bucket⟩)
    (q_is_bucket : PySem.W.codeIn K cd_is_bucket "is_bucket" = true)
    (p_is_bucket : PySem.W.keepIn K (.ref f_is_bucket) = true)
    (a_Buckets___init__ : PySem.W.findIn K (.ref c_Buckets) "__init__" = some (some (.ref f_Buckets___init__)))
    (i_Buckets___init__ : PySem.W.isFn K (.ref f_Buckets___init__) = true)
    (l_Buckets___init__ : K.lookup f_Buckets___init__ = some ⟨oc_Buckets___init__, od_Buckets___init__, .func (PySem.W.fnOf "__init__" "Buckets.__init__" (defArgs s_Buckets___init__) (defBody s_Buckets___init__) (defScope s_Buckets___init__) .none kV_Buckets___init__ dc_Buckets___init__ pm_Buckets___init__ an_Buckets___init__ cd_Buckets___init__ ct_Buckets___init__), sl_Buckets___init__⟩)
    (q_Buckets___init__ : PySem.W.codeIn K cd_Buckets___init__ "Buckets.__init__" = true)
    (p_Buckets___init__ : PySem.W.keepIn K (.ref f_Buckets___init__) = true)
    (a_Buckets___eq__ : PySem.W.findIn K (.ref c_Buckets) "__eq__" = some (some (.ref f_Buckets___eq__)))
    (i_Buckets___eq__ : PySem.W.isFn K (.ref f_Buckets___eq__) = true)
    (l_Buckets___eq__ : K.lookup f_Buckets___eq__ = some ⟨oc_Buckets___eq__, od_Buckets___eq__, .func (PySem.W.fnOf "__eq__" "Buckets.__eq__" (defArgs s_Buckets___eq__) (defBody s_Buckets___eq__) (defScope s_Buckets___eq__) .none kV_Buckets___eq__ dc_Buckets___eq__ pm_Buckets___eq__ an_Buckets___eq__ cd_Buckets___eq__ ct_Buckets___eq__), sl_Buckets___eq__⟩)
    (q_Buckets___eq__ : PySem.W.codeIn K cd_Buckets___eq__ "Buckets.__eq__" = true)
    (p_Buckets___eq__ : PySem.W.keepIn K (.ref f_Buckets___eq__) = true)
    (a_check_line : PySem.W.nsIn K mainGlobals "check_line" = some (some (.ref f_check_line)))
    (l_check_line : K.lookup f_check_line = some ⟨oc_check_line, od_check_line, .func (PySem.W.fnOf "check_line" "check_line" (defArgs s_check_line) (defBody s_check_line) (defScope s_check_line) .none kV_check_line dc_check_line pm_check_line an_check_line cd_check_line ct_check_line), sl_check_line⟩)
    (q_check_line : PySem.W.codeIn K cd_check_line "check_line" = true)
    (p_check_line : PySem.W.keepIn K (.ref f_check_line) = true)
    (a_check_number : PySem.W.nsIn K mainGlobals "check_number" = some (some (.ref f_check_number)))
    (l_check_number : K.lookup f_check_number = some ⟨oc_check_number, od_check_number, .func (PySem.W.fnOf "check_number" "check_number" (defArgs s_check_number) (defBody s_check_number) (defScope s_check_number) .none kV_check_number dc_check_number pm_check_number an_check_number cd_check_number ct_check_number), sl_check_number⟩)
    (q_check_number : PySem.W.codeIn K cd_check_number "check_number" = true)
    (p_check_number : PySem.W.keepIn K (.ref f_check_number) = true)
    (a_most_of : PySem.W.nsIn K mainGlobals "most_of" = some (some (.ref f_most_of)))
    (l_most_of : K.lookup f_most_of = some ⟨oc_most_of, od_most_of, .func (PySem.W.fnOf "most_of" "most_of" (defArgs s_most_of) (defBody s_most_of) (defScope s_most_of) .none kV_most_of dc_most_of pm_most_of an_most_of cd_most_of ct_most_of), sl_most_of⟩)
    (q_most_of : PySem.W.codeIn K cd_most_of "most_of" = true)
    (p_most_of : PySem.W.keepIn K (.ref f_most_of) = true)
    (a_most_sent : PySem.W.nsIn K mainGlobals "most_sent" = some (some (.ref f_most_sent)))
    (l_most_sent : K.lookup f_most_sent = some ⟨oc_most_sent, od_most_sent, .func (PySem.W.fnOf "most_sent" "most_sent" (defArgs s_most_sent) (defBody s_most_sent) (defScope s_most_sent) .none kV_most_sent dc_most_sent pm_most_sent an_most_sent cd_most_sent ct_most_sent), sl_most_sent⟩)
    (q_most_sent : PySem.W.codeIn K cd_most_sent "most_sent" = true)
    (p_most_sent : PySem.W.keepIn K (.ref f_most_sent) = true)
    (a_check_stream : PySem.W.nsIn K mainGlobals "check_stream" = some (some (.ref f_check_stream)))
    (l_check_stream : K.lookup f_check_stream = some ⟨oc_check_stream, od_check_stream, .func (PySem.W.fnOf "check_stream" "check_stream" (defArgs s_check_stream) (defBody s_check_stream) (defScope s_check_stream) .none kV_check_stream dc_check_stream pm_check_stream an_check_stream cd_check_stream ct_check_stream), sl_check_stream⟩)
    (q_check_stream : PySem.W.codeIn K cd_check_stream "check_stream" = true)
    (p_check_stream : PySem.W.keepIn K (.ref f_check_stream) = true)
    (a_first_beginning : PySem.W.nsIn K mainGlobals "first_beginning" = some (some (.ref f_first_beginning)))
    (l_first_beginning : K.lookup f_first_beginning = some ⟨oc_first_beginning, od_first_beginning, .func (PySem.W.fnOf "first_beginning" "first_beginning" (defArgs s_first_beginning) (defBody s_first_beginning) (defScope s_first_beginning) .none kV_first_beginning dc_first_beginning pm_first_beginning an_first_beginning cd_first_beginning ct_first_beginning), sl_first_beginning⟩)
    (q_first_beginning : PySem.W.codeIn K cd_first_beginning "first_beginning" = true)
    (p_first_beginning : PySem.W.keepIn K (.ref f_first_beginning) = true)
    (a_Gauge___init__ : PySem.W.findIn K (.ref c_Gauge) "__init__" = some (some (.ref f_Gauge___init__)))
    (i_Gauge___init__ : PySem.W.isFn K (.ref f_Gauge___init__) = true)
    (l_Gauge___init__ : K.lookup f_Gauge___init__ = some ⟨oc_Gauge___init__, od_Gauge___init__, .func (PySem.W.fnOf "__init__" "Gauge.__init__" (defArgs s_Gauge___init__) (defBody s_Gauge___init__) (defScope s_Gauge___init__) .none kV_Gauge___init__ dc_Gauge___init__ pm_Gauge___init__ an_Gauge___init__ cd_Gauge___init__ ct_Gauge___init__), sl_Gauge___init__⟩)
    (q_Gauge___init__ : PySem.W.codeIn K cd_Gauge___init__ "Gauge.__init__" = true)
    (p_Gauge___init__ : PySem.W.keepIn K (.ref f_Gauge___init__) = true)
    (a_Gauge_overflows : PySem.W.findIn K (.ref c_Gauge) "overflows" = some (some (.ref f_Gauge_overflows)))
    (i_Gauge_overflows : PySem.W.isFn K (.ref f_Gauge_overflows) = true)
    (l_Gauge_overflows : K.lookup f_Gauge_overflows = some ⟨oc_Gauge_overflows, od_Gauge_overflows, .func (PySem.W.fnOf "overflows" "Gauge.overflows" (defArgs s_Gauge_overflows) (defBody s_Gauge_overflows) (defScope s_Gauge_overflows) .none kV_Gauge_overflows dc_Gauge_overflows pm_Gauge_overflows an_Gauge_overflows cd_Gauge_overflows ct_Gauge_overflows), sl_Gauge_overflows⟩)
    (q_Gauge_overflows : PySem.W.codeIn K cd_Gauge_overflows "Gauge.overflows" = true)
    (p_Gauge_overflows : PySem.W.keepIn K (.ref f_Gauge_overflows) = true)
    (a_breach : PySem.W.nsIn K mainGlobals "breach" = some (some (.ref f_breach)))
    (l_breach : K.lookup f_breach = some ⟨oc_breach, od_breach, .func (PySem.W.fnOf "breach" "breach" (defArgs s_breach) (defBody s_breach) (defScope s_breach) .none kV_breach dc_breach pm_breach an_breach cd_breach ct_breach), sl_breach⟩)
    (q_breach : PySem.W.codeIn K cd_breach "breach" = true)
    (p_breach : PySem.W.keepIn K (.ref f_breach) = true)
    (a_law_hand : PySem.W.nsIn K mainGlobals "_law_hand" = some (some (.ref f_law_hand)))
    (l_law_hand : K.lookup f_law_hand = some ⟨oc_law_hand, od_law_hand, .func (PySem.W.fnOf "_law_hand" "_law_hand" (defArgs s_law_hand) (defBody s_law_hand) (defScope s_law_hand) .none kV_law_hand dc_law_hand pm_law_hand an_law_hand cd_law_hand ct_law_hand), sl_law_hand⟩)
    (q_law_hand : PySem.W.codeIn K cd_law_hand "_law_hand" = true)
    (p_law_hand : PySem.W.keepIn K (.ref f_law_hand) = true)
    (a_law_draw : PySem.W.nsIn K mainGlobals "_law_draw" = some (some (.ref f_law_draw)))
    (l_law_draw : K.lookup f_law_draw = some ⟨oc_law_draw, od_law_draw, .func (PySem.W.fnOf "_law_draw" "_law_draw" (defArgs s_law_draw) (defBody s_law_draw) (defScope s_law_draw) .none kV_law_draw dc_law_draw pm_law_draw an_law_draw cd_law_draw ct_law_draw), sl_law_draw⟩)
    (q_law_draw : PySem.W.codeIn K cd_law_draw "_law_draw" = true)
    (p_law_draw : PySem.W.keepIn K (.ref f_law_draw) = true)
    (a_law_pick : PySem.W.nsIn K mainGlobals "_law_pick" = some (some (.ref f_law_pick)))
    (l_law_pick : K.lookup f_law_pick = some ⟨oc_law_pick, od_law_pick, .func (PySem.W.fnOf "_law_pick" "_law_pick" (defArgs s_law_pick) (defBody s_law_pick) (defScope s_law_pick) .none kV_law_pick dc_law_pick pm_law_pick an_law_pick cd_law_pick ct_law_pick), sl_law_pick⟩)
    (q_law_pick : PySem.W.codeIn K cd_law_pick "_law_pick" = true)
    (p_law_pick : PySem.W.keepIn K (.ref f_law_pick) = true)
    (a_law_same : PySem.W.nsIn K mainGlobals "_law_same" = some (some (.ref f_law_same)))
    (l_law_same : K.lookup f_law_same = some ⟨oc_law_same, od_law_same, .func (PySem.W.fnOf "_law_same" "_law_same" (defArgs s_law_same) (defBody s_law_same) (defScope s_law_same) .none kV_law_same dc_law_same pm_law_same an_law_same cd_law_same ct_law_same), sl_law_same⟩)
    (q_law_same : PySem.W.codeIn K cd_law_same "_law_same" = true)
    (p_law_same : PySem.W.keepIn K (.ref f_law_same) = true)
    (a_law_rows : PySem.W.nsIn K mainGlobals "_law_rows" = some (some (.ref f_law_rows)))
    (l_law_rows : K.lookup f_law_rows = some ⟨oc_law_rows, od_law_rows, .func (PySem.W.fnOf "_law_rows" "_law_rows" (defArgs s_law_rows) (defBody s_law_rows) (defScope s_law_rows) .none kV_law_rows dc_law_rows pm_law_rows an_law_rows cd_law_rows ct_law_rows), sl_law_rows⟩)
    (q_law_rows : PySem.W.codeIn K cd_law_rows "_law_rows" = true)
    (p_law_rows : PySem.W.keepIn K (.ref f_law_rows) = true)
    (a_law_sent : PySem.W.nsIn K mainGlobals "_law_sent" = some (some (.ref f_law_sent)))
    (l_law_sent : K.lookup f_law_sent = some ⟨oc_law_sent, od_law_sent, .func (PySem.W.fnOf "_law_sent" "_law_sent" (defArgs s_law_sent) (defBody s_law_sent) (defScope s_law_sent) .none kV_law_sent dc_law_sent pm_law_sent an_law_sent cd_law_sent ct_law_sent), sl_law_sent⟩)
    (q_law_sent : PySem.W.codeIn K cd_law_sent "_law_sent" = true)
    (p_law_sent : PySem.W.keepIn K (.ref f_law_sent) = true)
    (a_law_is_int : PySem.W.nsIn K mainGlobals "_law_is_int" = some (some (.ref f_law_is_int)))
    (l_law_is_int : K.lookup f_law_is_int = some ⟨oc_law_is_int, od_law_is_int, .func (PySem.W.fnOf "_law_is_int" "_law_is_int" (defArgs s_law_is_int) (defBody s_law_is_int) (defScope s_law_is_int) .none kV_law_is_int dc_law_is_int pm_law_is_int an_law_is_int cd_law_is_int ct_law_is_int), sl_law_is_int⟩)
    (q_law_is_int : PySem.W.codeIn K cd_law_is_int "_law_is_int" = true)
    (p_law_is_int : PySem.W.keepIn K (.ref f_law_is_int) = true)
    (a_law_deep : PySem.W.nsIn K mainGlobals "_law_deep" = some (some (.ref f_law_deep)))
    (l_law_deep : K.lookup f_law_deep = some ⟨oc_law_deep, od_law_deep, .func (PySem.W.fnOf "_law_deep" "_law_deep" (defArgs s_law_deep) (defBody s_law_deep) (defScope s_law_deep) .none kV_law_deep dc_law_deep pm_law_deep an_law_deep cd_law_deep ct_law_deep), sl_law_deep⟩)
    (q_law_deep : PySem.W.codeIn K cd_law_deep "_law_deep" = true)
    (p_law_deep : PySem.W.keepIn K (.ref f_law_deep) = true)
    (a_law_stream : PySem.W.nsIn K mainGlobals "_law_stream" = some (some (.ref f_law_stream)))
    (l_law_stream : K.lookup f_law_stream = some ⟨oc_law_stream, od_law_stream, .func (PySem.W.fnOf "_law_stream" "_law_stream" (defArgs s_law_stream) (defBody s_law_stream) (defScope s_law_stream) .none kV_law_stream dc_law_stream pm_law_stream an_law_stream cd_law_stream ct_law_stream), sl_law_stream⟩)
    (q_law_stream : PySem.W.codeIn K cd_law_stream "_law_stream" = true)
    (p_law_stream : PySem.W.keepIn K (.ref f_law_stream) = true)
    (a_law_thinned : PySem.W.nsIn K mainGlobals "_law_thinned" = some (some (.ref f_law_thinned)))
    (l_law_thinned : K.lookup f_law_thinned = some ⟨oc_law_thinned, od_law_thinned, .func (PySem.W.fnOf "_law_thinned" "_law_thinned" (defArgs s_law_thinned) (defBody s_law_thinned) (defScope s_law_thinned) .none kV_law_thinned dc_law_thinned pm_law_thinned an_law_thinned cd_law_thinned ct_law_thinned), sl_law_thinned⟩)
    (q_law_thinned : PySem.W.codeIn K cd_law_thinned "_law_thinned" = true)
    (p_law_thinned : PySem.W.keepIn K (.ref f_law_thinned) = true)
    (a_law_breach : PySem.W.nsIn K mainGlobals "_law_breach" = some (some (.ref f_law_breach)))
    (l_law_breach : K.lookup f_law_breach = some ⟨oc_law_breach, od_law_breach, .func (PySem.W.fnOf "_law_breach" "_law_breach" (defArgs s_law_breach) (defBody s_law_breach) (defScope s_law_breach) .none kV_law_breach dc_law_breach pm_law_breach an_law_breach cd_law_breach ct_law_breach), sl_law_breach⟩)
    (q_law_breach : PySem.W.codeIn K cd_law_breach "_law_breach" = true)
    (p_law_breach : PySem.W.keepIn K (.ref f_law_breach) = true)
    (a_law_is_row : PySem.W.nsIn K mainGlobals "_law_is_row" = some (some (.ref f_law_is_row)))
    (l_law_is_row : K.lookup f_law_is_row = some ⟨oc_law_is_row, od_law_is_row, .func (PySem.W.fnOf "_law_is_row" "_law_is_row" (defArgs s_law_is_row) (defBody s_law_is_row) (defScope s_law_is_row) .none kV_law_is_row dc_law_is_row pm_law_is_row an_law_is_row cd_law_is_row ct_law_is_row), sl_law_is_row⟩)
    (q_law_is_row : PySem.W.codeIn K cd_law_is_row "_law_is_row" = true)
    (p_law_is_row : PySem.W.keepIn K (.ref f_law_is_row) = true)
    (a_law_due : PySem.W.nsIn K mainGlobals "_law_due" = some (some (.ref f_law_due)))
    (l_law_due : K.lookup f_law_due = some ⟨oc_law_due, od_law_due, .func (PySem.W.fnOf "_law_due" "_law_due" (defArgs s_law_due) (defBody s_law_due) (defScope s_law_due) .none kV_law_due dc_law_due pm_law_due an_law_due cd_law_due ct_law_due), sl_law_due⟩)
    (q_law_due : PySem.W.codeIn K cd_law_due "_law_due" = true)
    (p_law_due : PySem.W.keepIn K (.ref f_law_due) = true)
    (a_law_told : PySem.W.nsIn K mainGlobals "_law_told" = some (some (.ref f_law_told)))
    (l_law_told : K.lookup f_law_told = some ⟨oc_law_told, od_law_told, .func (PySem.W.fnOf "_law_told" "_law_told" (defArgs s_law_told) (defBody s_law_told) (defScope s_law_told) .none kV_law_told dc_law_told pm_law_told an_law_told cd_law_told ct_law_told), sl_law_told⟩)
    (q_law_told : PySem.W.codeIn K cd_law_told "_law_told" = true)
    (p_law_told : PySem.W.keepIn K (.ref f_law_told) = true)
    (a_law_odd_rows : PySem.W.nsIn K mainGlobals "_law_odd_rows" = some (some (.ref f_law_odd_rows)))
    (l_law_odd_rows : K.lookup f_law_odd_rows = some ⟨oc_law_odd_rows, od_law_odd_rows, .func (PySem.W.fnOf "_law_odd_rows" "_law_odd_rows" (defArgs s_law_odd_rows) (defBody s_law_odd_rows) (defScope s_law_odd_rows) .none kV_law_odd_rows dc_law_odd_rows pm_law_odd_rows an_law_odd_rows cd_law_odd_rows ct_law_odd_rows), sl_law_odd_rows⟩)
    (q_law_odd_rows : PySem.W.codeIn K cd_law_odd_rows "_law_odd_rows" = true)
    (p_law_odd_rows : PySem.W.keepIn K (.ref f_law_odd_rows) = true)
    (a_law_judged_right : PySem.W.nsIn K mainGlobals "_law_judged_right" = some (some (.ref f_law_judged_right)))
    (l_law_judged_right : K.lookup f_law_judged_right = some ⟨oc_law_judged_right, od_law_judged_right, .func (PySem.W.fnOf "_law_judged_right" "_law_judged_right" (defArgs s_law_judged_right) (defBody s_law_judged_right) (defScope s_law_judged_right) .none kV_law_judged_right dc_law_judged_right pm_law_judged_right an_law_judged_right cd_law_judged_right ct_law_judged_right), sl_law_judged_right⟩)
    (q_law_judged_right : PySem.W.codeIn K cd_law_judged_right "_law_judged_right" = true)
    (p_law_judged_right : PySem.W.keepIn K (.ref f_law_judged_right) = true)
    (a_law_long_right : PySem.W.nsIn K mainGlobals "_law_long_right" = some (some (.ref f_law_long_right)))
    (l_law_long_right : K.lookup f_law_long_right = some ⟨oc_law_long_right, od_law_long_right, .func (PySem.W.fnOf "_law_long_right" "_law_long_right" (defArgs s_law_long_right) (defBody s_law_long_right) (defScope s_law_long_right) .none kV_law_long_right dc_law_long_right pm_law_long_right an_law_long_right cd_law_long_right ct_law_long_right), sl_law_long_right⟩)
    (q_law_long_right : PySem.W.codeIn K cd_law_long_right "_law_long_right" = true)
    (p_law_long_right : PySem.W.keepIn K (.ref f_law_long_right) = true)
    (a_law : PySem.W.nsIn K mainGlobals "law" = some (some (.ref f_law)))
    (l_law : K.lookup f_law = some ⟨oc_law, od_law, .func (PySem.W.fnOf "law" "law" (defArgs s_law) (defBody s_law) (defScope s_law) .none kV_law dc_law pm_law an_law cd_law ct_law), sl_law⟩)
    (q_law : PySem.W.codeIn K cd_law "law" = true)
    (p_law : PySem.W.keepIn K (.ref f_law) = true)
    (pg_Buckets : PySem.W.plainGet K c_Buckets Str.empty = true)
    (hd_Buckets : PySem.W.hasDictIn K c_Buckets = true)
    (po_Buckets : PySem.W.plainOver K c_Buckets = true)
    (sa_Buckets : PySem.W.findIn K (.ref c_Buckets) "__setattr__" = some (some (.builtin "object.__setattr__")))
    (mk_Buckets : PySem.W.makesIn K c_Buckets = true)
    (kc_Buckets : PySem.W.keepIn K (.ref c_Buckets) = true)
    (n_Buckets_bottom : PySem.W.findIn K (.ref c_Buckets) "bottom" = some none)
    (n_Buckets_rows : PySem.W.findIn K (.ref c_Buckets) "rows" = some none)
    (ne_Buckets : PySem.W.findIn K (.ref c_Buckets) "__ne__" = some (some (.builtin "object.__ne__")))
    (pg_Gauge : PySem.W.plainGet K c_Gauge Str.empty = true)
    (hd_Gauge : PySem.W.hasDictIn K c_Gauge = true)
    (po_Gauge : PySem.W.plainOver K c_Gauge = true)
    (sa_Gauge : PySem.W.findIn K (.ref c_Gauge) "__setattr__" = some (some (.builtin "object.__setattr__")))
    (mk_Gauge : PySem.W.makesIn K c_Gauge = true)
    (kc_Gauge : PySem.W.keepIn K (.ref c_Gauge) = true)
    (n_Gauge_bottom : PySem.W.findIn K (.ref c_Gauge) "bottom" = some none)
    (n_Gauge_row : PySem.W.findIn K (.ref c_Gauge) "row" = some none)
    (n_Gauge_level : PySem.W.findIn K (.ref c_Gauge) "level" = some none)
    (n_Gauge_least : PySem.W.findIn K (.ref c_Gauge) "least" = some none)
    (em_Gauge : PySem.W.mroIn K c_Gauge (.type "object") = some true)
    (es_Gauge : PySem.W.findIn K (.ref c_Gauge) "__eq__" = some (some (.builtin "object.__eq__")))
    (xt_BadBuckets : PySem.W.typeIn K (.ref f_BadBuckets___init__) = some (.type "function"))
    (nf_BadBuckets_part : PySem.W.findIn K (.ref c_BadBuckets) "part" = some none)
    (kp_BadBuckets : PySem.W.keepIn K (.ref c_BadBuckets) = true)
    (s_BadBuckets : PySem.W.subIn K (.ref c_BadBuckets) (.type "BaseException") = some true)
    (t_BadBuckets : PySem.W.typeIn K (.ref c_BadBuckets) = some (.type "type"))
    (e1_BadBuckets : PySem.W.findIn K (.ref c_BadBuckets) "__getattribute__" = some (some (.builtin "BaseException.__getattribute__")))
    (e2_BadBuckets : PySem.W.findIn K (.ref c_BadBuckets) "__getattr__" = some none)
    (e3_BadBuckets : PySem.W.hasDictIn K c_BadBuckets = true)
    (e4_BadBuckets : PySem.W.findIn K (.ref c_BadBuckets) "__class__" = some (some (.builtin "object.__class__")))
    (e5_BadBuckets : PySem.W.mroIn K c_BadBuckets (.type "object") = some true)
    (tt_Buckets : PySem.W.typeIn K (.ref c_Buckets) = some (.type "type"))
    (ci_Buckets : PySem.W.findIn K (.ref c_Buckets) "__class__" = some (some (.builtin "object.__class__")))
    (em_Buckets : PySem.W.mroIn K c_Buckets (.type "object") = some true)
    (tt_Gauge : PySem.W.typeIn K (.ref c_Gauge) = some (.type "type"))
    (ci_Gauge : PySem.W.findIn K (.ref c_Gauge) "__class__" = some (some (.builtin "object.__class__")))
    (en1 : PySem.W.specialIn K (.builtin "object.__class__") "__get__" = some (some (.builtin "getset_descriptor.__get__")))
    (en2 : PySem.W.takesIn K (.builtin "object.__class__") = some true)
    (oc_BadBuckets : ∃ nm q N bs bm sn sub ab col dd k0 k1 k2 k3 k5, List.lookup c_BadBuckets K = some (excClassObj nm q c_BadBuckets N bs bm true sn sub ab col dd k0 k1 k2 k3 k5 "ValueError.__new__") ∧ HandSPX.refsVE bm = true)
    (os_BadBuckets : PySem.W.findIn K (.ref c_BadBuckets) "__setattr__" = some (some (.builtin "object.__setattr__")))
    (su_Buckets_int : PySem.W.subIn K (.ref c_Buckets) (.type "int") = some false)
    (su_Buckets_bool : PySem.W.subIn K (.ref c_Buckets) (.type "bool") = some false)
    (su_Buckets_tuple : PySem.W.subIn K (.ref c_Buckets) (.type "tuple") = some false)
    (su_Gauge_int : PySem.W.subIn K (.ref c_Gauge) (.type "int") = some false)
    (su_Gauge_bool : PySem.W.subIn K (.ref c_Gauge) (.type "bool") = some false)
    (su_Gauge_tuple : PySem.W.subIn K (.ref c_Gauge) (.type "tuple") = some false)
    (su_BadBuckets_BadBuckets : PySem.W.subIn K (.ref c_BadBuckets) (.ref c_BadBuckets) = some true)
    (k_MOST_LINES : PySem.W.nsIn K mainGlobals "MOST_LINES" = some (some (.int 12 t_MOST_LINES)))
    (k_KINDS : PySem.W.nsIn K mainGlobals "KINDS" = some (some (.int 8 t_KINDS)))
    (k_GREATEST_BOTTOM : PySem.W.nsIn K mainGlobals "GREATEST_BOTTOM" = some (some (.int 20 t_GREATEST_BOTTOM)))
    (k_GREATEST_BURST : PySem.W.nsIn K mainGlobals "GREATEST_BURST" = some (some (.int 20 t_GREATEST_BURST)))
    (k_GREATEST_NUMBER : PySem.W.nsIn K mainGlobals "GREATEST_NUMBER" = some (some (.int 1000000000 t_GREATEST_NUMBER)))
    (k_MOST_LOTS : PySem.W.nsIn K mainGlobals "MOST_LOTS" = some (some (.int 6000 t_MOST_LOTS)))
    (z_abs : PySem.W.nsIn K mainGlobals "abs" = some none)
    (z_all : PySem.W.nsIn K mainGlobals "all" = some none)
    (z_bool : PySem.W.nsIn K mainGlobals "bool" = some none)
    (z_enumerate : PySem.W.nsIn K mainGlobals "enumerate" = some none)
    (z_int : PySem.W.nsIn K mainGlobals "int" = some none)
    (z_isinstance : PySem.W.nsIn K mainGlobals "isinstance" = some none)
    (z_len : PySem.W.nsIn K mainGlobals "len" = some none)
    (z_list : PySem.W.nsIn K mainGlobals "list" = some none)
    (z_max : PySem.W.nsIn K mainGlobals "max" = some none)
    (z_min : PySem.W.nsIn K mainGlobals "min" = some none)
    (z_range : PySem.W.nsIn K mainGlobals "range" = some none)
    (z_set : PySem.W.nsIn K mainGlobals "set" = some none)
    (z_sorted : PySem.W.nsIn K mainGlobals "sorted" = some none)
    (z_tuple : PySem.W.nsIn K mainGlobals "tuple" = some none)
    (z_zip : PySem.W.nsIn K mainGlobals "zip" = some none)
    : ∃ A : Adr, Top K mg A ∧ A.d_law = PySem.W.fnOf "law" "law" (defArgs s_law) (defBody s_law) (defScope s_law) .none kV_law dc_law pm_law an_law cd_law ct_law ∧ A.a_law = f_law := by
  have F_BadBuckets___init__ := fun_mk (st := s_BadBuckets___init__) l_BadBuckets___init__ q_BadBuckets___init__ p_BadBuckets___init__
  have F_is_integer := fun_mk (st := s_is_integer) l_is_integer q_is_integer p_is_integer
  have F_is_integer_from := fun_mk (st := s_is_integer_from) l_is_integer_from q_is_integer_from p_is_integer_from
  have F_is_number_below := fun_mk (st := s_is_number_below) l_is_number_below q_is_number_below p_is_number_below
  have F_is_tuple_of := fun_mk (st := s_is_tuple_of) l_is_tuple_of q_is_tuple_of p_is_tuple_of
  have F_is_lot_below := fun_mk (st := s_is_lot_below) l_is_lot_below q_is_lot_below p_is_lot_below
  have F_is_bucket := fun_mk (st := s_is_bucket) l_is_bucket q_is_bucket p_is_bucket
  have F_Buckets___init__ := fun_mk (st := s_Buckets___init__) l_Buckets___init__ q_Buckets___init__ p_Buckets___init__
  have F_Buckets___eq__ := fun_mk (st := s_Buckets___eq__) l_Buckets___eq__ q_Buckets___eq__ p_Buckets___eq__
  have F_check_line := fun_mk (st := s_check_line) l_check_line q_check_line p_check_line
  have F_check_number := fun_mk (st := s_check_number) l_check_number q_check_number p_check_number
  have F_most_of := fun_mk (st := s_most_of) l_most_of q_most_of p_most_of
  have F_most_sent := fun_mk (st := s_most_sent) l_most_sent q_most_sent p_most_sent
  have F_check_stream := fun_mk (st := s_check_stream) l_check_stream q_check_stream p_check_stream
  have F_first_beginning := fun_mk (st := s_first_beginning) l_first_beginning q_first_beginning p_first_beginning
  have F_Gauge___init__ := fun_mk (st := s_Gauge___init__) l_Gauge___init__ q_Gauge___init__ p_Gauge___init__
  have F_Gauge_overflows := fun_mk (st := s_Gauge_overflows) l_Gauge_overflows q_Gauge_overflows p_Gauge_overflows
  have F_breach := fun_mk (st := s_breach) l_breach q_breach p_breach
  have F_law_hand := fun_mk (st := s_law_hand) l_law_hand q_law_hand p_law_hand
  have F_law_draw := fun_mk (st := s_law_draw) l_law_draw q_law_draw p_law_draw
  have F_law_pick := fun_mk (st := s_law_pick) l_law_pick q_law_pick p_law_pick
  have F_law_same := fun_mk (st := s_law_same) l_law_same q_law_same p_law_same
  have F_law_rows := fun_mk (st := s_law_rows) l_law_rows q_law_rows p_law_rows
  have F_law_sent := fun_mk (st := s_law_sent) l_law_sent q_law_sent p_law_sent
  have F_law_is_int := fun_mk (st := s_law_is_int) l_law_is_int q_law_is_int p_law_is_int
  have F_law_deep := fun_mk (st := s_law_deep) l_law_deep q_law_deep p_law_deep
  have F_law_stream := fun_mk (st := s_law_stream) l_law_stream q_law_stream p_law_stream
  have F_law_thinned := fun_mk (st := s_law_thinned) l_law_thinned q_law_thinned p_law_thinned
  have F_law_breach := fun_mk (st := s_law_breach) l_law_breach q_law_breach p_law_breach
  have F_law_is_row := fun_mk (st := s_law_is_row) l_law_is_row q_law_is_row p_law_is_row
  have F_law_due := fun_mk (st := s_law_due) l_law_due q_law_due p_law_due
  have F_law_told := fun_mk (st := s_law_told) l_law_told q_law_told p_law_told
  have F_law_odd_rows := fun_mk (st := s_law_odd_rows) l_law_odd_rows q_law_odd_rows p_law_odd_rows
  have F_law_judged_right := fun_mk (st := s_law_judged_right) l_law_judged_right q_law_judged_right p_law_judged_right
  have F_law_long_right := fun_mk (st := s_law_long_right) l_law_long_right q_law_long_right p_law_long_right
  have F_law := fun_mk (st := s_law) l_law q_law p_law
  refine ⟨⟨f_BadBuckets___init__, PySem.W.fnOf "__init__" "BadBuckets.__init__" (defArgs s_BadBuckets___init__) (defBody s_BadBuckets___init__) (defScope s_BadBuckets___init__) .none kV_BadBuckets___init__ dc_BadBuckets___init__ pm_BadBuckets___init__ an_BadBuckets___init__ cd_BadBuckets___init__ ct_BadBuckets___init__, f_is_integer, PySem.W.fnOf "is_integer" "is_integer" (defArgs s_is_integer) (defBody s_is_integer) (defScope s_is_integer) .none kV_is_integer dc_is_integer pm_is_integer an_is_integer cd_is_integer ct_is_integer, f_is_integer_from, PySem.W.fnOf "is_integer_from" "is_integer_from" (defArgs s_is_integer_from) (defBody s_is_integer_from) (defScope s_is_integer_from) .none kV_is_integer_from dc_is_integer_from pm_is_integer_from an_is_integer_from cd_is_integer_from ct_is_integer_from, f_is_number_below, PySem.W.fnOf "is_number_below" "is_number_below" (defArgs s_is_number_below) (defBody s_is_number_below) (defScope s_is_number_below) .none kV_is_number_below dc_is_number_below pm_is_number_below an_is_number_below cd_is_number_below ct_is_number_below, f_is_tuple_of, PySem.W.fnOf "is_tuple_of" "is_tuple_of" (defArgs s_is_tuple_of) (defBody s_is_tuple_of) (defScope s_is_tuple_of) .none kV_is_tuple_of dc_is_tuple_of pm_is_tuple_of an_is_tuple_of cd_is_tuple_of ct_is_tuple_of, f_is_lot_below, PySem.W.fnOf "is_lot_below" "is_lot_below" (defArgs s_is_lot_below) (defBody s_is_lot_below) (defScope s_is_lot_below) .none kV_is_lot_below dc_is_lot_below pm_is_lot_below an_is_lot_below cd_is_lot_below ct_is_lot_below, f_is_bucket, PySem.W.fnOf "is_bucket" "is_bucket" (defArgs s_is_bucket) (defBody s_is_bucket) (defScope s_is_bucket) .none kV_is_bucket dc_is_bucket pm_is_bucket an_is_bucket cd_is_bucket ct_is_bucket, f_Buckets___init__, PySem.W.fnOf "__init__" "Buckets.__init__" (defArgs s_Buckets___init__) (defBody s_Buckets___init__) (defScope s_Buckets___init__) .none kV_Buckets___init__ dc_Buckets___init__ pm_Buckets___init__ an_Buckets___init__ cd_Buckets___init__ ct_Buckets___init__, f_Buckets___eq__, PySem.W.fnOf "__eq__" "Buckets.__eq__" (defArgs s_Buckets___eq__) (defBody s_Buckets___eq__) (defScope s_Buckets___eq__) .none kV_Buckets___eq__ dc_Buckets___eq__ pm_Buckets___eq__ an_Buckets___eq__ cd_Buckets___eq__ ct_Buckets___eq__, f_check_line, PySem.W.fnOf "check_line" "check_line" (defArgs s_check_line) (defBody s_check_line) (defScope s_check_line) .none kV_check_line dc_check_line pm_check_line an_check_line cd_check_line ct_check_line, f_check_number, PySem.W.fnOf "check_number" "check_number" (defArgs s_check_number) (defBody s_check_number) (defScope s_check_number) .none kV_check_number dc_check_number pm_check_number an_check_number cd_check_number ct_check_number, f_most_of, PySem.W.fnOf "most_of" "most_of" (defArgs s_most_of) (defBody s_most_of) (defScope s_most_of) .none kV_most_of dc_most_of pm_most_of an_most_of cd_most_of ct_most_of, f_most_sent, PySem.W.fnOf "most_sent" "most_sent" (defArgs s_most_sent) (defBody s_most_sent) (defScope s_most_sent) .none kV_most_sent dc_most_sent pm_most_sent an_most_sent cd_most_sent ct_most_sent, f_check_stream, PySem.W.fnOf "check_stream" "check_stream" (defArgs s_check_stream) (defBody s_check_stream) (defScope s_check_stream) .none kV_check_stream dc_check_stream pm_check_stream an_check_stream cd_check_stream ct_check_stream, f_first_beginning, PySem.W.fnOf "first_beginning" "first_beginning" (defArgs s_first_beginning) (defBody s_first_beginning) (defScope s_first_beginning) .none kV_first_beginning dc_first_beginning pm_first_beginning an_first_beginning cd_first_beginning ct_first_beginning, f_Gauge___init__, PySem.W.fnOf "__init__" "Gauge.__init__" (defArgs s_Gauge___init__) (defBody s_Gauge___init__) (defScope s_Gauge___init__) .none kV_Gauge___init__ dc_Gauge___init__ pm_Gauge___init__ an_Gauge___init__ cd_Gauge___init__ ct_Gauge___init__, f_Gauge_overflows, PySem.W.fnOf "overflows" "Gauge.overflows" (defArgs s_Gauge_overflows) (defBody s_Gauge_overflows) (defScope s_Gauge_overflows) .none kV_Gauge_overflows dc_Gauge_overflows pm_Gauge_overflows an_Gauge_overflows cd_Gauge_overflows ct_Gauge_overflows, f_breach, PySem.W.fnOf "breach" "breach" (defArgs s_breach) (defBody s_breach) (defScope s_breach) .none kV_breach dc_breach pm_breach an_breach cd_breach ct_breach, f_law_hand, PySem.W.fnOf "_law_hand" "_law_hand" (defArgs s_law_hand) (defBody s_law_hand) (defScope s_law_hand) .none kV_law_hand dc_law_hand pm_law_hand an_law_hand cd_law_hand ct_law_hand, f_law_draw, PySem.W.fnOf "_law_draw" "_law_draw" (defArgs s_law_draw) (defBody s_law_draw) (defScope s_law_draw) .none kV_law_draw dc_law_draw pm_law_draw an_law_draw cd_law_draw ct_law_draw, f_law_pick, PySem.W.fnOf "_law_pick" "_law_pick" (defArgs s_law_pick) (defBody s_law_pick) (defScope s_law_pick) .none kV_law_pick dc_law_pick pm_law_pick an_law_pick cd_law_pick ct_law_pick, f_law_same, PySem.W.fnOf "_law_same" "_law_same" (defArgs s_law_same) (defBody s_law_same) (defScope s_law_same) .none kV_law_same dc_law_same pm_law_same an_law_same cd_law_same ct_law_same, f_law_rows, PySem.W.fnOf "_law_rows" "_law_rows" (defArgs s_law_rows) (defBody s_law_rows) (defScope s_law_rows) .none kV_law_rows dc_law_rows pm_law_rows an_law_rows cd_law_rows ct_law_rows, f_law_sent, PySem.W.fnOf "_law_sent" "_law_sent" (defArgs s_law_sent) (defBody s_law_sent) (defScope s_law_sent) .none kV_law_sent dc_law_sent pm_law_sent an_law_sent cd_law_sent ct_law_sent, f_law_is_int, PySem.W.fnOf "_law_is_int" "_law_is_int" (defArgs s_law_is_int) (defBody s_law_is_int) (defScope s_law_is_int) .none kV_law_is_int dc_law_is_int pm_law_is_int an_law_is_int cd_law_is_int ct_law_is_int, f_law_deep, PySem.W.fnOf "_law_deep" "_law_deep" (defArgs s_law_deep) (defBody s_law_deep) (defScope s_law_deep) .none kV_law_deep dc_law_deep pm_law_deep an_law_deep cd_law_deep ct_law_deep, f_law_stream, PySem.W.fnOf "_law_stream" "_law_stream" (defArgs s_law_stream) (defBody s_law_stream) (defScope s_law_stream) .none kV_law_stream dc_law_stream pm_law_stream an_law_stream cd_law_stream ct_law_stream, f_law_thinned, PySem.W.fnOf "_law_thinned" "_law_thinned" (defArgs s_law_thinned) (defBody s_law_thinned) (defScope s_law_thinned) .none kV_law_thinned dc_law_thinned pm_law_thinned an_law_thinned cd_law_thinned ct_law_thinned, f_law_breach, PySem.W.fnOf "_law_breach" "_law_breach" (defArgs s_law_breach) (defBody s_law_breach) (defScope s_law_breach) .none kV_law_breach dc_law_breach pm_law_breach an_law_breach cd_law_breach ct_law_breach, f_law_is_row, PySem.W.fnOf "_law_is_row" "_law_is_row" (defArgs s_law_is_row) (defBody s_law_is_row) (defScope s_law_is_row) .none kV_law_is_row dc_law_is_row pm_law_is_row an_law_is_row cd_law_is_row ct_law_is_row, f_law_due, PySem.W.fnOf "_law_due" "_law_due" (defArgs s_law_due) (defBody s_law_due) (defScope s_law_due) .none kV_law_due dc_law_due pm_law_due an_law_due cd_law_due ct_law_due, f_law_told, PySem.W.fnOf "_law_told" "_law_told" (defArgs s_law_told) (defBody s_law_told) (defScope s_law_told) .none kV_law_told dc_law_told pm_law_told an_law_told cd_law_told ct_law_told, f_law_odd_rows, PySem.W.fnOf "_law_odd_rows" "_law_odd_rows" (defArgs s_law_odd_rows) (defBody s_law_odd_rows) (defScope s_law_odd_rows) .none kV_law_odd_rows dc_law_odd_rows pm_law_odd_rows an_law_odd_rows cd_law_odd_rows ct_law_odd_rows, f_law_judged_right, PySem.W.fnOf "_law_judged_right" "_law_judged_right" (defArgs s_law_judged_right) (defBody s_law_judged_right) (defScope s_law_judged_right) .none kV_law_judged_right dc_law_judged_right pm_law_judged_right an_law_judged_right cd_law_judged_right ct_law_judged_right, f_law_long_right, PySem.W.fnOf "_law_long_right" "_law_long_right" (defArgs s_law_long_right) (defBody s_law_long_right) (defScope s_law_long_right) .none kV_law_long_right dc_law_long_right pm_law_long_right an_law_long_right cd_law_long_right ct_law_long_right, f_law, PySem.W.fnOf "law" "law" (defArgs s_law) (defBody s_law) (defScope s_law) .none kV_law dc_law pm_law an_law cd_law ct_law, c_Buckets, c_Gauge, c_BadBuckets⟩, ?_, rfl, rfl⟩
  exact ⟨F_BadBuckets___init__,
    F_BadBuckets___init__.binds (fun _ _ _ _ _ _ us hl => match us, hl with | [_, _], _ => rfl),
    F_is_integer,
    PySem.W.mg_of X G a_is_integer,
    F_is_integer.binds (fun _ _ _ _ _ _ us hl => match us, hl with | [_], _ => rfl),
    F_is_integer_from,
    PySem.W.mg_of X G a_is_integer_from,
    F_is_integer_from.binds (fun _ _ _ _ _ _ us hl => match us, hl with | [_, _, _], _ => rfl),
    F_is_number_below,
    PySem.W.mg_of X G a_is_number_below,
    F_is_number_below.binds (fun _ _ _ _ _ _ us hl => match us, hl with | [_, _], _ => rfl),
    F_is_tuple_of,
    PySem.W.mg_of X G a_is_tuple_of,
    F_is_tuple_of.binds (fun _ _ _ _ _ _ us hl => match us, hl with | [_, _], _ => rfl),
    F_is_lot_below,
    PySem.W.mg_of X G a_is_lot_below,
    F_is_lot_below.binds (fun _ _ _ _ _ _ us hl => match us, hl with | [_, _], _ => rfl),
    F_is_bucket,
    PySem.W.mg_of X G a_is_bucket,
    F_is_bucket.binds (fun _ _ _ _ _ _ us hl => match us, hl with | [_, _], _ => rfl),
    F_Buckets___init__,
    F_Buckets___init__.binds (fun _ _ _ _ _ _ us hl => match us, hl with | [_, _, _], _ => rfl),
    F_Buckets___eq__,
    F_Buckets___eq__.binds (fun _ _ _ _ _ _ us hl => match us, hl with | [_, _], _ => rfl),
    F_check_line,
    PySem.W.mg_of X G a_check_line,
    F_check_line.binds (fun _ _ _ _ _ _ us hl => match us, hl with | [_, _], _ => rfl),
    F_check_number,
    PySem.W.mg_of X G a_check_number,
    F_check_number.binds (fun _ _ _ _ _ _ us hl => match us, hl with | [_], _ => rfl),
    F_most_of,
    PySem.W.mg_of X G a_most_of,
    F_most_of.binds (fun _ _ _ _ _ _ us hl => match us, hl with | [_, _, _], _ => rfl),
    F_most_sent,
    PySem.W.mg_of X G a_most_sent,
    F_most_sent.binds (fun _ _ _ _ _ _ us hl => match us, hl with | [_, _, _], _ => rfl),
    F_check_stream,
    PySem.W.mg_of X G a_check_stream,
    F_check_stream.binds (fun _ _ _ _ _ _ us hl => match us, hl with | [_, _], _ => rfl),
    F_first_beginning,
    PySem.W.mg_of X G a_first_beginning,
    F_first_beginning.binds (fun _ _ _ _ _ _ us hl => match us, hl with | [_, _, _, _], _ => rfl),
    F_Gauge___init__,
    F_Gauge___init__.binds (fun _ _ _ _ _ _ us hl => match us, hl with | [_, _, _], _ => rfl),
    F_Gauge_overflows,
    F_Gauge_overflows.binds (fun _ _ _ _ _ _ us hl => match us, hl with | [_, _], _ => rfl),
    F_breach,
    PySem.W.mg_of X G a_breach,
    F_breach.binds (fun _ _ _ _ _ _ us hl => match us, hl with | [_, _], _ => rfl),
    F_law_hand,
    PySem.W.mg_of X G a_law_hand,
    F_law_hand.binds (fun _ _ _ _ _ _ us hl => match us, hl with | [_], _ => rfl),
    F_law_draw,
    PySem.W.mg_of X G a_law_draw,
    F_law_draw.binds (fun _ _ _ _ _ _ us hl => match us, hl with | [_, _], _ => rfl),
    F_law_pick,
    PySem.W.mg_of X G a_law_pick,
    F_law_pick.binds (fun _ _ _ _ _ _ us hl => match us, hl with | [_, _], _ => rfl),
    F_law_same,
    PySem.W.mg_of X G a_law_same,
    F_law_same.binds (fun _ _ _ _ _ _ us hl => match us, hl with | [_, _], _ => rfl),
    F_law_rows,
    PySem.W.mg_of X G a_law_rows,
    F_law_rows.binds (fun _ _ _ _ _ _ us hl => match us, hl with | [_, _, _, _, _], _ => rfl),
    F_law_sent,
    PySem.W.mg_of X G a_law_sent,
    F_law_sent.binds (fun _ _ _ _ _ _ us hl => match us, hl with | [_, _, _], _ => rfl),
    F_law_is_int,
    PySem.W.mg_of X G a_law_is_int,
    F_law_is_int.binds (fun _ _ _ _ _ _ us hl => match us, hl with | [_, _, _], _ => rfl),
    F_law_deep,
    PySem.W.mg_of X G a_law_deep,
    F_law_deep.binds (fun _ _ _ _ _ _ us hl => match us, hl with | [_], _ => rfl),
    F_law_stream,
    PySem.W.mg_of X G a_law_stream,
    F_law_stream.binds (fun _ _ _ _ _ _ us hl => match us, hl with | [_, _, _], _ => rfl),
    F_law_thinned,
    PySem.W.mg_of X G a_law_thinned,
    F_law_thinned.binds (fun _ _ _ _ _ _ us hl => match us, hl with | [_, _, _], _ => rfl),
    F_law_breach,
    PySem.W.mg_of X G a_law_breach,
    F_law_breach.binds (fun _ _ _ _ _ _ us hl => match us, hl with | [_, _, _], _ => rfl),
    F_law_is_row,
    PySem.W.mg_of X G a_law_is_row,
    F_law_is_row.binds (fun _ _ _ _ _ _ us hl => match us, hl with | [_, _], _ => rfl),
    F_law_due,
    PySem.W.mg_of X G a_law_due,
    F_law_due.binds (fun _ _ _ _ _ _ us hl => match us, hl with | [_, _], _ => rfl),
    F_law_told,
    PySem.W.mg_of X G a_law_told,
    F_law_told.binds (fun _ _ _ _ _ _ us hl => match us, hl with | [_, _], _ => rfl),
    F_law_odd_rows,
    PySem.W.mg_of X G a_law_odd_rows,
    F_law_odd_rows.binds (fun _ _ _ _ _ _ us hl => match us, hl with | [_, _, _], _ => rfl),
    F_law_judged_right,
    PySem.W.mg_of X G a_law_judged_right,
    F_law_judged_right.binds (fun _ _ _ _ _ _ us hl => match us, hl with | [_, _, _], _ => rfl),
    F_law_long_right,
    PySem.W.mg_of X G a_law_long_right,
    F_law_long_right.binds (fun _ _ _ _ _ _ us hl => match us, hl with | [_], _ => rfl),
    F_law,
    PySem.W.mg_of X G a_law,
    F_law.binds (fun _ _ _ _ _ _ us hl => match us, hl with | [_], _ => rfl),
    ⟨pg_Buckets, hd_Buckets, po_Buckets, sa_Buckets⟩,
    PySem.W.mg_of X G ac_Buckets,
    ⟨mk_Buckets, a_Buckets___init__, i_Buckets___init__, kc_Buckets⟩,
    ⟨a_Buckets___eq__, i_Buckets___eq__, p_Buckets___eq__⟩,
    n_Buckets_bottom,
    n_Buckets_rows,
    ⟨em_Buckets, ne_Buckets, a_Buckets___eq__, i_Buckets___eq__⟩,
    ⟨pg_Gauge, hd_Gauge, po_Gauge, sa_Gauge⟩,
    PySem.W.mg_of X G ac_Gauge,
    ⟨mk_Gauge, a_Gauge___init__, i_Gauge___init__, kc_Gauge⟩,
    ⟨a_Gauge_overflows, i_Gauge_overflows, p_Gauge_overflows⟩,
    n_Gauge_bottom,
    n_Gauge_row,
    n_Gauge_level,
    n_Gauge_least,
    em_Gauge,
    es_Gauge,
    PySem.W.mg_of X G ac_BadBuckets,
    ⟨oc_BadBuckets, os_BadBuckets, s_BadBuckets, t_BadBuckets, kp_BadBuckets⟩,
    a_BadBuckets___init__,
    xt_BadBuckets,
    nf_BadBuckets_part,
    kp_BadBuckets,
    s_BadBuckets,
    t_BadBuckets,
    e1_BadBuckets,
    e2_BadBuckets,
    e3_BadBuckets,
    e4_BadBuckets,
    e5_BadBuckets,
    GX.kit_bi (by decide) su_Buckets_int,
    GX.kit_bi (by decide) su_Buckets_bool,
    GX.kit_bi (by decide) su_Buckets_tuple,
    tt_Buckets,
    ci_Buckets,
    em_Buckets,
    GX.kit_bi (by decide) su_Gauge_int,
    GX.kit_bi (by decide) su_Gauge_bool,
    GX.kit_bi (by decide) su_Gauge_tuple,
    tt_Gauge,
    ci_Gauge,
    en1,
    en2,
    GX.kit_yes (PySem.W.exm_ref s_BadBuckets e3_BadBuckets t_BadBuckets su_BadBuckets_BadBuckets),
    (PySem.W.exm_ref s_BadBuckets e3_BadBuckets t_BadBuckets su_BadBuckets_BadBuckets),
    ⟨_, PySem.W.mg_of X G k_MOST_LINES⟩,
    ⟨_, PySem.W.mg_of X G k_KINDS⟩,
    ⟨_, PySem.W.mg_of X G k_GREATEST_BOTTOM⟩,
    ⟨_, PySem.W.mg_of X G k_GREATEST_BURST⟩,
    ⟨_, PySem.W.mg_of X G k_GREATEST_NUMBER⟩,
    ⟨_, PySem.W.mg_of X G k_MOST_LOTS⟩,
    PySem.W.mg_none_of X G z_abs,
    PySem.W.mg_none_of X G z_all,
    PySem.W.mg_none_of X G z_bool,
    PySem.W.mg_none_of X G z_enumerate,
    PySem.W.mg_none_of X G z_int,
    PySem.W.mg_none_of X G z_isinstance,
    PySem.W.mg_none_of X G z_len,
    PySem.W.mg_none_of X G z_list,
    PySem.W.mg_none_of X G z_max,
    PySem.W.mg_none_of X G z_min,
    PySem.W.mg_none_of X G z_range,
    PySem.W.mg_none_of X G z_set,
    PySem.W.mg_none_of X G z_sorted,
    PySem.W.mg_none_of X G z_tuple,
    PySem.W.mg_none_of X G z_zip⟩

/-! ### heaps -/
theorem dec_int {a b : Int} : decide (V.int a = V.int b) = decide (a = b) := decide_eq_decide.mpr ⟨fun e => V.int.inj e, fun e => by rw [e]⟩
theorem dec_self {a : V} : decide (a = a) = true := decide_eq_true rfl
theorem same_upd {H : Hp} {p : Addr} {o : HO} (h : H p = none) : Same H (upd H p o) := fun b x e => by
  rw [upd_ne (ne_of_none e h)]
  exact e
theorem same_to {H H1 : Hp} {p : Addr} {o : HO} (s : Same H H1) (h : H p = none) : Same H (upd H1 p o) := fun b x e => by
  rw [upd_ne (ne_of_none e h)]
  exact s b x e
/-- as H but at x, new objects apart -/
def Kp (x : Addr) (H H' : Hp) : Prop := ∀ q o, q ≠ x → H q = some o → H' q = some o
theorem Kp.same {x : Addr} {H H1 H2 : Hp} (a : Kp x H H1) (b : Same H1 H2) : Kp x H H2 := fun q o hq h => b _ _ (a q o hq h)
theorem kp_of {H H' : Hp} (a : Same H H') (x : Addr) : Kp x H H' := fun q o _ h => a q o h
theorem Kp.upd {x : Addr} {H H1 : Hp} {o : HO} (a : Kp x H H1) : Kp x H (upd H1 x o) := fun q u hq h => by
  rw [upd_ne hq]
  exact a q u hq h
theorem Kp.trans {h : Addr} {H H1 H2 : Hp} (a : Kp h H H1) (b : Kp h H1 H2) : Kp h H H2 := fun q o hq e => b q o hq (a q o hq e)
theorem Kp.free {h p : Addr} {H H' : Hp} (a : Kp h H H') (hp : p ≠ h) (e : H' p = none) : H p = none := by
  cases q : H p with
  | none => rfl
  | some o =>
    rw [a p o hp q] at e
    cases e
theorem small1000 {n : Nat} (h : n < 1000) : n < sizeLine := Nat.lt_trans h (by decide)
theorem ne_of {H : Hp} {p q : Addr} {o u : HO} (hp : H p = some o) (hq : H q = some u) (h : o ≠ u) : p ≠ q := fun e => by
  rw [e, hq] at hp
  exact h (Option.some.inj hp).symm
def NT (o : HO) : Prop := ∀ ps, o ≠ .tbl ps
/-- as H but at h, tables apart -/
def Mv (h : Addr) (H H' : Hp) : Prop := ∀ q o, q ≠ h → H q = some o → NT o → H' q = some o
theorem Mv.of {h : Addr} {H H' : Hp} (k : Kp h H H') : Mv h H H' := fun q o hq e _ => k q o hq e
theorem Mv.same {h : Addr} {H H' : Hp} (k : Same H H') : Mv h H H' := fun q o _ e _ => k q o e
theorem Mv.ext {h : Addr} {H H' : Hp} (k : LamX.ExtN H H') : Mv h H H' := fun q o _ e n => k q o e n
theorem Mv.trans {h : Addr} {H H1 H2 : Hp} (a : Mv h H H1) (b : Mv h H1 H2) : Mv h H H2 := fun q o hq e n => b q o hq (a q o hq e n) n
theorem nt_lst {xs : List V} : NT (.lst xs) := fun _ z => by cases z
theorem nt_tup {xs : List V} : NT (.tup xs) := fun _ z => by cases z
theorem nt_ins {a b : Addr} {fs : List (Str × V)} : NT (.ins a b fs) := fun _ z => by cases z
theorem nt_dK {kvs : List (Key × V)} : NT (.dK kvs) := fun _ z => by cases z
/-! ### things of any sort, told as data -/
inductive Td where
  | int (i : Int) | bl (b : Bool) | non | str (s : Str) | tup (ds : List Td) | oth
mutual
/-- v tells d; what may change (the list at h) is none of it -/
inductive Is (h : Addr) (H : Hp) : V → Td → Prop
  | int (i : Int) : Is h H (.int i) (.int i)
  | bl (b : Bool) : Is h H (.bl b) (.bl b)
  | non : Is h H .non .non
  | str (s : Str) : Is h H (.str s) (.str s)
  | tup {a : Addr} {xs : List V} {ds : List Td} : H a = some (.tup xs) → IsL h H xs ds → Is h H (.ref a) (.tup ds)
  | lst {a : Addr} {xs : List V} : H a = some (.lst xs) → a ≠ h → Is h H (.ref a) .oth
  | dK {a : Addr} {kvs : List (Key × V)} : H a = some (.dK kvs) → Is h H (.ref a) .oth
inductive IsL (h : Addr) (H : Hp) : List V → List Td → Prop
  | nil : IsL h H [] []
  | cons {v : V} {d : Td} {vs : List V} {ds : List Td} : Is h H v d → IsL h H vs ds → IsL h H (v :: vs) (d :: ds)
end
section
variable {h : Addr} {H H' : Hp}
theorem Is.mv {v : V} {d : Td} (t : Is h H v d) (k : Mv h H H') (hh : ∃ ys, H h = some (.lst ys)) : Is h H' v d := by
  obtain ⟨ys, hh⟩ := hh
  refine Is.rec (motive_1 := fun v d _ => Is h H' v d) (motive_2 := fun vs ds _ => IsL h H' vs ds) (fun i => .int i) (fun b => .bl b) .non (fun s => .str s) (fun e _ ih => .tup (k _ _ (ne_of e hh (by intro z; cases z)) e nt_tup) ih)
    (fun e n => .lst (k _ _ n e nt_lst) n) (fun e => .dK (k _ _ (ne_of e hh (by intro z; cases z)) e nt_dK)) .nil (fun _ _ a b => .cons a b) t
theorem IsL.mv {vs : List V} {ds : List Td} (t : IsL h H vs ds) (k : Mv h H H') (hh : ∃ ys, H h = some (.lst ys)) : IsL h H' vs ds := by
  obtain ⟨ys, hh⟩ := hh
  refine IsL.rec (motive_1 := fun v d _ => Is h H' v d) (motive_2 := fun vs ds _ => IsL h H' vs ds) (fun i => .int i) (fun b => .bl b) .non (fun s => .str s) (fun e _ ih => .tup (k _ _ (ne_of e hh (by intro z; cases z)) e nt_tup) ih)
    (fun e n => .lst (k _ _ n e nt_lst) n) (fun e => .dK (k _ _ (ne_of e hh (by intro z; cases z)) e nt_dK)) .nil (fun _ _ a b => .cons a b) t
theorem Is.same {v : V} {d : Td} (t : Is h H v d) (s : Same H H') : Is h H' v d := by
  refine Is.rec (motive_1 := fun v d _ => Is h H' v d) (motive_2 := fun vs ds _ => IsL h H' vs ds) (fun i => .int i) (fun b => .bl b) .non (fun s => .str s) (fun e _ ih => .tup (s _ _ e) ih)
    (fun e n => .lst (s _ _ e) n) (fun e => .dK (s _ _ e)) .nil (fun _ _ a b => .cons a b) t
theorem IsL.same {v : List V} {d : List Td} (t : IsL h H v d) (s : Same H H') : IsL h H' v d := by
  refine IsL.rec (motive_1 := fun v d _ => Is h H' v d) (motive_2 := fun vs ds _ => IsL h H' vs ds) (fun i => .int i) (fun b => .bl b) .non (fun s => .str s) (fun e _ ih => .tup (s _ _ e) ih)
    (fun e n => .lst (s _ _ e) n) (fun e => .dK (s _ _ e)) .nil (fun _ _ a b => .cons a b) t
theorem IsL.len : ∀ {vs : List V} {ds : List Td}, IsL h H vs ds → vs.length = ds.length
  | _, _, .nil => rfl
  | _, _, .cons _ t => by rw [List.length_cons, List.length_cons, t.len]
theorem IsL.get : ∀ {vs : List V} {ds : List Td}, IsL h H vs ds → ∀ {i : Nat} {v : V}, vs[i]? = some v → ∃ d, ds[i]? = some d ∧ Is h H v d
  | _, _, .cons a _, 0, _, e => by
    cases e
    exact ⟨_, rfl, a⟩
  | _, _, .cons _ t, i + 1, _, e => by
    obtain ⟨d, e1, e2⟩ := t.get (i := i) e
    exact ⟨d, e1, e2⟩
theorem IsL.append : ∀ {vs us : List V} {ds es : List Td}, IsL h H vs ds → IsL h H us es → IsL h H (vs ++ us) (ds ++ es)
  | _, _, _, _, .nil, t => t
  | _, _, _, _, .cons a r, t => .cons a (r.append t)
theorem IsL.three {x y z : V} {ds : List Td} (t : IsL h H [x, y, z] ds) : ∃ a b c, ds = [a, b, c] ∧ Is h H x a ∧ Is h H y b ∧ Is h H z c := by
  cases t with
  | cons a t => cases t with
    | cons b t => cases t with
      | cons c t => cases t with
        | nil => exact ⟨_, _, _, rfl, a, b, c⟩
theorem IsL.ints : ∀ {ns : List Int}, IsL h H (ns.map V.int) (ns.map Td.int)
  | [] => .nil
  | n :: ns => .cons (.int n) IsL.ints
end
def isI : Td → Bool
  | .int _ => true
  | _ => false
def isBl : Td → Bool
  | .bl _ => true
  | _ => false
def isT : Td → Bool
  | .tup _ => true
  | _ => false
/-- an integer from lo to hi -/
def inI (lo hi : Int) : Td → Bool
  | .int i => decide (lo ≤ i) && decide (i ≤ hi)
  | _ => false
def tupN (n : Int) : Td → Bool
  | .tup ds => decide ((ds.length : Int) = n)
  | _ => false
section
variable {P : Program} {w : World} {K : PySem.W.Frag} {mg : Str → Option Value} {base : Heap} {A : Adr}
theorem kitQ {a b : String} {r r' : Bool} (h : kitB a b = some r) (e : r' = r) : PySem.W.kitOne K (.type a) (.type b) = some r' := by
  rw [e]
  exact kit_ty h
theorem is_ty (T : Top K mg A) {h : Addr} {H : Hp} {x : V} {d : Td} (t : Is h H x d) : ∃ t, TyX K H x t ∧ PySem.W.kitOne K t (.type "int") = some (isI d || isBl d) ∧ PySem.W.kitOne K t (.type "bool") = some (isBl d) ∧ PySem.W.kitOne K t (.type "tuple") = some (isT d) := by
  cases t with
  | non => exact ⟨_, .base .non, kitQ (a := "NoneType") (b := "int") (r := false) (by decide +kernel) rfl, kitQ (a := "NoneType") (b := "bool") (r := false) (by decide +kernel) rfl, kitQ (a := "NoneType") (b := "tuple") (r := false) (by decide +kernel) rfl⟩
  | bl b => exact ⟨_, .base (.bl b), kitQ (a := "bool") (b := "int") (r := true) (by decide +kernel) rfl, kitQ (a := "bool") (b := "bool") (r := true) (by decide +kernel) rfl, kitQ (a := "bool") (b := "tuple") (r := false) (by decide +kernel) rfl⟩
  | int i => exact ⟨_, .base (.int i), kitQ (a := "int") (b := "int") (r := true) (by decide +kernel) rfl, kitQ (a := "int") (b := "bool") (r := false) (by decide +kernel) rfl, kitQ (a := "int") (b := "tuple") (r := false) (by decide +kernel) rfl⟩
  | str s => exact ⟨_, .base (.str s), kitQ (a := "str") (b := "int") (r := false) (by decide +kernel) rfl, kitQ (a := "str") (b := "bool") (r := false) (by decide +kernel) rfl, kitQ (a := "str") (b := "tuple") (r := false) (by decide +kernel) rfl⟩
  | tup e l => exact ⟨_, .base (.tup e), kitQ (a := "tuple") (b := "int") (r := false) (by decide +kernel) rfl, kitQ (a := "tuple") (b := "bool") (r := false) (by decide +kernel) rfl, kitQ (a := "tuple") (b := "tuple") (r := true) (by decide +kernel) rfl⟩
  | lst e n => exact ⟨_, .base (.lst e), kitQ (a := "list") (b := "int") (r := false) (by decide +kernel) rfl, kitQ (a := "list") (b := "bool") (r := false) (by decide +kernel) rfl, kitQ (a := "list") (b := "tuple") (r := false) (by decide +kernel) rfl⟩
  | dK e => exact ⟨_, .base (.dK e), kitQ (a := "dict") (b := "int") (r := false) (by decide +kernel) rfl, kitQ (a := "dict") (b := "bool") (r := false) (by decide +kernel) rfl, kitQ (a := "dict") (b := "tuple") (r := false) (by decide +kernel) rfl⟩
theorem isT_of {h : Addr} {H : Hp} {x : V} {d : Td} (t : Is h H x d) (c : isT d = true) : ∃ a xs ds, x = .ref a ∧ d = .tup ds ∧ H a = some (.tup xs) ∧ IsL h H xs ds := by
  cases t with
  | tup e l => exact ⟨_, _, _, rfl, rfl, e, l⟩
  | _ => cases c
/-! ### what counts as an integer -/
def spIsInteger : Sp := fun vs H Q _ => ∃ x d h, vs = [x] ∧ Is h H x d ∧ Q (.bl (isI d)) H
theorem ok_is_integer (T : Top K mg A) : FnOk P w K mg base CX0 1 A.a_is_integer A.d_is_integer P_is_integer spIsInteger := by
  refine T.F_is_integer.ok sc_is_integer (fun vs H Q E h => ?_) (fun cdv A' outer s H vs Q E hr h => ?_)
  · obtain ⟨x, d, h, rfl, _⟩ := h
    rfl
  · obtain ⟨x, d, h, rfl, ht, k⟩ := h
    obtain ⟨t, ty, e1, e2, _⟩ := is_ty T ht
    refine ⟨_, (pss_one (ps_ret (pe_and (pe_callB call_isi (by rfl) T.z_isinstance (by decide +kernel) (pa_cons (pv 0) (pa_cons (pe_bltn (v := .ty "int") (by rfl) T.z_int (by decide +kernel) rfl) pa_nil))) (pe_one (pe_not (pe_callB call_isi (by rfl) T.z_isinstance (by decide +kernel) (pa_cons (pv 0) (pa_cons (pe_bltn (v := .ty "bool") (by rfl) T.z_bool (by decide +kernel) rfl) pa_nil)))))))), ?_⟩
    refine ⟨_, rfl, _, _, _, _, _, rfl, .ty "int", ty, e1, (isI d || isBl d), rfl, ?_⟩
    cases c : (isI d || isBl d) with
    | false =>
      refine iteF ?_
      have q : isI d = false := by
        cases d <;> first | rfl | cases c
      rw [q] at k
      exact k
    | true =>
      refine iteT ?_
      refine ⟨_, rfl, _, _, _, _, _, rfl, .ty "bool", ty, e2, _, rfl, ?_⟩
      have q : isI d = !isBl d := by
        cases d <;> first | rfl | cases c
      rw [q] at k
      exact k
theorem is_int {h : Addr} {H : Hp} {x : V} {d : Td} (t : Is h H x d) (c : isI d = true) : ∃ i, x = .int i ∧ d = .int i := by
  cases t with
  | int i => exact ⟨i, rfl, rfl⟩
  | _ => cases c
theorem inI_no {lo hi : Int} {d : Td} (c : isI d = false) : inI lo hi d = false := by
  cases d with
  | int i => cases c
  | _ => rfl
def spIIF : Sp := fun vs H Q _ => ∃ (lo hi : Int) (x : V) (d : Td) (h : Addr), vs = [.int lo, .int hi, x] ∧ Is h H x d ∧ Q (.bl (inI lo hi d)) H
theorem ok_is_integer_from (T : Top K mg A) : FnOk P w K mg base CX0 2 A.a_is_integer_from A.d_is_integer_from P_is_integer_from spIIF := by
  refine T.F_is_integer_from.ok sc_is_integer_from (fun vs H Q E h => ?_) (fun cdv A' outer s H vs Q E hr h => ?_)
  · obtain ⟨lo, hi, x, d, h, rfl, _⟩ := h
    rfl
  · obtain ⟨lo, hi, x, d, h, rfl, ht, k⟩ := h
    refine ⟨_, (pss_one (ps_ret (pe_and (pe_call (ok_is_integer T) (hr.mono (by decide)) (by rfl) T.g_is_integer T.F_is_integer.kp T.b_is_integer .nil pass0 (pa_cons (pv 2) pa_nil)) (pe_one (pe_chain op_le op_le (pv 0) (pv 2) (pv 1)))))), ?_⟩
    refine ⟨_, rfl, x, d, h, rfl, ht, _, rfl, ?_⟩
    cases c : isI d with
    | true =>
      obtain ⟨i, rfl, rfl⟩ := is_int ht c
      refine iteT ?_
      refine ⟨_, rfl, _, rfl, _, _, rfl, rfl, _, rfl, ?_⟩
      by_cases c : lo ≤ i
      · simp only [inI, decide_eq_true c, Bool.true_and] at k
        rw [decide_eq_true c]
        refine iteT ⟨_, rfl, _, _, rfl, rfl, k⟩
      · simp only [inI, decide_eq_false c, Bool.false_and] at k
        rw [decide_eq_false c]
        exact iteF k
    | false =>
      rw [inI_no c] at k
      exact iteF k
def spINB : Sp := fun vs H Q _ => ∃ (n : Int) (x : V) (d : Td) (h : Addr), vs = [.int n, x] ∧ Is h H x d ∧ Q (.bl (inI 0 (n - 1) d)) H
theorem ok_is_number_below (T : Top K mg A) : FnOk P w K mg base CX0 3 A.a_is_number_below A.d_is_number_below P_is_number_below spINB := by
  refine T.F_is_number_below.ok sc_is_number_below (fun vs H Q E h => ?_) (fun cdv A' outer s H vs Q E hr h => ?_)
  · obtain ⟨n, x, d, h, rfl, _⟩ := h
    rfl
  · obtain ⟨n, x, d, h, rfl, ht, k⟩ := h
    refine ⟨_, (pss_one (ps_ret (pe_call (ok_is_integer_from T) (hr.mono (by decide)) (by rfl) T.g_is_integer_from T.F_is_integer_from.kp T.b_is_integer_from .nil pass0 (pa_cons pe_int (pa_cons (pe_op op_sub (pv 0) pe_int) (pa_cons (pv 1) pa_nil)))))), ?_⟩
    exact ⟨_, rfl, _, _, rfl, rfl, _, rfl, _, _, _, _, _, rfl, ht, k⟩
theorem tupN_no {n : Int} {d : Td} (c : isT d = false) : tupN n d = false := by
  cases d with
  | tup i => cases c
  | _ => rfl
def spITO : Sp := fun vs H Q _ => ∃ (n : Int) (x : V) (d : Td) (h : Addr), vs = [.int n, x] ∧ Is h H x d ∧ Q (.bl (tupN n d)) H
theorem ok_is_tuple_of (T : Top K mg A) : FnOk P w K mg base CX0 1 A.a_is_tuple_of A.d_is_tuple_of P_is_tuple_of spITO := by
  refine T.F_is_tuple_of.ok sc_is_tuple_of (fun vs H Q E h => ?_) (fun cdv A' outer s H vs Q E hr h => ?_)
  · obtain ⟨n, x, d, h, rfl, _⟩ := h
    rfl
  · obtain ⟨n, x, d, h, rfl, ht, k⟩ := h
    obtain ⟨t, ty, _, _, e3⟩ := is_ty T ht
    refine ⟨_, (pss_one (ps_ret (pe_and (pe_callB call_isi (by rfl) T.z_isinstance (by decide +kernel) (pa_cons (pv 1) (pa_cons (pe_bltn (v := .ty "tuple") (by rfl) T.z_tuple (by decide +kernel) rfl) pa_nil))) (pe_one (pe_cmpR op_eq (pe_callB call_len_seq (by rfl) T.z_len (by decide +kernel) (pa_cons (pv 1) pa_nil)) (pv 0) (nomark _)))))), ?_⟩
    refine ⟨_, rfl, _, _, _, _, _, rfl, .ty "tuple", ty, e3, _, rfl, ?_⟩
    cases c : isT d with
    | false =>
      rw [tupN_no c] at k
      exact iteF k
    | true =>
      obtain ⟨a, xs, ds, rfl, rfl, ha, hl⟩ := isT_of ht c
      refine iteT ?_
      refine ⟨_, rfl, _, _, rfl, .inr (SqT.of ha), _, rfl, rfl, ?_⟩
      rw [dec_int, hl.len]
      exact k
end

section
variable {P : Program} {w : World} {K : PySem.W.Frag} {mg : Str → Option Value} {base : Heap} {A : Adr}
/-! ### the hand: a list of five, [the script's numbers, place, rest, mix, turns] -/
theorem upd_upd {H : Hp} {a : Addr} {o u : HO} : upd (upd H a o) a u = upd H a u := by
  funext b
  by_cases h : b = a
  · subst h
    rw [upd_same, upd_same]
  · rw [upd_ne h, upd_ne h, upd_ne h]
def handO (g : Addr) (i m s t : Int) : HO := .lst [.ref g, .int i, .int m, .int s, .int t]
/-- the hand stands at h, its numbers at g -/
structure HandAt (H : Hp) (h g : Addr) : Prop where
  cells : ∃ ns : List Int, H g = some (.lst (ns.map V.int))
  five : ∃ i m s t, H h = some (handO g i m s t) ∧ 0 ≤ i ∧ -(2 ^ 64) < s ∧ s < 2 ^ 64
  ne : h ≠ g
/-- as H but at h -/
def But (h : Addr) (H H' : Hp) : Prop := ∀ b, b ≠ h → H' b = H b
theorem But.upd {h : Addr} {H : Hp} {o : HO} : But h H (upd H h o) := fun _ hb => upd_ne hb
theorem But.trans {h : Addr} {H H1 H2 : Hp} (a : But h H H1) (b : But h H1 H2) : But h H H2 := fun c hc => (b c hc).trans (a c hc)
theorem But.refl (h : Addr) (H : Hp) : But h H H := fun _ _ => rfl
theorem hand_upd {H : Hp} {h g : Addr} (a : HandAt H h g) {i m s t : Int} (hi : 0 ≤ i) (hs : -(2 ^ 64) < s) (hs2 : s < 2 ^ 64) : HandAt (upd H h (handO g i m s t)) h g :=
  ⟨by
    obtain ⟨ns, e⟩ := a.cells
    exact ⟨ns, by rw [upd_ne a.ne.symm]; exact e⟩, ⟨i, m, s, t, upd_same, hi, hs, hs2⟩, a.ne⟩
def spDraw : Sp := fun vs H Q _ => ∃ (h g : Addr) (n : Int), vs = [.ref h, .int n] ∧ HandAt H h g ∧ 0 < n ∧ n < 1073741824 ∧ ∀ (H' : Hp) (d : Int), But h H H' → HandAt H' h g → 0 ≤ d → d < n → Q (.int d) H'
theorem ixn5 {g : Addr} {i m s t : Int} {v : V} : ∀ j : Nat, [V.ref g, V.int i, V.int m, V.int s, V.int t][j]? = some v → atI [V.ref g, V.int i, V.int m, V.int s, V.int t] (j : Int) = some v := fun j h => atI_nat h
theorem ok_law_draw (T : Top K mg A) : FnOk P w K mg base CX0 1 A.a_law_draw A.d_law_draw P_law_draw spDraw := by
  refine T.F_law_draw.ok sc_law_draw (fun vs H Q E h => ?_) (fun cdv A outer s H vs Q E hr h => ?_)
  · obtain ⟨h, g, n, rfl, _⟩ := h
    rfl
  · obtain ⟨h, g, n, rfl, ha, hn, hn2, k⟩ := h
    obtain ⟨ns, eg⟩ := ha.cells
    obtain ⟨i, m, sd, t, eh, hi, hs1, hs2⟩ := ha.five
    have hne := ha.ne
    refine ⟨_, (Evl.pss_cut (ps_if (PW.pt (pw_and (pt_cmpR op_eq (pe_ix ix_list (pv 0) pe_int (fun _ _ => rfl)) pe_int (nomark _)) (pw_and1 (pt_cmpR op_lt (pe_ix ix_list (pv 0) pe_int (fun _ _ => rfl)) (pe_callB call_len_seq (by rfl) T.z_len (by decide +kernel) (pa_cons (pe_ix ix_list (pv 0) pe_int (fun _ _ => rfl)) pa_nil)) (nomark _))))) (pss_cons (ps_set (i := 2) sc_law_draw.nd rfl (.inl rfl) (pe_ix ix_list (pe_ix ix_list (pv 0) pe_int (fun _ _ => rfl)) (pe_ix ix_list (pv 0) pe_int (fun _ _ => rfl)) (fun _ _ => rfl)))
    (pss_cons (ps_asg (pe_op op_add (pe_ix ix_list (pv 0) pe_int (fun _ _ => rfl)) pe_int) (pg_sub (pv 0) pe_int set_list))
    (pss_cons (ps_asg (pe_op op_mod (pe_callTy call_int1 (by rfl) T.z_int (by decide +kernel) (pa_cons (pe_op op_add (pe_op op_add (pe_op op_mul (pe_ix ix_list (pv 0) pe_int (fun _ _ => rfl)) pe_int) (pv 2)) pe_int) pa_nil)) pe_int) (pg_sub (pv 0) pe_int set_list))
    (pss_one (ps_if (pt_cmpR op_ge (pv 2) (pe_op op_pow pe_int pe_int) (nomark _)) (pss_one (ps_asg (pv 2) (pg_sub (pv 0) pe_int set_list))) pss_nil))))) pss_nil)
    (pss_cons (ps_if (pt_cmpR op_gt (pe_ix ix_list (pv 0) pe_int (fun _ _ => rfl)) pe_int (nomark _)) (pss_cons (ps_set (i := 3) sc_law_draw.nd rfl (.inl rfl) (pe_op op_mod (pe_callTy call_int1 (by rfl) T.z_int (by decide +kernel) (pa_cons (pe_ix ix_list (pv 0) pe_int (fun _ _ => rfl)) pa_nil)) (pv 1)))
    (pss_cons (ps_asg (pe_op op_fdiv (pe_ix ix_list (pv 0) pe_int (fun _ _ => rfl)) (pv 1)) (pg_sub (pv 0) pe_int set_list))
    (pss_one (ps_ret (pv 3))))) pss_nil)
    (pss_cons (ps_asg (pe_op op_add (pe_ix ix_list (pv 0) pe_int (fun _ _ => rfl)) pe_int) (pg_sub (pv 0) pe_int set_list))
    (pss_cons (ps_set (i := 4) sc_law_draw.nd rfl (.inl rfl) (pe_op op_mod (pe_callTy call_int1 (by rfl) T.z_int (by decide +kernel) (pa_cons (pe_op op_mul (pe_callTy call_int1 (by rfl) T.z_int (by decide +kernel) (pa_cons (pe_op op_add (pe_ix ix_list (pv 0) pe_int (fun _ _ => rfl)) (pe_op op_mul pe_int (pe_ix ix_list (pv 0) pe_int (fun _ _ => rfl)))) pa_nil)) pe_int) pa_nil)) pe_int))
    (pss_cons (ps_set (i := 4) sc_law_draw.nd rfl (.inl rfl) (pe_op op_mod (pe_callTy call_int1 (by rfl) T.z_int (by decide +kernel) (pa_cons (pe_op op_mul (pv 4) (pe_op op_add (pe_op op_fdiv (pv 4) pe_int) pe_int)) pa_nil)) pe_int))
    (pss_cons (ps_set (i := 4) sc_law_draw.nd rfl (.inl rfl) (pe_op op_mod (pe_callTy call_int1 (by rfl) T.z_int (by decide +kernel) (pa_cons (pe_op op_mul (pv 4) (pe_op op_add (pe_op op_fdiv (pv 4) pe_int) pe_int)) pa_nil)) pe_int))
    (pss_one (ps_ret (pe_op op_mod (pe_callTy call_int1 (by rfl) T.z_int (by decide +kernel) (pa_cons (pe_op op_fdiv (pv 4) pe_int) pa_nil)) (pv 1)))))))))), ?_⟩
    refine ⟨fun σ' H' => ∃ y2, σ' = [some (.ref h), some (.int n), y2, none, none] ∧ But h H H' ∧ HandAt H' h g, ?_, ?_⟩
    · -- the first if
      have stay : ∃ y2, (start N_law_draw [V.ref h, V.int n]) = [some (.ref h), some (.int n), y2, none, none] ∧ But h H H ∧ HandAt H h g := ⟨none, rfl, But.refl h H, ha⟩
      refine ⟨_, rfl, h, _, 2, _, rfl, rfl, SqL.of eh, atI_nat (j := 2) rfl, rfl, _, rfl, ite2 (fun c1 => ?_) (fun _ => iteF stay)⟩
      refine ⟨_, rfl, h, _, 1, _, rfl, rfl, SqL.of eh, atI_nat (j := 1) rfl, _, rfl, h, _, 0, _, rfl, rfl, SqL.of eh, atI_nat (j := 0) rfl, g, _, rfl, .inl (SqL.of eg), _, _, rfl, rfl, _, rfl, ite2 (fun c2 => ?_) (fun _ => stay)⟩
      have c3 : i < (ns.length : Int) := by
        have q := of_decide_eq_true c2
        rw [List.length_map] at q
        exact q
      have hj : i.toNat < ns.length := by omega
      have ej : (ns.map V.int)[i.toNat]? = some (.int ns[i.toNat]) := by
        rw [List.getElem?_map, List.getElem?_eq_getElem hj]
        rfl
      -- cell = hand[0][hand[1]]
      refine ⟨_, rfl, h, _, 0, _, rfl, rfl, SqL.of eh, atI_nat (j := 0) rfl, _, rfl, h, _, 1, _, rfl, rfl, SqL.of eh, atI_nat (j := 1) rfl, g, _, i, _, rfl, rfl, SqL.of eg, at_of (by omega) ej, ?_⟩
      -- hand[1] = hand[1] + 1
      refine ⟨_, rfl, h, _, 1, _, rfl, rfl, SqL.of eh, atI_nat (j := 1) rfl, i, 1, rfl, rfl, _, rfl, h, _, _, 1, rfl, rfl, eh, rfl, ?_⟩
      have eh1 : (upd H h (handO g (i + 1) m sd t)) h = some (handO g (i + 1) m sd t) := upd_same
      -- hand[3] = int(hand[3] * 69621 + cell + 11) % 2147483629
      refine ⟨_, rfl, h, _, 3, _, rfl, rfl, SqL.of eh1, atI_nat (j := 3) rfl, _, _, rfl, rfl, .inl ⟨hs1, hs2⟩, _, rfl, _, _, rfl, rfl, _, _, rfl, rfl, .inl ⟨_, rfl, _, _, rfl, rfl, (by show (0 : Int) < 2147483629; decide), _, rfl, h, _, _, 3, rfl, rfl, eh1, rfl, ?_⟩⟩
      have hm0 := Int.emod_nonneg (sd * 69621 + ns[i.toNat] + 11) (show (2147483629 : Int) ≠ 0 by decide)
      have hm1 := Int.emod_lt_of_pos (sd * 69621 + ns[i.toNat] + 11) (show (0 : Int) < 2147483629 by decide)
      obtain ⟨s2, es⟩ : ∃ s2, (sd * 69621 + ns[i.toNat] + 11) % 2147483629 = s2 := ⟨_, rfl⟩
      rw [es] at hm0 hm1
      rw [show ((fun i j => V.int (i % j)) (sd * 69621 + ns[i.toNat] + 11) 2147483629) = V.int s2 from congrArg V.int es]
      have eh2 : (upd (upd H h (handO g (i + 1) m sd t)) h (handO g (i + 1) m s2 t)) h = some (handO g (i + 1) m s2 t) := upd_same
      have h2 : HandAt (upd (upd H h (handO g (i + 1) m sd t)) h (handO g (i + 1) m s2 t)) h g := by
        rw [upd_upd]
        exact hand_upd ha (by omega) (by omega) (by omega)
      have b2 : But h H (upd (upd H h (handO g (i + 1) m sd t)) h (handO g (i + 1) m s2 t)) := But.upd.trans But.upd
      -- if cell >= 10 ** 18: hand[2] = cell
      refine ⟨_, rfl, 10, 18, rfl, rfl, ⟨by decide, by decide, by decide⟩, _, _, rfl, rfl, _, rfl, ite2 (fun _ => ?_) (fun _ => ⟨_, rfl, b2, h2⟩)⟩
      refine ⟨_, rfl, _, rfl, h, _, _, 2, rfl, rfl, eh2, rfl, ?_⟩
      exact ⟨_, rfl, b2.trans But.upd, hand_upd h2 (by omega) (by omega) (by omega)⟩
    · rintro σ' H1 ⟨y2, rfl, b1, h1⟩
      obtain ⟨i, m, sd, t, eh, hi, hs1, hs2⟩ := h1.five
      -- if hand[2] > 0
      refine ⟨_, rfl, h, _, 2, _, rfl, rfl, SqL.of eh, atI_nat (j := 2) rfl, _, _, rfl, rfl, _, rfl, ite2 (fun c => ?_) (fun _ => ?_)⟩
      · refine ⟨_, rfl, h, _, 2, _, rfl, rfl, SqL.of eh, atI_nat (j := 2) rfl, .inl ⟨_, rfl, _, rfl, _, _, rfl, rfl, hn, ?_⟩⟩
        refine ⟨_, rfl, h, _, 2, _, rfl, rfl, SqL.of eh, atI_nat (j := 2) rfl, _, rfl, _, _, rfl, rfl, ⟨hn, hn2⟩, _, rfl, h, _, _, 2, rfl, rfl, eh, rfl, ?_⟩
        exact ⟨_, rfl, k _ _ (b1.trans But.upd) (hand_upd h1 hi hs1 hs2) (Int.emod_nonneg _ (by omega)) (Int.emod_lt_of_pos _ hn)⟩
      · -- hand[4] = hand[4] + 1
        refine ⟨_, rfl, h, _, 4, _, rfl, rfl, SqL.of eh, atI_nat (j := 4) rfl, _, _, rfl, rfl, _, rfl, h, _, _, 4, rfl, rfl, eh, rfl, ?_⟩
        have eh1 : (upd H1 h (handO g i m sd (t + 1))) h = some (handO g i m sd (t + 1)) := upd_same
        have h3 : HandAt (upd H1 h (handO g i m sd (t + 1))) h g := hand_upd h1 hi hs1 hs2
        -- number = int(int(hand[3] + 7919 * hand[4]) * 48271) % 2147483647
        refine ⟨_, rfl, h, _, 3, _, rfl, rfl, SqL.of eh1, atI_nat (j := 3) rfl, _, rfl, h, _, 4, _, rfl, rfl, SqL.of eh1, atI_nat (j := 4) rfl, _, _, rfl, rfl, .inl ⟨by decide, by decide⟩, _, _, rfl, rfl, .inl ⟨_, rfl, _, _, rfl, rfl, .inr ⟨by decide, by decide⟩, .inl ⟨_, rfl, _, _, rfl, rfl, (by show (0 : Int) < 2147483647; decide), ?_⟩⟩⟩
        have hm0 := Int.emod_nonneg ((sd + 7919 * (t + 1)) * 48271) (show (2147483647 : Int) ≠ 0 by decide)
        have hm1 := Int.emod_lt_of_pos ((sd + 7919 * (t + 1)) * 48271) (show (0 : Int) < 2147483647 by decide)
        generalize ((sd + 7919 * (t + 1)) * 48271) % 2147483647 = x1 at hm0 hm1 ⊢
        refine ⟨_, rfl, _, rfl, _, _, rfl, rfl, ⟨by decide, by decide⟩, _, _, rfl, rfl, _, _, rfl, rfl, .inl ⟨by omega, by omega⟩, .inl ⟨_, rfl, _, _, rfl, rfl, (by show (0 : Int) < 2147483647; decide), ?_⟩⟩
        have hn0 := Int.emod_nonneg (x1 * (x1 / 1009 + 69621)) (show (2147483647 : Int) ≠ 0 by decide)
        have hn1 := Int.emod_lt_of_pos (x1 * (x1 / 1009 + 69621)) (show (0 : Int) < 2147483647 by decide)
        generalize (x1 * (x1 / 1009 + 69621)) % 2147483647 = x2 at hn0 hn1 ⊢
        refine ⟨_, rfl, _, rfl, _, _, rfl, rfl, ⟨by decide, by decide⟩, _, _, rfl, rfl, _, _, rfl, rfl, .inl ⟨by omega, by omega⟩, .inl ⟨_, rfl, _, _, rfl, rfl, (by show (0 : Int) < 2147483399; decide), ?_⟩⟩
        refine ⟨_, rfl, _, _, rfl, rfl, ⟨by decide, by decide⟩, .inl ⟨_, rfl, _, rfl, _, _, rfl, rfl, hn, ?_⟩⟩
        exact k _ _ (b1.trans But.upd) h3 (Int.emod_nonneg _ (by omega)) (Int.emod_lt_of_pos _ hn)
end
section
variable {P : Program} {w : World} {K : PySem.W.Frag} {mg : Str → Option Value} {base : Heap} {A : Adr}
theorem cut_mem {xs : List V} {lo hi : Option Int} {v : V} (h : v ∈ cutV xs lo hi) : v ∈ xs := by
  unfold cutV at h
  first
    | exact List.mem_of_mem_drop (List.mem_of_mem_take h)
    | exact List.mem_of_mem_take (List.mem_of_mem_drop h)
theorem take_map_more {xs : List V} {f : V → Int} {i : Nat} {x : V} (h : xs[i]? = some x) : ((xs.take (i + 1)).map f).map V.int = ((xs.take i).map f).map V.int ++ [V.int (f x)] := by
  rw [List.take_add_one, h, List.map_append, List.map_append]
  rfl
theorem len_cut {xs : List V} {lo hi : Option Int} : (cutV xs lo hi).length ≤ xs.length := by
  unfold cutV
  first
    | (rw [List.length_take, List.length_drop]; omega)
    | (rw [List.length_drop, List.length_take]; omega)
def vInt : V → Int
  | .int n => n
  | _ => 0
def spHand (K : PySem.W.Frag) : Sp := fun vs H Q _ => ∃ (a : Addr) (ns : List Int), vs = [.ref a] ∧ SqL K H a (ns.map V.int) ∧ ns.length ≤ 63 ∧ ∀ (H' : Hp) (h g : Addr), Same H H' → H h = none → H g = none → HandAt H' h g → Q (.ref h) H'
theorem ok_law_hand (T : Top K mg A) : FnOk P w K mg base CX0 1 A.a_law_hand A.d_law_hand P_law_hand (spHand K) := by
  refine T.F_law_hand.ok sc_law_hand (fun vs H Q E h => ?_) (fun cdv A outer s H vs Q E hr h => ?_)
  · obtain ⟨a, ns, rfl, _⟩ := h
    rfl
  · obtain ⟨a, ns, rfl, ha, hn, k⟩ := h
    refine ⟨_, (pss_cons (ps_setLc (i := 1) (own := [("_law_cell", 2)]) (by rfl) sc_law_hand.nd rfl rfl (sw_true rfl rfl rfl (by decide +kernel)) (pi_list (pe_slice sl_list (pv 0) po_none (po_some pe_int))) (blkOk_by (own := [("_law_cell", 2)]) (N := N_law_hand) (sc := defScope s_law_hand) (by decide +kernel)) (fun _ _ _ _ _ => (pg_name (i := 2) sc_law_hand.nd rfl (.inl rfl))) (fun _ _ _ _ _ => pts_nil) (fun _ _ _ _ _ => (pe_callB call_abs (by rfl) T.z_abs (by decide +kernel) (pa_cons (pe_callTy call_int1 (by rfl) T.z_int (by decide +kernel) (pa_cons (pv 2) pa_nil)) pa_nil))))
    (pss_one (ps_ret (pe_lst (pa_cons (pv 1) (pa_cons pe_int (pa_cons pe_int (pa_cons (pe_op op_add pe_int (pe_callB call_len_seq (by rfl) T.z_len (by decide +kernel) (pa_cons (pv 1) pa_nil))) (pa_cons pe_int pa_nil))))))))), ?_⟩
    refine ⟨_, rfl, _, rfl, a, _, rfl, ha, fun p np => ?_⟩
    have sp : Same H (upd H p (.lst (cutV (ns.map V.int) none (some 63)))) := same_upd np
    refine ⟨p, rfl, ⟨_, SqL.of upd_same⟩, fun D hD => ?_⟩
    have hpD : p ≠ D := fun e => by
      rw [← e, upd_same] at hD
      cases hD
    have hDn := sp.free hD
    refine lc_list (K := K) (a := p) (xs := cutV (ns.map V.int) none (some 63)) (fun i H' => Same H H' ∧ H' p = some (.lst (cutV (ns.map V.int) none (some 63))) ∧ ∃ zs : List Int, H' D = some (.lst (zs.map V.int)) ∧ zs.length ≤ i)
      ⟨same_to sp hDn, by rw [upd_ne hpD]; exact upd_same, [], upd_same, Nat.le_refl _⟩ (fun i H' _ h => SqL.of h.2.1) ?_ ?_
    · rintro i x H' hi ⟨s1, p1, zs, d1, l1⟩
      obtain ⟨n, _, rfl⟩ := List.mem_map.mp (cut_mem (List.mem_of_getElem? hi))
      have hi2 : i < 63 := by
        have q := (List.getElem?_eq_some_iff.mp hi).1
        have q2 := len_cut (xs := ns.map V.int) (lo := none) (hi := some 63)
        rw [List.length_map] at q2
        omega
      refine ⟨rfl, ?_⟩
      refine ⟨_, rfl, .inl ⟨_, rfl, _, rfl, _, d1, ?_, same_to s1 hDn, ?_, zs ++ [if n < 0 then -n else n], ?_, ?_⟩⟩
      · rw [List.length_map]
        exact small1000 (by omega)
      · rw [upd_ne hpD]
        exact p1
      · rw [upd_same, List.map_append]
        rfl
      · rw [List.length_append, List.length_singleton]
        omega
    · rintro H' ⟨s1, p1, zs, d1, l1⟩
      have lz : zs.length ≤ 63 := by
        have q2 := len_cut (xs := ns.map V.int) (lo := none) (hi := some 63)
        rw [List.length_map] at q2
        omega
      -- return [given, 0, 0, 1 + len(given), 0]
      refine ⟨_, rfl, _, rfl, D, _, rfl, .inl (SqL.of d1), 1, _, rfl, rfl, (by show 5 ≤ sizeLine; decide), fun h hh => ?_⟩
      have hhD : h ≠ D := fun e => by
        rw [e, d1] at hh
        cases hh
      refine k _ h D (same_to s1 (s1.free hh)) (s1.free hh) hDn ⟨⟨zs, by rw [upd_ne hhD.symm]; exact d1⟩, ⟨0, 0, 1 + (zs.length : Int), 0, ?_, Int.le_refl _, by omega, by omega⟩, hhD⟩
      rw [upd_same, List.length_map]
      rfl
def spAny (K : PySem.W.Frag) : Sp := fun vs H Q _ => ∃ (h g l : Addr) (xs : List V), vs = [.ref h, .ref l] ∧ HandAt H h g ∧ SqL K H l xs ∧ (∀ H', But h H H' → SqL K H' l xs) ∧ 0 < xs.length ∧ xs.length ≤ 100000 ∧ ∀ (H' : Hp) (j : Nat) (v : V), But h H H' → HandAt H' h g → xs[j]? = some v → Q v H'
end
theorem But.kp {h : Addr} {H H' : Hp} (b : But h H H') : Kp h H H' := fun q o hq e => (b q hq).trans e
theorem HandAt.same {h g : Addr} {H H' : Hp} (s : Same H H') (a : HandAt H h g) : HandAt H' h g :=
  ⟨by obtain ⟨ns, e⟩ := a.cells; exact ⟨ns, s _ _ e⟩, by obtain ⟨i, m, s', t, e, q⟩ := a.five; exact ⟨i, m, s', t, s _ _ e, q⟩, a.ne⟩
theorem HandAt.some {h g : Addr} {H : Hp} (a : HandAt H h g) : ∃ ys, H h = some (.lst ys) := by
  obtain ⟨i, m, s', t, e, q⟩ := a.five
  exact ⟨_, e⟩
theorem HandAt.ne_none {h g p : Addr} {H : Hp} (a : HandAt H h g) (hp : H p = none) : p ≠ h := by
  obtain ⟨o, e⟩ := a.some
  exact (ne_of_none e hp).symm
theorem cut_lo {xs : List V} {n : Nat} (h : n ≤ xs.length) : cutV xs none (some (n : Int)) = xs.take n := by
  unfold cutV
  rw [HT.sIx_none, HT.sIx_nat, Nat.min_eq_left h]
  rfl
theorem cut_hi {xs : List V} {n : Nat} (h : n ≤ xs.length) : cutV xs (some (n : Int)) none = xs.drop n := by
  unfold cutV
  rw [HT.sIx_none, HT.sIx_nat, Nat.min_eq_left h]
  exact List.take_of_length_le (by rw [List.length_drop]; omega)
theorem Is.kp {h g : Addr} {H H' : Hp} {v : V} {d : Td} (t : Is h H v d) (k : Kp h H H') (a : HandAt H h g) : Is h H' v d := t.mv (.of k) a.some
theorem IsL.kp {h g : Addr} {H H' : Hp} {v : List V} {d : List Td} (t : IsL h H v d) (k : Kp h H H') (a : HandAt H h g) : IsL h H' v d := t.mv (.of k) a.some
/-- a new tuple, a new list, told as data -/
theorem Is.newT {h : Addr} {H : Hp} {p : Addr} {xs : List V} {ds : List Td} (l : IsL h H xs ds) (np : H p = none) : Is h (upd H p (.tup xs)) (.ref p) (.tup ds) := .tup upd_same (l.same (same_upd np))
theorem Is.newL {h g : Addr} {H : Hp} {p : Addr} {xs : List V} (np : H p = none) (a : HandAt H h g) : Is h (upd H p (.lst xs)) (.ref p) .oth := .lst upd_same (a.ne_none np)

/-! ### what many laws want -/
/-- one by one -/
inductive All2 {α β : Type} (R : α → β → Prop) : List α → List β → Prop where
  | nil : All2 R [] []
  | cons {a : α} {b : β} {as : List α} {bs : List β} : R a b → All2 R as bs → All2 R (a :: as) (b :: bs)
section
variable {α β : Type} {R R' : α → β → Prop}
theorem All2.imp (f : ∀ a b, R a b → R' a b) : ∀ {as : List α} {bs : List β}, All2 R as bs → All2 R' as bs
  | _, _, .nil => .nil
  | _, _, .cons h t => .cons (f _ _ h) (t.imp f)
theorem All2.snoc : ∀ {as : List α} {bs : List β} {a : α} {b : β}, All2 R as bs → R a b → All2 R (as ++ [a]) (bs ++ [b])
  | _, _, _, _, .nil, h => .cons h .nil
  | _, _, _, _, .cons h t, h' => .cons h (t.snoc h')
theorem All2.len : ∀ {as : List α} {bs : List β}, All2 R as bs → as.length = bs.length
  | _, _, .nil => rfl
  | _, _, .cons _ t => by rw [List.length_cons, List.length_cons, t.len]
theorem All2.get : ∀ {as : List α} {bs : List β}, All2 R as bs → ∀ {i : Nat} {b : β}, bs[i]? = some b → ∃ a, as[i]? = some a ∧ R a b
  | _, _, .cons h _, 0, _, e => by
    cases e
    exact ⟨_, rfl, h⟩
  | _, _, .cons _ t, i + 1, _, e => t.get (i := i) e
theorem All2.getL : ∀ {as : List α} {bs : List β}, All2 R as bs → ∀ {i : Nat} {a : α}, as[i]? = some a → ∃ b, bs[i]? = some b ∧ R a b
  | _, _, .cons h _, 0, _, e => by
    cases e
    exact ⟨_, rfl, h⟩
  | _, _, .cons _ t, i + 1, _, e => t.getL (i := i) e
theorem All2.take : ∀ {as : List α} {bs : List β}, All2 R as bs → ∀ n : Nat, All2 R (as.take n) (bs.take n)
  | _, _, _, 0 => .nil
  | _, _, .nil, _ + 1 => .nil
  | _, _, .cons h t, n + 1 => .cons h (t.take n)
theorem All2.drop : ∀ {as : List α} {bs : List β}, All2 R as bs → ∀ n : Nat, All2 R (as.drop n) (bs.drop n)
  | _, _, h, 0 => h
  | _, _, .nil, _ + 1 => .nil
  | _, _, .cons _ t, n + 1 => t.drop n
theorem All2.mem : ∀ {as : List α} {bs : List β}, All2 R as bs → ∀ {b : β}, b ∈ bs → ∃ a ∈ as, R a b
  | _, _, .cons h t, b, m => by
    rcases List.mem_cons.mp m with e | m
    · subst e
      exact ⟨_, List.mem_cons_self, h⟩
    · obtain ⟨a, h1, h2⟩ := t.mem m
      exact ⟨a, List.mem_cons_of_mem _ h1, h2⟩
theorem All2.append : ∀ {as : List α} {bs : List β} {as' : List α} {bs' : List β}, All2 R as bs → All2 R as' bs' → All2 R (as ++ as') (bs ++ bs')
  | _, _, _, _, .nil, h => h
  | _, _, _, _, .cons h t, h' => .cons h (t.append h')
end
/-! ### comprehensions whose items are known -/
def LP (H : Hp) (D : Addr) (vals : List V) (i : Nat) (H' : Hp) : Prop := Same H H' ∧ H' D = some (.lst (vals.take i))
theorem LP.start {H : Hp} {D : Addr} {vals : List V} (nD : H D = none) : LP H D vals 0 (upd H D (.lst [])) := ⟨same_upd nD, upd_same⟩
theorem lcPut {H0 H1 H4 : Hp} {D : Addr} {vals : List V} {i : Nat} {y : V} (nD : H0 D = none) (p : LP H0 D vals i H1) (s : Same H1 H4) (hy : vals[i]? = some y) (few : vals.length ≤ 100000) :
    ∃ acc, H4 D = some (.lst acc) ∧ acc.length < sizeLine ∧ LP H0 D vals (i + 1) (upd H4 D (.lst (acc ++ [y]))) := by
  refine ⟨_, s _ _ p.2, ?_, same_to (p.1.trans s) nD, ?_⟩
  · rw [List.length_take]
    exact Nat.lt_of_le_of_lt (Nat.le_trans (Nat.min_le_right _ _) few) (by decide)
  · rw [upd_same, List.take_add_one, hy]
    rfl
theorem map_at {α β : Type} {f : α → β} {l : List α} {i : Nat} {x : α} (h : l[i]? = some x) : (l.map f)[i]? = some (f x) := by
  rw [List.getElem?_map, h]
  rfl
theorem take_all {α : Type} {l : List α} {n : Nat} (h : n = l.length) : l.take n = l := List.take_of_length_le (by omega)
/-- a new object -/
theorem newS {H : Hp} {o : HO} {Q : VK} (k : ∀ (H' : Hp) (p : Addr), H p = none → Same H H' → H' p = some o → Q (.ref p) H') : ∀ p, H p = none → Q (.ref p) (upd H p o) := fun p n => k _ p n (same_upd n) upd_same
theorem lay_all : ∀ {ds : List PyData}, (∀ x ∈ ds, PyData.canLay0 x = true) → PyData.canLayAll0 ds = true
  | [], _ => rfl
  | x :: ds, h => by
    show (PyData.canLay0 x && PyData.canLayAll0 ds) = true
    rw [h x List.mem_cons_self, lay_all fun y hy => h y (List.mem_cons_of_mem _ hy)]
    rfl
theorem dep_all {n : Nat} : ∀ {ds : List PyData}, (∀ x ∈ ds, PyData.depth x ≤ n) → PyData.depthAll ds ≤ n
  | [], _ => Nat.zero_le _
  | x :: ds, h => by
    show max (PyData.depth x) (PyData.depthAll ds) ≤ n
    exact Nat.max_le.mpr ⟨h x List.mem_cons_self, dep_all fun y hy => h y (List.mem_cons_of_mem _ hy)⟩
/-- data that may be laid, of a depth -/
structure Lay (d : PyData) (n : Nat) : Prop where
  lay : d.canLay0 = true
  dep : d.depth ≤ n
theorem Lay.sh {d : PyData} {n : Nat} (h : Lay d n) (hn : n ≤ 64) : SeqAt.shaped d = true := by
  unfold SeqAt.shaped
  rw [h.lay, decide_eq_true (Nat.le_trans h.dep hn)]
  rfl
theorem Lay.int (i : Int) : Lay (.int i) 0 := ⟨rfl, Nat.le_refl _⟩
theorem Lay.tup {ds : List PyData} {n : Nat} (h : ∀ x ∈ ds, Lay x n) : Lay (.tuple ds) (n + 1) := ⟨lay_all fun x hx => (h x hx).lay, Nat.succ_le_succ (dep_all fun x hx => (h x hx).dep)⟩
theorem Lay.lst {ds : List PyData} {n : Nat} (h : ∀ x ∈ ds, Lay x n) : Lay (.list ds) (n + 1) := ⟨lay_all fun x hx => (h x hx).lay, Nat.succ_le_succ (dep_all fun x hx => (h x hx).dep)⟩
theorem Lay.mono {d : PyData} {n m : Nat} (h : Lay d n) (hm : n ≤ m) : Lay d m := ⟨h.lay, Nat.le_trans h.dep hm⟩
theorem dpAll_of {α : Type} {K : PySem.W.Frag} {H : Hp} {R : α → V → Prop} {f : α → PyData} (g : ∀ a v, R a v → Dp K H v (f a)) : ∀ {as : List α} {vs : List V}, All2 R as vs → DpAll K H vs (as.map f)
  | _, _, .nil => .nil
  | _, _, .cons h t => .cons (g _ _ h) (dpAll_of g t)
theorem eqv_int {i j : Int} : PyData.eqv (.int i) (.int j) = decide (i = j) := by
  show (i == j) = decide (i = j)
  by_cases h : i = j <;> simp [h]
theorem eqvAll_map {α : Type} [DecidableEq α] {f : α → PyData} (h : ∀ a b, PyData.eqv (f a) (f b) = decide (a = b)) : ∀ as bs : List α, PyData.eqvAll (as.map f) (bs.map f) = decide (as = bs)
  | [], [] => rfl
  | [], _ :: _ => rfl
  | _ :: _, [] => rfl
  | a :: as, b :: bs => by
    show (PyData.eqv (f a) (f b) && PyData.eqvAll (as.map f) (bs.map f)) = _
    rw [h, eqvAll_map h as bs]
    by_cases h1 : a = b <;> by_cases h2 : as = bs <;> simp [h1, h2]
def intsD (ns : List Int) : List PyData := ns.map PyData.int
theorem eqv_ints (ns ms : List Int) : PyData.eqv (.list (intsD ns)) (.list (intsD ms)) = decide (ns = ms) := eqvAll_map (fun _ _ => eqv_int) ns ms
theorem eqv_intsT (ns ms : List Int) : PyData.eqv (.tuple (intsD ns)) (.tuple (intsD ms)) = decide (ns = ms) := eqvAll_map (fun _ _ => eqv_int) ns ms
theorem dp_ints {K : PySem.W.Frag} {H : Hp} : ∀ {ns : List Int}, DpAll K H (ns.map V.int) (intsD ns)
  | [] => .nil
  | n :: _ => .cons (.int n) dp_ints
theorem lay_intsL (ns : List Int) : Lay (.list (intsD ns)) 1 := Lay.lst fun x hx => by
  obtain ⟨i, _, rfl⟩ := List.mem_map.mp hx
  exact Lay.int i
theorem lay_intsT (ns : List Int) : Lay (.tuple (intsD ns)) 1 := Lay.tup fun x hx => by
  obtain ⟨i, _, rfl⟩ := List.mem_map.mp hx
  exact Lay.int i
def matD (m : List (List Int)) : PyData := .tuple (m.map fun r => .tuple (intsD r))
theorem eqv_mat (a b : List (List Int)) : PyData.eqv (matD a) (matD b) = decide (a = b) := eqvAll_map (f := fun r => .tuple (intsD r)) eqv_intsT a b
theorem lay_mat (a : List (List Int)) : Lay (matD a) 2 := Lay.tup fun x hx => by
  obtain ⟨r, _, rfl⟩ := List.mem_map.mp hx
  exact lay_intsT r
theorem ixN_at {n j : Nat} (h : j < n) : ixN n (j : Int) = some j := by
  unfold ixN
  rw [if_pos (by omega), if_pos (by omega), Int.toNat_natCast]
theorem flat_len {α : Type} {m : Nat} : ∀ {l : List (List α)}, (∀ r ∈ l, r.length ≤ m) → l.flatten.length ≤ l.length * m
  | [], _ => by simp
  | r :: l, h => by
    rw [List.flatten_cons, List.length_append, List.length_cons, Nat.add_mul, Nat.one_mul]
    have h1 := h r List.mem_cons_self
    have h2 := flat_len (l := l) fun x hx => h x (List.mem_cons_of_mem _ hx)
    omega
theorem take_flat {α : Type} {l : List (List α)} {i : Nat} {r : List α} (h : l[i]? = some r) : (l.take (i + 1)).flatten = (l.take i).flatten ++ r := by
  rw [List.take_add_one, h, List.flatten_append]
  congr 1
  show [r].flatten = r
  rw [List.flatten_cons, List.flatten_nil, List.append_nil]
theorem take_flat_le {α : Type} {l : List (List α)} (n : Nat) : ((l.take n).flatten).length ≤ l.flatten.length := by
  conv => rhs; rw [← List.take_append_drop n l, List.flatten_append, List.length_append]
  omega
theorem newH {H : Hp} {p : Addr} {o : HO} (n : H p = none) : ∃ H', upd H p o = H' ∧ Same H H' ∧ H' p = some o := ⟨_, rfl, same_upd n, upd_same⟩
theorem sl_at {H : Hp} {K : PySem.W.Frag} {b : Addr} {us : List V} {lo hi : Option Int} {Q : VK} (e : H b = some (.tup us)) (q : ∀ H' p, Same H H' → H' p = some (.tup (cutV us lo hi)) → Q (.ref p) H') : rSlA K (.ref b) lo hi H Q := by
  refine ⟨b, us, rfl, SqT.of e, fun ⟨z1, z2⟩ => q _ _ (fun _ _ z => z) ?_, fun _ p np => q _ _ (same_upd np) upd_same⟩
  rw [e]
  unfold cutV
  rw [z1, z2, List.drop_zero, Nat.sub_zero, List.take_length]
/-! ### matchings: (line, output, place) -/
theorem cut_one {xs : List V} : cutV xs (some (1 : Int)) none = xs.drop 1 := by
  cases xs with
  | nil => rfl
  | cons y r =>
    show cutV (y :: r) (some ((1 : Nat) : Int)) none = _
    unfold cutV
    rw [HT.sIx_none, HT.sIx_nat, Nat.min_eq_left (by rw [List.length_cons]; omega)]
    exact List.take_of_length_le (by rw [List.length_drop]; exact Nat.le_refl _)
theorem cat_at {H : Hp} {K : PySem.W.Frag} {a b : Addr} {xs ys : List V} {Q : VK} (e1 : H a = some (.tup xs)) (e2 : H b = some (.tup ys)) (l : xs.length + ys.length ≤ 1000) (q : ∀ H' p, Same H H' → H' p = some (.tup (xs ++ ys)) → Q (.ref p) H') : rCatA K (.ref a) (.ref b) H Q := by
  refine ⟨a, b, xs, ys, rfl, rfl, SqT.of e1, SqT.of e2, Nat.le_trans l (by decide), fun z => ?_, fun _ z => ?_, fun _ _ p np => q _ p (same_upd np) upd_same⟩
  · subst z
    exact q H b (fun _ _ e => e) e2
  · subst z
    exact q H a (fun _ _ e => e) (by rw [List.append_nil]; exact e1)
theorem cut_to {xs : List V} {n : Nat} (h : n ≤ xs.length) : cutV xs none (some (n : Int)) = xs.take n := by
  unfold cutV
  rw [HT.sIx_none, HT.sIx_nat, Nat.min_eq_left h]
  rfl
theorem cut_from {xs : List V} {n : Nat} (h : n ≤ xs.length) : cutV xs (some (n : Int)) none = xs.drop n := by
  unfold cutV
  rw [HT.sIx_none, HT.sIx_nat, Nat.min_eq_left h]
  exact List.take_of_length_le (by rw [List.length_drop]; exact Nat.le_refl _)
/-- all stays but at S -/
def Off (S : List Addr) (H H' : Hp) : Prop := ∀ b o, b ∉ S → H b = some o → H' b = some o
theorem Off.refl (S : List Addr) (H : Hp) : Off S H H := fun _ _ _ h => h
theorem Off.trans {S : List Addr} {H H1 H2 : Hp} (a : Off S H H1) (b : Off S H1 H2) : Off S H H2 := fun c o hc h => b c o hc (a c o hc h)
theorem Off.mono {S S' : List Addr} {H H' : Hp} (a : Off S H H') (h : ∀ b ∈ S, b ∈ S') : Off S' H H' := fun c o hc e => a c o (fun z => hc (h c z)) e
theorem Off.same {S : List Addr} {H H' : Hp} (s : Same H H') : Off S H H' := fun b o _ e => s b o e
theorem Off.upd {S : List Addr} {H : Hp} {p : Addr} {o : HO} (h : p ∈ S) : Off S H (upd H p o) := fun b u hb e => by
  rw [upd_ne (fun z => hb (by rw [z]; exact h))]
  exact e
theorem Off.new {S : List Addr} {H : Hp} {p : Addr} {o : HO} (h : H p = none) : Off S H (L2.upd H p o) := Off.same (same_upd h)

/-! ### rows of buckets -/
abbrev Rw := Option (Int × Int × Int)
def RowAt (H : Hp) : Rw → V → Prop
  | none, v => v = .non
  | some (b, t, k), v => ∃ q, v = .ref q ∧ H q = some (.tup [.int b, .int t, .int k])
theorem RowAt.mv {H H' : Hp} (f : ∀ q xs, H q = some (.tup xs) → H' q = some (.tup xs)) : ∀ {r : Rw} {v : V}, RowAt H r v → RowAt H' r v
  | none, _, h => h
  | some (_, _, _), _, ⟨q, e, e1⟩ => ⟨q, e, f _ _ e1⟩
theorem RowAt.same {H H' : Hp} {r : Rw} {v : V} (t : RowAt H r v) (s : Same H H') : RowAt H' r v := t.mv fun q xs e => s _ _ e
def RowOk (bot : Int) : Rw → Prop
  | none => True
  | some (b, t, k) => (1 ≤ b ∧ b ≤ 20) ∧ (0 ≤ t ∧ t ≤ bot) ∧ 0 ≤ k ∧ k ≤ 7
structure RowsOk (bot : Int) (rs : List Rw) : Prop where
  one : 1 ≤ rs.length
  few : rs.length ≤ 12
  ok : ∀ r ∈ rs, RowOk bot r
  b1 : 1 ≤ bot
  b20 : bot ≤ 20
def RowsAt (H : Hp) (a : Addr) (rs : List Rw) : Prop := ∃ vs, H a = some (.tup vs) ∧ All2 (RowAt H) rs vs
theorem RowsAt.mv {H H' : Hp} {a : Addr} {rs : List Rw} (t : RowsAt H a rs) (f : ∀ q xs, H q = some (.tup xs) → H' q = some (.tup xs)) : RowsAt H' a rs := let ⟨vs, e, al⟩ := t; ⟨vs, f _ _ e, al.imp fun _ _ t => t.mv f⟩
theorem RowsAt.same {H H' : Hp} {a : Addr} {rs : List Rw} (t : RowsAt H a rs) (s : Same H H') : RowsAt H' a rs := t.mv fun q xs e => s _ _ e
def bF (bot : Int) (a : Addr) : List (Str × V) := putF "rows" (.ref a) (putF "bottom" (.int bot) [])
theorem bf1 {bot : Int} {a : Addr} : List.lookup ("bottom" : Str) (bF bot a) = some (V.int bot) := rfl
theorem bf2 {bot : Int} {a : Addr} : List.lookup ("rows" : Str) (bF bot a) = some (V.ref a) := rfl
def BkAt (C : Addr) (H : Hp) (p : Addr) (bot : Int) (rs : List Rw) : Prop := ∃ dx a, H p = some (.ins C dx (bF bot a)) ∧ RowsAt H a rs
theorem BkAt.same {C : Addr} {H H' : Hp} {p : Addr} {bot : Int} {rs : List Rw} (t : BkAt C H p bot rs) (s : Same H H') : BkAt C H' p bot rs := let ⟨dx, a, e, r⟩ := t; ⟨dx, a, s _ _ e, r.same s⟩
theorem tup_kp {h g p : Addr} {H H' : Hp} {xs : List V} (k : Kp h H H') (a : HandAt H h g) (e : H p = some (.tup xs)) : H' p = some (.tup xs) := by
  obtain ⟨_, _, _, _, e5, _⟩ := a.five
  exact k p _ (fun z => by rw [z, e5] at e; cases e) e
theorem BkAt.kp {C h g : Addr} {H H' : Hp} {p : Addr} {bot : Int} {rs : List Rw} (t : BkAt C H p bot rs) (k : Kp h H H') (ha : HandAt H h g) : BkAt C H' p bot rs := by
  obtain ⟨dx, a, e, r⟩ := t
  obtain ⟨_, _, _, _, e5, _⟩ := ha.five
  exact ⟨dx, a, k _ _ (fun z => by rw [z, e5] at e; cases e) e, r.mv fun q xs e => tup_kp k ha e⟩
theorem inI_ok {lo hi i : Int} (h1 : lo ≤ i) (h2 : i ≤ hi) : inI lo hi (.int i) = true := by
  show (decide (lo ≤ i) && decide (i ≤ hi)) = true
  rw [decide_eq_true h1, decide_eq_true h2]
  rfl
theorem putF_len {f : Str} {v : V} : ∀ fs : List (Str × V), (putF f v fs).length ≤ fs.length + 1
  | [] => Nat.le_refl _
  | (g, u) :: fs => by
    unfold putF
    split
    · exact Nat.le_succ _
    · rw [List.length_cons, List.length_cons]
      exact Nat.succ_le_succ (putF_len fs)
def bucketB (bot : Int) : Td → Bool
  | .tup [a, b, c] => inI 1 20 a && (inI 0 bot b && inI 0 7 c)
  | _ => false
def rowB (bot : Int) (d : Td) : Bool := match d with
  | .non => true
  | d => bucketB bot d
/-- the first row that is none -/
def firstBad (bot : Int) : List Td → Nat → Option Nat
  | [], _ => none
  | d :: ds, i => if rowB bot d = true then firstBad bot ds (i + 1) else some i
/-- the part that is wrong -/
def badP (db dr : Td) : Option V := match db with
  | .int bot => if decide (1 ≤ bot) && decide (bot ≤ 20) then (match dr with
    | .tup ds => if decide (1 ≤ ds.length) && decide (ds.length ≤ 12) then (firstBad bot ds 0).map fun (i : Nat) => V.int (i : Int) else some (.str "rows")
    | _ => some (.str "rows")) else some (.str "bottom")
  | _ => some (.str "bottom")
theorem tup3 {d : Td} (c : tupN 3 d = true) : ∃ a b e, d = .tup [a, b, e] := by
  cases d with
  | tup ds =>
    have l : ds.length = 3 := by
      have z := of_decide_eq_true c
      omega
    match ds, l with
    | [a, b, e], _ => exact ⟨a, b, e, rfl⟩
  | _ => cases c
theorem bucketB_no {bot : Int} {d : Td} (c : tupN 3 d = false) : bucketB bot d = false := by
  cases d with
  | tup ds =>
    match ds with
    | [a, b, e] => cases c
    | [] => rfl
    | [_] => rfl
    | [_, _] => rfl
    | _ :: _ :: _ :: _ :: _ => rfl
  | _ => rfl
theorem firstBad_at {bot : Int} : ∀ {ds : List Td} {k i : Nat} {d : Td}, (∀ j e, j < i → ds[j]? = some e → rowB bot e = true) → ds[i]? = some d → rowB bot d = false → firstBad bot ds k = some (k + i)
  | [], _, _, _, _, h, _ => by simp at h
  | e :: ds, k, 0, d, _, h, c => by
    have h : e = d := by simpa using h
    subst h
    show (if rowB bot e = true then _ else _) = _
    rw [c, if_neg Bool.false_ne_true]
    rfl
  | e :: ds, k, i + 1, d, l, h, c => by
    show (if rowB bot e = true then _ else _) = _
    rw [if_pos (l 0 e (Nat.succ_pos _) rfl), firstBad_at (i := i) (fun j f hj hf => l (j + 1) f (by omega) hf) (by simpa using h) c]
    congr 1
    omega
theorem firstBad_none {bot : Int} : ∀ {ds : List Td} {k : Nat}, (∀ (j : Nat) (e : Td), ds[j]? = some e → rowB bot e = true) → firstBad bot ds k = none
  | [], _, _ => rfl
  | e :: ds, k, l => by
    show (if rowB bot e = true then _ else _) = _
    rw [if_pos (l 0 e rfl), firstBad_none fun j f hf => l (j + 1) f hf]
section
variable {P : Program} {w : World} {K : PySem.W.Frag} {mg : Str → Option Value} {base : Heap} {A : Adr}
def spXInit (C : Addr) (f : Str) : Sp := fun vs H Q _ => ∃ (a : Addr) (v : V), vs = [.ref a, v] ∧ H a = some (exo a C none) ∧ ∀ dx, H dx = none → dx ≠ a → Q .non (upd (upd H dx (exd dx [(f, v)])) a (exo a C (some dx)))
theorem ok_BadBuckets___init__ (T : Top K mg A) : FnOk P w K mg base CX0 1 A.a_BadBuckets___init__ A.d_BadBuckets___init__ P_BadBuckets___init__ (spXInit A.c_BadBuckets "part") := by
  refine T.F_BadBuckets___init__.ok sc_BadBuckets___init__ (fun vs H Q E h => ?_) (fun cdv A' outer s H vs Q E hr h => ?_)
  · obtain ⟨a, v, rfl, _⟩ := h
    rfl
  · obtain ⟨a, v, rfl, ha, k⟩ := h
    refine ⟨_, (pss_one (ps_ost (pv 0) (pv 1))), ?_⟩
    exact ⟨_, rfl, _, rfl, a, _, rfl, T.ox_BadBuckets, T.nf_BadBuckets_part, .inl ⟨ha, k⟩⟩
def spBucket : Sp := fun vs H Q _ => ∃ (v : V) (d : Td) (h : Addr) (bot : Int), vs = [.int bot, v] ∧ Is h H v d ∧ Q (.bl (bucketB bot d)) H
theorem ok_is_bucket (T : Top K mg A) : FnOk P w K mg base CX0 4 A.a_is_bucket A.d_is_bucket P_is_bucket spBucket := by
  refine T.F_is_bucket.ok sc_is_bucket (fun vs H Q E h => ?_) (fun cdv A' outer s H vs Q E hr h => ?_)
  · obtain ⟨v, d, h, bot, rfl, _⟩ := h
    rfl
  · obtain ⟨v, d, h, bot, rfl, iq, kq⟩ := h
    refine ⟨_, (pss_cons (ps_if (pt_not (pt_val (pe_call (ok_is_tuple_of T) (hr.mono (by decide)) (by rfl) T.g_is_tuple_of T.F_is_tuple_of.kp T.b_is_tuple_of .nil pass0 (pa_cons pe_int (pa_cons (pv 1) pa_nil))))) (pss_one (ps_ret pe_bl)) pss_nil)
    (pss_cons (ps_asg (pv 1) (pg_tup rfl (pgs_cons (pg_name (i := 2) sc_is_bucket.nd rfl (.inl rfl)) (pgs_cons (pg_name (i := 3) sc_is_bucket.nd rfl (.inl rfl)) (pgs_cons (pg_name (i := 4) sc_is_bucket.nd rfl (.inl rfl)) pgs_nil)))))
    (pss_cons (ps_if (PW.pt (pw_or (pt_not (pt_val (pe_call (ok_is_integer_from T) (hr.mono (by decide)) (by rfl) T.g_is_integer_from T.F_is_integer_from.kp T.b_is_integer_from .nil pass0 (pa_cons pe_int (pa_cons (pe_glob (v := .int 20) rfl (T.k_GREATEST_BURST).choose_spec ⟨_, rfl⟩) (pa_cons (pv 2) pa_nil)))))) (pw_or1 (pt_not (pt_val (pe_call (ok_is_integer_from T) (hr.mono (by decide)) (by rfl) T.g_is_integer_from T.F_is_integer_from.kp T.b_is_integer_from .nil pass0 (pa_cons pe_int (pa_cons (pv 0) (pa_cons (pv 3) pa_nil))))))))) (pss_one (ps_ret pe_bl)) pss_nil)
    (pss_one (ps_ret (pe_call (ok_is_number_below T) (hr.mono (by decide)) (by rfl) T.g_is_number_below T.F_is_number_below.kp T.b_is_number_below .nil pass0 (pa_cons (pe_glob (v := .int 8) rfl (T.k_KINDS).choose_spec ⟨_, rfl⟩) (pa_cons (pv 4) pa_nil)))))))), ?_⟩
    refine ⟨_, rfl, 3, _, _, h, rfl, iq, _, rfl, ?_⟩
    cases c : tupN 3 d with
    | false =>
      rw [bucketB_no c] at kq
      exact iteT kq
    | true =>
    obtain ⟨d1, d2, d3, rfl⟩ := tup3 c
    obtain ⟨q, xs, ds, rfl, e0, e, l⟩ := isT_of iq rfl
    injection e0 with e0
    subst e0
    have l3 := l.len
    match xs, l, l3, e with
    | [x1, x2, x3], l, _, e =>
    obtain ⟨_, _, _, e4, i1, i2, i3⟩ := l.three
    simp only [List.cons.injEq, and_true] at e4
    obtain ⟨rfl, rfl, rfl⟩ := e4
    have kq : Q (.bl (inI 1 20 d1 && (inI 0 bot d2 && inI 0 7 d3))) H := kq
    refine iteF ?_
    refine ⟨_, rfl, q, _, rfl, SqT.of e, rfl, _, _, rfl, _, _, rfl, _, _, rfl, rfl, ?_⟩
    refine ⟨_, rfl, 1, 20, _, _, h, rfl, i1, _, rfl, ?_⟩
    cases c1 : inI 1 20 d1 with
    | false =>
      rw [c1] at kq
      exact iteT kq
    | true =>
    refine iteF ⟨_, rfl, _, rfl, 0, bot, _, _, h, rfl, i2, _, rfl, ?_⟩
    cases c2 : inI 0 bot d2 with
    | false =>
      rw [c1, c2] at kq
      exact iteT kq
    | true =>
    rw [c1, c2] at kq
    exact iteF ⟨_, rfl, 8, _, _, h, rfl, i3, kq⟩
def bFv (v : V) (u : V) : List (Str × V) := putF "rows" u (putF "bottom" v [])
def spInit (C BC : Addr) : Sp := fun vs H Q E => ∃ (p dx : Addr) (v u : V) (db dr : Td) (h : Addr), vs = [.ref p, v, u] ∧ H p = some (.ins C dx []) ∧ Is h H v db ∧ Is h H u dr ∧
  (badP db dr = none → ∀ H', Kp p H H' → H' p = some (.ins C dx (bFv v u)) → Q .non H') ∧
  (∀ x, badP db dr = some x → ∀ (H' : Hp) (dd : Addr), Same H H' → H' dd = some (.xd [("part", x)]) → E (.ref BC) (some dd) H')
theorem ok_Buckets___init__ (T : Top K mg A) : FnOk P w K mg base (L2.CX P w) 5 A.a_Buckets___init__ A.d_Buckets___init__ P_Buckets___init__ (spInit A.c_Buckets A.c_BadBuckets) := by
  refine T.F_Buckets___init__.okX sc_Buckets___init__ (fun vs H Q E h => ?_) (fun cdv A' outer s H vs Q E hr h => ?_)
  · obtain ⟨p, dx, v, u, db, dr, h, rfl, _⟩ := h
    rfl
  · obtain ⟨p, dx, v, u, db, dr, h, rfl, ep, iv, iu, yes, no⟩ := h
    have fail : ∀ (x : V) (H1 : Hp), badP db dr = some x → Same H H1 → ∀ a, H1 a = none → ∀ dd, upd H1 a (exo a A.c_BadBuckets none) dd = none → dd ≠ a → True := fun _ _ _ _ _ _ _ _ _ => trivial
    clear fail
    refine ⟨_, (pss_cons (ps_if (pt_not (pt_val (pe_call (ok_is_integer_from T) (hr.mono (by decide)) (by rfl) T.g_is_integer_from T.F_is_integer_from.kp T.b_is_integer_from .nil pass0 (pa_cons pe_int (pa_cons (pe_glob (v := .int 20) rfl (T.k_GREATEST_BOTTOM).choose_spec ⟨_, rfl⟩) (pa_cons (pv 1) pa_nil)))))) (pss_one (ps_raise rfl (takes_of rfl rfl rfl rfl) (pmk_oex T.ox_BadBuckets T.xi_BadBuckets T.xt_BadBuckets (ok_BadBuckets___init__ T) (hr.mono (by decide)) T.b_BadBuckets___init__ .nil pass0 rfl T.gc_BadBuckets (pa_cons pe_str pa_nil)))) pss_nil)
    (pss_cons (ps_if (PW.pt (pw_or (pt_not (pt_val (pe_callB call_isi (by rfl) T.z_isinstance (by decide +kernel) (pa_cons (pv 2) (pa_cons (pe_bltn (v := .ty "tuple") (by rfl) T.z_tuple (by decide +kernel) rfl) pa_nil))))) (pw_or1 (pt_not (pt_chain op_le op_le pe_int (pe_callB call_len_seq (by rfl) T.z_len (by decide +kernel) (pa_cons (pv 2) pa_nil)) (pe_glob (v := .int 12) rfl (T.k_MOST_LINES).choose_spec ⟨_, rfl⟩)))))) (pss_one (ps_raise rfl (takes_of rfl rfl rfl rfl) (pmk_oex T.ox_BadBuckets T.xi_BadBuckets T.xt_BadBuckets (ok_BadBuckets___init__ T) (hr.mono (by decide)) T.b_BadBuckets___init__ .nil pass0 rfl T.gc_BadBuckets (pa_cons pe_str pa_nil)))) pss_nil)
    (pss_cons (ps_for (L2.passes_of rfl) rfl (GE.pi_enumA (by rfl) T.z_enumerate (pa_cons (pv 2) pa_nil)) (pg_tup rfl (pgs_cons (pg_name (i := 3) sc_Buckets___init__.nd rfl (.inl rfl)) (pgs_cons (pg_name (i := 4) sc_Buckets___init__.nd rfl (.inl rfl)) pgs_nil))) (pss_one (ps_if (PW.pt (pw_and (pt_cmpR op_notN (pv 4) pe_non (nomark _)) (pw_and1 (pt_not (pt_val (pe_call (ok_is_bucket T) (hr.mono (by decide)) (by rfl) T.g_is_bucket T.F_is_bucket.kp T.b_is_bucket .nil pass0 (pa_cons (pv 1) (pa_cons (pv 4) pa_nil)))))))) (pss_one (ps_raise rfl (takes_of rfl rfl rfl rfl) (pmk_oex T.ox_BadBuckets T.xi_BadBuckets T.xt_BadBuckets (ok_BadBuckets___init__ T) (hr.mono (by decide)) T.b_BadBuckets___init__ .nil pass0 rfl T.gc_BadBuckets (pa_cons (pv 3) pa_nil)))) pss_nil)))
    (pss_cons (ps_fld (pv 0) (pv 1) (by rfl))
    (pss_one (ps_fld (pv 0) (pv 2) (by rfl))))))), ?_⟩
    refine ⟨_, rfl, 1, 20, _, _, h, rfl, iv, _, rfl, ?_⟩
    cases c0 : inI 1 20 db with
    | false =>
      have hb : badP db dr = some (.str "bottom") := by
        cases db with
        | int i =>
          have c0 : (decide (1 ≤ i) && decide (i ≤ 20)) = false := c0
          show (if (decide (1 ≤ i) && decide (i ≤ 20)) = true then _ else _) = _
          rw [c0, if_neg Bool.false_ne_true]
        | _ => rfl
      refine iteT ?_
      refine ⟨(by show 1 ≤ 1000; decide), fun a na => ?_⟩
      refine ⟨a, .str "bottom", rfl, upd_same, fun dd nd hne => ⟨rfl, dd, [("part", .str "bottom")], upd_same, ?_, ?_, ?_⟩⟩
      · rw [upd_ne hne, upd_same]
      · rw [upd_ne hne] at nd
        exact nd
      · refine no _ hb _ dd (fun q o e => ?_) upd_same
        have hqa : q ≠ a := ne_of_none e na
        have hqd : q ≠ dd := ne_of_none e (by rw [upd_ne hne] at nd; exact nd)
        rw [upd_ne hqd]
        rw [del_ne hqa, upd_ne hqa, upd_ne hqd, upd_ne hqa]
        exact e
    | true =>
    obtain ⟨bot, rfl⟩ : ∃ i, db = .int i := by
      cases db with
      | int i => exact ⟨i, rfl⟩
      | _ => cases c0
    have ev : v = .int bot := by
      cases iv
      rfl
    subst ev
    have c0' : (decide (1 ≤ bot) && decide (bot ≤ 20)) = true := c0
    refine iteF ?_
    obtain ⟨t0, ty, _, _, e3⟩ := is_ty T iu
    refine ⟨_, rfl, _, _, _, _, _, rfl, .ty "tuple", ty, e3, _, rfl, ?_⟩
    have rowsBad : ∀ (H1 : Hp), badP (.int bot) dr = some (.str "rows") → H1 = H → ∀ (a : Addr), H a = none → ∀ dd, upd H a (exo a A.c_BadBuckets none) dd = none → dd ≠ a → True := fun _ _ _ _ _ _ _ _ => trivial
    clear rowsBad
    cases c1 : isT dr with
    | false =>
      have hb : badP (.int bot) dr = some (.str "rows") := by
        show (if (decide (1 ≤ bot) && decide (bot ≤ 20)) = true then _ else _) = _
        rw [c0', if_pos rfl]
        cases dr with
        | tup ds => cases c1
        | _ => rfl
      refine iteT ?_
      refine ⟨(by show 1 ≤ 1000; decide), fun a na => ?_⟩
      refine ⟨a, .str "rows", rfl, upd_same, fun dd nd hne => ⟨rfl, dd, [("part", .str "rows")], upd_same, ?_, ?_, ?_⟩⟩
      · rw [upd_ne hne, upd_same]
      · rw [upd_ne hne] at nd
        exact nd
      · refine no _ hb _ dd (fun q o e => ?_) upd_same
        have hqa : q ≠ a := ne_of_none e na
        have hqd : q ≠ dd := ne_of_none e (by rw [upd_ne hne] at nd; exact nd)
        rw [upd_ne hqd]
        rw [del_ne hqa, upd_ne hqa, upd_ne hqd, upd_ne hqa]
        exact e
    | true =>
    obtain ⟨a, vs, ds, rfl, rfl, ea, al⟩ := isT_of iu c1
    have lv := al.len
    have hp : badP (.int bot) (.tup ds) = if (decide (1 ≤ ds.length) && decide (ds.length ≤ 12)) = true then (firstBad bot ds 0).map fun (i : Nat) => V.int (i : Int) else some (.str "rows") := by
      show (if (decide (1 ≤ bot) && decide (bot ≤ 20)) = true then _ else _) = _
      rw [c0', if_pos rfl]
    refine iteF ?_
    refine ⟨_, rfl, _, _, rfl, .inr (SqT.of ea), _, _, rfl, rfl, _, rfl, ?_⟩
    by_cases c2 : 1 ≤ ds.length ∧ ds.length ≤ 12
    case neg =>
      have hb : badP (.int bot) (.tup ds) = some (.str "rows") := by
        rw [hp]
        rw [if_neg]
        rw [← Bool.decide_and, decide_eq_true_eq]
        exact c2
      by_cases c3 : 1 ≤ ds.length
      · rw [decide_eq_true (show (1 : Int) ≤ vs.length by omega)]
        refine iteT ⟨_, _, rfl, rfl, _, rfl, ?_⟩
        rw [decide_eq_false (show ¬ (vs.length : Int) ≤ 12 by omega)]
        refine iteT ?_
        refine ⟨(by show 1 ≤ 1000; decide), fun a na => ?_⟩
        refine ⟨a, .str "rows", rfl, upd_same, fun dd nd hne => ⟨rfl, dd, [("part", .str "rows")], upd_same, ?_, ?_, ?_⟩⟩
        · rw [upd_ne hne, upd_same]
        · rw [upd_ne hne] at nd
          exact nd
        · refine no _ hb _ dd (fun q o e => ?_) upd_same
          have hqa : q ≠ a := ne_of_none e na
          have hqd : q ≠ dd := ne_of_none e (by rw [upd_ne hne] at nd; exact nd)
          rw [upd_ne hqd]
          rw [del_ne hqa, upd_ne hqa, upd_ne hqd, upd_ne hqa]
          exact e
      · rw [decide_eq_false (show ¬ (1 : Int) ≤ vs.length by omega)]
        refine iteF ⟨_, rfl, ?_⟩
        refine iteT ?_
        refine ⟨(by show 1 ≤ 1000; decide), fun a na => ?_⟩
        refine ⟨a, .str "rows", rfl, upd_same, fun dd nd hne => ⟨rfl, dd, [("part", .str "rows")], upd_same, ?_, ?_, ?_⟩⟩
        · rw [upd_ne hne, upd_same]
        · rw [upd_ne hne] at nd
          exact nd
        · refine no _ hb _ dd (fun q o e => ?_) upd_same
          have hqa : q ≠ a := ne_of_none e na
          have hqd : q ≠ dd := ne_of_none e (by rw [upd_ne hne] at nd; exact nd)
          rw [upd_ne hqd]
          rw [del_ne hqa, upd_ne hqa, upd_ne hqd, upd_ne hqa]
          exact e
    obtain ⟨one, few⟩ := c2
    rw [decide_eq_true (by omega)]
    refine iteT ⟨_, _, rfl, rfl, _, rfl, ?_⟩
    rw [decide_eq_true (by omega)]
    refine iteF ?_
    have hp : badP (.int bot) (.tup ds) = (firstBad bot ds 0).map fun (i : Nat) => V.int (i : Int) := by
      rw [hp, decide_eq_true one, decide_eq_true few]
      rfl
    refine ⟨_, rfl, a, vs, rfl, .inr ⟨SqT.of ea, for_it GE.walk (fun i σ H' => ∃ y3 y4 : Option V, σ = [some (.ref p), some (.int bot), some (.ref a), y3, y4] ∧ Same H H' ∧ ∀ j e, j < i → ds[j]? = some e → rowB bot e = true) ⟨none, none, rfl, fun _ _ e => e, fun j e hj => absurd hj (Nat.not_lt_zero _)⟩ (fun i σ H' _ ⟨_, _, _, s, _⟩ => SqT.of (s _ _ ea)) ?_ ?_⟩⟩
    · rintro i v σ H2 H2' hi ⟨y3, y4, rfl, s2, low⟩ ⟨q, x1, x2, rfl, nq, rfl, e1, e2⟩
      cases e1
      have e2 : vs[i]? = some x2 := e2
      obtain ⟨d, hd, id⟩ := al.get e2
      have s3 := same_to s2 (s2.free nq) (o := .tup [.int (i : Nat), x2])
      have id := id.same s3
      have lift : rowB bot d = true → ∀ j e, j < i + 1 → ds[j]? = some e → rowB bot e = true := fun hb j e hj he => by
        by_cases z : j = i
        · rw [z, hd] at he
          cases he
          exact hb
        · exact low j e (by omega) he
      refine ⟨q, _, rfl, SqT.of upd_same, rfl, _, _, rfl, _, _, rfl, rfl, ?_⟩
      by_cases cn : d = .non
      · subst cn
        cases id
        exact ⟨_, rfl, rfl, _, rfl, iteF ⟨_, _, rfl, s3, lift rfl⟩⟩
      · have nn : x2 ≠ .non := fun z => by
          subst z
          cases id
          exact cn rfl
        have erow : rowB bot d = bucketB bot d := by
          cases d <;> first | rfl | exact absurd rfl cn
        have nx : (!decide (x2 = V.non)) = true := by rw [decide_eq_false nn]; rfl
        refine ⟨_, rfl, rfl, _, rfl, ?_⟩
        rw [nx]
        refine iteT ⟨_, rfl, _, rfl, x2, d, h, bot, rfl, id, _, rfl, ?_⟩
        cases cb : bucketB bot d with
        | true => exact iteF ⟨_, _, rfl, s3, lift (erow.trans cb)⟩
        | false =>
          have hb : badP (.int bot) (.tup ds) = some (.int (i : Int)) := by
            rw [hp, firstBad_at low hd (erow.trans cb), Nat.zero_add]
            rfl
          refine iteT ?_
          refine ⟨_, rfl, (by show 1 ≤ 1000; decide), fun a na => ?_⟩
          refine ⟨a, .int (i : Int), rfl, upd_same, fun dd nd hne => ⟨rfl, dd, [("part", .int (i : Int))], upd_same, ?_, ?_, ?_⟩⟩
          · rw [upd_ne hne, upd_same]
          · rw [upd_ne hne] at nd
            exact nd
          · refine no _ hb _ dd (fun q o e => ?_) upd_same
            have e := s3 _ _ e
            have hqa : q ≠ a := ne_of_none e na
            have hqd : q ≠ dd := ne_of_none e (by rw [upd_ne hne] at nd; exact nd)
            rw [upd_ne hqd]
            rw [del_ne hqa, upd_ne hqa, upd_ne hqd, upd_ne hqa]
            exact e
    · rintro σ H2 ⟨y3, y4, rfl, s2, low⟩
      have hb : badP (.int bot) (.tup ds) = none := by
        rw [hp, firstBad_none fun j e he => low j e (by have := (List.getElem?_eq_some_iff.mp he).1; omega) he]
        rfl
      refine ⟨_, rfl, _, rfl, p, _, dx, _, rfl, s2 _ _ ep, T.cl_Buckets, T.n_Buckets_bottom, (by show 0 < 1000; decide), ?_⟩
      refine ⟨_, rfl, _, rfl, p, _, dx, _, rfl, upd_same, T.cl_Buckets, T.n_Buckets_rows, Nat.lt_of_le_of_lt (putF_len _) (by show 1 < 1000; decide), ?_⟩
      refine yes hb _ (fun q o hq e => ?_) upd_same
      rw [upd_ne hq, upd_ne hq]
      exact s2 _ _ e
end

/-! ### what may be held -/
def mn (i j : Int) : Int := if j < i then j else i
def sent1 (bot beats : Int) (r : Int × Int × Int) : Int := mn beats (r.1 + r.2.1 * beats / bot)
def sentR (bot beats : Int) : Rw → Int
  | none => 0
  | some r => sent1 bot beats r
def fH (bot : Int) (ts : List (Int × Int × Int)) (i : Nat) : Int := (ts.map (sent1 bot (i : Int))).sum - (i : Int)
def topsS (ts : List (Int × Int × Int)) : Int := (ts.map fun r => r.2.1).sum
def mx (f : Nat → Int) : Nat → Int
  | 0 => 0
  | n + 1 => if mx f n < f n then f n else mx f n
theorem mx_le {f : Nat → Int} : ∀ {n i : Nat}, i < n → f i ≤ mx f n
  | n + 1, i, h => by
    show f i ≤ if mx f n < f n then f n else mx f n
    by_cases e : i = n
    · subst e
      split <;> omega
    · have := mx_le (f := f) (n := n) (i := i) (by omega)
      split <;> omega
theorem mx_0 {f : Nat → Int} : ∀ n, 0 ≤ mx f n
  | 0 => Int.le_refl _
  | n + 1 => by
    have := mx_0 (f := f) n
    show 0 ≤ if mx f n < f n then f n else mx f n
    split <;> omega
theorem mx_at {f : Nat → Int} : ∀ n, mx f n = 0 ∨ ∃ i, i < n ∧ f i = mx f n
  | 0 => .inl rfl
  | n + 1 => by
    have ih := mx_at (f := f) n
    show (if mx f n < f n then f n else mx f n) = 0 ∨ ∃ i, i < n + 1 ∧ f i = if mx f n < f n then f n else mx f n
    split
    · exact .inr ⟨n, Nat.lt_succ_self _, rfl⟩
    · rcases ih with h | ⟨i, h1, h2⟩
      · exact .inl h
      · exact .inr ⟨i, Nat.lt_succ_of_lt h1, h2⟩
theorem mx_top {f : Nat → Int} {n : Nat} {b : Int} (hb : 0 ≤ b) (h : ∀ i, i < n → f i ≤ b) : mx f n ≤ b := by
  rcases mx_at (f := f) n with e | ⟨i, h1, h2⟩
  · omega
  · have := h i h1
    omega
theorem mx_is {f : Nat → Int} {n : Nat} {m : Int} (f0 : f 0 = 0) (n0 : 0 < n) (h1 : ∃ i, i < n ∧ f i = m) (h2 : ∀ i, i < n → f i ≤ m) : m = mx f n := by
  obtain ⟨i, hi, e⟩ := h1
  have := mx_le (f := f) hi
  have := mx_top (f := f) (b := m) (by have := h2 0 n0; omega) h2
  omega
theorem mx_from {f : Nat → Int} (f0 : f 0 = 0) : mx f 1 = 0 := by
  show (if (0 : Int) < f 0 then f 0 else 0) = 0
  rw [f0]
  rfl
theorem sent_step {bot : Int} (b1 : 1 ≤ bot) {r : Int × Int × Int} (hr : RowOk bot (some r)) {i : Int} (i0 : 0 ≤ i) (hi : r.1 * bot ≤ i) : sent1 bot (i + bot) r ≤ sent1 bot i r + r.2.1 := by
  obtain ⟨b, t, k⟩ := r
  obtain ⟨⟨h1, _⟩, ⟨h3, h4⟩, _⟩ := hr
  have hi : b * bot ≤ i := hi
  show mn (i + bot) (b + t * (i + bot) / bot) ≤ mn i (b + t * i / bot) + t
  have e : t * (i + bot) / bot = t * i / bot + t := by
    rw [Int.mul_add, Int.add_mul_ediv_right _ _ (by omega)]
  rw [e]
  unfold mn
  by_cases c : t = bot
  · subst c
    split <;> split <;> omega
  · have key : t * i / bot ≤ i - b := by
      have h : t * i ≤ (i - b) * bot := by
        have h5 : t * i ≤ (bot - 1) * i := Int.mul_le_mul_of_nonneg_right (by omega) i0
        rw [Int.sub_mul, Int.mul_comm i bot]
        rw [Int.sub_mul, Int.one_mul] at h5
        omega
      exact Int.ediv_le_of_le_mul (by omega) h
    split <;> split <;> omega
theorem sum_step {bot : Int} (b1 : 1 ≤ bot) {i : Int} (i0 : 0 ≤ i) : ∀ {ts : List (Int × Int × Int)}, (∀ r ∈ ts, RowOk bot (some r) ∧ r.1 * bot ≤ i) → (ts.map (sent1 bot (i + bot))).sum ≤ (ts.map (sent1 bot i)).sum + topsS ts
  | [], _ => by
    show (0 : Int) ≤ 0 + 0
    omega
  | r :: ts, h => by
    have h1 := sent_step b1 (h r List.mem_cons_self).1 i0 (h r List.mem_cons_self).2
    have h2 := sum_step b1 i0 (ts := ts) fun q hq => h q (List.mem_cons_of_mem _ hq)
    unfold topsS at h2 ⊢
    rw [List.map_cons, List.map_cons, List.map_cons, List.sum_cons, List.sum_cons, List.sum_cons]
    omega
theorem fH_0 {bot : Int} : ∀ {ts : List (Int × Int × Int)}, (∀ r ∈ ts, RowOk bot (some r)) → fH bot ts 0 = 0 := by
  intro ts h
  have z : (ts.map (sent1 bot ((0 : Nat) : Int))).sum = 0 := by
    induction ts with
    | nil => rfl
    | cons r ts ih =>
      rw [List.map_cons, List.sum_cons, ih fun q hq => h q (List.mem_cons_of_mem _ hq)]
      obtain ⟨⟨h1, _⟩, _⟩ := h r List.mem_cons_self
      show (if r.1 + r.2.1 * (0 : Int) / bot < (0 : Int) then _ else (0 : Int)) + 0 = 0
      rw [Int.mul_zero, Int.zero_ediv, if_neg (by omega)]
      rfl
  unfold fH
  rw [z]
  rfl
/-- the numbers of beats that are enough -/
theorem hold_eq {bot : Int} {ts : List (Int × Int × Int)} {R N : Nat} (b1 : 1 ≤ bot) (ok : ∀ r ∈ ts, RowOk bot (some r)) (tops : topsS ts ≤ bot) (R1 : 1 ≤ R) (reach : ∀ r ∈ ts, r.1 * bot + 2 * bot ≤ (R : Int)) (RN : R + 1 ≤ N) : mx (fH bot ts) (R + 1) = mx (fH bot ts) N := by
  have key : ∀ i : Nat, fH bot ts i ≤ mx (fH bot ts) (R + 1) := by
    intro i
    induction i using Nat.strongRecOn with
    | _ i ih =>
      by_cases c : i < R + 1
      · exact mx_le c
      · by_cases e : ts = []
        · subst e
          have := mx_0 (f := fH bot []) (R + 1)
          show (0 : Int) - (i : Int) ≤ _
          omega
        · obtain ⟨r0, hr0⟩ : ∃ r, r ∈ ts := by
            cases ts with
            | nil => exact absurd rfl e
            | cons r ts => exact ⟨r, List.mem_cons_self⟩
          have h0 := reach r0 hr0
          obtain ⟨⟨h1, _⟩, _⟩ := ok r0 hr0
          have h2 : 0 ≤ r0.1 * bot := Int.mul_nonneg (by omega) (by omega)
          obtain ⟨b, rfl⟩ : ∃ b : Nat, bot = (b : Int) := ⟨bot.toNat, by omega⟩
          have hj := ih (i - b) (by omega)
          have st := sum_step b1 (i := ((i - b : Nat) : Int)) (by omega) (ts := ts) fun r hr => ⟨ok r hr, by have := reach r hr; omega⟩
          have ei : ((i - b : Nat) : Int) + (b : Int) = (i : Int) := by omega
          rw [ei] at st
          unfold fH at hj ⊢
          omega
  have h1 := mx_top (f := fH bot ts) (n := N) (mx_0 (R + 1)) fun i _ => key i
  have h2 := mx_top (f := fH bot ts) (n := R + 1) (b := mx (fH bot ts) N) (mx_0 N) fun i hi => mx_le (by omega)
  omega
def someR (rs : List Rw) : List (Int × Int × Int) := rs.filterMap id
def holdO (bot : Int) (rs : List Rw) : Option Int := if bot < topsS (someR rs) then none else some (mx (fH bot (someR rs)) 420)
def letB (bot : Int) (rs : List Rw) (most : Int) : Bool := match holdO bot rs with
  | none => false
  | some m => decide (m ≤ most)
def optV : Option Int → V
  | none => .non
  | some i => .int i
def wr (rs : List Rw) (l : Nat) (r : Rw) : List Rw := rs.take l ++ [r] ++ rs.drop (l + 1)
theorem wr_ok {bot : Int} {rs : List Rw} {l : Nat} {r : Rw} (ok : RowsOk bot rs) (hl : l < rs.length) (hr : RowOk bot r) : RowsOk bot (wr rs l r) := by
  have len : (wr rs l r).length = rs.length := by
    unfold wr
    simp only [List.length_append, List.length_take, List.length_drop, List.length_cons, List.length_nil]
    omega
  refine ⟨by rw [len]; exact ok.one, by rw [len]; exact ok.few, fun q hq => ?_, ok.b1, ok.b20⟩
  unfold wr at hq
  rcases List.mem_append.mp hq with hq | hq
  · rcases List.mem_append.mp hq with hq | hq
    · exact ok.ok q (List.mem_of_mem_take hq)
    · rw [List.mem_singleton.mp hq]
      exact hr
  · exact ok.ok q (List.mem_of_mem_drop hq)
theorem some_ok {bot : Int} {rs : List Rw} (h : ∀ r ∈ rs, RowOk bot r) : ∀ t ∈ someR rs, RowOk bot (some t) := fun t ht => by
  obtain ⟨r, hr, e⟩ := List.mem_filterMap.mp ht
  have e : r = some t := e
  rw [← e]
  exact h r hr
/-- the last for which it is so -/
def lastP (p : Nat → Bool) : Nat → Option Nat
  | 0 => none
  | n + 1 => if p n = true then some n else lastP p n
theorem last_fil (p : Nat → Bool) : ∀ n, ((List.range n).filter p).getLast? = lastP p n
  | 0 => rfl
  | n + 1 => by
    rw [List.range_succ, List.filter_append]
    show _ = if p n = true then some n else lastP p n
    by_cases c : p n = true
    · rw [if_pos c, List.filter_cons_of_pos c]
      simp
    · rw [if_neg c, List.filter_cons_of_neg c, ← last_fil p n]
      simp
theorem last_none {p : Nat → Bool} {n : Nat} (h : (List.range n).filter p = []) : lastP p n = none := by
  rw [← last_fil, h]
  rfl
theorem last_max {p : Nat → Bool} {n i : Nat} (h : i ∈ (List.range n).filter p) (top : ∀ j ∈ (List.range n).filter p, j ≤ i) : lastP p n = some i := by
  induction n with
  | zero => cases h
  | succ n ih =>
    rw [List.range_succ, List.filter_append] at h top
    show (if p n = true then some n else lastP p n) = some i
    by_cases c : p n = true
    · rw [if_pos c]
      rw [List.filter_cons_of_pos c] at h top
      have h1 := top n (List.mem_append_right _ List.mem_cons_self)
      have h2 : i ≤ n := by
        rcases List.mem_append.mp h with h | h
        · have := List.mem_range.mp (List.mem_filter.mp h).1
          omega
        · rcases List.mem_cons.mp h with h | h
          · omega
          · cases h
      congr 1
      omega
    · rw [if_neg c]
      rw [List.filter_cons_of_neg c] at h top
      refine ih ?_ fun j hj => top j (List.mem_append_left _ hj)
      rcases List.mem_append.mp h with h | h
      · exact h
      · cases h

/-! ### where a stream breaks its buckets -/
abbrev Strm := List (List Nat)
def inL (ss : Strm) (l t : Nat) : Bool := decide (l ∈ ss.getD t [])
/-- how many of the n beats up to t line l sends at -/
def dn (ss : Strm) (l t : Nat) : Nat → Nat
  | 0 => 0
  | n + 1 => dn ss l t n + (if inL ss l (t - n) = true then 1 else 0)
theorem dn_le {ss : Strm} {l t : Nat} : ∀ n, dn ss l t n ≤ n
  | 0 => Nat.le_refl _
  | n + 1 => by
    have h := dn_le (ss := ss) (l := l) (t := t) n
    show dn ss l t n + _ ≤ n + 1
    split <;> omega
/-- a beat later -/
theorem dn_next {ss : Strm} {l t : Nat} : ∀ n, dn ss l (t + 1) (n + 1) = dn ss l t n + (if inL ss l (t + 1) = true then 1 else 0)
  | 0 => by
    show 0 + (if inL ss l (t + 1 - 0) = true then 1 else 0) = 0 + _
    rfl
  | n + 1 => by
    have h := dn_next (ss := ss) (l := l) (t := t) n
    show dn ss l (t + 1) (n + 1) + (if inL ss l (t + 1 - (n + 1)) = true then 1 else 0) = (dn ss l t n + (if inL ss l (t - n) = true then 1 else 0)) + _
    rw [h, show t + 1 - (n + 1) = t - n by omega]
    omega
/-- what a line may send in n beats -/
def brk (bot : Int) (r : Rw) (ss : Strm) (l t n : Nat) : Bool := decide (sentR bot (n : Int) r < (dn ss l t n : Int))
def fstN (bot : Int) (r : Rw) (ss : Strm) (l t : Nat) : Option Nat := (List.range (t + 1)).find? fun k => brk bot r ss l t (k + 1)
def lineF (bot : Int) (rs : List Rw) (ss : Strm) (t : Nat) : Option (Nat × Nat × Nat) := (List.range rs.length).findSome? fun l => (fstN bot (rs.getD l none) ss l t).map fun k => (l, t - k, t)
def brF (bot : Int) (rs : List Rw) (ss : Strm) : Option (Nat × Nat × Nat) := (List.range ss.length).findSome? (lineF bot rs ss)
theorem findSome_at {α : Type} {f : Nat → Option α} {n i : Nat} {a : α} (hi : i < n) (low : ∀ j, j < i → f j = none) (h : f i = some a) : (List.range n).findSome? f = some a := by
  have e : List.range n = List.range i ++ (List.range' i (n - i)) := by
    have z := List.range'_append_1 (s := 0) (m := i) (n := n - i)
    rw [Nat.zero_add, show i + (n - i) = n by omega] at z
    rw [List.range_eq_range', List.range_eq_range']
    exact z.symm
  rw [e, List.findSome?_append]
  have e1 : (List.range i).findSome? f = none := List.findSome?_eq_none_iff.mpr fun j hj => low j (List.mem_range.mp hj)
  rw [e1, Option.none_or]
  rw [show n - i = (n - i - 1) + 1 by omega, List.range'_succ, List.findSome?_cons, h]
theorem findSome_no {α : Type} {f : Nat → Option α} {n : Nat} (low : ∀ j, j < n → f j = none) : (List.range n).findSome? f = none := List.findSome?_eq_none_iff.mpr fun j hj => low j (List.mem_range.mp hj)
theorem find_at {p : Nat → Bool} {n i : Nat} (hi : i < n) (low : ∀ j, j < i → p j = false) (h : p i = true) : (List.range n).find? p = some i := by
  have e : List.range n = List.range i ++ (List.range' i (n - i)) := by
    have z := List.range'_append_1 (s := 0) (m := i) (n := n - i)
    rw [Nat.zero_add, show i + (n - i) = n by omega] at z
    rw [List.range_eq_range', List.range_eq_range']
    exact z.symm
  rw [e, List.find?_append]
  have e1 : (List.range i).find? p = none := List.find?_eq_none.mpr fun j hj => by
    rw [low j (List.mem_range.mp hj)]
    exact Bool.false_ne_true
  rw [e1, Option.none_or]
  rw [show n - i = (n - i - 1) + 1 by omega, List.range'_succ, List.find?_cons, h]
theorem find_none {p : Nat → Bool} {n : Nat} (low : ∀ j, j < n → p j = false) : (List.range n).find? p = none := List.find?_eq_none.mpr fun j hj => by
  rw [low j (List.mem_range.mp hj)]
  exact Bool.false_ne_true
/-! ### the gauge -/
def lvl (ss : Strm) (l : Nat) (bot tp : Int) : Nat → Int
  | 0 => 0
  | n + 1 => lvl ss l bot tp n + ((if inL ss l n = true then bot else 0) - tp)
def mnl (ss : Strm) (l : Nat) (bot tp : Int) : Nat → Int
  | 0 => 0
  | n + 1 => min (mnl ss l bot tp n) (lvl ss l bot tp n)
theorem mnl_le {ss : Strm} {l : Nat} {bot tp : Int} : ∀ {n j : Nat}, j < n → mnl ss l bot tp n ≤ lvl ss l bot tp j
  | n + 1, j, h => by
    show min (mnl ss l bot tp n) (lvl ss l bot tp n) ≤ _
    by_cases e : j = n
    · subst e
      exact Int.min_le_right _ _
    · exact Int.le_trans (Int.min_le_left _ _) (mnl_le (by omega))
theorem mnl_at {ss : Strm} {l : Nat} {bot tp : Int} : ∀ n, ∃ j, j ≤ n ∧ mnl ss l bot tp (n + 1) = lvl ss l bot tp j
  | 0 => ⟨0, Nat.le_refl _, by show min (0 : Int) 0 = 0; rfl⟩
  | n + 1 => by
    obtain ⟨j, h1, h2⟩ := mnl_at (ss := ss) (l := l) (bot := bot) (tp := tp) n
    show ∃ j, j ≤ n + 1 ∧ min (mnl ss l bot tp (n + 1)) (lvl ss l bot tp (n + 1)) = _
    by_cases c : mnl ss l bot tp (n + 1) ≤ lvl ss l bot tp (n + 1)
    · exact ⟨j, by omega, by rw [Int.min_eq_left c]; exact h2⟩
    · exact ⟨n + 1, Nat.le_refl _, Int.min_eq_right (by omega)⟩
theorem lvl_dn {ss : Strm} {l : Nat} {bot tp : Int} : ∀ (t n : Nat), n ≤ t + 1 → lvl ss l bot tp (t + 1) - lvl ss l bot tp (t + 1 - n) = bot * (dn ss l t n : Int) - tp * (n : Int)
  | t, 0, _ => by
    rw [Nat.sub_zero]
    show _ = bot * ((0 : Nat) : Int) - tp * ((0 : Nat) : Int)
    simp
  | t, n + 1, h => by
    have ih := lvl_dn (ss := ss) (l := l) (bot := bot) (tp := tp) t n (by omega)
    have e : t + 1 - n = (t - n) + 1 := by omega
    have e2 : lvl ss l bot tp (t + 1 - n) = lvl ss l bot tp (t - n) + ((if inL ss l (t - n) = true then bot else 0) - tp) := by
      rw [e]
      rfl
    have e3 : t + 1 - (n + 1) = t - n := by omega
    rw [e3]
    have d : dn ss l t (n + 1) = dn ss l t n + (if inL ss l (t - n) = true then 1 else 0) := rfl
    rw [d, Int.natCast_add, Int.natCast_add, Int.mul_add, Int.mul_add]
    rw [e2] at ih
    have one : tp * ((1 : Nat) : Int) = tp := by simp
    rw [one]
    by_cases c : inL ss l (t - n) = true
    · rw [if_pos c] at ih ⊢
      have : bot * ((1 : Nat) : Int) = bot := by simp
      rw [this]
      omega
    · rw [if_neg c] at ih ⊢
      have : bot * ((0 : Nat) : Int) = 0 := by simp
      rw [this]
      omega
theorem mn_lt {i j x : Int} : mn i j < x ↔ i < x ∨ j < x := by
  unfold mn
  split <;> omega
theorem le_mn {i j x : Int} : x ≤ mn i j ↔ x ≤ i ∧ x ≤ j := by
  unfold mn
  split <;> omega
/-- the fill overflows just where some window breaks -/
theorem brk_gauge {bot b tp k : Int} {ss : Strm} {l t n : Nat} (hb : 1 ≤ bot) : brk bot (some (b, tp, k)) ss l t n = true ↔ bot * b < bot * (dn ss l t n : Int) - tp * (n : Int) := by
  unfold brk
  rw [decide_eq_true_eq]
  have h := dn_le (ss := ss) (l := l) (t := t) n
  show mn (n : Int) (b + tp * (n : Int) / bot) < (dn ss l t n : Int) ↔ _
  have h1 : mn (n : Int) (b + tp * (n : Int) / bot) < (dn ss l t n : Int) ↔ b + tp * (n : Int) / bot < (dn ss l t n : Int) := by
    rw [mn_lt]
    omega
  rw [h1]
  have h2 : b + tp * (n : Int) / bot < (dn ss l t n : Int) ↔ tp * (n : Int) / bot < (dn ss l t n : Int) - b := by omega
  rw [h2, Int.ediv_lt_iff_lt_mul (by omega), Int.sub_mul, Int.mul_comm (dn ss l t n : Int) bot, Int.mul_comm b bot]
  omega
def overB (bot : Int) (r : Rw) (ss : Strm) (l t : Nat) : Bool := match r with
  | none => inL ss l t
  | some (b, tp, _) => decide (bot * b < lvl ss l bot tp (t + 1) - mnl ss l bot tp (t + 1))
theorem over_some {bot b tp k : Int} {ss : Strm} {l t : Nat} (hb : 1 ≤ bot) : overB bot (some (b, tp, k)) ss l t = true ↔ ∃ j, j ≤ t ∧ brk bot (some (b, tp, k)) ss l t (j + 1) = true := by
  show decide (bot * b < lvl ss l bot tp (t + 1) - mnl ss l bot tp (t + 1)) = true ↔ _
  rw [decide_eq_true_eq]
  constructor
  · intro h
    obtain ⟨j, h1, h2⟩ := mnl_at (ss := ss) (l := l) (bot := bot) (tp := tp) t
    refine ⟨t - j, by omega, ?_⟩
    rw [brk_gauge hb, ← lvl_dn t (t - j + 1) (by omega), show t + 1 - (t - j + 1) = j by omega, ← h2]
    exact h
  · rintro ⟨j, h1, h2⟩
    rw [brk_gauge hb, ← lvl_dn t (j + 1) (by omega)] at h2
    have q := mnl_le (ss := ss) (l := l) (bot := bot) (tp := tp) (n := t + 1) (j := t + 1 - (j + 1)) (by omega)
    omega
theorem fst_none {bot : Int} {r : Rw} {ss : Strm} {l t : Nat} : fstN bot r ss l t = none ↔ ∀ j, j ≤ t → brk bot r ss l t (j + 1) = false := by
  unfold fstN
  rw [List.find?_eq_none]
  constructor
  · intro h j hj
    have z := h j (List.mem_range.mpr (by omega))
    rw [Bool.not_eq_true] at z
    exact z
  · intro h j hj
    rw [h j (by have := List.mem_range.mp hj; omega)]
    exact Bool.false_ne_true
theorem sent_nn {bot n : Int} {r : Rw} (ok : RowOk bot r) (hb : 1 ≤ bot) (hn : 0 ≤ n) : 0 ≤ sentR bot n r := by
  match r, ok with
  | none, _ => exact Int.le_refl _
  | some (b, tp, k), ok =>
    show 0 ≤ mn n (b + tp * n / bot)
    obtain ⟨⟨b1, _⟩, ⟨t1, _⟩, _⟩ := ok
    have q : 0 ≤ tp * n / bot := Int.ediv_nonneg (Int.mul_nonneg t1 hn) (by omega)
    rw [le_mn]
    exact ⟨hn, by omega⟩
theorem sent_mono {bot n m : Int} {r : Rw} (ok : RowOk bot r) (hb : 1 ≤ bot) (h : n ≤ m) : sentR bot n r ≤ sentR bot m r := by
  match r, ok with
  | none, _ => exact Int.le_refl _
  | some (b, tp, k), ok =>
    show mn n (b + tp * n / bot) ≤ mn m (b + tp * m / bot)
    obtain ⟨⟨b1, _⟩, ⟨t1, _⟩, _⟩ := ok
    have q : tp * n / bot ≤ tp * m / bot := Int.ediv_le_ediv (by omega) (Int.mul_le_mul_of_nonneg_left h t1)
    have h0 := (le_mn (x := mn n (b + tp * n / bot))).mp (Int.le_refl _)
    rw [le_mn]
    exact ⟨by omega, by omega⟩
/-- none broke before: one that breaks now sends now -/
theorem brk_sends {bot : Int} {r : Rw} {ss : Strm} {l t j : Nat} (ok : RowOk bot r) (hb : 1 ≤ bot) (low : ∀ t', t' < t → fstN bot r ss l t' = none) (hj : j ≤ t) (h : brk bot r ss l t (j + 1) = true) : inL ss l t = true := by
  cases c : inL ss l t with
  | true => rfl
  | false =>
    exfalso
    unfold brk at h
    rw [decide_eq_true_eq] at h
    match t, j, hj with
    | t, 0, _ =>
      have e : dn ss l t (0 + 1) = 0 + (if inL ss l (t - 0) = true then 1 else 0) := rfl
      rw [Nat.sub_zero, c, if_neg Bool.false_ne_true] at e
      rw [e] at h
      have := sent_nn (n := ((0 + 1 : Nat) : Int)) ok hb (by omega)
      omega
    | t + 1, j + 1, hj =>
      rw [dn_next, c, if_neg Bool.false_ne_true, Nat.add_zero] at h
      have z := fst_none.mp (low t (Nat.lt_succ_self _)) j (by omega)
      unfold brk at z
      rw [decide_eq_false_iff_not] at z
      have m := sent_mono (n := ((j + 1 : Nat) : Int)) (m := ((j + 1 + 1 : Nat) : Int)) ok hb (by omega)
      exact absurd (Int.lt_of_le_of_lt m h) z
theorem over_iff {bot : Int} {r : Rw} {ss : Strm} {l t : Nat} (ok : RowOk bot r) (hb : 1 ≤ bot) (low : ∀ t', t' < t → fstN bot r ss l t' = none) : overB bot r ss l t = (fstN bot r ss l t).isSome := by
  have key : overB bot r ss l t = true ↔ ∃ j, j ≤ t ∧ brk bot r ss l t (j + 1) = true := by
    match r, ok with
    | some (b, tp, k), _ => exact over_some hb
    | none, ok =>
      show inL ss l t = true ↔ _
      constructor
      · intro h
        refine ⟨0, Nat.zero_le _, ?_⟩
        unfold brk
        have e : dn ss l t (0 + 1) = 0 + (if inL ss l (t - 0) = true then 1 else 0) := rfl
        rw [Nat.sub_zero, h, if_pos rfl] at e
        rw [e]
        exact decide_eq_true (show (0 : Int) < ((0 + 1 : Nat) : Int) by omega)
      · rintro ⟨j, h1, h2⟩
        exact brk_sends ok hb low h1 h2
  cases c : fstN bot r ss l t with
  | none =>
    have z := fst_none.mp c
    show _ = false
    rw [← Bool.not_eq_true, key]
    rintro ⟨j, h1, h2⟩
    rw [z j h1] at h2
    cases h2
  | some k =>
    show _ = true
    rw [key]
    have h1 := List.mem_of_find?_eq_some c
    have h2 := List.find?_some c
    exact ⟨k, by have := List.mem_range.mp h1; omega, h2⟩

/-! ### what buckets let hold -/
def rwD : Rw → PyData
  | none => .none
  | some (b, t, k) => .tuple [.int b, .int t, .int k]
theorem rw_lay : ∀ r : Rw, Lay (rwD r) 1
  | none => ⟨rfl, Nat.zero_le _⟩
  | some (b, t, k) => Lay.tup fun x hx => by
    simp only [List.mem_cons, List.not_mem_nil, or_false] at hx
    rcases hx with e | e | e <;> subst e <;> exact Lay.int _
theorem rw_dp {K : PySem.W.Frag} {H : Hp} : ∀ (r : Rw) (v : V), RowAt H r v → Dp K H v (rwD r)
  | none, _, e => by
    cases (show _ = V.non from e)
    exact .non
  | some (b, t, k), _, ⟨q, e, e1⟩ => by
    subst e
    exact .tup (SqT.of e1) (.cons (.int _) (.cons (.int _) (.cons (.int _) .nil)))
theorem kit_self {C : Value} : PySem.W.kitOne K C C = some true := by
  unfold PySem.W.kitOne
  rw [if_pos (by simp)]
theorem someR_snoc {rs : List Rw} {i : Nat} {r : Rw} (h : rs[i]? = some r) : someR (rs.take (i + 1)) = someR (rs.take i) ++ r.toList := by
  unfold someR
  rw [List.take_add_one, h, List.filterMap_append]
  cases r <;> rfl
theorem someR_len {rs : List Rw} {i : Nat} : (someR (rs.take i)).length ≤ rs.length := by
  unfold someR
  exact Nat.le_trans (List.length_filterMap_le _ _) (by rw [List.length_take]; omega)
theorem cat3 {H : Hp} {rs : List Rw} {l : Nat} {r : Rw} {xs : List V} {v : V} (al : All2 (RowAt H) rs xs) (hv : RowAt H r v) : All2 (RowAt H) (wr rs l r) (xs.take l ++ [v] ++ xs.drop (l + 1)) := ((al.take l).append (.cons hv .nil)).append (al.drop (l + 1))
theorem lts {n : Nat} (h : n ≤ 1000) : n < sizeLine := Nat.lt_of_le_of_lt h (by decide)
section
variable {P : Program} {w : World} {K : PySem.W.Frag} {mg : Str → Option Value} {base : Heap} {A : Adr}
def spEqB (C : Addr) : Sp := fun vs H Q _ => (∃ (p b : Addr) (xs : List V), vs = [.ref p, .ref b] ∧ H b = some (.tup xs) ∧ Q (.bl false) H) ∨ ∃ (p q dx dy a b : Addr) (bot : Int) (rs : List Rw), vs = [.ref p, .ref q] ∧ H p = some (.ins C dx (bF bot a)) ∧ H q = some (.ins C dy (bF bot b)) ∧ RowsAt H a rs ∧ RowsAt H b rs ∧ Q (.bl true) H
theorem ok_Buckets___eq__ (T : Top K mg A) : FnOk P w K mg base CX0 1 A.a_Buckets___eq__ A.d_Buckets___eq__ P_Buckets___eq__ (spEqB A.c_Buckets) := by
  refine T.F_Buckets___eq__.ok sc_Buckets___eq__ (fun vs H Q E h => ?_) (fun cdv A' outer s H vs Q E hr h => ?_)
  · rcases h with ⟨p, b, xs, rfl, _⟩ | ⟨p, q, dx, dy, a, b, bot, rs, rfl, _⟩ <;> rfl
  · rcases h with ⟨p, b, xs, rfl, eb, k⟩ | h
    · refine ⟨_, (pss_one (ps_ret (pe_and (pe_callB call_isi (by rfl) T.z_isinstance (by decide +kernel) (pa_cons (pv 1) (pa_cons (pe_glob (v := .ref A.c_Buckets) rfl T.gc_Buckets rfl) pa_nil))) (pe_and (pe_cmpR op_eq (pe_fld (pv 0) rfl) (pe_fld (pv 1) rfl) (nomark _)) (pe_one (pe_cmpR (op_eqD hr.units) (pe_fld (pv 0) rfl) (pe_fld (pv 1) rfl) (nomark _))))))), ?_⟩
      exact ⟨_, rfl, _, _, _, _, _, rfl, .own _, .base (.tup eb), GP.kit_rev T.cl_Buckets T.tt_Buckets (by decide +kernel), false, rfl, iteF k⟩
    obtain ⟨p, q, dx, dy, a, b, bot, rs, rfl, hp, hq, ⟨xs, ea, ax⟩, ⟨ys, eb, ay⟩, k⟩ := h
    refine ⟨_, (pss_one (ps_ret (pe_and (pe_callB call_isi (by rfl) T.z_isinstance (by decide +kernel) (pa_cons (pv 1) (pa_cons (pe_glob (v := .ref A.c_Buckets) rfl T.gc_Buckets rfl) pa_nil))) (pe_and (pe_cmpR op_eq (pe_fld (pv 0) rfl) (pe_fld (pv 1) rfl) (nomark _)) (pe_one (pe_cmpR (op_eqD hr.units) (pe_fld (pv 0) rfl) (pe_fld (pv 1) rfl) (nomark _))))))), ?_⟩
    refine ⟨_, rfl, _, _, _, _, _, rfl, .own _, .base (.ins hq T.cl_Buckets T.ci_Buckets T.en1 T.en2 T.em_Buckets), kit_self, true, rfl, iteT ?_⟩
    refine ⟨_, rfl, p, _, _, _, _, rfl, hp, T.cl_Buckets, T.n_Buckets_bottom, bf1, _, rfl, q, _, _, _, _, rfl, hq, T.cl_Buckets, T.n_Buckets_bottom, bf1, rfl, true, by rw [dec_self], iteT ?_⟩
    have ld : Lay (.tuple (rs.map rwD)) 2 := Lay.tup fun x hx => by
      obtain ⟨r, _, rfl⟩ := List.mem_map.mp hx
      exact rw_lay r
    refine ⟨_, rfl, p, _, _, _, _, rfl, hp, T.cl_Buckets, T.n_Buckets_rows, bf2, _, rfl, q, _, _, _, _, rfl, hq, T.cl_Buckets, T.n_Buckets_rows, bf2, .tuple (rs.map rwD), .tuple (rs.map rwD), .tup (SqT.of ea) (dpAll_of rw_dp ax), .tup (SqT.of eb) (dpAll_of rw_dp ay), ld.sh (by decide), ld.sh (by decide), ?_⟩
    rw [SeqAt.eqv_refl _ ld.lay]
    exact k
def spChkL (C : Addr) : Sp := fun vs H Q _ => ∃ (p : Addr) (bot : Int) (rs : List Rw) (l : Nat), vs = [.ref p, .int (l : Int)] ∧ BkAt C H p bot rs ∧ l < rs.length ∧ Q .non H
theorem ok_check_line (T : Top K mg A) : FnOk P w K mg base CX0 4 A.a_check_line A.d_check_line P_check_line (spChkL A.c_Buckets) := by
  refine T.F_check_line.ok sc_check_line (fun vs H Q E h => ?_) (fun cdv A' outer s H vs Q E hr h => ?_)
  · obtain ⟨p, bot, rs, l, rfl, _⟩ := h
    rfl
  · obtain ⟨p, bot, rs, l, rfl, ⟨dx, a, hp, xs, ea, al⟩, hl, k⟩ := h
    refine ⟨_, (pss_one (ps_if (pt_not (pt_val (pe_call (ok_is_number_below T) (hr.mono (by decide)) (by rfl) T.g_is_number_below T.F_is_number_below.kp T.b_is_number_below .nil pass0 (pa_cons (pe_callB call_len_seq (by rfl) T.z_len (by decide +kernel) (pa_cons (pe_fld (pv 0) rfl) pa_nil)) (pa_cons (pv 1) pa_nil))))) (pss_one ps_never) pss_nil)), ?_⟩
    have lx := al.len
    refine ⟨_, rfl, p, _, _, _, _, rfl, hp, T.cl_Buckets, T.n_Buckets_rows, bf2, a, xs, rfl, .inr (SqT.of ea), _, rfl, (xs.length : Int), _, _, 0, rfl, .int _, true, congrArg V.bl (inI_ok (by omega) (by omega)), iteF k⟩
def spChkN : Sp := fun vs H Q _ => ∃ (n : Int), vs = [.int n] ∧ 0 ≤ n ∧ n ≤ 1000000000 ∧ Q .non H
theorem ok_check_number (T : Top K mg A) : FnOk P w K mg base CX0 3 A.a_check_number A.d_check_number P_check_number spChkN := by
  refine T.F_check_number.ok sc_check_number (fun vs H Q E h => ?_) (fun cdv A' outer s H vs Q E hr h => ?_)
  · obtain ⟨n, rfl, _⟩ := h
    rfl
  · obtain ⟨n, rfl, n0, n1, k⟩ := h
    refine ⟨_, (pss_one (ps_if (pt_not (pt_val (pe_call (ok_is_integer_from T) (hr.mono (by decide)) (by rfl) T.g_is_integer_from T.F_is_integer_from.kp T.b_is_integer_from .nil pass0 (pa_cons pe_int (pa_cons (pe_glob (v := .int 1000000000) rfl (T.k_GREATEST_NUMBER).choose_spec ⟨_, rfl⟩) (pa_cons (pv 0) pa_nil)))))) (pss_one ps_never) pss_nil)), ?_⟩
    exact ⟨_, rfl, 0, 1000000000, _, _, 0, rfl, .int n, true, congrArg V.bl (inI_ok n0 n1), iteF k⟩
def spMost : Sp := fun vs H Q _ => ∃ (bot beats : Int) (r : Rw) (v : V), vs = [.int bot, v, .int beats] ∧ RowAt H r v ∧ RowOk bot r ∧ 1 ≤ bot ∧ bot ≤ 20 ∧ Q (.int (sentR bot beats r)) H
theorem ok_most_of (T : Top K mg A) : FnOk P w K mg base CX0 1 A.a_most_of A.d_most_of P_most_of spMost := by
  refine T.F_most_of.ok sc_most_of (fun vs H Q E h => ?_) (fun cdv A' outer s H vs Q E hr h => ?_)
  · obtain ⟨bot, beats, r, v, rfl, _⟩ := h
    rfl
  · obtain ⟨bot, beats, r, v, rfl, hv, ok, b1, b20, k⟩ := h
    refine ⟨_, (pss_cons (ps_if (pt_cmpR op_isN (pv 1) pe_non (nomark _)) (pss_one (ps_ret pe_int)) pss_nil)
    (pss_cons (ps_asg (pv 1) (pg_tup rfl (pgs_cons (pg_name (i := 3) sc_most_of.nd rfl (.inl rfl)) (pgs_cons (pg_name (i := 4) sc_most_of.nd rfl (.inl rfl)) (pgs_cons (pg_name (i := 5) sc_most_of.nd rfl (.inl rfl)) pgs_nil)))))
    (pss_one (ps_ret (pe_callB (call_min2 rfl) (by rfl) T.z_min (by decide +kernel) (pa_cons (pv 2) (pa_cons (pe_op op_add (pv 3) (pe_op op_fdiv (pe_op op_mul (pv 4) (pv 2)) (pv 0))) pa_nil))))))), ?_⟩
    match r, hv, ok, k with
    | none, e, _, k =>
      cases (show v = V.non from e)
      exact ⟨_, rfl, rfl, _, rfl, iteT k⟩
    | some (b, t, kk), ⟨q, e, eq⟩, ok, k =>
      subst e
      obtain ⟨⟨h1, h2⟩, ⟨h3, h4⟩, _⟩ := ok
      refine ⟨_, rfl, rfl, _, rfl, iteF ?_⟩
      refine ⟨_, rfl, q, _, rfl, SqT.of eq, rfl, _, _, rfl, _, _, rfl, _, _, rfl, rfl, ?_⟩
      refine ⟨_, rfl, _, rfl, _, rfl, _, rfl, _, _, rfl, rfl, .inl ⟨by omega, by omega⟩, _, rfl, _, _, rfl, rfl, ⟨by omega, by omega⟩, _, _, rfl, rfl, _, _, rfl, ?_⟩
      exact k
def TrAt (H : Hp) (t : Int × Int × Int) (v : V) : Prop := RowAt H (some t) v
theorem TrAt.same {H H' : Hp} {t : Int × Int × Int} {v : V} (x : TrAt H t v) (s : Same H H') : TrAt H' t v := RowAt.same (r := some t) x s
def spTogether : Sp := fun vs H Q _ => ∃ (bot beats : Int) (D : Addr) (us : List V) (ts : List (Int × Int × Int)), vs = [.int bot, .ref D, .int beats] ∧ H D = some (.lst us) ∧ All2 (TrAt H) ts us ∧ ts.length ≤ 12 ∧ (∀ t ∈ ts, RowOk bot (some t)) ∧ 1 ≤ bot ∧ bot ≤ 20 ∧ ∀ H', Same H H' → Q (.int (ts.map (sent1 bot beats)).sum) H'
def ks8 : List V := rgV 0 8
def spRowsOf (C : Addr) : Sp := fun vs H Q _ => ∃ (p l : Addr) (bot : Int) (rs : List Rw), vs = [.ref p, .ref l] ∧ BkAt C H p bot rs ∧ RowsOk bot rs ∧ H l = some (.lst (rgV 0 8)) ∧
  ∀ (H' : Hp) (D : Addr) (us : List V), Same H H' → H' D = some (.lst us) → All2 (TrAt H') (someR rs) us → Q (.ref D) H'
theorem in8 {k : Int} (k0 : 0 ≤ k) (k7 : k ≤ 7) : inV (.int k) (rgV 0 8) = true := by
  obtain ⟨n, rfl⟩ : ∃ n : Nat, k = (n : Int) := ⟨k.toNat, by omega⟩
  match n, k7 with
  | 0, _ => rfl
  | 1, _ => rfl
  | 2, _ => rfl
  | 3, _ => rfl
  | 4, _ => rfl
  | 5, _ => rfl
  | 6, _ => rfl
  | 7, _ => rfl
  | n + 8, h => omega
def spTops : Sp := fun vs H Q _ => ∃ (D : Addr) (us : List V) (ts : List (Int × Int × Int)), vs = [.ref D] ∧ H D = some (.lst us) ∧ All2 (TrAt H) ts us ∧ ts.length ≤ 12 ∧ ∀ H', Same H H' → Q (.int (topsS ts)) H'
def spHold (C : Addr) : Sp := fun vs H Q _ => ∃ (p : Addr) (bot : Int) (rs : List Rw), vs = [.ref p] ∧ BkAt C H p bot rs ∧ RowsOk bot rs ∧ ∀ H', Same H H' → Q (optV (holdO bot rs)) H'
end

/-! ### streams -/
def natsV (l : List Nat) : List V := l.map fun (x : Nat) => V.int (x : Int)
def LotAt (H : Hp) (ls : List Nat) (v : V) : Prop := ∃ q, v = .ref q ∧ H q = some (.tup (natsV ls))
theorem LotAt.mv {H H' : Hp} (f : ∀ q xs, H q = some (.tup xs) → H' q = some (.tup xs)) {ls : List Nat} {v : V} (h : LotAt H ls v) : LotAt H' ls v := let ⟨q, e, e1⟩ := h; ⟨q, e, f _ _ e1⟩
def StrmAt (H : Hp) (a : Addr) (ss : Strm) : Prop := ∃ vs, H a = some (.tup vs) ∧ All2 (LotAt H) ss vs
theorem StrmAt.mv {H H' : Hp} (f : ∀ q xs, H q = some (.tup xs) → H' q = some (.tup xs)) {a : Addr} {ss : Strm} (h : StrmAt H a ss) : StrmAt H' a ss := let ⟨vs, e, al⟩ := h; ⟨vs, f _ _ e, al.imp fun _ _ t => t.mv f⟩
theorem StrmAt.same {H H' : Hp} {a : Addr} {ss : Strm} (h : StrmAt H a ss) (s : Same H H') : StrmAt H' a ss := h.mv fun q xs e => s _ _ e
def LotOk (n : Nat) (ls : List Nat) : Prop := ls.Pairwise (· < ·) ∧ ∀ x ∈ ls, x < n
structure StrmOk (n : Nat) (ss : Strm) : Prop where
  few : ss.length ≤ 6000
  ok : ∀ ls ∈ ss, LotOk n ls
theorem inV_nats {k : Nat} (l : List Nat) : inV (.int (k : Int)) (natsV l) = decide (k ∈ l) := by
  unfold inV natsV
  rw [List.any_map]
  induction l with
  | nil => simp
  | cons x l ih =>
    rw [List.any_cons, ih]
    show (decide ((x : Int) = (k : Int)) || decide (k ∈ l)) = decide (k ∈ x :: l)
    by_cases h : k = x <;> simp [h, List.mem_cons] <;> omega
theorem flat_nats (l : List Nat) : (natsV l).all flatV = true := by
  unfold natsV
  rw [List.all_map, List.all_eq_true]
  intro x hx
  rfl
theorem getD_some {α : Type} {l : List α} {i : Nat} {a d : α} (h : l[i]? = some a) : l.getD i d = a := by
  rw [List.getD_eq_getElem?_getD, h]
  rfl
section
variable {P : Program} {w : World} {K : PySem.W.Frag} {mg : Str → Option Value} {base : Heap} {A : Adr}
def spLot : Sp := fun vs H Q _ => ∃ (n : Nat) (v : V) (ls : List Nat), vs = [.int (n : Int), v] ∧ LotAt H ls v ∧ LotOk n ls ∧ Q (.bl true) H
theorem ok_is_lot_below (T : Top K mg A) : FnOk P w K mg base CX0 3 A.a_is_lot_below A.d_is_lot_below P_is_lot_below spLot := by
  refine T.F_is_lot_below.ok sc_is_lot_below (fun vs H Q E h => ?_) (fun cdv A' outer s H vs Q E hr h => ?_)
  · obtain ⟨n, v, ls, rfl, _⟩ := h
    rfl
  · obtain ⟨n, v, ls, rfl, ⟨q, rfl, hq⟩, ⟨asc, lt⟩, k⟩ := h
    refine ⟨_, (pss_cons (ps_if (pt_not (pt_val (pe_callB call_isi (by rfl) T.z_isinstance (by decide +kernel) (pa_cons (pv 1) (pa_cons (pe_bltn (v := .ty "tuple") (by rfl) T.z_tuple (by decide +kernel) rfl) pa_nil))))) (pss_one (ps_ret pe_bl)) pss_nil)
    (pss_cons (ps_set (i := 2) sc_is_lot_below.nd rfl (.inl rfl) (pe_un un_neg pe_int))
    (pss_cons (ps_for PassesOwn.never rfl (pi_tup (pv 1)) (pg_name (i := 3) sc_is_lot_below.nd rfl (.inl rfl)) (pss_cons (ps_if (pt_not (pt_val (pe_call (ok_is_integer_from T) (hr.mono (by decide)) (by rfl) T.g_is_integer_from T.F_is_integer_from.kp T.b_is_integer_from .nil pass0 (pa_cons (pe_op op_add (pv 2) pe_int) (pa_cons (pe_op op_sub (pv 0) pe_int) (pa_cons (pv 3) pa_nil)))))) (pss_one (ps_ret pe_bl)) pss_nil)
    (pss_one (ps_set (i := 2) sc_is_lot_below.nd rfl (.inl rfl) (pv 3)))))
    (pss_one (ps_ret pe_bl))))), ?_⟩
    refine ⟨_, rfl, _, _, _, _, _, rfl, .ty "tuple", .base (.tup hq), kitQ (a := "tuple") (b := "tuple") (r := true) (by decide +kernel) rfl, _, rfl, iteF ?_⟩
    refine ⟨_, rfl, _, rfl, q, rfl, ⟨_, SqT.of hq⟩, for_tup (xs := natsV ls) (fun i σ H' => ∃ (last : Int) (y : Option V), σ = [some (.int (n : Int)), some (.ref q), some (.int last), y] ∧ H' = H ∧ ∀ x, (ls.drop i).head? = some x → last < (x : Int)) ⟨-1, _, rfl, rfl, fun x _ => by omega⟩ (fun i σ H' _ ⟨_, _, _, e, _⟩ => by rw [e]; exact SqT.of hq) ?_ ?_⟩
    · rintro i x σ H1 hx ⟨last, y, rfl, rfl, low⟩
      unfold natsV at hx
      rw [List.getElem?_map] at hx
      obtain ⟨z, hz, rfl⟩ := Option.map_eq_some_iff.mp hx
      have hl := (List.getElem?_eq_some_iff.mp hz).1
      have hd : ls.drop i = z :: ls.drop (i + 1) := by
        obtain ⟨h1, h2⟩ := List.getElem?_eq_some_iff.mp hz
        rw [← h2, ← List.drop_eq_getElem_cons h1]
      have hlast := low z (by rw [hd]; rfl)
      have hn := lt z (List.mem_of_getElem? hz)
      refine ⟨_, rfl, _, _, rfl, rfl, _, rfl, _, _, rfl, rfl, _, rfl, _, _, _, _, 0, rfl, .int (z : Int), true, congrArg V.bl (inI_ok (by omega) (by omega)), iteF ?_⟩
      refine ⟨_, rfl, _, _, rfl, rfl, fun x hx => ?_⟩
      have z2 := asc
      rw [← List.take_append_drop i ls, hd, List.pairwise_append] at z2
      have z3 := (List.pairwise_cons.mp z2.2.1).1 x (List.mem_of_mem_head? hx)
      omega
    · rintro σ H1 ⟨last, y, rfl, rfl, _⟩
      exact k
def spStream (C : Addr) : Sp := fun vs H Q _ => ∃ (p a : Addr) (bot : Int) (rs : List Rw) (ss : Strm), vs = [.ref p, .ref a] ∧ BkAt C H p bot rs ∧ StrmAt H a ss ∧ StrmOk rs.length ss ∧ ∀ H', Same H H' → Q .non H'
theorem all_rep (n : Nat) : ((List.replicate n true).all id) = true := by
  induction n with
  | zero => rfl
  | succ n ih => rw [List.replicate_succ, List.all_cons, ih]; rfl
theorem ok_check_stream (T : Top K mg A) : FnOk P w K mg base CX0 4 A.a_check_stream A.d_check_stream P_check_stream (spStream A.c_Buckets) := by
  refine T.F_check_stream.ok sc_check_stream (fun vs H Q E h => ?_) (fun cdv A' outer s H vs Q E hr h => ?_)
  · obtain ⟨p, a, bot, rs, ss, rfl, _⟩ := h
    rfl
  · obtain ⟨p, a, bot, rs, ss, rfl, ⟨dx, ra, ep, xs, er, alr⟩, ⟨vs, ea, al⟩, ok, k⟩ := h
    have lv := al.len
    have lr := alr.len
    have few := ok.few
    refine ⟨_, (pss_cons (ps_if (PW.pt (pw_or (pt_not (pt_val (pe_callB call_isi (by rfl) T.z_isinstance (by decide +kernel) (pa_cons (pv 1) (pa_cons (pe_bltn (v := .ty "tuple") (by rfl) T.z_tuple (by decide +kernel) rfl) pa_nil))))) (pw_or1 (pt_cmpR op_gt (pe_callB call_len_seq (by rfl) T.z_len (by decide +kernel) (pa_cons (pv 1) pa_nil)) (pe_glob (v := .int 6000) rfl (T.k_MOST_LOTS).choose_spec ⟨_, rfl⟩) (nomark _))))) (pss_one ps_never) pss_nil)
    (pss_one (ps_if (pt_not (pt_val (pe_callB (cr_all rfl) (by rfl) T.z_all (by decide +kernel) (pa_cons (pe_lc (own := [("lot", 2)]) (by rfl) sc_check_stream.nd (pi_tup (pv 1)) (blkOk_by (own := [("lot", 2)]) (N := N_check_stream) (sc := defScope s_check_stream) (by decide +kernel)) (fun _ _ _ _ _ => (pg_name (i := 2) sc_check_stream.nd rfl (.inl rfl))) (fun _ _ _ _ _ => pts_nil) (fun _ _ _ _ _ => (pe_call (ok_is_lot_below (P := P) (w := w) T) (hr.mono (by decide)) (by rfl) T.g_is_lot_below T.F_is_lot_below.kp T.b_is_lot_below .nil pass0 (pa_cons (pe_callB (show CallR _ _ (Evl.rLenS K) from call_len_seq) (by rfl) T.z_len (by decide +kernel) (pa_cons (show PE _ _ (tFld K _ "rows") from pe_fld (pv 0) (by rfl)) pa_nil)) (pa_cons (pv 2) pa_nil))))) pa_nil)))) (pss_one ps_never) pss_nil))), ?_⟩
    refine ⟨_, rfl, _, _, _, _, _, rfl, .ty "tuple", .base (.tup ea), kitQ (a := "tuple") (b := "tuple") (r := true) (by decide +kernel) rfl, _, rfl, iteF ?_⟩
    refine ⟨_, rfl, a, vs, rfl, .inr (SqT.of ea), _, _, rfl, rfl, _, rfl, ?_⟩
    rw [decide_eq_false (by omega)]
    refine iteF ?_
    refine ⟨_, rfl, a, rfl, ⟨_, SqT.of ea⟩, fun D nD => ?_⟩
    refine lc_tup (K := K) (a := a) (xs := vs) (LP H D ((List.replicate ss.length true).map V.bl)) (LP.start nD) (fun i H' _ q => SqT.of (q.1 _ _ ea)) ?_ ?_
    · rintro i x H1 hx q
      obtain ⟨ls, hls, lt⟩ := al.get hx
      have hi := (List.getElem?_eq_some_iff.mp hls).1
      refine ⟨by kernel_rfl, ?_⟩
      refine ⟨_, rfl, p, _, _, _, _, rfl, q.1 _ _ ep, T.cl_Buckets, T.n_Buckets_rows, bf2, ra, xs, rfl, .inr (SqT.of (q.1 _ _ er)), _, rfl, rs.length, x, ls, (by show [V.int (xs.length : Int), x] = [V.int (rs.length : Int), x]; rw [lr]), lt.mv (fun _ _ e => q.1 _ _ e), ok.ok ls (List.mem_of_getElem? hls), ?_⟩
      exact lcPut nD q (fun _ _ e => e) (map_at (by rw [List.getElem?_replicate, if_pos hi])) (by rw [List.length_map, List.length_replicate]; omega)
    · rintro H2 ⟨s2, d2⟩
      rw [take_all (by rw [List.length_map, List.length_replicate]; omega)] at d2
      refine ⟨D, _, rfl, SqL.of d2, _, rfl, ?_⟩
      rw [all_rep]
      exact iteF (k _ s2)
def spFirst (C : Addr) : Sp := fun vs H Q _ => ∃ (p a : Addr) (bot : Int) (rs : List Rw) (ss : Strm) (l t k : Nat), vs = [.ref p, .ref a, .int (l : Int), .int (t : Int)] ∧ BkAt C H p bot rs ∧ RowsOk bot rs ∧ StrmAt H a ss ∧ l < rs.length ∧ t < ss.length ∧ inL ss l t = true ∧ fstN bot (rs.getD l none) ss l t = some k ∧ Q (.int ((t - k : Nat) : Int)) H
theorem ok_first_beginning (T : Top K mg A) : FnOk P w K mg base CX0 2 A.a_first_beginning A.d_first_beginning P_first_beginning (spFirst A.c_Buckets) := by
  refine T.F_first_beginning.ok sc_first_beginning (fun vs H Q E h => ?_) (fun cdv A' outer s H vs Q E hr h => ?_)
  · obtain ⟨p, a, bot, rs, ss, l, t, k, rfl, _⟩ := h
    rfl
  · obtain ⟨p, a, bot, rs, ss, l, t, k, rfl, ⟨dx, ra, ep, xs, er, alr⟩, ok, ⟨vs, ea, al⟩, hl, ht, hin, hf, kq⟩ := h
    refine ⟨_, (pss_cons (ps_set (i := 4) sc_first_beginning.nd rfl (.inl rfl) (pv 3))
    (pss_cons (ps_set (i := 5) sc_first_beginning.nd rfl (.inl rfl) pe_int)
    (pss_cons (ps_while PassesOwn.never (pt_cmpR op_le (pv 5) (pe_call (ok_most_of T) (hr.mono (by decide)) (by rfl) T.g_most_of T.F_most_of.kp T.b_most_of .nil pass0 (pa_cons (pe_fld (pv 0) rfl) (pa_cons (pe_ix ix_tup (pe_fld (pv 0) rfl) (pv 2) (fun _ _ => rfl)) (pa_cons (pe_op op_add (pe_op op_sub (pv 3) (pv 4)) pe_int) pa_nil)))) (nomark _)) (pss_cons (ps_aug (i := 4) sc_first_beginning.nd rfl (.inl rfl) pe_int ip_sub)
    (pss_one (ps_aug (i := 5) sc_first_beginning.nd rfl (.inl rfl) (pe_ifExp (pt_cmpR op_in_seq (pv 2) (pe_ix ix_tup (pv 1) (pv 4) (fun _ _ => rfl)) (by rfl)) pe_int pe_int) ip_add))))
    (pss_one (ps_ret (pv 4)))))), ?_⟩
    have lr := alr.len
    have lv := al.len
    have hk := List.mem_range.mp (List.mem_of_find?_eq_some hf)
    have hbrk := List.find?_some hf
    have hlow : ∀ j, j < k → brk bot (rs.getD l none) ss l t (j + 1) = false := fun j hj => by
      cases c : brk bot (rs.getD l none) ss l t (j + 1) with
      | false => rfl
      | true =>
        have z := find_at (p := fun k => brk bot (rs.getD l none) ss l t (k + 1)) (n := t + 1) (i := j)
        exfalso
        by_cases q : ∃ i, i < j ∧ brk bot (rs.getD l none) ss l t (i + 1) = true
        · -- the least one
          have : ∀ m i, i < m → brk bot (rs.getD l none) ss l t (i + 1) = true → i < k → False := by
            intro m
            induction m with
            | zero => intro i hi; omega
            | succ m ih =>
              intro i hi hb hik
              by_cases q2 : ∃ i', i' < i ∧ brk bot (rs.getD l none) ss l t (i' + 1) = true
              · obtain ⟨i', h1, h2⟩ := q2
                exact ih i' (by omega) h2 (by omega)
              · have z := find_at (p := fun k => brk bot (rs.getD l none) ss l t (k + 1)) (n := t + 1) (i := i) (by omega) (fun j' hj' => by
                  cases c2 : brk bot (rs.getD l none) ss l t (j' + 1) with
                  | false => rfl
                  | true => exact absurd ⟨j', hj', c2⟩ q2) hb
                unfold fstN at hf
                rw [z] at hf
                cases hf
                omega
          obtain ⟨i, h1, h2⟩ := q
          exact this (i + 1) i (Nat.lt_succ_self _) h2 (by omega)
        · have z := find_at (p := fun k => brk bot (rs.getD l none) ss l t (k + 1)) (n := t + 1) (i := j) (by omega) (fun j' hj' => by
            cases c2 : brk bot (rs.getD l none) ss l t (j' + 1) with
            | false => rfl
            | true => exact absurd ⟨j', hj', c2⟩ q) c
          unfold fstN at hf
          rw [z] at hf
          cases hf
          omega
    have rl : rs[l]? = some (rs.getD l none) := by
      rw [List.getD_eq_getElem?_getD, List.getElem?_eq_getElem hl]
      rfl
    obtain ⟨rv, hrv, hrw⟩ := alr.getL rl
    have rok := ok.ok _ (List.mem_of_getElem? rl)
    have d1 : dn ss l t (0 + 1) = 1 := by
      show 0 + (if inL ss l (t - 0) = true then 1 else 0) = 1
      rw [Nat.sub_zero, hin, if_pos rfl]
    refine ⟨_, rfl, ?_⟩
    refine ⟨fun m σ H' => ∃ j : Nat, σ = [some (.ref p), some (.ref a), some (.int (l : Int)), some (.int (t : Int)), some (.int ((t - j : Nat) : Int)), some (.int (dn ss l t (j + 1) : Int))] ∧ H' = H ∧ j ≤ k ∧ m = k - j,
      ⟨_, 0, by rw [d1, Nat.sub_zero]; rfl, rfl, Nat.zero_le _, rfl⟩, ?_⟩
    rintro m σ H1 ⟨j, rfl, rfl, hj, rfl⟩
    refine ⟨_, rfl, _, rfl, p, _, _, _, _, rfl, ep, T.cl_Buckets, T.n_Buckets_bottom, bf1, _, rfl, p, _, _, _, _, rfl, ep, T.cl_Buckets, T.n_Buckets_rows, bf2, _, rfl, ra, xs, _, _, rfl, rfl, SqT.of er, atI_nat hrv, _, rfl, _, rfl, _, _, rfl, rfl, _, _, rfl, rfl, bot, (j + 1 : Nat), _, rv, ?_, hrw, rok, ok.b1, ok.b20, _, _, rfl, rfl, _, rfl, ?_⟩
    · show [V.int bot, rv, V.int ((t : Int) - ((t - j : Nat) : Int) + 1)] = [V.int bot, rv, V.int ((j + 1 : Nat) : Int)]
      rw [show (t : Int) - ((t - j : Nat) : Int) + 1 = ((j + 1 : Nat) : Int) by omega]
    by_cases c : (dn ss l t (j + 1) : Int) ≤ sentR bot ((j + 1 : Nat) : Int) (rs.getD l none)
    · rw [decide_eq_true c]
      have jk : j < k := by
        rcases Nat.lt_or_ge j k with z | z
        · exact z
        · exfalso
          have e : j = k := by omega
          subst e
          unfold brk at hbrk
          have q := of_decide_eq_true hbrk
          omega
      refine iteT ?_
      refine ⟨fun σ H' => ∃ j' : Nat, σ = [some (.ref p), some (.ref a), some (.int (l : Int)), some (.int (t : Int)), some (.int ((t - j' : Nat) : Int)), some (.int (dn ss l t (j' + 1) : Int))] ∧ H' = H1 ∧ j' ≤ k ∧ k - j' < k - j, fun σ' H' ⟨j', e1, e2, e3, e4⟩ => ⟨_, e4, j', e1, e2, e3, rfl⟩, ?_⟩
      have hb : t - (j + 1) < vs.length := by omega
      obtain ⟨ls, hls⟩ : ∃ ls, ss[t - (j + 1)]? = some ls := ⟨_, List.getElem?_eq_getElem (by omega)⟩
      obtain ⟨lv', hlv, q, rfl, hq⟩ := al.getL hls
      have ein : inL ss l (t - (j + 1)) = decide (l ∈ ls) := by
        unfold inL
        rw [getD_some hls]
      refine ⟨_, rfl, _, _, rfl, rfl, ?_⟩
      have e1 : ((t - j : Nat) : Int) - 1 = ((t - (j + 1) : Nat) : Int) := by omega
      have dnx : dn ss l t (j + 1 + 1) = dn ss l t (j + 1) + (if inL ss l (t - (j + 1)) = true then 1 else 0) := rfl
      have at1 : atI vs (((t - j : Nat) : Int) - 1) = some (.ref q) := by
        rw [e1]
        exact atI_nat hlv
      refine ⟨_, rfl, _, rfl, _, rfl, _, rfl, a, vs, _, _, rfl, rfl, SqT.of ea, at1, q, _, rfl, .inr (SqT.of hq), rfl, flat_nats _, _, rfl, ?_⟩
      show (if inV (.int (l : Int)) (natsV ls) = true then _ else _)
      rw [inV_nats]
      by_cases cl : l ∈ ls
      · rw [decide_eq_true cl]
        refine iteT ⟨_, _, rfl, rfl, j + 1, ?_, rfl, by omega, by omega⟩
        show [some (V.ref p), some (V.ref a), some (V.int (l : Int)), some (V.int (t : Int)), some (V.int (((t - j : Nat) : Int) - 1)), some (V.int ((dn ss l t (j + 1) : Int) + 1))] = _
        rw [dnx, ein, decide_eq_true cl, e1]
        rfl
      · rw [decide_eq_false cl]
        refine iteF ⟨_, _, rfl, rfl, j + 1, ?_, rfl, by omega, by omega⟩
        show [some (V.ref p), some (V.ref a), some (V.int (l : Int)), some (V.int (t : Int)), some (V.int (((t - j : Nat) : Int) - 1)), some (V.int ((dn ss l t (j + 1) : Int) + 0))] = _
        rw [dnx, ein, decide_eq_false cl, e1, Int.add_zero]
        rfl
    · rw [decide_eq_false c]
      have jk : j = k := by
        rcases Nat.lt_or_ge j k with z | z
        · exfalso
          have q := hlow j z
          unfold brk at q
          rw [decide_eq_false_iff_not] at q
          omega
        · omega
      subst jk
      exact iteF ⟨_, rfl, kq⟩
end

/-! ### gauges -/
def gF (bot : Int) (v : V) (L M : Int) : List (Str × V) := putF "least" (.int M) (putF "level" (.int L) (putF "row" v (putF "bottom" (.int bot) [])))
theorem gf1 {bot : Int} {v : V} {L M : Int} : List.lookup ("bottom" : Str) (gF bot v L M) = some (V.int bot) := rfl
theorem gf2 {bot : Int} {v : V} {L M : Int} : List.lookup ("row" : Str) (gF bot v L M) = some v := rfl
theorem gf3 {bot : Int} {v : V} {L M : Int} : List.lookup ("level" : Str) (gF bot v L M) = some (V.int L) := rfl
theorem gf4 {bot : Int} {v : V} {L M : Int} : List.lookup ("least" : Str) (gF bot v L M) = some (V.int M) := rfl
theorem gp3 {bot : Int} {v : V} {L M L' : Int} : putF "level" (.int L') (gF bot v L M) = gF bot v L' M := rfl
theorem gp4 {bot : Int} {v : V} {L M M' : Int} : putF "least" (.int M') (gF bot v L M) = gF bot v L M' := rfl
theorem gflen {bot : Int} {v : V} {L M : Int} : (gF bot v L M).length < 1000 := by show 4 < 1000; decide
def lesser (i j : Int) : Int := if j < i then j else i
theorem lesser_min (i j : Int) : lesser i j = min i j := by
  unfold lesser
  split
  · exact (Int.min_eq_right (by omega)).symm
  · exact (Int.min_eq_left (by omega)).symm
section
variable {P : Program} {w : World} {K : PySem.W.Frag} {mg : Str → Option Value} {base : Heap} {A : Adr}
def spGI (C : Addr) : Sp := fun vs H Q _ => ∃ (p dx : Addr) (bot : Int) (v : V), vs = [.ref p, .int bot, v] ∧ H p = some (.ins C dx []) ∧ ∀ H', (∀ q, q ≠ p → H' q = H q) → H' p = some (.ins C dx (gF bot v 0 0)) → Q .non H'
theorem ok_Gauge___init__ (T : Top K mg A) : FnOk P w K mg base CX0 1 A.a_Gauge___init__ A.d_Gauge___init__ P_Gauge___init__ (spGI A.c_Gauge) := by
  refine T.F_Gauge___init__.ok sc_Gauge___init__ (fun vs H Q E h => ?_) (fun cdv A' outer s H vs Q E hr h => ?_)
  · obtain ⟨p, dx, bot, v, rfl, _⟩ := h
    rfl
  · obtain ⟨p, dx, bot, v, rfl, ep, k⟩ := h
    refine ⟨_, (pss_cons (ps_fld (pv 0) (pv 1) (by rfl))
    (pss_cons (ps_fld (pv 0) (pv 2) (by rfl))
    (pss_cons (ps_fld (pv 0) pe_int (by rfl))
    (pss_one (ps_fld (pv 0) pe_int (by rfl)))))), ?_⟩
    refine ⟨_, rfl, _, rfl, p, _, dx, _, rfl, ep, T.cl_Gauge, T.n_Gauge_bottom, (by show 0 < 1000; decide), ?_⟩
    refine ⟨_, rfl, _, rfl, p, _, dx, _, rfl, upd_same, T.cl_Gauge, T.n_Gauge_row, (by show 1 < 1000; decide), ?_⟩
    refine ⟨_, rfl, p, _, dx, _, rfl, upd_same, T.cl_Gauge, T.n_Gauge_level, (by show 2 < 1000; decide), ?_⟩
    refine ⟨_, rfl, p, _, dx, _, rfl, upd_same, T.cl_Gauge, T.n_Gauge_least, (by show 3 < 1000; decide), ?_⟩
    refine k _ (fun q hq => ?_) upd_same
    rw [upd_ne hq, upd_ne hq, upd_ne hq, upd_ne hq]
def spOv (C : Addr) : Sp := fun vs H Q _ => ∃ (p dx : Addr) (bot L M : Int) (v : V) (r : Rw) (x : Bool), vs = [.ref p, .bl x] ∧ H p = some (.ins C dx (gF bot v L M)) ∧ RowAt H r v ∧ RowOk bot r ∧ 1 ≤ bot ∧ bot ≤ 20 ∧
  (r = none → Q (.bl x) H) ∧ (∀ b tp k, r = some (b, tp, k) → ∀ L' M', L' = L + ((if x = true then bot else 0) - tp) → M' = lesser M L → Q (.bl (decide (bot * b < L' - M'))) (upd H p (.ins C dx (gF bot v L' M'))))
theorem ok_Gauge_overflows (T : Top K mg A) : FnOk P w K mg base CX0 1 A.a_Gauge_overflows A.d_Gauge_overflows P_Gauge_overflows (spOv A.c_Gauge) := by
  refine T.F_Gauge_overflows.ok sc_Gauge_overflows (fun vs H Q E h => ?_) (fun cdv A' outer s H vs Q E hr h => ?_)
  · obtain ⟨p, dx, bot, L, M, v, r, x, rfl, _⟩ := h
    rfl
  · obtain ⟨p, dx, bot, L, M, v, r, x, rfl, ep, hr1, ok, b1, b20, kn, ks⟩ := h
    refine ⟨_, (pss_cons (ps_if (pt_cmpR op_isN (pe_fld (pv 0) rfl) pe_non (nomark _)) (pss_one (ps_ret (pv 1))) pss_nil)
    (pss_cons (ps_asg (pe_fld (pv 0) rfl) (pg_tup rfl (pgs_cons (pg_name (i := 2) sc_Gauge_overflows.nd rfl (.inl rfl)) (pgs_cons (pg_name (i := 3) sc_Gauge_overflows.nd rfl (.inl rfl)) (pgs_cons (pg_name (i := 4) sc_Gauge_overflows.nd rfl (.inl rfl)) pgs_nil)))))
    (pss_cons (ps_fld (pv 0) (pe_callB (call_min2 rfl) (by rfl) T.z_min (by decide +kernel) (pa_cons (pe_fld (pv 0) rfl) (pa_cons (pe_fld (pv 0) rfl) pa_nil))) (by rfl))
    (pss_cons (ps_fldaug (pv 0) (pe_op op_sub (pe_ifExp (pt_truth (pv 1) (by intro _; rfl)) (pe_fld (pv 0) rfl) pe_int) (pv 3)) in_add)
    (pss_one (ps_ret (pe_cmpR op_gt (pe_op op_sub (pe_fld (pv 0) rfl) (pe_fld (pv 0) rfl)) (pe_op op_mul (pe_fld (pv 0) rfl) (pv 2)) (nomark _)))))))), ?_⟩
    refine ⟨_, rfl, p, _, _, _, _, rfl, ep, T.cl_Gauge, T.n_Gauge_row, gf2, rfl, _, rfl, ?_⟩
    match r, hr1, ok, kn, ks with
    | none, e, _, kn, _ =>
      cases (show v = V.non from e)
      exact iteT ⟨_, rfl, kn rfl⟩
    | some (b, tp, kk), ⟨q, e, eq⟩, ok, _, ks =>
      subst e
      obtain ⟨⟨h1, h2⟩, ⟨h3, h4⟩, _⟩ := ok
      refine iteF ?_
      refine ⟨_, rfl, p, _, _, _, _, rfl, ep, T.cl_Gauge, T.n_Gauge_row, gf2, q, _, rfl, SqT.of eq, rfl, _, _, rfl, _, _, rfl, _, _, rfl, rfl, ?_⟩
      refine ⟨_, rfl, p, _, _, _, _, rfl, ep, T.cl_Gauge, T.n_Gauge_least, gf4, _, rfl, p, _, _, _, _, rfl, ep, T.cl_Gauge, T.n_Gauge_level, gf3, _, _, rfl, _, rfl, p, _, dx, _, rfl, ep, T.cl_Gauge, T.n_Gauge_least, gflen, ?_⟩
      have e1 : upd H p (.ins A.c_Gauge dx (putF "least" (.int (lesser M L)) (gF bot (.ref q) L M))) p = some (.ins A.c_Gauge dx (gF bot (.ref q) L (lesser M L))) := by
        rw [upd_same, gp4]
      have fin : ∀ y : Int, y = (if x = true then bot else 0) → Q (.bl (decide (bot * b < (L + (y - tp)) - lesser M L))) (upd (upd H p (.ins A.c_Gauge dx (putF "least" (.int (lesser M L)) (gF bot (.ref q) L M)))) p (.ins A.c_Gauge dx (putF "level" (.int (L + (y - tp))) (gF bot (.ref q) L (lesser M L))))) := fun y hy => by
        rw [gp3, L2.upd_upd]
        exact ks b tp kk rfl _ _ (by rw [hy]) rfl
      have rest : ∀ y : Int, ∀ H2, H2 = upd (upd H p (.ins A.c_Gauge dx (putF "least" (.int (lesser M L)) (gF bot (.ref q) L M)))) p (.ins A.c_Gauge dx (putF "level" (.int (L + (y - tp))) (gF bot (.ref q) L (lesser M L)))) → H2 p = some (.ins A.c_Gauge dx (gF bot (.ref q) (L + (y - tp)) (lesser M L))) := fun y H2 e => by
        rw [e, upd_same, gp3]
      refine ⟨_, rfl, p, _, _, _, _, rfl, e1, T.cl_Gauge, T.n_Gauge_level, gf3, ?_⟩
      refine ⟨_, rfl, x, rfl, ?_⟩
      cases x with
      | true =>
        refine iteT ⟨_, rfl, p, _, _, _, _, rfl, e1, T.cl_Gauge, T.n_Gauge_bottom, gf1, _, rfl, _, _, rfl, rfl, _, _, rfl, rfl, dx, _, e1, gflen, ?_⟩
        have e2 := rest bot _ rfl
        refine ⟨_, rfl, p, _, _, _, _, rfl, e2, T.cl_Gauge, T.n_Gauge_level, gf3, _, rfl, p, _, _, _, _, rfl, e2, T.cl_Gauge, T.n_Gauge_least, gf4, _, _, rfl, rfl, _, rfl, p, _, _, _, _, rfl, e2, T.cl_Gauge, T.n_Gauge_bottom, gf1, _, rfl, _, _, rfl, rfl, .inl ⟨by omega, by omega⟩, _, _, rfl, rfl, ?_⟩
        exact fin bot rfl
      | false =>
        refine iteF ⟨_, rfl, _, _, rfl, rfl, _, _, rfl, rfl, dx, _, e1, gflen, ?_⟩
        have e2 := rest 0 _ rfl
        refine ⟨_, rfl, p, _, _, _, _, rfl, e2, T.cl_Gauge, T.n_Gauge_level, gf3, _, rfl, p, _, _, _, _, rfl, e2, T.cl_Gauge, T.n_Gauge_least, gf4, _, _, rfl, rfl, _, rfl, p, _, _, _, _, rfl, e2, T.cl_Gauge, T.n_Gauge_bottom, gf1, _, rfl, _, _, rfl, rfl, .inl ⟨by omega, by omega⟩, _, _, rfl, rfl, ?_⟩
        exact fin 0 rfl
end

/-! ### breaches -/
def TriV (H : Hp) : Option (Nat × Nat × Nat) → V → Prop
  | none, v => v = .non
  | some (l, b, t), v => ∃ q, v = .ref q ∧ H q = some (.tup [.int (l : Int), .int (b : Int), .int (t : Int)])
theorem TriV.same {H H' : Hp} {o : Option (Nat × Nat × Nat)} {v : V} (h : TriV H o v) (s : Same H H') : TriV H' o v := by
  match o, h with
  | none, h => exact h
  | some (l, b, t), ⟨q, e, e1⟩ => exact ⟨q, e, s _ _ e1⟩
def lmO (bot : Int) (ss : Strm) (l n : Nat) : Rw → Int × Int
  | none => (0, 0)
  | some (_, tp, _) => (lvl ss l bot tp n, mnl ss l bot tp n)
/-- the gauges stand, each after some beats -/
structure Gs (C : Addr) (H0 H : Hp) (us : List V) (bot : Int) (rs : List Rw) (ss : Strm) (n : Nat → Nat) : Prop where
  each : ∀ i r, rs[i]? = some r → i < us.length → ∃ p dx v, us[i]? = some (.ref p) ∧ H0 p = none ∧ H p = some (.ins C dx (gF bot v (lmO bot ss i (n i) r).1 (lmO bot ss i (n i) r).2)) ∧ RowAt H0 r v
  uniq : us.Nodup
theorem Gs.same {C : Addr} {H0 H H' : Hp} {us : List V} {bot : Int} {rs : List Rw} {ss : Strm} {n : Nat → Nat} (g : Gs C H0 H us bot rs ss n) (s : Same H H') : Gs C H0 H' us bot rs ss n :=
  ⟨fun i r hr hi => let ⟨p, dx, v, e1, e2, e3, e4⟩ := g.each i r hr hi; ⟨p, dx, v, e1, e2, s _ _ e3, e4⟩, g.uniq⟩
theorem nd_at {us : List V} (nd : us.Nodup) {i j : Nat} {v : V} (h1 : us[i]? = some v) (h2 : us[j]? = some v) : i = j := by
  have a := (List.getElem?_eq_some_iff.mp h1)
  have b := (List.getElem?_eq_some_iff.mp h2)
  obtain ⟨a1, a2⟩ := a
  obtain ⟨b1, b2⟩ := b
  exact (List.getElem_inj nd).mp (a2.trans b2.symm)
section
variable {P : Program} {w : World} {K : PySem.W.Frag} {mg : Str → Option Value} {base : Heap} {A : Adr}
def spBreach (C : Addr) : Sp := fun vs H Q _ => ∃ (p a : Addr) (bot : Int) (rs : List Rw) (ss : Strm), vs = [.ref p, .ref a] ∧ BkAt C H p bot rs ∧ RowsOk bot rs ∧ StrmAt H a ss ∧ StrmOk rs.length ss ∧ ∀ H' v, Same H H' → TriV H' (brF bot rs ss) v → Q v H'
theorem ok_breach (T : Top K mg A) : FnOk P w K mg base CX0 5 A.a_breach A.d_breach P_breach (spBreach A.c_Buckets) := by
  refine T.F_breach.ok sc_breach (fun vs H Q E h => ?_) (fun cdv A' outer s H vs Q E hr h => ?_)
  · obtain ⟨p, a, bot, rs, ss, rfl, _⟩ := h
    rfl
  · obtain ⟨p, a, bot, rs, ss, rfl, bk, ok, st, sok, k⟩ := h
    refine ⟨_, (pss_cons (ps_expr (pe_call (ok_check_stream T) (hr.mono (by decide)) (by rfl) T.g_check_stream T.F_check_stream.kp T.b_check_stream .nil pass0 (pa_cons (pv 0) (pa_cons (pv 1) pa_nil))))
    (pss_cons (ps_setLc (i := 2) (own := [("row", 7)]) (by rfl) sc_breach.nd rfl rfl (sw_true rfl rfl rfl (by decide +kernel)) (pi_tup (pe_fld (pv 0) rfl)) (blkOk_by (own := [("row", 7)]) (N := N_breach) (sc := defScope s_breach) (by decide +kernel)) (fun _ _ _ _ _ => (pg_name (i := 7) sc_breach.nd rfl (.inl rfl))) (fun _ _ _ _ _ => pts_nil) (fun _ _ _ _ _ => (pe_make T.mk_Gauge (ok_Gauge___init__ T) (hr.mono (by decide)) (by rfl) T.gc_Gauge T.b_Gauge___init__ .nil pass0 (pa_cons (show PE _ _ (tFld K _ "bottom") from pe_fld (pv 0) (by rfl)) (pa_cons (pv 7) pa_nil)))))
    (pss_cons (ps_for PassesOwn.never rfl (GE.pi_enumA (by rfl) T.z_enumerate (pa_cons (pv 1) pa_nil)) (pg_tup rfl (pgs_cons (pg_name (i := 3) sc_breach.nd rfl (.inl rfl)) (pgs_cons (pg_name (i := 4) sc_breach.nd rfl (.inl rfl)) pgs_nil))) (pss_one (ps_for PassesOwn.never rfl (GE.pi_enumA (by rfl) T.z_enumerate (pa_cons (pv 2) pa_nil)) (pg_tup rfl (pgs_cons (pg_name (i := 5) sc_breach.nd rfl (.inl rfl)) (pgs_cons (pg_name (i := 6) sc_breach.nd rfl (.inl rfl)) pgs_nil))) (pss_one (ps_if (pt_val (pe_meth (pv 6) T.cl_Gauge T.m_Gauge_overflows (ok_Gauge_overflows T) (hr.mono (by decide)) T.b_Gauge_overflows .nil pass0 (pa_cons (pe_cmpR op_in_seq (pv 5) (pv 4) (by rfl)) pa_nil))) (pss_one (ps_ret (pe_tup (pa_cons (pv 5) (pa_cons (pe_call (ok_first_beginning T) (hr.mono (by decide)) (by rfl) T.g_first_beginning T.F_first_beginning.kp T.b_first_beginning .nil pass0 (pa_cons (pv 0) (pa_cons (pv 1) (pa_cons (pv 5) (pa_cons (pv 3) pa_nil))))) (pa_cons (pv 3) pa_nil)))))) pss_nil)))))
    (pss_one (ps_ret pe_non))))), ?_⟩
    refine ⟨_, rfl, _, rfl, p, a, bot, rs, ss, rfl, bk, st, sok, fun H1 s1 => ?_⟩
    have k : ∀ H' v, Same H1 H' → TriV H' (brF bot rs ss) v → Q v H' := fun H' v s => k H' v (s1.trans s)
    have bk := bk.same s1
    have st := st.same s1
    clear s1
    obtain ⟨dx, ra, ep, xs, er, alr⟩ := id bk
    obtain ⟨vs, ea, al⟩ := id st
    have lr := alr.len
    have lv := al.len
    have few := ok.few
    refine ⟨_, rfl, p, _, _, _, _, rfl, ep, T.cl_Buckets, T.n_Buckets_rows, bf2, ra, rfl, ⟨_, SqT.of er⟩, fun D nD => ?_⟩
    refine lc_tup (K := K) (a := ra) (xs := xs) (fun i H' => ∃ us, Same H1 H' ∧ H' D = some (.lst us) ∧ us.length = i ∧ Gs A.c_Gauge H1 H' us bot rs ss (fun _ => 0)) ⟨[], same_upd nD, upd_same, rfl, ⟨fun i r _ hi => absurd hi (Nat.not_lt_zero _), List.nodup_nil⟩⟩ (fun i H' _ ⟨_, s, _⟩ => SqT.of (s _ _ er)) ?_ ?_
    · rintro i x H2 hx ⟨us, s2, e2, l2, g2⟩
      obtain ⟨r, hr1, hr2⟩ := alr.get hx
      have hi := (List.getElem?_eq_some_iff.mp hr1).1
      refine ⟨by kernel_rfl, ?_⟩
      refine ⟨_, rfl, p, _, _, _, _, rfl, s2 _ _ ep, T.cl_Buckets, T.n_Buckets_bottom, bf1, _, rfl, fun z dz nz nd ne => ?_⟩
      have s0 : Same H2 (upd (upd H2 dz (.own z)) z (.ins A.c_Gauge dz [])) := fun q o e => by
        rw [upd_ne (ne_of_none e nz), upd_ne (ne_of_none e nd)]
        exact e
      refine ⟨z, dz, bot, x, rfl, upd_same, fun H3 b3 e3 => ⟨rfl, ?_⟩⟩
      have s23 : Same H2 H3 := fun q o e => by
        rw [b3 q (ne_of_none e nz)]
        exact s0 _ _ e
      have Dz : D ≠ z := fun q => by rw [q, nz] at e2; cases e2
      refine ⟨us, s23 _ _ e2, lts (by omega), us ++ [.ref z], same_to (s2.trans s23) nD, upd_same, by rw [List.length_append, l2]; rfl, ⟨fun j r' hr' hj => ?_, ?_⟩⟩
      · by_cases c : j < us.length
        · obtain ⟨p', dx', v', h1, h2, h3, h4⟩ := g2.each j r' hr' c
          refine ⟨p', dx', v', by rw [List.getElem?_append_left c]; exact h1, h2, ?_, h4⟩
          rw [upd_ne (fun q => by rw [q, e2] at h3; cases h3)]
          exact s23 _ _ h3
        · have hj : j = i := by
            rw [List.length_append] at hj
            have hj : j < us.length + 1 := hj
            omega
          subst hj
          rw [hr1] at hr'
          cases hr'
          refine ⟨z, dz, x, by rw [List.getElem?_append_right (by omega), show j - us.length = 0 by omega]; rfl, s2.free nz, ?_, hr2⟩
          rw [upd_ne Dz.symm, e3]
          match r with
          | none => rfl
          | some (_, _, _) => rfl
      · rw [List.nodup_append]
        refine ⟨g2.uniq, by simp, fun u hu y hy => ?_⟩
        rw [List.mem_singleton] at hy
        rw [hy]
        intro e
        subst e
        obtain ⟨j, hj⟩ := List.getElem?_of_mem hu
        have hjl := (List.getElem?_eq_some_iff.mp hj).1
        obtain ⟨rj, hrj⟩ : ∃ rj, rs[j]? = some rj := ⟨_, List.getElem?_eq_getElem (by omega)⟩
        obtain ⟨p', dx', v', h1, h2, h3, h4⟩ := g2.each j rj hrj hjl
        rw [hj] at h1
        cases h1
        rw [nz] at h3
        cases h3
    · rintro H2 ⟨us, s2, e2, l2, g2⟩
      have lu : us.length = rs.length := by omega
      -- the beats
      refine ⟨_, rfl, a, vs, rfl, .inr ⟨SqT.of (s2 _ _ ea), for_it GE.walk (fun t σ H' => ∃ y3 y4 y5 y6 : Option V, σ = [some (.ref p), some (.ref a), some (.ref D), y3, y4, y5, y6, none] ∧ Same H1 H' ∧ H' D = some (.lst us) ∧ Gs A.c_Gauge H1 H' us bot rs ss (fun _ => t) ∧ ∀ t', t' < t → lineF bot rs ss t' = none)
        ⟨_, _, _, _, rfl, s2, e2, g2, fun t' h => absurd h (Nat.not_lt_zero _)⟩ (fun i σ H' _ ⟨_, _, _, _, _, s, _⟩ => SqT.of (s _ _ ea)) ?_ ?_⟩⟩
      · rintro t x σ H3 H3' ht ⟨y3, y4, y5, y6, rfl, s3, e3, g3, low⟩ ⟨T1, x1, x2, rfl, nT, rfl, ex1, ex2⟩
        cases ex1
        obtain ⟨ls, hls, q, rfl, hq⟩ := al.get ex2
        have tl := (List.getElem?_eq_some_iff.mp hls).1
        have s4 := same_upd nT (o := .tup [.int ((t : Nat) : Int), .ref q])
        refine ⟨T1, _, rfl, SqT.of upd_same, rfl, _, _, rfl, _, _, rfl, rfl, ?_⟩
        have s14 := s3.trans s4
        have e4 := s4 _ _ e3
        have g4 := g3.same s4
        generalize upd H3 T1 (.tup [.int ((t : Nat) : Int), .ref q]) = H4 at s4 s14 e4 g4 ⊢
        have lowF : ∀ t', t' < t → ∀ l, l < rs.length → fstN bot (rs.getD l none) ss l t' = none := fun t' h' l hl => by
          have z := low t' h'
          unfold lineF at z
          have z2 := List.findSome?_eq_none_iff.mp z l (List.mem_range.mpr hl)
          cases c : fstN bot (rs.getD l none) ss l t' with
          | none => rfl
          | some k => rw [c] at z2; cases z2
        refine ⟨_, rfl, D, us, rfl, .inl ⟨SqL.of e4, for_it walk_enum (fun l σ H' => ∃ y5 y6 : Option V, σ = [some (.ref p), some (.ref a), some (.ref D), some (.int (t : Int)), some (.ref q), y5, y6, none] ∧ Same H1 H' ∧ H' D = some (.lst us) ∧ Gs A.c_Gauge H1 H' us bot rs ss (fun i => if i < l then t + 1 else t) ∧ ∀ l', l' < l → fstN bot (rs.getD l' none) ss l' t = none)
          ⟨_, _, rfl, s14, e4, ?_, fun l' h => absurd h (Nat.not_lt_zero _)⟩ (fun i σ H' _ ⟨_, _, _, _, e, _⟩ => SqL.of e) ?_ ?_⟩⟩
        · refine ⟨fun i r hr hi => ?_, g4.uniq⟩
          rw [if_neg (Nat.not_lt_zero _)]
          exact g4.each i r hr hi
        · rintro l x σ H5 H5' hl ⟨y5, y6, rfl, s5, e5, g5, lowL⟩ ⟨T2, x1, x2, rfl, nT2, rfl, ex1, ex3⟩
          cases ex1
          have ex3 : us[l]? = some x2 := ex3
          have hlu := (List.getElem?_eq_some_iff.mp ex3).1
          have hlr : l < rs.length := by omega
          have rl : rs[l]? = some (rs.getD l none) := by
            rw [List.getD_eq_getElem?_getD, List.getElem?_eq_getElem hlr]
            rfl
          have rok := ok.ok _ (List.mem_of_getElem? rl)
          obtain ⟨gp, gdx, gv, h1, h2, h3, h4⟩ := g5.each l _ rl hlu
          rw [ex3] at h1
          cases h1
          have s6 := same_upd nT2 (o := .tup [.int ((l : Nat) : Int), .ref gp])
          refine ⟨T2, _, rfl, SqT.of upd_same, rfl, _, _, rfl, _, _, rfl, rfl, ?_⟩
          have s16 := s5.trans s6
          have e6 := s6 _ _ e5
          have g6 := g5.same s6
          have h3 := s6 _ _ h3
          generalize upd H5 T2 (.tup [.int ((l : Nat) : Int), .ref gp]) = H6 at s6 s16 e6 g6 h3 ⊢
          rw [if_neg (Nat.lt_irrefl _)] at h3
          refine ⟨_, rfl, gp, gdx, _, rfl, h3, rfl, _, rfl, _, rfl, q, _, rfl, .inr (SqT.of (s16 _ _ hq)), rfl, flat_nats _, ?_⟩
          rw [inV_nats]
          have ein : inL ss l t = decide (l ∈ ls) := by
            unfold inL
            rw [getD_some hls]
          have lowT : ∀ t', t' < t → fstN bot (rs.getD l none) ss l t' = none := fun t' h' => lowF t' h' l hlr
          have ov := over_iff (ss := ss) (l := l) (t := t) rok ok.b1 lowT
          -- it overflows
          have yes : ∀ (H7 : Hp), overB bot (rs.getD l none) ss l t = true → Same H1 H7 → ∃ kf, inL ss l t = true ∧ fstN bot (rs.getD l none) ss l t = some kf ∧ brF bot rs ss = some (l, t - kf, t) := fun H7 ho s17 => by
            rw [ov] at ho
            obtain ⟨kf, hkf⟩ := Option.isSome_iff_exists.mp ho
            have m1 := List.mem_range.mp (List.mem_of_find?_eq_some hkf)
            have m2 := List.find?_some hkf
            refine ⟨kf, brk_sends rok ok.b1 lowT (by omega) m2, hkf, ?_⟩
            unfold brF
            refine findSome_at tl low ?_
            unfold lineF
            refine findSome_at hlr (fun j hj => ?_) (by rw [hkf]; rfl)
            rw [lowL j hj]
            rfl
          have noF : overB bot (rs.getD l none) ss l t = false → fstN bot (rs.getD l none) ss l t = none := fun ho => by
            rw [ov] at ho
            cases c : fstN bot (rs.getD l none) ss l t with
            | none => rfl
            | some kf => rw [c] at ho; cases ho
          have lowN : fstN bot (rs.getD l none) ss l t = none → ∀ l', l' < l + 1 → fstN bot (rs.getD l' none) ss l' t = none := fun hf l' h' => by
            by_cases c : l' = l
            · rw [c]
              exact hf
            · exact lowL l' (by omega)
          have gnext : ∀ (H7 : Hp) (L' M' : Int), (L', M') = lmO bot ss l (t + 1) (rs.getD l none) → H7 gp = some (.ins A.c_Gauge gdx (gF bot gv L' M')) → (∀ q, q ≠ gp → H7 q = H6 q) → Gs A.c_Gauge H1 H7 us bot rs ss (fun i => if i < l + 1 then t + 1 else t) := fun H7 L' M' eLM e7 b7 => by
            refine ⟨fun i r hr hi => ?_, g6.uniq⟩
            obtain ⟨p', dx', v', w1, w2, w3, w4⟩ := g6.each i r hr hi
            by_cases c : i = l
            · subst c
              rw [rl] at hr
              cases hr
              rw [ex3] at w1
              cases w1
              refine ⟨gp, gdx, gv, ex3, h2, ?_, h4⟩
              rw [if_pos (Nat.lt_succ_self _), ← eLM]
              exact e7
            · refine ⟨p', dx', v', w1, w2, ?_, w4⟩
              rw [b7 p' (fun e => by
                rw [e] at w1
                exact c (nd_at g6.uniq w1 ex3))]
              by_cases c2 : i < l
              · rw [if_pos c2] at w3
                rw [if_pos (by omega)]
                exact w3
              · rw [if_neg c2] at w3
                rw [if_neg (by omega)]
                exact w3
          have out : ∀ (H7 : Hp) (kf : Nat), Same H1 H7 → inL ss l t = true → fstN bot (rs.getD l none) ss l t = some kf → brF bot rs ss = some (l, t - kf, t) → ∀ z, H7 z = none → Q (.ref z) (upd H7 z (.tup [.int (l : Int), .int ((t - kf : Nat) : Int), .int (t : Int)])) := fun H7 kf s17 _ _ hb z nz => by
            refine k _ _ (s17.trans (same_upd nz)) ?_
            rw [hb]
            exact ⟨z, rfl, upd_same⟩
          refine ⟨gp, gdx, bot, _, _, gv, _, decide (l ∈ ls), rfl, h3, h4.mv (fun _ _ e => s16 _ _ e), rok, ok.b1, ok.b20, fun hn => ?_, fun b tp kk hs L' M' eL eM => ?_⟩
          · have eo : overB bot (rs.getD l none) ss l t = decide (l ∈ ls) := by
              rw [hn, ← ein]
              rfl
            refine ⟨_, rfl, ?_⟩
            cases c : decide (l ∈ ls) with
            | true =>
              rw [c] at eo
              obtain ⟨kf, k1, k2, k3⟩ := yes H6 eo s16
              refine iteT ⟨_, rfl, _, rfl, _, rfl, _, rfl, _, rfl, p, a, bot, rs, ss, l, t, kf, rfl, bk.same s16, ok, st.same s16, hlr, tl, k1, k2, _, rfl, by show 3 ≤ sizeLine; decide, fun z nz => ?_⟩
              exact out H6 kf s16 k1 k2 k3 z nz
            | false =>
              rw [c] at eo
              refine iteF ⟨_, _, rfl, s16, e6, ?_, lowN (noF eo)⟩
              refine gnext H6 _ _ ?_ h3 fun _ _ => rfl
              rw [hn]
              rfl
          · have e7 : upd H6 gp (.ins A.c_Gauge gdx (gF bot gv L' M')) gp = some (.ins A.c_Gauge gdx (gF bot gv L' M')) := upd_same
            have s17 : Same H1 (upd H6 gp (.ins A.c_Gauge gdx (gF bot gv L' M'))) := same_to s16 h2
            have b7 : ∀ q, q ≠ gp → upd H6 gp (.ins A.c_Gauge gdx (gF bot gv L' M')) q = H6 q := fun q hq => upd_ne hq
            have D7 : upd H6 gp (.ins A.c_Gauge gdx (gF bot gv L' M')) D = some (.lst us) := by
              rw [upd_ne (fun e => by rw [← e, e6] at h3; cases h3)]
              exact e6
            generalize upd H6 gp (.ins A.c_Gauge gdx (gF bot gv L' M')) = H7 at e7 s17 b7 D7 ⊢
            have eLM : (L', M') = lmO bot ss l (t + 1) (rs.getD l none) := by
              rw [hs] at eL eM ⊢
              rw [eL, eM, ← ein, lesser_min]
              rfl
            have eo : overB bot (rs.getD l none) ss l t = decide (bot * b < L' - M') := by
              rw [hs] at eLM ⊢
              injection eLM with q1 q2
              rw [q1, q2]
              rfl
            refine ⟨_, rfl, ?_⟩
            cases c : decide (bot * b < L' - M') with
            | true =>
              rw [c] at eo
              obtain ⟨kf, k1, k2, k3⟩ := yes H7 eo s17
              refine iteT ⟨_, rfl, _, rfl, _, rfl, _, rfl, _, rfl, p, a, bot, rs, ss, l, t, kf, rfl, bk.same s17, ok, st.same s17, hlr, tl, k1, k2, _, rfl, by show 3 ≤ sizeLine; decide, fun z nz => ?_⟩
              exact out H7 kf s17 k1 k2 k3 z nz
            | false =>
              rw [c] at eo
              exact iteF ⟨_, _, rfl, s17, D7, gnext H7 L' M' eLM e7 b7, lowN (noF eo)⟩
        · rintro σ H5 ⟨y5, y6, rfl, s5, e5, g5, lowL⟩
          refine ⟨_, _, _, _, rfl, s5, e5, ⟨fun i r hr hi => ?_, g5.uniq⟩, fun t' ht' => ?_⟩
          · have z := g5.each i r hr hi
            rw [if_pos hi] at z
            exact z
          · by_cases c : t' = t
            · subst c
              unfold lineF
              refine findSome_no fun j hj => ?_
              rw [lowL j (by omega)]
              rfl
            · exact low t' (by omega)
      · rintro σ H3 ⟨y3, y4, y5, y6, rfl, s3, e3, g3, low⟩
        refine k H3 .non s3 ?_
        unfold brF
        rw [findSome_no fun t' ht' => low t' (by omega)]
        rfl
end

/-! ### the same, told twice -/
inductive Plain : V → Prop where
  | non : Plain .non
  | int (i : Int) : Plain (.int i)
  | bl (b : Bool) : Plain (.bl b)
  | str (x : Str) : Plain (.str x)
inductive SameV (H : Hp) : Nat → V → V → Prop where
  | plain {n : Nat} {v : V} : Plain v → SameV H n v v
  | tup {n : Nat} {a b : Addr} {xs ys : List V} : H a = some (.tup xs) → H b = some (.tup ys) → xs.length = ys.length → xs.length ≤ 100 → (∀ (i : Nat) (u v : V), xs[i]? = some u → ys[i]? = some v → SameV H n u v) → SameV H (n + 1) (.ref a) (.ref b)
  | lst {n : Nat} {a b : Addr} {xs ys : List V} : H a = some (.lst xs) → H b = some (.lst ys) → xs.length = ys.length → xs.length ≤ 100 → (∀ (i : Nat) (u v : V), xs[i]? = some u → ys[i]? = some v → SameV H n u v) → SameV H (n + 1) (.ref a) (.ref b)
theorem SameV.same {H H' : Hp} (s : Same H H') {n : Nat} {u v : V} (h : SameV H n u v) : SameV H' n u v := by
  induction h with
  | plain p => exact .plain p
  | tup e1 e2 l m _ ih => exact .tup (s _ _ e1) (s _ _ e2) l m ih
  | lst e1 e2 l m _ ih => exact .lst (s _ _ e1) (s _ _ e2) l m ih
theorem SameV.up {H : Hp} {n m : Nat} {u v : V} (h : SameV H n u v) (hm : n ≤ m) : SameV H m u v := by
  induction h generalizing m with
  | plain p => exact .plain p
  | tup e1 e2 l k _ ih =>
    obtain ⟨m', rfl⟩ : ∃ m', m = m' + 1 := ⟨m - 1, by omega⟩
    exact .tup e1 e2 l k fun i u v hu hv => ih i u v hu hv (by omega)
  | lst e1 e2 l k _ ih =>
    obtain ⟨m', rfl⟩ : ∃ m', m = m' + 1 := ⟨m - 1, by omega⟩
    exact .lst e1 e2 l k fun i u v hu hv => ih i u v hu hv (by omega)
theorem kit2 {K : PySem.W.Frag} {a : String} {b1 b2 : Bool} (h1 : kitB a "tuple" = some b1) (h2 : kitB a "list" = some b2) : PySem.W.kitAny K (.type a) [.type "tuple", .type "list"] = some (b1 || b2) := by
  unfold PySem.W.kitAny
  rw [kitQ h1 rfl]
  cases b1 with
  | true => rfl
  | false =>
    dsimp only
    unfold PySem.W.kitAny
    rw [kitQ h2 rfl]
    cases b2 <;> rfl
theorem true_snoc (n : Nat) : (List.replicate (n + 1) true).map V.bl = (List.replicate n true).map V.bl ++ [.bl true] := by
  rw [List.replicate_succ', List.map_append]
  rfl
section
variable {P : Program} {w : World} {K : PySem.W.Frag} {mg : Str → Option Value} {base : Heap} {A : Adr}
def spSame (c : Nat) : Sp := fun vs H Q _ => ∃ (u v : V) (n : Nat), vs = [u, v] ∧ SameV H n u v ∧ n < c ∧ ∀ H', Same H H' → Q (.bl true) H'
theorem same_step {c : Nat} (T : Top K mg A) (G : FnOk P w K mg base CX0 c A.a_law_same A.d_law_same P_law_same (spSame c)) : FnOk P w K mg base CX0 (c + 1) A.a_law_same A.d_law_same P_law_same (spSame (c + 1)) := by
  refine T.F_law_same.ok sc_law_same (fun vs H Q E h => ?_) (fun cdv A' outer s H vs Q E hr h => ?_)
  · obtain ⟨u, v, n, rfl, _⟩ := h
    rfl
  · obtain ⟨u, v, n, rfl, sv, hn, k⟩ := h
    refine ⟨_, (pss_cons (ps_if (pt_val (pe_callB call_isiT (by rfl) T.z_isinstance (by decide +kernel) (pa_cons (pv 1) (pa_cons (pe_tup (pa_cons (pe_bltn (v := .ty "tuple") (by rfl) T.z_tuple (by decide +kernel) rfl) (pa_cons (pe_bltn (v := .ty "list") (by rfl) T.z_list (by decide +kernel) rfl) pa_nil))) pa_nil)))) (pss_cons (ps_if (PW.pt (pw_or (pt_cmpR op_ne (pe_callB call_isi (by rfl) T.z_isinstance (by decide +kernel) (pa_cons (pv 0) (pa_cons (pe_bltn (v := .ty "tuple") (by rfl) T.z_tuple (by decide +kernel) rfl) pa_nil))) (pe_callB call_isi (by rfl) T.z_isinstance (by decide +kernel) (pa_cons (pv 1) (pa_cons (pe_bltn (v := .ty "tuple") (by rfl) T.z_tuple (by decide +kernel) rfl) pa_nil))) (nomark _)) (pw_or1 (pt_not (pt_val (pe_callB call_isiT (by rfl) T.z_isinstance (by decide +kernel) (pa_cons (pv 0) (pa_cons (pe_tup (pa_cons (pe_bltn (v := .ty "tuple") (by rfl) T.z_tuple (by decide +kernel) rfl) (pa_cons (pe_bltn (v := .ty "list") (by rfl) T.z_list (by decide +kernel) rfl) pa_nil))) pa_nil)))))))) (pss_one (ps_ret pe_bl)) pss_nil)
    (pss_one (ps_ret (pe_and (pe_cmpR op_eq (pe_callB call_len_seq (by rfl) T.z_len (by decide +kernel) (pa_cons (pv 0) pa_nil)) (pe_callB call_len_seq (by rfl) T.z_len (by decide +kernel) (pa_cons (pv 1) pa_nil)) (nomark _)) (pe_one (pe_callB (cr_all rfl) (by rfl) T.z_all (by decide +kernel) (pa_cons (pe_lc (own := [("_law_one", 2), ("_law_two", 3)]) (by rfl) sc_law_same.nd (RZ.pi_zipA (by rfl) T.z_zip (pa_cons (pv 0) (pa_cons (pv 1) pa_nil))) (blkOk_by (own := [("_law_one", 2), ("_law_two", 3)]) (N := N_law_same) (sc := defScope s_law_same) (by decide +kernel)) (fun _ _ _ _ _ => (show PG _ _ (gTup K 2 _) from (pg_tup rfl (pgs_cons (pg_name (i := 2) sc_law_same.nd rfl (.inl rfl)) (pgs_cons (pg_name (i := 3) sc_law_same.nd rfl (.inl rfl)) pgs_nil))))) (fun _ _ _ _ _ => pts_nil) (fun _ _ _ _ _ => (pe_call G hr (by rfl) T.g_law_same T.F_law_same.kp T.b_law_same .nil pass0 (pa_cons (pv 2) (pa_cons (pv 3) pa_nil))))) pa_nil))))))) pss_nil)
    (pss_one (ps_ret (pe_and (pe_cmpR op_eq (pe_callB call_isi (by rfl) T.z_isinstance (by decide +kernel) (pa_cons (pv 0) (pa_cons (pe_bltn (v := .ty "bool") (by rfl) T.z_bool (by decide +kernel) rfl) pa_nil))) (pe_callB call_isi (by rfl) T.z_isinstance (by decide +kernel) (pa_cons (pv 1) (pa_cons (pe_bltn (v := .ty "bool") (by rfl) T.z_bool (by decide +kernel) rfl) pa_nil))) (nomark _)) (pe_one (pe_cmpR op_eq (pv 0) (pv 1) (nomark _))))))), ?_⟩
    cases sv with
    | plain pl =>
      obtain ⟨t, b, ty, k2, kb⟩ : ∃ t b, (∀ H', TyX K H' u t) ∧ PySem.W.kitAny K t [.type "tuple", .type "list"] = some false ∧ PySem.W.kitOne K t (.type "bool") = some b := by
        cases pl with
        | non => exact ⟨_, false, fun _ => .base .non, kit2 (b1 := false) (b2 := false) (by decide +kernel) (by decide +kernel), kitQ (by decide +kernel) rfl⟩
        | int i => exact ⟨_, false, fun _ => .base (.int i), kit2 (b1 := false) (b2 := false) (by decide +kernel) (by decide +kernel), kitQ (by decide +kernel) rfl⟩
        | bl c => exact ⟨_, true, fun _ => .base (.bl c), kit2 (b1 := false) (b2 := false) (by decide +kernel) (by decide +kernel), kitQ (by decide +kernel) rfl⟩
        | str x => exact ⟨_, false, fun _ => .base (.str x), kit2 (b1 := false) (b2 := false) (by decide +kernel) (by decide +kernel), kitQ (by decide +kernel) rfl⟩
      refine ⟨_, rfl, (by show 2 ≤ sizeLine; decide), fun p np => ?_⟩
      have s1 := same_upd np (o := .tup [.ty "tuple", .ty "list"])
      refine ⟨_, p, _, t, _, false, rfl, upd_same, .cons (.ty _) (.cons (.ty _) .nil), ty _, k2, _, rfl, iteF ?_⟩
      refine ⟨_, rfl, _, _, _, _, _, rfl, .ty "bool", ty _, kb, _, rfl, _, _, _, _, _, rfl, .ty "bool", ty _, kb, rfl, _, rfl, ?_⟩
      rw [dec_self]
      refine iteT ⟨_, rfl, _, rfl, ?_, ?_⟩
      · cases pl <;> rfl
      · rw [dec_self]
        exact k _ s1
    | tup e1 e2 ll few each =>
      rename_i n a b xs ys
      have k2 : PySem.W.kitAny K (.type "tuple") [.type "tuple", .type "list"] = some true := kit2 (b1 := true) (b2 := false) (by decide +kernel) (by decide +kernel)
      have kt : PySem.W.kitOne K (.type "tuple") (.type "tuple") = some true := kitQ (a := "tuple") (b := "tuple") (r := true) (by decide +kernel) rfl
      refine ⟨_, rfl, (by show 2 ≤ sizeLine; decide), fun p np => ?_⟩
      have s1 := same_upd np (o := .tup [.ty "tuple", .ty "list"])
      refine ⟨_, p, _, _, _, true, rfl, upd_same, .cons (.ty _) (.cons (.ty _) .nil), .base (.tup (s1 _ _ e2)), k2, _, rfl, iteT ?_⟩
      generalize upd H p (.tup [.ty "tuple", .ty "list"]) = H1 at s1 ⊢
      refine ⟨_, rfl, _, _, _, _, _, rfl, .ty "tuple", .base (.tup (s1 _ _ e1)), kt, _, rfl, _, _, _, _, _, rfl, .ty "tuple", .base (.tup (s1 _ _ e2)), kt, rfl, _, rfl, ?_⟩
      rw [dec_self]
      refine iteF ⟨_, rfl, (by show 2 ≤ sizeLine; decide), fun p2 np2 => ?_⟩
      have s2 := same_upd np2 (o := .tup [.ty "tuple", .ty "list"])
      refine ⟨_, p2, _, _, _, true, rfl, upd_same, .cons (.ty _) (.cons (.ty _) .nil), .base (.tup (s2 _ _ (s1 _ _ e1))), k2, _, rfl, iteF ?_⟩
      have s02 := s1.trans s2
      generalize upd H1 p2 (.tup [.ty "tuple", .ty "list"]) = H2 at s2 s02 ⊢
      refine ⟨_, rfl, a, xs, rfl, .inr (SqT.of (s02 _ _ e1)), _, rfl, b, ys, rfl, .inr (SqT.of (s02 _ _ e2)), rfl, _, rfl, ?_⟩
      rw [dec_int, decide_eq_true (show (xs.length : Int) = (ys.length : Int) by omega)]
      refine iteT ⟨_, rfl, _, rfl, a, b, xs, ys, rfl, .inr ⟨SqT.of (s02 _ _ e1), SqT.of (s02 _ _ e2), fun B nB => lc_it (GE.walk_zipT (n := xs.length) (by omega)) (fun i H' => Same H2 H' ∧ H' B = some (.lst ((List.replicate i true).map V.bl))) ⟨same_upd nB, upd_same⟩ (fun i H' _ h => ⟨SqT.of (h.1 _ _ (s02 _ _ e1)), SqT.of (h.1 _ _ (s02 _ _ e2))⟩) ?_ ?_⟩⟩
      · rintro i x H3 H3' hi ⟨s3, e3⟩ ⟨q, x1, x2, rfl, nq, rfl, ex1, ex2⟩
        have s4 := same_upd nq (o := .tup [x1, x2])
        refine ⟨q, _, rfl, SqT.of upd_same, rfl, _, _, rfl, _, _, rfl, rfl, by kernel_rfl, ?_⟩
        have s24 := s3.trans s4
        have e4 := s4 _ _ e3
        generalize upd H3 q (.tup [x1, x2]) = H4 at s4 s24 e4 ⊢
        refine ⟨_, rfl, _, rfl, x1, x2, n, rfl, (each i x1 x2 ex1 ex2).same (s02.trans s24), by omega, fun H5 s5 => ?_⟩
        refine ⟨_, s5 _ _ e4, by rw [List.length_map, List.length_replicate]; exact lts (by omega), same_to (s24.trans s5) nB, by rw [upd_same, true_snoc]⟩
      · rintro H3 ⟨s3, e3⟩
        refine ⟨B, _, rfl, SqL.of e3, ?_⟩
        rw [all_rep]
        exact k _ (s02.trans s3)
    | lst e1 e2 ll few each =>
      rename_i n a b xs ys
      have k2 : PySem.W.kitAny K (.type "list") [.type "tuple", .type "list"] = some true := kit2 (b1 := false) (b2 := true) (by decide +kernel) (by decide +kernel)
      have kt : PySem.W.kitOne K (.type "list") (.type "tuple") = some false := kitQ (a := "list") (b := "tuple") (r := false) (by decide +kernel) rfl
      refine ⟨_, rfl, (by show 2 ≤ sizeLine; decide), fun p np => ?_⟩
      have s1 := same_upd np (o := .tup [.ty "tuple", .ty "list"])
      refine ⟨_, p, _, _, _, true, rfl, upd_same, .cons (.ty _) (.cons (.ty _) .nil), .base (.lst (s1 _ _ e2)), k2, _, rfl, iteT ?_⟩
      generalize upd H p (.tup [.ty "tuple", .ty "list"]) = H1 at s1 ⊢
      refine ⟨_, rfl, _, _, _, _, _, rfl, .ty "tuple", .base (.lst (s1 _ _ e1)), kt, _, rfl, _, _, _, _, _, rfl, .ty "tuple", .base (.lst (s1 _ _ e2)), kt, rfl, _, rfl, ?_⟩
      rw [dec_self]
      refine iteF ⟨_, rfl, (by show 2 ≤ sizeLine; decide), fun p2 np2 => ?_⟩
      have s2 := same_upd np2 (o := .tup [.ty "tuple", .ty "list"])
      refine ⟨_, p2, _, _, _, true, rfl, upd_same, .cons (.ty _) (.cons (.ty _) .nil), .base (.lst (s2 _ _ (s1 _ _ e1))), k2, _, rfl, iteF ?_⟩
      have s02 := s1.trans s2
      generalize upd H1 p2 (.tup [.ty "tuple", .ty "list"]) = H2 at s2 s02 ⊢
      refine ⟨_, rfl, a, xs, rfl, .inl (SqL.of (s02 _ _ e1)), _, rfl, b, ys, rfl, .inl (SqL.of (s02 _ _ e2)), rfl, _, rfl, ?_⟩
      rw [dec_int, decide_eq_true (show (xs.length : Int) = (ys.length : Int) by omega)]
      refine iteT ⟨_, rfl, _, rfl, a, b, xs, ys, rfl, .inl ⟨SqL.of (s02 _ _ e1), SqL.of (s02 _ _ e2), fun B nB => lc_it (walk_zip (n := xs.length) (by omega)) (fun i H' => Same H2 H' ∧ H' B = some (.lst ((List.replicate i true).map V.bl))) ⟨same_upd nB, upd_same⟩ (fun i H' _ h => ⟨SqL.of (h.1 _ _ (s02 _ _ e1)), SqL.of (h.1 _ _ (s02 _ _ e2))⟩) ?_ ?_⟩⟩
      · rintro i x H3 H3' hi ⟨s3, e3⟩ ⟨q, x1, x2, rfl, nq, rfl, ex1, ex2⟩
        have s4 := same_upd nq (o := .tup [x1, x2])
        refine ⟨q, _, rfl, SqT.of upd_same, rfl, _, _, rfl, _, _, rfl, rfl, by kernel_rfl, ?_⟩
        have s24 := s3.trans s4
        have e4 := s4 _ _ e3
        generalize upd H3 q (.tup [x1, x2]) = H4 at s4 s24 e4 ⊢
        refine ⟨_, rfl, _, rfl, x1, x2, n, rfl, (each i x1 x2 ex1 ex2).same (s02.trans s24), by omega, fun H5 s5 => ?_⟩
        refine ⟨_, s5 _ _ e4, by rw [List.length_map, List.length_replicate]; exact lts (by omega), same_to (s24.trans s5) nB, by rw [upd_same, true_snoc]⟩
      · rintro H3 ⟨s3, e3⟩
        refine ⟨B, _, rfl, SqL.of e3, ?_⟩
        rw [all_rep]
        exact k _ (s02.trans s3)
theorem same_all (T : Top K mg A) : ∀ c : Nat, FnOk P w K mg base CX0 c A.a_law_same A.d_law_same P_law_same (spSame c)
  | 0 => by
    have none_ : ∀ vs H Q E, ¬ spSame 0 vs H Q E := fun vs H Q E h => by
      obtain ⟨u, v, n, _, _, hn, _⟩ := h
      omega
    exact ⟨fun vs H Q E h => absurd h (none_ vs H Q E), fun A outer s H args us vs Q E _ _ _ _ h => absurd h (none_ vs H Q E)⟩
  | c + 1 => same_step T (same_all T c)
theorem ok_law_same (T : Top K mg A) : FnOk P w K mg base CX0 5 A.a_law_same A.d_law_same P_law_same (spSame 5) := same_all T 5
end

/-! ### the law's own functions -/
section
variable {P : Program} {w : World} {K : PySem.W.Frag} {mg : Str → Option Value} {base : Heap} {A : Adr}
theorem ok_law_pick (T : Top K mg A) : FnOk P w K mg base CX0 2 A.a_law_pick A.d_law_pick P_law_pick (spAny K) := by
  refine T.F_law_pick.ok sc_law_pick (fun vs H Q E h => ?_) (fun cdv A outer s H vs Q E hr h => ?_)
  · obtain ⟨h, g, l, xs, rfl, _⟩ := h
    rfl
  · obtain ⟨h, g, l, xs, rfl, ha, hl, hst, h0, h1, k⟩ := h
    refine ⟨_, (pss_one (ps_ret (pe_ix ix_list (pv 1) (pe_call (ok_law_draw T) (hr.mono (by decide)) (by rfl) T.g_law_draw T.F_law_draw.kp T.b_law_draw .nil pass0 (pa_cons (pv 0) (pa_cons (pe_callB call_len_seq (by rfl) T.z_len (by decide +kernel) (pa_cons (pv 1) pa_nil)) pa_nil))) (fun _ _ => rfl)))), ?_⟩
    refine ⟨_, rfl, _, rfl, _, rfl, l, _, rfl, .inl hl, h, g, _, rfl, ha, by omega, by omega, fun H' d hb hh d0 d1 => ?_⟩
    have hj : d.toNat < xs.length := by omega
    exact ⟨l, xs, d, _, rfl, rfl, hst H' hb, at_of (by omega) (List.getElem?_eq_getElem hj), k H' _ _ hb hh (List.getElem?_eq_getElem hj)⟩
def spLRows : Sp := fun vs H Q _ => ∃ (h g : Addr) (many bot burst share : Int), vs = [.ref h, .int many, .int bot, .int burst, .int share] ∧ HandAt H h g ∧ (1 ≤ many ∧ many ≤ 11) ∧ (1 ≤ bot ∧ bot ≤ 20) ∧ (1 ≤ burst ∧ burst ≤ 20) ∧ (1 ≤ share ∧ share ≤ 100) ∧
  ∀ (H' : Hp) (a : Addr) (rs : List Rw), Kp h H H' → HandAt H' h g → RowsAt H' a rs → RowsOk bot rs → Q (.ref a) H'
theorem ok_law_rows (T : Top K mg A) : FnOk P w K mg base CX0 3 A.a_law_rows A.d_law_rows P_law_rows spLRows := by
  refine T.F_law_rows.ok sc_law_rows (fun vs H Q E h => ?_) (fun cdv A' outer s H vs Q E hr h => ?_)
  · obtain ⟨h, g, many, bot, burst, share, rfl, _⟩ := h
    rfl
  · obtain ⟨h, g, many, bot, burst, share, rfl, ha, ⟨m1, m2⟩, ⟨o1, o2⟩, ⟨u1, u2⟩, ⟨r1, r2⟩, k⟩ := h
    refine ⟨_, (pss_cons (ps_par (by rfl) sc_law_rows.nd (i := 5) (j := 6) rfl rfl (by decide) rfl rfl (pa_cons (pe_lst pa_nil) (pa_cons (pv 2) pa_nil)) (by rfl))
    (pss_cons (ps_for PassesOwn.never rfl (pi_range1 rfl T.z_range (pa_cons (pe_op op_add pe_int (pe_call (ok_law_draw T) (hr.mono (by decide)) (by rfl) T.g_law_draw T.F_law_draw.kp T.b_law_draw .nil pass0 (pa_cons (pv 0) (pa_cons (pv 1) pa_nil)))) pa_nil)) (pg_name (i := 7) sc_law_rows.nd rfl (.inl rfl)) (pss_one (ps_if (pt_cmpR op_eq (pe_call (ok_law_draw T) (hr.mono (by decide)) (by rfl) T.g_law_draw T.F_law_draw.kp T.b_law_draw .nil pass0 (pa_cons (pv 0) (pa_cons pe_int pa_nil))) pe_int (nomark _)) (pss_one (ps_expr (pe_bm PySem.F.plainAttrs_list PySem.F.slot_list_append PySem.F.type_list_append mt_append (pv 5) (pa_cons pe_non pa_nil)))) (pss_cons (ps_set (i := 8) sc_law_rows.nd rfl (.inl rfl) (pe_ifExp (pt_cmpR op_gt (pe_call (ok_law_draw T) (hr.mono (by decide)) (by rfl) T.g_law_draw T.F_law_draw.kp T.b_law_draw .nil pass0 (pa_cons (pv 0) (pa_cons (pv 4) pa_nil))) pe_int (nomark _)) (pe_call (ok_law_draw T) (hr.mono (by decide)) (by rfl) T.g_law_draw T.F_law_draw.kp T.b_law_draw .nil pass0 (pa_cons (pv 0) (pa_cons (pe_op op_add (pv 6) pe_int) pa_nil))) (pe_call (ok_law_draw T) (hr.mono (by decide)) (by rfl) T.g_law_draw T.F_law_draw.kp T.b_law_draw .nil pass0 (pa_cons (pv 0) (pa_cons (pe_op op_add (pv 2) pe_int) pa_nil)))))
    (pss_cons (ps_set (i := 6) sc_law_rows.nd rfl (.inl rfl) (pe_callB (call_max2 rfl) (by rfl) T.z_max (by decide +kernel) (pa_cons pe_int (pa_cons (pe_op op_sub (pv 6) (pv 8)) pa_nil))))
    (pss_one (ps_expr (pe_bm PySem.F.plainAttrs_list PySem.F.slot_list_append PySem.F.type_list_append mt_append (pv 5) (pa_cons (pe_tup (pa_cons (pe_op op_add pe_int (pe_call (ok_law_draw T) (hr.mono (by decide)) (by rfl) T.g_law_draw T.F_law_draw.kp T.b_law_draw .nil pass0 (pa_cons (pv 0) (pa_cons (pv 3) pa_nil)))) (pa_cons (pv 8) (pa_cons (pe_call (ok_law_draw T) (hr.mono (by decide)) (by rfl) T.g_law_draw T.F_law_draw.kp T.b_law_draw .nil pass0 (pa_cons (pv 0) (pa_cons pe_int pa_nil))) pa_nil)))) pa_nil)))))))))
    (pss_one (ps_ret (pe_callTy call_tuple_of (by rfl) T.z_tuple (by decide +kernel) (pa_cons (pv 5) pa_nil)))))), ?_⟩
    refine ⟨Nat.zero_le _, fun F nF => ?_⟩
    obtain ⟨H1, eH, s1, e1⟩ := newH nF (o := .lst [])
    rw [eH]
    clear eH
    have Fh : F ≠ h := ha.ne_none nF
    refine ⟨_, rfl, _, _, rfl, ?_⟩
    refine ⟨_, rfl, _, rfl, h, g, many, rfl, ha.same s1, by omega, by omega, fun H2 n b2 a2 n0 n1 => ?_⟩
    refine ⟨_, _, rfl, rfl, _, rfl, by omega, by omega, ?_⟩
    have k2 : Kp h H H2 := Kp.trans (kp_of s1 h) b2.kp
    refine for_range (lo := 0) (n := (1 + n).toNat) (fun i σ H' => ∃ (left : Int) (y7 y8 : Option V) (us : List V) (rs : List Rw), σ = [some (.ref h), some (.int many), some (.int bot), some (.int burst), some (.int share), some (.ref F), some (.int left), y7, y8] ∧ HandAt H' h g ∧ Kp h H H' ∧ H' F = some (.lst us) ∧ All2 (RowAt H') rs us ∧ rs.length = i ∧ (∀ r ∈ rs, RowOk bot r) ∧ 0 ≤ left ∧ left ≤ bot)
      ⟨bot, none, none, [], [], rfl, a2, k2, b2.kp _ _ Fh e1, .nil, rfl, fun r hr => absurd hr List.not_mem_nil, by omega, by omega⟩ ?_ ?_
    · rintro i σ H3 hi ⟨left, y7, y8, us, rs, rfl, a3, k3, e3, al, len, ok, l0, l1⟩
      have nF0 : H F = none := nF
      have put : ∀ {H4 : Hp} {r : Rw} {v : V}, Kp h H3 H4 → HandAt H4 h g → RowAt H4 r v → H4 F = some (.lst us) → HandAt (upd H4 F (.lst (us ++ [v]))) h g ∧ Kp h H (upd H4 F (.lst (us ++ [v]))) ∧ (upd H4 F (.lst (us ++ [v]))) F = some (.lst (us ++ [v])) ∧ All2 (RowAt (upd H4 F (.lst (us ++ [v])))) (rs ++ [r]) (us ++ [v]) := fun {H4 r v} k4 a4 rv e4 => by
        have tups : ∀ z xs, H4 z = some (.tup xs) → (upd H4 F (.lst (us ++ [v]))) z = some (.tup xs) := fun z xs e => by
          rw [upd_ne (fun w => by rw [w, e4] at e; cases e)]
          exact e
        refine ⟨?_, fun q o hq e => ?_, upd_same, ((al.imp fun r' v' t => (t.mv fun q xs e => tup_kp k4 a3 e).mv tups)).snoc (rv.mv tups)⟩
        · obtain ⟨⟨ns, ec⟩, ⟨i', m', s', t', ef, q⟩, ne⟩ := a4
          have gF : g ≠ F := fun z => by
            obtain ⟨⟨ns4, ec4⟩, _, _⟩ := ha
            rw [z, nF0] at ec4
            cases ec4
          exact ⟨⟨ns, by rw [upd_ne gF]; exact ec⟩, ⟨i', m', s', t', by rw [upd_ne Fh.symm]; exact ef, q⟩, ne⟩
        · rw [upd_ne (ne_of_none e nF0)]
          exact k4 q o hq (k3 q o hq e)
      have lu := al.len
      refine ⟨_, rfl, h, g, 5, rfl, a3, by decide, by decide, fun H4 d b4 a4 _ _ => ?_⟩
      have e4 := b4.kp _ _ Fh e3
      refine ⟨rfl, _, rfl, ite2 (fun _ => ?_) (fun _ => ?_)⟩
      · obtain ⟨p1, p2, p3, p4⟩ := put (r := none) (v := .non) b4.kp a4 rfl e4
        refine ⟨_, rfl, .inl ⟨rfl, _, SqL.of e4⟩, F, us, _, rfl, rfl, e4, lts (by omega), left, _, _, _, _, rfl, p1, p2, p3, p4, by rw [List.length_append, len]; rfl, fun r hr => ?_, l0, l1⟩
        rcases List.mem_append.mp hr with hr | hr
        · exact ok r hr
        · rw [List.mem_singleton.mp hr]
          trivial
      · refine ⟨_, rfl, _, rfl, h, g, share, rfl, a4, by omega, by omega, fun H5 sh b5 a5 _ _ => ?_⟩
        refine ⟨_, _, rfl, rfl, _, rfl, ite2 (fun _ => ⟨_, rfl, _, rfl, _, _, rfl, rfl, h, g, left + 1, rfl, a5, by omega, by omega, fun H6 tp b6 a6 t0 t1 => ?_⟩) (fun _ => ⟨_, rfl, _, rfl, _, _, rfl, rfl, h, g, bot + 1, rfl, a5, by omega, by omega, fun H6 tp b6 a6 t0 t1 => ?_⟩)⟩
        all_goals
          have t2 : tp ≤ bot := by omega
          have k6 : Kp h H3 H6 := (b4.kp.trans b5.kp).trans b6.kp
          refine ⟨_, rfl, _, rfl, _, _, rfl, rfl, _, _, rfl, ?_⟩
          refine ⟨_, rfl, .inl ⟨rfl, _, SqL.of (k6 _ _ Fh e3)⟩, _, rfl, _, rfl, h, g, burst, rfl, a6, by omega, by omega, fun H7 bu b7 a7 bu0 bu1 => ⟨1, bu, rfl, rfl, _, rfl, _, rfl, h, g, 3, rfl, a7, by decide, by decide, fun H8 kd b8 a8 kd0 kd1 => ⟨(by show 3 ≤ sizeLine; decide), fun q nq => ?_⟩⟩⟩
          generalize hG : upd H8 q _ = H9
          have s9 : Same H8 H9 := by rw [← hG]; exact same_upd nq
          have e9 : H9 q = some (.tup [.int (1 + bu), .int tp, .int kd]) := by rw [← hG]; exact upd_same
          clear hG
          have k9 : Kp h H3 H9 := ((k6.trans b7.kp).trans b8.kp).same s9
          obtain ⟨p1, p2, p3, p4⟩ := put (r := some (1 + bu, tp, kd)) (v := .ref q) k9 (a8.same s9) ⟨q, rfl, e9⟩ (k9 _ _ Fh e3)
          refine ⟨F, us, _, rfl, rfl, k9 _ _ Fh e3, lts (by omega), _, _, _, _, _, rfl, p1, p2, p3, p4, by rw [List.length_append, len]; rfl, fun r hr => ?_, ?_, ?_⟩
          · rcases List.mem_append.mp hr with hr | hr
            · exact ok r hr
            · rw [List.mem_singleton.mp hr]
              exact ⟨⟨by omega, by omega⟩, ⟨t0, t2⟩, kd0, by omega⟩
          · show 0 ≤ if left - tp > 0 then left - tp else 0
            split <;> omega
          · show (if left - tp > 0 then left - tp else 0) ≤ bot
            split <;> omega
    · rintro σ H3 ⟨left, y7, y8, us, rs, rfl, a3, k3, e3, al, len, ok, l0, l1⟩
      refine ⟨_, rfl, F, us, rfl, .inl ⟨SqL.of e3, fun p np => ?_⟩⟩
      have s5 := same_upd np (o := .tup us)
      exact k _ p rs (k3.same s5) (a3.same s5) ⟨us, upd_same, al.imp fun _ _ t => t.same s5⟩ ⟨by omega, by omega, ok, o1, o2⟩
def spSent : Sp := fun vs H Q _ => ∃ (bot beats : Int) (r : Rw) (v : V), vs = [v, .int bot, .int beats] ∧ RowAt H r v ∧ RowOk bot r ∧ 1 ≤ bot ∧ bot ≤ 20 ∧ Q (.int (sentR bot beats r)) H
theorem ok_law_sent (T : Top K mg A) : FnOk P w K mg base CX0 1 A.a_law_sent A.d_law_sent P_law_sent spSent := by
  refine T.F_law_sent.ok sc_law_sent (fun vs H Q E h => ?_) (fun cdv A' outer s H vs Q E hr h => ?_)
  · obtain ⟨bot, beats, r, v, rfl, _⟩ := h
    rfl
  · obtain ⟨bot, beats, r, v, rfl, hv, ok, b1, b20, k⟩ := h
    refine ⟨_, (pss_one (ps_ret (pe_ifExp (pt_cmpR op_isN (pv 0) pe_non (nomark _)) pe_int (pe_callB (call_min2 rfl) (by rfl) T.z_min (by decide +kernel) (pa_cons (pv 2) (pa_cons (pe_op op_add (pe_ix ix_tup (pv 0) pe_int (fun _ _ => rfl)) (pe_callTy call_int1 (by rfl) T.z_int (by decide +kernel) (pa_cons (pe_op op_fdiv (pe_op op_mul (pe_ix ix_tup (pv 0) pe_int (fun _ _ => rfl)) (pv 2)) (pv 1)) pa_nil))) pa_nil)))))), ?_⟩
    match r, hv, ok, k with
    | none, e, _, k =>
      cases (show v = V.non from e)
      exact ⟨_, rfl, rfl, _, rfl, iteT k⟩
    | some (b, t, kk), ⟨q, e, eq⟩, ok, k =>
      subst e
      obtain ⟨⟨h1, h2⟩, ⟨h3, h4⟩, _⟩ := ok
      refine ⟨_, rfl, rfl, _, rfl, iteF ?_⟩
      refine ⟨_, rfl, _, rfl, q, _, 0, _, rfl, rfl, SqT.of eq, atI_nat (j := 0) rfl, _, rfl, q, _, 1, _, rfl, rfl, SqT.of eq, atI_nat (j := 1) rfl, _, rfl, _, _, rfl, rfl, .inl ⟨by omega, by omega⟩, _, rfl, _, _, rfl, rfl, ⟨by omega, by omega⟩, .inl ⟨_, rfl, _, _, rfl, rfl, _, _, rfl, k⟩⟩
def spReach : Sp := fun vs H Q _ => ∃ (a : Addr) (bot : Int) (rs : List Rw), vs = [.ref a, .int bot] ∧ RowsAt H a rs ∧ RowsOk bot rs ∧
  ∀ (H' : Hp) (R : Nat), Same H H' → 1 ≤ R → (∀ r ∈ someR rs, r.1 * bot + 2 * bot ≤ (R : Int)) → ((R : Int) ≤ 1 ∨ (R : Int) ≤ 22 * bot) → Q (.int (R : Int)) H'
def spLHold : Sp := fun vs H Q _ => ∃ (a : Addr) (bot : Int) (rs : List Rw), vs = [.ref a, .int bot] ∧ RowsAt H a rs ∧ RowsOk bot rs ∧ bot ≤ 6 ∧ ∀ H', Same H H' → Q (optV (holdO bot rs)) H'
def spIsLet : Sp := fun vs H Q _ => ∃ (a : Addr) (bot most : Int) (rs : List Rw) (l : Nat) (r : Rw) (v : V), vs = [.ref a, .int bot, .int (l : Int), v, .int most] ∧ RowsAt H a rs ∧ RowsOk bot rs ∧ bot ≤ 6 ∧ l < rs.length ∧ RowAt H r v ∧ RowOk bot r ∧ ∀ H', Same H H' → Q (.bl (letB bot (wr rs l r) most)) H'
end

/-! ### the law's own looks -/
theorem map_fil {l : List Nat} : (l.filter fun _ => true) = l := List.filter_eq_self.mpr fun _ _ => rfl
section
variable {P : Program} {w : World} {K : PySem.W.Frag} {mg : Str → Option Value} {base : Heap} {A : Adr}
def spLInt : Sp := fun vs H Q _ => ∃ (lo hi : Int) (x : V) (d : Td) (h : Addr), vs = [x, .int lo, .int hi] ∧ Is h H x d ∧ Q (.bl (inI lo hi d)) H
theorem ok_law_is_int (T : Top K mg A) : FnOk P w K mg base CX0 1 A.a_law_is_int A.d_law_is_int P_law_is_int spLInt := by
  refine T.F_law_is_int.ok sc_law_is_int (fun vs H Q E h => ?_) (fun cdv A' outer s H vs Q E hr h => ?_)
  · obtain ⟨lo, hi, x, d, h, rfl, _⟩ := h
    rfl
  · obtain ⟨lo, hi, x, d, h, rfl, ht, k⟩ := h
    obtain ⟨t, ty, e1, e2, _⟩ := is_ty T ht
    refine ⟨_, (pss_one (ps_ret (pe_and (pe_callB call_isi (by rfl) T.z_isinstance (by decide +kernel) (pa_cons (pv 0) (pa_cons (pe_bltn (v := .ty "int") (by rfl) T.z_int (by decide +kernel) rfl) pa_nil))) (pe_and (pe_not (pe_callB call_isi (by rfl) T.z_isinstance (by decide +kernel) (pa_cons (pv 0) (pa_cons (pe_bltn (v := .ty "bool") (by rfl) T.z_bool (by decide +kernel) rfl) pa_nil)))) (pe_one (pe_chain op_le op_le (pv 1) (pv 0) (pv 2))))))), ?_⟩
    refine ⟨_, rfl, _, _, _, _, _, rfl, .ty "int", ty, e1, (isI d || isBl d), rfl, ?_⟩
    cases c : isI d with
    | true =>
      obtain ⟨i, rfl, rfl⟩ := is_int ht c
      refine iteT ?_
      refine ⟨_, rfl, _, _, _, _, _, rfl, .ty "bool", ty, e2, false, rfl, true, rfl, iteT ?_⟩
      refine ⟨_, rfl, _, rfl, _, _, rfl, rfl, _, rfl, ?_⟩
      by_cases c : lo ≤ i
      · simp only [inI, decide_eq_true c, Bool.true_and] at k
        rw [decide_eq_true c]
        refine iteT ⟨_, rfl, _, _, rfl, rfl, k⟩
      · simp only [inI, decide_eq_false c, Bool.false_and] at k
        rw [decide_eq_false c]
        exact iteF k
    | false =>
      rw [inI_no c] at k
      cases c2 : isBl d with
      | false => exact iteF k
      | true =>
        rw [c2] at e2
        exact iteT ⟨_, rfl, _, _, _, _, _, rfl, .ty "bool", ty, e2, true, rfl, false, rfl, iteF k⟩
def spMostS (C : Addr) : Sp := fun vs H Q _ => ∃ (p : Addr) (bot beats : Int) (rs : List Rw) (l : Nat), vs = [.ref p, .int (l : Int), .int beats] ∧ BkAt C H p bot rs ∧ RowsOk bot rs ∧ l < rs.length ∧ 0 ≤ beats ∧ beats ≤ 1000000000 ∧ Q (.int (sentR bot beats (rs.getD l none))) H
theorem ok_most_sent (T : Top K mg A) : FnOk P w K mg base CX0 5 A.a_most_sent A.d_most_sent P_most_sent (spMostS A.c_Buckets) := by
  refine T.F_most_sent.ok sc_most_sent (fun vs H Q E h => ?_) (fun cdv A' outer s H vs Q E hr h => ?_)
  · obtain ⟨p, bot, beats, rs, l, rfl, _⟩ := h
    rfl
  · obtain ⟨p, bot, beats, rs, l, rfl, bk, ok, hl, n0, n1, k⟩ := h
    refine ⟨_, (pss_cons (ps_expr (pe_call (ok_check_line T) (hr.mono (by decide)) (by rfl) T.g_check_line T.F_check_line.kp T.b_check_line .nil pass0 (pa_cons (pv 0) (pa_cons (pv 1) pa_nil))))
    (pss_cons (ps_expr (pe_call (ok_check_number T) (hr.mono (by decide)) (by rfl) T.g_check_number T.F_check_number.kp T.b_check_number .nil pass0 (pa_cons (pv 2) pa_nil)))
    (pss_one (ps_ret (pe_call (ok_most_of T) (hr.mono (by decide)) (by rfl) T.g_most_of T.F_most_of.kp T.b_most_of .nil pass0 (pa_cons (pe_fld (pv 0) rfl) (pa_cons (pe_ix ix_tup (pe_fld (pv 0) rfl) (pv 1) (fun _ _ => rfl)) (pa_cons (pv 2) pa_nil)))))))), ?_⟩
    obtain ⟨dx, ra, ep, xs, er, alr⟩ := id bk
    have rl : rs[l]? = some (rs.getD l none) := by
      rw [List.getD_eq_getElem?_getD, List.getElem?_eq_getElem hl]
      rfl
    obtain ⟨rv, hrv, hrw⟩ := alr.getL rl
    exact ⟨_, rfl, _, rfl, p, bot, rs, l, rfl, bk, hl, _, rfl, beats, rfl, n0, n1, _, rfl, p, _, _, _, _, rfl, ep, T.cl_Buckets, T.n_Buckets_bottom, bf1, _, rfl, p, _, _, _, _, rfl, ep, T.cl_Buckets, T.n_Buckets_rows, bf2, _, rfl, ra, xs, _, _, rfl, rfl, SqT.of er, atI_nat hrv, _, rfl, bot, beats, _, rv, rfl, hrw, ok.ok _ (List.mem_of_getElem? rl), ok.b1, ok.b20, k⟩
/-- a thing that can be told; its tuple, if it is one, is short -/
def Gd (h : Addr) (H : Hp) (v : V) : Prop := ∃ d, Is h H v d ∧ ∀ ds, d = .tup ds → ds.length ≤ 200
theorem Gd.same {h : Addr} {H H' : Hp} {v : V} (t : Gd h H v) (s : Same H H') : Gd h H' v := let ⟨d, a, b⟩ := t; ⟨d, a.same s, b⟩
theorem Gd.kp {h g : Addr} {H H' : Hp} {v : V} (t : Gd h H v) (k : Kp h H H') (a : HandAt H h g) : Gd h H' v := let ⟨d, i, b⟩ := t; ⟨d, i.kp k a, b⟩
theorem gd_tup {h : Addr} {H : Hp} {v : V} {ds : List Td} (i : Is h H v (.tup ds)) (l : ds.length ≤ 200) : Gd h H v := ⟨_, i, fun es e => by
  injection e with e
  rw [← e]
  exact l⟩
theorem gd_no {h : Addr} {H : Hp} {v : V} {d : Td} (i : Is h H v d) (c : isT d = false) : Gd h H v := ⟨_, i, fun es e => by
  rw [e] at c
  cases c⟩
theorem pick_at {xs : List V} {d : Int} (d0 : 0 ≤ d) (d1 : d < (xs.length : Int)) : ∃ v, atI xs d = some v ∧ v ∈ xs := by
  have h : d.toNat < xs.length := by omega
  have e : xs[d.toNat]? = some xs[d.toNat] := List.getElem?_eq_getElem h
  refine ⟨_, ?_, List.mem_of_getElem? e⟩
  have z := atI_nat e
  rw [Int.toNat_of_nonneg d0] at z
  exact z
def spDeep : Sp := fun vs H Q _ => ∃ (h g : Addr), vs = [.ref h] ∧ HandAt H h g ∧ ∀ (H' : Hp) (v : V), Kp h H H' → HandAt H' h g → Gd h H' v → Q v H'
theorem ok_law_deep (T : Top K mg A) : FnOk P w K mg base CX0 3 A.a_law_deep A.d_law_deep P_law_deep spDeep := by
  refine T.F_law_deep.ok sc_law_deep (fun vs H Q E h => ?_) (fun cdv A' outer s H vs Q E hr h => ?_)
  · obtain ⟨h, g, rfl, _⟩ := h
    rfl
  · obtain ⟨h, g, rfl, ha, k⟩ := h
    refine ⟨_, (pss_cons (ps_set (i := 1) sc_law_deep.nd rfl (.inl rfl) (pe_ix ix_list (pe_lst (pa_cons pe_non (pa_cons (pe_tup pa_nil) (pa_cons pe_int (pa_cons pe_str pa_nil))))) (pe_call (ok_law_draw T) (hr.mono (by decide)) (by rfl) T.g_law_draw T.F_law_draw.kp T.b_law_draw .nil pass0 (pa_cons (pv 0) (pa_cons pe_int pa_nil))) (fun _ _ => rfl)))
    (pss_cons (ps_for PassesOwn.never rfl (pi_range1 rfl T.z_range (pa_cons (pe_op op_add pe_int (pe_call (ok_law_draw T) (hr.mono (by decide)) (by rfl) T.g_law_draw T.F_law_draw.kp T.b_law_draw .nil pass0 (pa_cons (pv 0) (pa_cons pe_int pa_nil)))) pa_nil)) (pg_name (i := 2) sc_law_deep.nd rfl (.inl rfl)) (pss_one (ps_set (i := 1) sc_law_deep.nd rfl (.inl rfl) (pe_ix ix_list (pe_lst (pa_cons (pe_tup (pa_cons (pv 1) pa_nil)) (pa_cons (pe_lst (pa_cons (pv 1) pa_nil)) pa_nil))) (pe_call (ok_law_draw T) (hr.mono (by decide)) (by rfl) T.g_law_draw T.F_law_draw.kp T.b_law_draw .nil pass0 (pa_cons (pv 0) (pa_cons pe_int pa_nil))) (fun _ _ => rfl)))))
    (pss_one (ps_ret (pv 1))))), ?_⟩
    refine ⟨Nat.zero_le _, fun p1 n1 => ?_⟩
    obtain ⟨H1, eH, s1, e1⟩ := newH n1 (o := .tup [])
    rw [eH]
    refine ⟨(by show 4 ≤ sizeLine; decide), fun l nl => ?_⟩
    obtain ⟨H2, eH, s2, e2⟩ := newH nl (o := .lst [.non, .ref p1, .int 0, .str "a"])
    rw [eH]
    have s02 := s1.trans s2
    have a2 := ha.same s02
    have hl := (ha.same s1).ne_none nl
    refine ⟨_, rfl, h, g, 4, rfl, a2, by decide, by decide, fun H3 d b3 a3 d0 d1 => ?_⟩
    obtain ⟨v, ev, mv⟩ := pick_at (xs := [.non, .ref p1, .int 0, .str "a"]) d0 d1
    refine ⟨l, _, d, v, rfl, rfl, SqL.of (by rw [b3 l hl]; exact e2), ev, ?_⟩
    have g3 : Gd h H3 v := by
      refine Gd.kp ?_ b3.kp a2
      simp only [List.mem_cons, List.not_mem_nil, or_false] at mv
      rcases mv with e | e | e | e <;> subst e
      · exact gd_no .non rfl
      · exact gd_tup (.tup (s2 _ _ e1) .nil) (Nat.zero_le _)
      · exact gd_no (.int 0) rfl
      · exact gd_no (.str _) rfl
    have k3 : Kp h H H3 := Kp.trans (kp_of s02 h) b3.kp
    refine ⟨_, rfl, h, g, 28, rfl, a3, by decide, by decide, fun H4 d b4 a4 d0 d1 => ?_⟩
    refine ⟨_, _, rfl, rfl, _, rfl, by omega, by omega, ?_⟩
    refine for_range (lo := 0) (n := (2 + d).toNat) (fun i σ H' => ∃ (u : V) (y2 : Option V), σ = [some (.ref h), some u, y2] ∧ Kp h H H' ∧ HandAt H' h g ∧ Gd h H' u)
      ⟨v, none, rfl, k3.trans b4.kp, a4, g3.kp b4.kp a3⟩ ?_ ?_
    · rintro i σ H4 hi ⟨u, y2, rfl, k4, h4, g4⟩
      refine ⟨_, rfl, (by show 1 ≤ sizeLine; decide), fun p np => ?_⟩
      obtain ⟨H5, eH, s5, e5⟩ := newH np (o := .tup [u])
      rw [eH]
      refine ⟨_, rfl, (by show 1 ≤ sizeLine; decide), fun q nq => ?_⟩
      obtain ⟨H6, eH, s6, e6⟩ := newH nq (o := .lst [u])
      rw [eH]
      refine ⟨(by show 2 ≤ sizeLine; decide), fun l nl => ?_⟩
      obtain ⟨H7, eH, s7, e7⟩ := newH nl (o := .lst [.ref p, .ref q])
      rw [eH]
      have s47 := (s5.trans s6).trans s7
      have h7 := h4.same s47
      have hl := ((h4.same s5).same s6).ne_none nl
      have hq := (h4.same s5).ne_none nq
      refine ⟨_, rfl, h, g, 2, rfl, h7, by decide, by decide, fun H8 e b8 h8 e0 e1 => ?_⟩
      obtain ⟨v, ev, mv⟩ := pick_at (xs := [.ref p, .ref q]) e0 e1
      refine ⟨l, _, e, v, rfl, rfl, SqL.of (by rw [b8 l hl]; exact e7), ev, ?_⟩
      refine ⟨v, _, rfl, (k4.trans (kp_of s47 h)).trans b8.kp, h8, Gd.kp ?_ b8.kp h7⟩
      obtain ⟨du, iu, su⟩ := g4
      simp only [List.mem_cons, List.not_mem_nil, or_false] at mv
      rcases mv with e | e <;> subst e
      · exact gd_tup (.tup (s7 _ _ (s6 _ _ e5)) (.cons (iu.same s47) .nil)) (by show 1 ≤ 200; decide)
      · exact gd_no (.lst (s7 _ _ e6) hq) rfl
    · rintro σ H4 ⟨u, y2, rfl, k4, h4, g4⟩
      exact ⟨_, rfl, k H4 u k4 h4 g4⟩
def spLRow : Sp := fun vs H Q _ => ∃ (bot : Int) (v : V) (d : Td) (h : Addr), vs = [.int bot, v] ∧ Is h H v d ∧ Q (.bl (rowB bot d)) H
theorem ok_law_is_row (T : Top K mg A) : FnOk P w K mg base CX0 2 A.a_law_is_row A.d_law_is_row P_law_is_row spLRow := by
  refine T.F_law_is_row.ok sc_law_is_row (fun vs H Q E h => ?_) (fun cdv A' outer s H vs Q E hr h => ?_)
  · obtain ⟨bot, v, d, h, rfl, _⟩ := h
    rfl
  · obtain ⟨bot, v, d, h, rfl, iv, k⟩ := h
    refine ⟨_, (pss_cons (ps_if (pt_cmpR op_isN (pv 1) pe_non (nomark _)) (pss_one (ps_ret pe_bl)) pss_nil)
    (pss_cons (ps_if (PW.pt (pw_or (pt_not (pt_val (pe_callB call_isi (by rfl) T.z_isinstance (by decide +kernel) (pa_cons (pv 1) (pa_cons (pe_bltn (v := .ty "tuple") (by rfl) T.z_tuple (by decide +kernel) rfl) pa_nil))))) (pw_or1 (pt_cmpR op_ne (pe_callB call_len_seq (by rfl) T.z_len (by decide +kernel) (pa_cons (pv 1) pa_nil)) pe_int (nomark _))))) (pss_one (ps_ret pe_bl)) pss_nil)
    (pss_one (ps_ret (pe_and (pe_call (ok_law_is_int T) (hr.mono (by decide)) (by rfl) T.g_law_is_int T.F_law_is_int.kp T.b_law_is_int .nil pass0 (pa_cons (pe_ix ix_tup (pv 1) pe_int (fun _ _ => rfl)) (pa_cons pe_int (pa_cons pe_int pa_nil)))) (pe_and (pe_call (ok_law_is_int T) (hr.mono (by decide)) (by rfl) T.g_law_is_int T.F_law_is_int.kp T.b_law_is_int .nil pass0 (pa_cons (pe_ix ix_tup (pv 1) pe_int (fun _ _ => rfl)) (pa_cons pe_int (pa_cons (pv 0) pa_nil)))) (pe_one (pe_call (ok_law_is_int T) (hr.mono (by decide)) (by rfl) T.g_law_is_int T.F_law_is_int.kp T.b_law_is_int .nil pass0 (pa_cons (pe_ix ix_tup (pv 1) pe_int (fun _ _ => rfl)) (pa_cons pe_int (pa_cons pe_int pa_nil))))))))))), ?_⟩
    by_cases cn : d = .non
    · subst cn
      cases iv
      exact ⟨_, rfl, rfl, _, rfl, iteT k⟩
    have nn : v ≠ .non := fun z => by
      subst z
      cases iv
      exact cn rfl
    have erow : rowB bot d = bucketB bot d := by
      cases d <;> first | rfl | exact absurd rfl cn
    rw [erow] at k
    refine ⟨_, rfl, rfl, _, rfl, ?_⟩
    rw [decide_eq_false nn]
    obtain ⟨t0, ty, _, _, e3⟩ := is_ty T iv
    refine iteF ⟨_, rfl, _, _, _, _, _, rfl, .ty "tuple", ty, e3, _, rfl, ?_⟩
    cases c1 : isT d with
    | false =>
      rw [bucketB_no (tupN_no c1)] at k
      exact iteT k
    | true =>
    obtain ⟨q, xs, ds, rfl, rfl, e, l⟩ := isT_of iv c1
    have ll := l.len
    refine iteF ⟨_, rfl, q, xs, rfl, .inr (SqT.of e), rfl, _, rfl, ?_⟩
    rw [dec_int]
    by_cases c3 : (xs.length : Int) = 3
    case neg =>
      rw [decide_eq_false c3]
      have : tupN 3 (.tup ds) = false := decide_eq_false (by omega)
      rw [bucketB_no this] at k
      exact iteT k
    rw [decide_eq_true c3]
    refine iteF ?_
    have c4 : tupN 3 (.tup ds) = true := decide_eq_true (by omega)
    obtain ⟨d1, d2, d3, e5⟩ := tup3 c4
    injection e5 with e5
    subst e5
    match xs, l, ll, e with
    | [x1, x2, x3], l, _, e =>
    obtain ⟨_, _, _, e4, i1, i2, i3⟩ := l.three
    simp only [List.cons.injEq, and_true] at e4
    obtain ⟨rfl, rfl, rfl⟩ := e4
    have k : Q (.bl (inI 1 20 d1 && (inI 0 bot d2 && inI 0 7 d3))) H := k
    refine ⟨_, rfl, q, _, _, _, rfl, rfl, SqT.of e, atI_nat (j := 0) rfl, 1, 20, x1, d1, h, rfl, i1, _, rfl, ?_⟩
    cases b1 : inI 1 20 d1 with
    | false =>
      rw [b1] at k
      exact iteF k
    | true =>
    refine iteT ⟨_, rfl, q, _, _, _, rfl, rfl, SqT.of e, atI_nat (j := 1) rfl, _, rfl, 0, bot, x2, d2, h, rfl, i2, _, rfl, ?_⟩
    cases b2 : inI 0 bot d2 with
    | false =>
      rw [b1, b2] at k
      exact iteF k
    | true =>
    rw [b1, b2] at k
    exact iteT ⟨_, rfl, q, _, _, _, rfl, rfl, SqT.of e, atI_nat (j := 2) rfl, 0, 7, x3, d3, h, rfl, i3, k⟩
def dueV (o : Option V) : V := o.getD .non
def spDue : Sp := fun vs H Q _ => ∃ (v u : V) (db dr : Td) (h : Addr), vs = [v, u] ∧ Is h H v db ∧ Is h H u dr ∧ ∀ H', Same H H' → Q (dueV (badP db dr)) H'
theorem ok_law_due (T : Top K mg A) : FnOk P w K mg base CX0 4 A.a_law_due A.d_law_due P_law_due spDue := by
  refine T.F_law_due.ok sc_law_due (fun vs H Q E h => ?_) (fun cdv A' outer s H vs Q E hr h => ?_)
  · obtain ⟨v, u, db, dr, h, rfl, _⟩ := h
    rfl
  · obtain ⟨v, u, db, dr, h, rfl, iv, iu, k⟩ := h
    refine ⟨_, (pss_cons (ps_if (pt_not (pt_val (pe_call (ok_law_is_int T) (hr.mono (by decide)) (by rfl) T.g_law_is_int T.F_law_is_int.kp T.b_law_is_int .nil pass0 (pa_cons (pv 0) (pa_cons pe_int (pa_cons pe_int pa_nil)))))) (pss_one (ps_ret pe_str)) pss_nil)
    (pss_cons (ps_if (PW.pt (pw_or (pt_not (pt_val (pe_callB call_isi (by rfl) T.z_isinstance (by decide +kernel) (pa_cons (pv 1) (pa_cons (pe_bltn (v := .ty "tuple") (by rfl) T.z_tuple (by decide +kernel) rfl) pa_nil))))) (pw_or1 (pt_not (pt_chain op_le op_le pe_int (pe_callB call_len_seq (by rfl) T.z_len (by decide +kernel) (pa_cons (pv 1) pa_nil)) pe_int))))) (pss_one (ps_ret pe_str)) pss_nil)
    (pss_cons (ps_for PassesOwn.never rfl (GE.pi_enumA (by rfl) T.z_enumerate (pa_cons (pv 1) pa_nil)) (pg_tup rfl (pgs_cons (pg_name (i := 2) sc_law_due.nd rfl (.inl rfl)) (pgs_cons (pg_name (i := 3) sc_law_due.nd rfl (.inl rfl)) pgs_nil))) (pss_one (ps_if (pt_not (pt_val (pe_call (ok_law_is_row T) (hr.mono (by decide)) (by rfl) T.g_law_is_row T.F_law_is_row.kp T.b_law_is_row .nil pass0 (pa_cons (pv 0) (pa_cons (pv 3) pa_nil))))) (pss_one (ps_ret (pv 2))) pss_nil)))
    (pss_one (ps_ret pe_non))))), ?_⟩
    refine ⟨_, rfl, 1, 20, _, _, h, rfl, iv, _, rfl, ?_⟩
    cases c0 : inI 1 20 db with
    | false =>
      have hb : badP db dr = some (.str "bottom") := by
        cases db with
        | int i =>
          have c0 : (decide (1 ≤ i) && decide (i ≤ 20)) = false := c0
          show (if (decide (1 ≤ i) && decide (i ≤ 20)) = true then _ else _) = _
          rw [c0, if_neg Bool.false_ne_true]
        | _ => rfl
      rw [hb] at k
      exact iteT (k _ fun _ _ e => e)
    | true =>
    obtain ⟨bot, rfl⟩ : ∃ i, db = .int i := by
      cases db with
      | int i => exact ⟨i, rfl⟩
      | _ => cases c0
    have ev : v = .int bot := by
      cases iv
      rfl
    subst ev
    have c0' : (decide (1 ≤ bot) && decide (bot ≤ 20)) = true := c0
    refine iteF ?_
    obtain ⟨t0, ty, _, _, e3⟩ := is_ty T iu
    refine ⟨_, rfl, _, _, _, _, _, rfl, .ty "tuple", ty, e3, _, rfl, ?_⟩
    cases c1 : isT dr with
    | false =>
      have hb : badP (.int bot) dr = some (.str "rows") := by
        show (if (decide (1 ≤ bot) && decide (bot ≤ 20)) = true then _ else _) = _
        rw [c0', if_pos rfl]
        cases dr with
        | tup ds => cases c1
        | _ => rfl
      rw [hb] at k
      exact iteT (k _ fun _ _ e => e)
    | true =>
    obtain ⟨a, vs, ds, rfl, rfl, ea, al⟩ := isT_of iu c1
    have lv := al.len
    have hp : badP (.int bot) (.tup ds) = if (decide (1 ≤ ds.length) && decide (ds.length ≤ 12)) = true then (firstBad bot ds 0).map fun (i : Nat) => V.int (i : Int) else some (.str "rows") := by
      show (if (decide (1 ≤ bot) && decide (bot ≤ 20)) = true then _ else _) = _
      rw [c0', if_pos rfl]
    refine iteF ?_
    refine ⟨_, rfl, _, _, rfl, .inr (SqT.of ea), _, _, rfl, rfl, _, rfl, ?_⟩
    by_cases c2 : 1 ≤ ds.length ∧ ds.length ≤ 12
    case neg =>
      have hb : badP (.int bot) (.tup ds) = some (.str "rows") := by
        rw [hp]
        rw [if_neg]
        rw [← Bool.decide_and, decide_eq_true_eq]
        exact c2
      rw [hb] at k
      by_cases c3 : 1 ≤ ds.length
      · rw [decide_eq_true (show (1 : Int) ≤ vs.length by omega)]
        refine iteT ⟨_, _, rfl, rfl, _, rfl, ?_⟩
        rw [decide_eq_false (show ¬ (vs.length : Int) ≤ 12 by omega)]
        exact iteT (k _ fun _ _ e => e)
      · rw [decide_eq_false (show ¬ (1 : Int) ≤ vs.length by omega)]
        exact iteF ⟨_, rfl, iteT (k _ fun _ _ e => e)⟩
    obtain ⟨one, few⟩ := c2
    rw [decide_eq_true (by omega)]
    refine iteT ⟨_, _, rfl, rfl, _, rfl, ?_⟩
    rw [decide_eq_true (by omega)]
    refine iteF ?_
    have hp : badP (.int bot) (.tup ds) = (firstBad bot ds 0).map fun (i : Nat) => V.int (i : Int) := by
      rw [hp, decide_eq_true one, decide_eq_true few]
      rfl
    refine ⟨_, rfl, a, vs, rfl, .inr ⟨SqT.of ea, for_it GE.walk (fun i σ H' => ∃ y3 y4 : Option V, σ = [some (.int bot), some (.ref a), y3, y4] ∧ Same H H' ∧ ∀ j e, j < i → ds[j]? = some e → rowB bot e = true) ⟨none, none, rfl, fun _ _ e => e, fun j e hj => absurd hj (Nat.not_lt_zero _)⟩ (fun i σ H' _ ⟨_, _, _, s, _⟩ => SqT.of (s _ _ ea)) ?_ ?_⟩⟩
    · rintro i v σ H2 H2' hi ⟨y3, y4, rfl, s2, low⟩ ⟨q, x1, x2, rfl, nq, rfl, e1, e2⟩
      cases e1
      have e2 : vs[i]? = some x2 := e2
      obtain ⟨d, hd, id⟩ := al.get e2
      have s3 := same_to s2 (s2.free nq) (o := .tup [.int (i : Nat), x2])
      have id := id.same s3
      refine ⟨q, _, rfl, SqT.of upd_same, rfl, _, _, rfl, _, _, rfl, rfl, ?_⟩
      refine ⟨_, rfl, _, rfl, bot, x2, d, h, rfl, id, _, rfl, ?_⟩
      cases cb : rowB bot d with
      | true =>
        refine iteF ⟨_, _, rfl, s3, fun j e hj he => ?_⟩
        by_cases z : j = i
        · rw [z, hd] at he
          cases he
          exact cb
        · exact low j e (by omega) he
      | false =>
        have hb : badP (.int bot) (.tup ds) = some (.int (i : Int)) := by
          rw [hp, firstBad_at low hd cb, Nat.zero_add]
          rfl
        rw [hb] at k
        exact iteT ⟨_, rfl, k _ s3⟩
    · rintro σ H2 ⟨y3, y4, rfl, s2, low⟩
      have hb : badP (.int bot) (.tup ds) = none := by
        rw [hp, firstBad_none fun j e he => low j e (by have := (List.getElem?_eq_some_iff.mp he).1; omega) he]
        rfl
      rw [hb] at k
      exact k _ s2
end

section
variable {P : Program} {w : World} {K : PySem.W.Frag} {mg : Str → Option Value} {base : Heap} {A : Adr}
def spLBr : Sp := fun vs H Q _ => ∃ (a b : Addr) (bot : Int) (rs : List Rw) (ss : Strm), vs = [.ref a, .int bot, .ref b] ∧ RowsAt H a rs ∧ RowsOk bot rs ∧ StrmAt H b ss ∧ ss.length ≤ 6000 ∧ ∀ H' v, Same H H' → TriV H' (brF bot rs ss) v → Q v H'
theorem ok_law_breach (T : Top K mg A) : FnOk P w K mg base CX0 2 A.a_law_breach A.d_law_breach P_law_breach spLBr := by
  refine T.F_law_breach.ok sc_law_breach (fun vs H Q E h => ?_) (fun cdv A' outer s H vs Q E hr h => ?_)
  · obtain ⟨a, b, bot, rs, ss, rfl, _⟩ := h
    rfl
  · obtain ⟨a, b, bot, rs, ss, rfl, ⟨xs, ea, alr⟩, ok, ⟨vs, eb, al⟩, few, k⟩ := h
    refine ⟨_, (pss_cons (ps_for PassesOwn.never rfl (pi_range1 rfl T.z_range (pa_cons (pe_callB call_len_seq (by rfl) T.z_len (by decide +kernel) (pa_cons (pv 2) pa_nil)) pa_nil)) (pg_name (i := 3) sc_law_breach.nd rfl (.inl rfl)) (pss_one (ps_for PassesOwn.never rfl (GE.pi_enumA (by rfl) T.z_enumerate (pa_cons (pv 0) pa_nil)) (pg_tup rfl (pgs_cons (pg_name (i := 4) sc_law_breach.nd rfl (.inl rfl)) (pgs_cons (pg_name (i := 5) sc_law_breach.nd rfl (.inl rfl)) pgs_nil))) (pss_cons (ps_set (i := 6) sc_law_breach.nd rfl (.inl rfl) pe_int)
    (pss_one (ps_for PassesOwn.never rfl (pi_range3 rfl T.z_range (pa_cons (pv 3) (pa_cons (pe_un un_neg pe_int) (pa_cons (pe_un un_neg pe_int) pa_nil)))) (pg_name (i := 7) sc_law_breach.nd rfl (.inl rfl)) (pss_cons (ps_set (i := 6) sc_law_breach.nd rfl (.inl rfl) (pe_op op_add (pv 6) (pe_callTy call_int1 (by rfl) T.z_int (by decide +kernel) (pa_cons (pe_cmpR op_in_seq (pv 4) (pe_ix ix_tup (pv 2) (pv 7) (fun _ _ => rfl)) (by rfl)) pa_nil))))
    (pss_one (ps_if (pt_cmpR op_gt (pv 6) (pe_call (ok_law_sent T) (hr.mono (by decide)) (by rfl) T.g_law_sent T.F_law_sent.kp T.b_law_sent .nil pass0 (pa_cons (pv 5) (pa_cons (pv 1) (pa_cons (pe_op op_add (pe_op op_sub (pv 3) (pv 7)) pe_int) pa_nil)))) (nomark _)) (pss_one (ps_ret (pe_tup (pa_cons (pv 4) (pa_cons (pv 7) (pa_cons (pv 3) pa_nil)))))) pss_nil)))))))))
    (pss_one (ps_ret pe_non))), ?_⟩
    have lv := al.len
    have lr := alr.len
    refine ⟨_, rfl, b, vs, rfl, .inr (SqT.of eb), _, rfl, by omega, by omega, ?_⟩
    refine for_range (lo := 0) (n := (vs.length : Int).toNat) (fun t σ H' => ∃ y3 y4 y5 y6 y7 : Option V, σ = [some (.ref a), some (.int bot), some (.ref b), y3, y4, y5, y6, y7] ∧ Same H H' ∧ ∀ t', t' < t → lineF bot rs ss t' = none) ⟨_, _, _, _, _, rfl, fun _ _ e => e, fun t' h => absurd h (Nat.not_lt_zero _)⟩ ?_ ?_
    · rintro t σ H1 ht ⟨y3, y4, y5, y6, y7, rfl, s1, low⟩
      have tl : t < ss.length := by omega
      refine ⟨_, rfl, a, xs, rfl, .inr ⟨SqT.of (s1 _ _ ea), for_it GE.walk (fun l σ H' => ∃ y4 y5 y6 y7 : Option V, σ = [some (.ref a), some (.int bot), some (.ref b), some (.int (0 + (t : Int))), y4, y5, y6, y7] ∧ Same H H' ∧ ∀ l', l' < l → fstN bot (rs.getD l' none) ss l' t = none)
        ⟨_, _, _, _, rfl, s1, fun l' h => absurd h (Nat.not_lt_zero _)⟩ (fun i σ H' _ ⟨_, _, _, _, _, s, _⟩ => SqT.of (s _ _ ea)) ?_ ?_⟩⟩
      · rintro l x σ H2 H2' hl ⟨y4, y5, y6, y7, rfl, s2, lowL⟩ ⟨T1, x1, x2, rfl, nT, rfl, ex1, ex2⟩
        cases ex1
        have ex2 : xs[l]? = some x2 := ex2
        have hlx := (List.getElem?_eq_some_iff.mp ex2).1
        have hlr : l < rs.length := by omega
        have rl : rs[l]? = some (rs.getD l none) := by
          rw [List.getD_eq_getElem?_getD, List.getElem?_eq_getElem hlr]
          rfl
        have rok := ok.ok _ (List.mem_of_getElem? rl)
        obtain ⟨rv, hrv, hrw⟩ := alr.getL rl
        rw [ex2] at hrv
        cases hrv
        have s3 := same_upd nT (o := .tup [.int ((l : Nat) : Int), x2])
        refine ⟨T1, _, rfl, SqT.of upd_same, rfl, _, _, rfl, _, _, rfl, rfl, ?_⟩
        have s03 := s2.trans s3
        generalize upd H2 T1 (.tup [.int ((l : Nat) : Int), x2]) = H3 at s3 s03 ⊢
        refine ⟨_, rfl, _, rfl, _, rfl, (t : Int), -1, -1, t + 1, ?_, ?_, ?_⟩
        · show [V.int (0 + (t : Int)), V.int (-1), V.int (-1)] = _
          rw [Int.zero_add]
        · have z := RgC.neg (i := (t : Int)) (j := -1) (by omega) (by omega) (by decide) (by decide)
          rw [show ((t : Int) - -1).toNat = t + 1 by omega] at z
          exact z
        refine for_rangeC (lo := (t : Int)) (c := -1) (n := t + 1) (fun i σ H' => ∃ y7 : Option V, σ = [some (.ref a), some (.int bot), some (.ref b), some (.int (0 + (t : Int))), some (.int (l : Int)), some x2, some (.int (dn ss l t i : Int)), y7] ∧ Same H H' ∧ ∀ j, j < i → brk bot (rs.getD l none) ss l t (j + 1) = false) ⟨_, rfl, s03, fun j h => absurd h (Nat.not_lt_zero _)⟩ ?_ ?_
        · rintro i σ H4 hi ⟨y7, rfl, s4, lowJ⟩
          have e1 : (t : Int) + (i : Nat) * (-1) = ((t - i : Nat) : Int) := by omega
          obtain ⟨ls, hls⟩ : ∃ ls, ss[t - i]? = some ls := ⟨_, List.getElem?_eq_getElem (by omega)⟩
          obtain ⟨lv', hlv, q, rfl, hq⟩ := al.getL hls
          have ein : inL ss l (t - i) = decide (l ∈ ls) := by
            unfold inL
            rw [getD_some hls]
          have dnx : dn ss l t (i + 1) = dn ss l t i + (if inL ss l (t - i) = true then 1 else 0) := rfl
          refine ⟨_, rfl, _, rfl, _, rfl, _, rfl, b, vs, _, _, rfl, rfl, SqT.of (s4 _ _ eb), (show atI vs ((t : Int) + (i : Nat) * (-1)) = some (.ref q) by rw [e1]; exact atI_nat hlv), q, _, rfl, .inr (SqT.of (s4 _ _ hq)), rfl, flat_nats _, .inr ⟨_, rfl, _, _, rfl, rfl, ?_⟩⟩
          have em : (dn ss l t i : Int) + (if inV (.int (l : Int)) (natsV ls) = true then 1 else 0) = (dn ss l t (i + 1) : Int) := by
            rw [inV_nats, dnx, ein]
            by_cases c : l ∈ ls
            · rw [decide_eq_true c]
              rfl
            · rw [decide_eq_false c]
              rfl
          show gName 6 (V.int ((dn ss l t i : Int) + (if inV (.int (l : Int)) (natsV ls) = true then 1 else 0))) _ _ _
          rw [em]
          refine ⟨_, rfl, _, rfl, _, rfl, _, rfl, _, rfl, _, _, rfl, rfl, _, _, rfl, rfl, bot, ((i + 1 : Nat) : Int), _, x2, ?_, hrw.same s4, rok, ok.b1, ok.b20, _, _, rfl, rfl, _, rfl, ?_⟩
          · show [x2, V.int bot, V.int (0 + (t : Int) - ((t : Int) + (i : Nat) * (-1)) + 1)] = [x2, V.int bot, V.int ((i + 1 : Nat) : Int)]
            rw [show 0 + (t : Int) - ((t : Int) + (i : Nat) * (-1)) + 1 = ((i + 1 : Nat) : Int) by omega]
          by_cases c : sentR bot ((i + 1 : Nat) : Int) (rs.getD l none) < (dn ss l t (i + 1) : Int)
          · rw [decide_eq_true c]
            refine iteT ⟨_, rfl, _, rfl, _, rfl, by show 3 ≤ sizeLine; decide, fun z nz => ?_⟩
            refine k _ _ (s4.trans (same_upd nz)) ?_
            have hf : fstN bot (rs.getD l none) ss l t = some i := find_at hi lowJ (by unfold brk; exact decide_eq_true c)
            have hb : brF bot rs ss = some (l, t - i, t) := by
              unfold brF
              refine findSome_at tl low ?_
              unfold lineF
              refine findSome_at hlr (fun j hj => ?_) (by rw [hf]; rfl)
              rw [lowL j hj]
              rfl
            rw [hb]
            refine ⟨z, rfl, ?_⟩
            rw [upd_same]
            show some (HO.tup [V.int (l : Int), V.int ((t : Int) + (i : Nat) * (-1)), V.int (0 + (t : Int))]) = _
            rw [e1, Int.zero_add]
          · rw [decide_eq_false c]
            refine iteF ⟨_, rfl, s4, fun j hj => ?_⟩
            by_cases z : j = i
            · rw [z]
              unfold brk
              exact decide_eq_false c
            · exact lowJ j (by omega)
        · rintro σ H4 ⟨y7, rfl, s4, lowJ⟩
          refine ⟨_, _, _, _, rfl, s4, fun l' hl' => ?_⟩
          by_cases c : l' = l
          · subst c
            exact fst_none.mpr fun j hj => lowJ j (by omega)
          · exact lowL l' (by omega)
      · rintro σ H2 ⟨y4, y5, y6, y7, rfl, s2, lowL⟩
        refine ⟨_, _, _, _, _, rfl, s2, fun t' ht' => ?_⟩
        by_cases c : t' = t
        · subst c
          unfold lineF
          refine findSome_no fun j hj => ?_
          rw [lowL j (by omega)]
          rfl
        · exact low t' (by omega)
    · rintro σ H1 ⟨y3, y4, y5, y6, y7, rfl, s1, low⟩
      refine k H1 .non s1 ?_
      unfold brF
      rw [findSome_no fun t' ht' => low t' (by omega)]
      rfl
end

/-! ### streams drawn -/
theorem HandAt.ne_g {h g p : Addr} {H : Hp} (a : HandAt H h g) (hp : H p = none) : p ≠ g := by
  obtain ⟨ns, e⟩ := a.cells
  exact (ne_of_none e hp).symm
theorem HandAt.put {h g p : Addr} {H : Hp} {o : HO} (a : HandAt H h g) (h1 : p ≠ h) (h2 : p ≠ g) : HandAt (upd H p o) h g := by
  obtain ⟨⟨ns, ec⟩, ⟨i', m', s', t', ef, q⟩, ne⟩ := a
  exact ⟨⟨ns, by rw [upd_ne h2.symm]; exact ec⟩, ⟨i', m', s', t', by rw [upd_ne h1.symm]; exact ef, q⟩, ne⟩
theorem Kp.put {h p : Addr} {H0 H : Hp} {o : HO} (k : Kp h H0 H) (n : H0 p = none) : Kp h H0 (L2.upd H p o) := fun q u hq e => by
  rw [L2.upd_ne (ne_of_none e n)]
  exact k q u hq e
theorem tup_put {H : Hp} {p q : Addr} {xs ys zs : List V} (e : H p = some (.lst xs)) (f : H q = some (.tup ys)) : upd H p (.lst zs) q = some (.tup ys) := by
  rw [upd_ne (fun z => by rw [z, e] at f; cases f)]
  exact f
section
variable {P : Program} {w : World} {K : PySem.W.Frag} {mg : Str → Option Value} {base : Heap} {A : Adr}
def spLStream : Sp := fun vs H Q _ => ∃ (h g : Addr) (n m : Nat), vs = [.ref h, .int (n : Int), .int (m : Int)] ∧ HandAt H h g ∧ n ≤ 12 ∧ m ≤ 1000 ∧ ∀ (H' : Hp) (a : Addr) (ss : Strm), Kp h H H' → HandAt H' h g → StrmAt H' a ss → ss.length = m → (∀ ls ∈ ss, LotOk n ls) → Q (.ref a) H'
theorem ok_law_stream (T : Top K mg A) : FnOk P w K mg base CX0 3 A.a_law_stream A.d_law_stream P_law_stream spLStream := by
  refine T.F_law_stream.ok sc_law_stream (fun vs H Q E h => ?_) (fun cdv A' outer s H vs Q E hr h => ?_)
  · obtain ⟨h, g, n, m, rfl, _⟩ := h
    rfl
  · obtain ⟨h, g, n, m, rfl, ha, hn, hm, k⟩ := h
    refine ⟨_, (pss_cons (ps_set (i := 3) sc_law_stream.nd rfl (.inr rfl) (pe_call (ok_law_pick T) (hr.mono (by decide)) (by rfl) T.g_law_pick T.F_law_pick.kp T.b_law_pick .nil pass0 (pa_cons (pv 0) (pa_cons (pe_lst (pa_cons pe_int (pa_cons pe_int (pa_cons pe_int (pa_cons pe_int (pa_cons pe_int pa_nil)))))) pa_nil))))
    (pss_cons (ps_set (i := 4) sc_law_stream.nd rfl (.inl rfl) (pe_lst pa_nil))
    (pss_cons (ps_for PassesOwn.never rfl (pi_range1 rfl T.z_range (pa_cons (pv 2) pa_nil)) (pg_name (i := 5) sc_law_stream.nd rfl (.inl rfl)) (pss_one (ps_expr (pe_bm PySem.F.plainAttrs_list PySem.F.slot_list_append PySem.F.type_list_append mt_append (pv 4) (pa_cons (pe_callTy call_tuple_of (by rfl) T.z_tuple (by decide +kernel) (pa_cons (pe_lc (own := [("_law_line", 6)]) (by rfl) sc_law_stream.nd (pi_range1 rfl T.z_range (pa_cons (pv 1) pa_nil)) (blkOk_by (own := [("_law_line", 6)]) (N := N_law_stream) (sc := defScope s_law_stream) (by decide +kernel)) (fun _ _ _ _ _ => (pg_name (i := 6) sc_law_stream.nd rfl (.inl rfl))) (fun _ _ _ _ _ => (pts_one (pt_cmpR op_eq (pe_call (ok_law_draw (P := P) (w := w) T) (hr.mono (by decide)) (by rfl) T.g_law_draw T.F_law_draw.kp T.b_law_draw .nil pass0 (pa_cons (pv 0) (pa_cons (pv 3) pa_nil))) pe_int (nomark _)))) (fun _ _ _ _ _ => (pv 6))) pa_nil)) pa_nil)))))
    (pss_one (ps_ret (pe_callTy call_tuple_of (by rfl) T.z_tuple (by decide +kernel) (pa_cons (pv 4) pa_nil))))))), ?_⟩
    refine ⟨_, rfl, by show 5 ≤ sizeLine; decide, fun l nl => ?_⟩
    have a1 := ha.same (same_upd nl (o := .lst [.int 2, .int 2, .int 3, .int 5, .int 1]))
    have hl := ha.ne_none nl
    refine ⟨h, g, l, _, rfl, a1, SqL.of upd_same, fun H' b => SqL.of ((b l hl).trans upd_same), by show 0 < 5; decide, by show 5 ≤ 100000; decide, fun H2 j v b2 a2 hv => ?_⟩
    have hs : ∃ sh : Int, v = .int sh ∧ 1 ≤ sh ∧ sh ≤ 5 := by
      have q := List.mem_of_getElem? hv
      simp only [List.mem_cons, List.not_mem_nil, or_false] at q
      rcases q with q | q | q | q | q <;> subst q <;> exact ⟨_, rfl, by decide, by decide⟩
    obtain ⟨sh, rfl, sh1, sh5⟩ := hs
    have k2 : Kp h H H2 := (kp_of (same_upd nl) h).trans b2.kp
    clear b2 a1 hv nl hl
    refine ⟨by show 0 ≤ sizeLine; decide, fun F nF => ?_⟩
    have Fh := a2.ne_none nF
    have Fg := a2.ne_g nF
    have nF0 : H F = none := k2.free Fh nF
    have k3 := k2.put (o := .lst []) nF0
    have a3 := a2.put (o := .lst []) Fh Fg
    have e3 : upd H2 F (.lst []) F = some (.lst []) := upd_same
    generalize upd H2 F (.lst []) = H3 at k3 a3 e3 ⊢
    refine ⟨_, rfl, (m : Int), rfl, by omega, by omega, ?_⟩
    refine for_range (lo := 0) (n := (m : Int).toNat) (fun i σ H' => ∃ (y5 y6 : Option V) (us : List V) (ss : Strm), σ = [some (.ref h), some (.int (n : Int)), some (.int (m : Int)), some (.int sh), some (.ref F), y5, y6] ∧ Kp h H H' ∧ HandAt H' h g ∧ H' F = some (.lst us) ∧ All2 (LotAt H') ss us ∧ ss.length = i ∧ ∀ ls ∈ ss, LotOk n ls) ⟨_, _, [], [], rfl, k3, a3, e3, .nil, rfl, fun ls hls => absurd hls List.not_mem_nil⟩ ?_ ?_
    · rintro i σ H4 hi ⟨y5, y6, us, ss, rfl, k4, a4, e4, al4, l4, ok4⟩
      have lu := al4.len
      refine ⟨_, rfl, .inl ⟨rfl, _, SqL.of e4⟩, _, rfl, (n : Int), rfl, by omega, by omega, fun D nD => ?_⟩
      have Dh := a4.ne_none nD
      have Dg := a4.ne_g nD
      have s5 := same_upd nD (o := .lst [])
      refine lc_range (lo := 0) (n := (n : Int).toNat) (fun j H' => ∃ ls : List Nat, Kp h H4 H' ∧ HandAt H' h g ∧ H' D = some (.lst (natsV ls)) ∧ ls.Pairwise (· < ·) ∧ (∀ x ∈ ls, x < j) ∧ ls.length ≤ j) ⟨[], kp_of s5 h, a4.same s5, upd_same, .nil, fun x hx => absurd hx List.not_mem_nil, Nat.le_refl _⟩ ?_ ?_
      · rintro j H5 hj ⟨ls, k5, a5, e5, p5, b5, l5⟩
        refine ⟨by kernel_rfl, ?_⟩
        refine ⟨_, rfl, _, rfl, h, g, sh, rfl, a5, by omega, by omega, fun H6 d b6 a6 d0 d1 => ⟨rfl, _, rfl, ?_⟩⟩
        have k6 := k5.trans b6.kp
        have e6 := b6.kp _ _ Dh e5
        rw [dec_int]
        by_cases c : d = 0
        · rw [decide_eq_true c]
          refine iteT ⟨_, rfl, _, e6, by unfold natsV; rw [List.length_map]; exact lts (by omega), ls ++ [j], k6.put nD, a6.put Dh Dg, ?_, ?_, fun x hx => ?_, by rw [List.length_append]; exact Nat.succ_le_succ l5⟩
          · rw [upd_same, Int.zero_add]
            unfold natsV
            rw [List.map_append]
            rfl
          · rw [List.pairwise_append]
            refine ⟨p5, List.pairwise_singleton _ _, fun x hx y hy => ?_⟩
            rw [List.mem_singleton] at hy
            rw [hy]
            exact b5 x hx
          · rcases List.mem_append.mp hx with z | z
            · exact Nat.lt_succ_of_lt (b5 x z)
            · rw [List.mem_singleton] at z
              omega
        · rw [decide_eq_false c]
          exact iteF ⟨ls, k6, a6, e6, p5, fun x hx => Nat.lt_succ_of_lt (b5 x hx), by omega⟩
      · rintro H5 ⟨ls, k5, a5, e5, p5, b5, l5⟩
        refine ⟨D, _, rfl, .inl ⟨SqL.of e5, fun p np => ?_⟩⟩
        have s6 := same_upd np (o := .tup (natsV ls))
        have ep : upd H5 p (.tup (natsV ls)) p = some (.tup (natsV ls)) := upd_same
        have k6 := k5.same s6
        have a6 := a5.same s6
        have e6 := k6 _ _ Fh e4
        generalize upd H5 p (.tup (natsV ls)) = H6 at s6 ep k6 a6 e6 ⊢
        refine ⟨F, us, _, rfl, rfl, e6, lts (by omega), _, _, us ++ [.ref p], ss ++ [ls], rfl, (k4.trans k6).put nF0, a6.put Fh Fg, upd_same, ?_, by rw [List.length_append, l4]; rfl, fun x hx => ?_⟩
        · exact ((al4.imp fun _ _ t => (t.mv fun q xs e => tup_kp k6 a4 e).mv fun q xs e => tup_put e6 e)).snoc ⟨p, rfl, tup_put e6 ep⟩
        · rcases List.mem_append.mp hx with z | z
          · exact ok4 x z
          · rw [List.mem_singleton] at z
            rw [z]
            exact ⟨p5, fun x hx => by have := b5 x hx; omega⟩
    · rintro σ H4 ⟨y5, y6, us, ss, rfl, k4, a4, e4, al4, l4, ok4⟩
      refine ⟨_, rfl, F, us, rfl, .inl ⟨SqL.of e4, fun p np => ?_⟩⟩
      have s5 := same_upd np (o := .tup us)
      exact k _ p ss (k4.same s5) (a4.same s5) ⟨us, upd_same, al4.imp fun _ _ t => t.mv fun q xs e => s5 _ _ e⟩ (by omega) ok4
end

/-! ### streams thinned -/
def fl (ss : Strm) (l n : Nat) : List Nat := (List.range n).filter (inL ss l)
theorem fl_succ {ss : Strm} {l n : Nat} : fl ss l (n + 1) = fl ss l n ++ (if inL ss l n = true then [n] else []) := by
  unfold fl
  rw [List.range_succ, List.filter_append]
  congr 1
  by_cases c : inL ss l n = true
  · rw [if_pos c, List.filter_cons_of_pos c]
    rfl
  · rw [if_neg c, List.filter_cons_of_neg c]
    rfl
theorem dn_cnt {ss : Strm} {l t : Nat} : ∀ n, n ≤ t + 1 → dn ss l t n + (fl ss l (t + 1 - n)).length = (fl ss l (t + 1)).length
  | 0, _ => by
    rw [Nat.sub_zero]
    exact Nat.zero_add _
  | n + 1, h => by
    have ih := dn_cnt (ss := ss) (l := l) (t := t) n (by omega)
    have e : t + 1 - n = (t - n) + 1 := by omega
    rw [e, fl_succ, List.length_append] at ih
    have e2 : t + 1 - (n + 1) = t - n := by omega
    rw [e2]
    show dn ss l t n + (if inL ss l (t - n) = true then 1 else 0) + _ = _
    by_cases c : inL ss l (t - n) = true
    · rw [if_pos c] at ih ⊢
      have ih : dn ss l t n + ((fl ss l (t - n)).length + 1) = (fl ss l (t + 1)).length := ih
      omega
    · rw [if_neg c] at ih ⊢
      have ih : dn ss l t n + ((fl ss l (t - n)).length + 0) = (fl ss l (t + 1)).length := ih
      omega
theorem fl_pre {ss : Strm} {l n : Nat} : ∀ m, ∃ r, fl ss l (n + m) = fl ss l n ++ r
  | 0 => ⟨[], (List.append_nil _).symm⟩
  | m + 1 => by
    obtain ⟨r, e⟩ := fl_pre (ss := ss) (l := l) (n := n) m
    refine ⟨r ++ (if inL ss l (n + m) = true then [n + m] else []), ?_⟩
    rw [show n + (m + 1) = (n + m) + 1 by omega, fl_succ, e, List.append_assoc]
theorem fl_at {ss : Strm} {l s t : Nat} (h : inL ss l s = true) (hs : s ≤ t) : (fl ss l (t + 1))[(fl ss l s).length]? = some s := by
  obtain ⟨r, e⟩ := fl_pre (ss := ss) (l := l) (n := s + 1) (t - s)
  rw [show s + 1 + (t - s) = t + 1 by omega] at e
  rw [e, fl_succ, if_pos h, List.append_assoc, List.getElem?_append_right (Nat.le_refl _), Nat.sub_self]
  rfl
/-- every beat that is let keeps every window back to a let beat -/
def ThinAt (bot : Int) (r : Rw) (ss : Strm) (l t : Nat) : Prop := inL ss l t = true → ∀ s, s ≤ t → inL ss l s = true → (dn ss l t (t - s + 1) : Int) ≤ sentR bot ((t - s + 1 : Nat) : Int) r
theorem thin_ok {bot : Int} {r : Rw} {ss : Strm} {l T : Nat} (ok : RowOk bot r) (hb : 1 ≤ bot) (th : ∀ t, t < T → ThinAt bot r ss l t) : ∀ t, t < T → ∀ n, n ≤ t + 1 → (dn ss l t n : Int) ≤ sentR bot (n : Int) r := by
  intro t
  induction t with
  | zero =>
    intro ht n hn
    match n, hn with
    | 0, _ => exact sent_nn ok hb (by omega)
    | 1, _ =>
      cases c : inL ss l 0 with
      | true => exact th 0 ht c 0 (Nat.le_refl _) c
      | false =>
        have e : dn ss l 0 1 = 0 + (if inL ss l (0 - 0) = true then 1 else 0) := rfl
        rw [Nat.sub_zero, c, if_neg Bool.false_ne_true] at e
        rw [e]
        exact sent_nn ok hb (by omega)
  | succ t ih =>
    intro ht n
    have ih := ih (by omega)
    induction n with
    | zero => intro _; exact sent_nn ok hb (by omega)
    | succ n ihn =>
      intro hn
      cases c : inL ss l (t + 1) with
      | false =>
        rw [dn_next, c, if_neg Bool.false_ne_true, Nat.add_zero]
        exact Int.le_trans (ih n (by omega)) (sent_mono ok hb (by omega))
      | true =>
        cases c2 : inL ss l (t + 1 - n) with
        | true =>
          have z := th (t + 1) ht c (t + 1 - n) (by omega) c2
          rw [show t + 1 - (t + 1 - n) + 1 = n + 1 by omega] at z
          exact z
        | false =>
          have e : dn ss l (t + 1) (n + 1) = dn ss l (t + 1) n + (if inL ss l (t + 1 - n) = true then 1 else 0) := rfl
          rw [e, c2, if_neg Bool.false_ne_true, Nat.add_zero]
          exact Int.le_trans (ihn (by omega)) (sent_mono ok hb (by omega))
theorem thin_none {bot : Int} {rs : List Rw} {ss : Strm} (ok : RowsOk bot rs) (th : ∀ l, l < rs.length → ∀ t, t < ss.length → ThinAt bot (rs.getD l none) ss l t) : brF bot rs ss = none := by
  unfold brF
  refine findSome_no fun t ht => ?_
  unfold lineF
  refine findSome_no fun l hl => ?_
  have rl : rs[l]? = some (rs.getD l none) := by
    rw [List.getD_eq_getElem?_getD, List.getElem?_eq_getElem hl]
    rfl
  have z : fstN bot (rs.getD l none) ss l t = none := fst_none.mpr fun j hj => by
    unfold brk
    rw [decide_eq_false_iff_not]
    have q := thin_ok (ok.ok _ (List.mem_of_getElem? rl)) ok.b1 (th l hl) t ht (j + 1) (by omega)
    omega
  rw [z]
  rfl
theorem inL_old {ss : Strm} {so : List Nat} {l s : Nat} (h : s < ss.length) : inL (ss ++ [so]) l s = inL ss l s := by
  unfold inL
  rw [List.getD_eq_getElem?_getD, List.getD_eq_getElem?_getD, List.getElem?_append_left h]
theorem inL_new {ss : Strm} {so : List Nat} {l : Nat} : inL (ss ++ [so]) l ss.length = decide (l ∈ so) := by
  unfold inL
  rw [List.getD_eq_getElem?_getD, List.getElem?_append_right (Nat.le_refl _), Nat.sub_self]
  rfl
theorem fl_old {ss : Strm} {so : List Nat} {l n : Nat} (h : n ≤ ss.length) : fl (ss ++ [so]) l n = fl ss l n := by
  unfold fl
  refine List.filter_congr fun s hs => inL_old ?_
  have := List.mem_range.mp hs
  omega
theorem dn_old {ss : Strm} {so : List Nat} {l t : Nat} (h : t < ss.length) : ∀ n, dn (ss ++ [so]) l t n = dn ss l t n
  | 0 => rfl
  | n + 1 => by
    show dn (ss ++ [so]) l t n + (if inL (ss ++ [so]) l (t - n) = true then 1 else 0) = _
    rw [dn_old h n, inL_old (by omega)]
    rfl
theorem thin_old {bot : Int} {r : Rw} {ss : Strm} {so : List Nat} {l t : Nat} (h : t < ss.length) (th : ThinAt bot r ss l t) : ThinAt bot r (ss ++ [so]) l t := fun c s hs c2 => by
  rw [inL_old h] at c
  rw [inL_old (by omega)] at c2
  rw [dn_old h]
  exact th c s hs c2
theorem thin_new {bot : Int} {r : Rw} {ss : Strm} {so : List Nat} {l : Nat} (h : l ∈ so → ∀ (at_ s : Nat), (fl ss l ss.length ++ [ss.length])[at_]? = some s → ((fl ss l ss.length ++ [ss.length]).length : Int) - (at_ : Int) ≤ sentR bot ((ss.length : Int) - (s : Int) + 1) r) : ThinAt bot r (ss ++ [so]) l ss.length := fun c s hs c2 => by
  rw [inL_new, decide_eq_true_eq] at c
  have e1 : fl (ss ++ [so]) l (ss.length + 1) = fl ss l ss.length ++ [ss.length] := by
    rw [fl_succ, inL_new, decide_eq_true c, if_pos rfl, fl_old (Nat.le_refl _)]
  have z := fl_at c2 hs
  rw [e1] at z
  have q := h c _ s z
  have d := dn_cnt (ss := ss ++ [so]) (l := l) (t := ss.length) (ss.length - s + 1) (by omega)
  rw [show ss.length + 1 - (ss.length - s + 1) = s by omega, e1] at d
  rw [show ((ss.length - s + 1 : Nat) : Int) = (ss.length : Int) - s + 1 by omega]
  omega

/-- the lists of let beats; none of them is of av -/
def CameAt (H0 H : Hp) (us : List V) (n : Nat) (f : Nat → List Nat) (av : List Addr) : Prop := us.length = n ∧ ∀ l, l < n → ∃ q, us[l]? = some (.ref q) ∧ H0 q = none ∧ H q = some (.lst (natsV (f l))) ∧ q ∉ av
theorem CameAt.same {H0 H H' : Hp} {us : List V} {n : Nat} {f : Nat → List Nat} {av : List Addr} (c : CameAt H0 H us n f av) (s : Same H H') : CameAt H0 H' us n f av := ⟨c.1, fun l hl => let ⟨q, e1, e2, e3, e4⟩ := c.2 l hl; ⟨q, e1, e2, s _ _ e3, e4⟩⟩
theorem CameAt.more {H0 H : Hp} {us : List V} {n : Nat} {f : Nat → List Nat} {av : List Addr} {p : Addr} (c : CameAt H0 H us n f av) (np : H p = none) : CameAt H0 H us n f (p :: av) := ⟨c.1, fun l hl => let ⟨q, e1, e2, e3, e4⟩ := c.2 l hl; ⟨q, e1, e2, e3, fun z => by
  rcases List.mem_cons.mp z with z | z
  · exact ne_of_none e3 np z
  · exact e4 z⟩⟩
theorem CameAt.but {H0 H : Hp} {us : List V} {n : Nat} {f : Nat → List Nat} {av : List Addr} {p : Addr} {o : HO} (c : CameAt H0 H us n f av) (hp : p ∈ av) : CameAt H0 (upd H p o) us n f av := ⟨c.1, fun l hl => by
  obtain ⟨q, e1, e2, e3, e4⟩ := c.2 l hl
  exact ⟨q, e1, e2, by rw [upd_ne (fun z => e4 (by rw [z]; exact hp))]; exact e3, e4⟩⟩
theorem CameAt.less {H0 H : Hp} {us : List V} {n : Nat} {f : Nat → List Nat} {av av' : List Addr} (c : CameAt H0 H us n f av) (h : ∀ x ∈ av', x ∈ av) : CameAt H0 H us n f av' := ⟨c.1, fun l hl => let ⟨q, e1, e2, e3, e4⟩ := c.2 l hl; ⟨q, e1, e2, e3, fun z => e4 (h _ z)⟩⟩
theorem CameAt.as {H0 H : Hp} {us : List V} {n : Nat} {f f' : Nat → List Nat} {av : List Addr} (c : CameAt H0 H us n f av) (h : ∀ l, l < n → f l = f' l) : CameAt H0 H us n f' av := ⟨c.1, fun l hl => let ⟨q, e1, e2, e3, e4⟩ := c.2 l hl; ⟨q, e1, e2, by rw [← h l hl]; exact e3, e4⟩⟩
theorem CameAt.set {H0 H : Hp} {us : List V} {n : Nat} {f f' : Nat → List Nat} {av : List Addr} {l : Nat} {q : Addr} (c : CameAt H0 H us n f av) (hl : l < n) (e0 : H0 q = none) (eq : H q = some (.lst (natsV (f' l)))) (nq : q ∉ av) (h : ∀ j, j < n → j ≠ l → f j = f' j) : CameAt H0 H (us.set l (.ref q)) n f' av := ⟨by rw [List.length_set]; exact c.1, fun j hj => by
  by_cases z : j = l
  · subst z
    exact ⟨q, by rw [List.getElem?_set_self (by rw [c.1]; exact hj)], e0, eq, nq⟩
  · obtain ⟨q', e1, e2, e3, e4⟩ := c.2 j hj
    exact ⟨q', by rw [List.getElem?_set_ne (fun w => z w.symm)]; exact e1, e2, by rw [← h j hj z]; exact e3, e4⟩⟩
theorem nd_len_lt {n : Nat} {ls : List Nat} (p : ls.Pairwise (· < ·)) (h : ∀ x ∈ ls, x < n) : ls.length ≤ n := by
  have nd : ls.Nodup := p.imp fun h => Nat.ne_of_lt h
  have z := (List.nodup_range (n := n))
  have s : ls.length ≤ (List.range n).length := nat_nodup_len ls (List.range n) nd fun x hx => List.mem_range.mpr (h x hx)
  rw [List.length_range] at s
  exact s
section
variable {P : Program} {w : World} {K : PySem.W.Frag} {mg : Str → Option Value} {base : Heap} {A : Adr}
def LetC (bot : Int) (r : Rw) (later : List Nat) (t j : Nat) : Prop := ∀ (at_ s : Nat), at_ < j → later[at_]? = some s → (later.length : Int) - (at_ : Int) ≤ sentR bot ((t : Int) - (s : Int) + 1) r
def spThin : Sp := fun vs H Q _ => ∃ (a b : Addr) (bot : Int) (rs : List Rw) (ss : Strm), vs = [.ref a, .int bot, .ref b] ∧ RowsAt H a rs ∧ RowsOk bot rs ∧ StrmAt H b ss ∧ StrmOk rs.length ss ∧ ss.length ≤ 1000 ∧
  ∀ (H' : Hp) (c : Addr) (ts : Strm), Same H H' → StrmAt H' c ts → ts.length = ss.length → (∀ ls ∈ ts, LotOk rs.length ls) → brF bot rs ts = none → Q (.ref c) H'
theorem ok_law_thinned (T : Top K mg A) : FnOk P w K mg base CX0 2 A.a_law_thinned A.d_law_thinned P_law_thinned spThin := by
  refine T.F_law_thinned.ok sc_law_thinned (fun vs H Q E h => ?_) (fun cdv A' outer s H vs Q E hr h => ?_)
  · obtain ⟨a, b, bot, rs, ss, rfl, _⟩ := h
    rfl
  · obtain ⟨a, b, bot, rs, ss, rfl, ⟨xs, ea, alr⟩, ok, ⟨vs, eb, al⟩, sok, few, k⟩ := h
    refine ⟨_, (pss_cons (ps_setLc (i := 3) (own := [("_law_row", 13)]) (by rfl) sc_law_thinned.nd rfl rfl (sw_true rfl rfl rfl (by decide +kernel)) (pi_tup (pv 0)) (blkOk_by (own := [("_law_row", 13)]) (N := N_law_thinned) (sc := defScope s_law_thinned) (by decide +kernel)) (fun _ _ _ _ _ => (pg_name (i := 13) sc_law_thinned.nd rfl (.inl rfl))) (fun _ _ _ _ _ => pts_nil) (fun _ _ _ _ _ => (pe_lst pa_nil)))
    (pss_cons (ps_set (i := 4) sc_law_thinned.nd rfl (.inl rfl) (pe_lst pa_nil))
    (pss_cons (ps_for PassesOwn.never rfl (GE.pi_enumA (by rfl) T.z_enumerate (pa_cons (pv 2) pa_nil)) (pg_tup rfl (pgs_cons (pg_name (i := 5) sc_law_thinned.nd rfl (.inl rfl)) (pgs_cons (pg_name (i := 6) sc_law_thinned.nd rfl (.inl rfl)) pgs_nil))) (pss_cons (ps_set (i := 7) sc_law_thinned.nd rfl (.inl rfl) (pe_lst pa_nil))
    (pss_cons (ps_for PassesOwn.never rfl (pi_tup (pv 6)) (pg_name (i := 8) sc_law_thinned.nd rfl (.inl rfl)) (pss_cons (ps_set (i := 9) sc_law_thinned.nd rfl (.inl rfl) (pe_op op_cat (pe_ix ix_list (pv 3) (pv 8) (fun _ _ => rfl)) (pe_lst (pa_cons (pv 5) pa_nil))))
    (pss_cons (ps_set (i := 10) sc_law_thinned.nd rfl (.inl rfl) pe_bl)
    (pss_cons (ps_for PassesOwn.never rfl (GE.pi_enumA (by rfl) T.z_enumerate (pa_cons (pv 9) pa_nil)) (pg_tup rfl (pgs_cons (pg_name (i := 11) sc_law_thinned.nd rfl (.inl rfl)) (pgs_cons (pg_name (i := 12) sc_law_thinned.nd rfl (.inl rfl)) pgs_nil))) (pss_one (ps_set (i := 10) sc_law_thinned.nd rfl (.inl rfl) (pe_and (pv 10) (pe_one (pe_cmpR op_le (pe_op op_sub (pe_callB call_len_seq (by rfl) T.z_len (by decide +kernel) (pa_cons (pv 9) pa_nil)) (pv 11)) (pe_call (ok_law_sent T) (hr.mono (by decide)) (by rfl) T.g_law_sent T.F_law_sent.kp T.b_law_sent .nil pass0 (pa_cons (pe_ix ix_tup (pv 0) (pv 8) (fun _ _ => rfl)) (pa_cons (pv 1) (pa_cons (pe_op op_add (pe_op op_sub (pv 5) (pv 12)) pe_int) pa_nil)))) (nomark _)))))))
    (pss_one (ps_if (pt_truth (pv 10) (by intro _; rfl)) (pss_cons (ps_asg (pv 9) (pg_sub (pv 3) (pv 8) set_list))
    (pss_one (ps_expr (pe_bm PySem.F.plainAttrs_list PySem.F.slot_list_append PySem.F.type_list_append mt_append (pv 7) (pa_cons (pv 8) pa_nil))))) pss_nil))))))
    (pss_one (ps_expr (pe_bm PySem.F.plainAttrs_list PySem.F.slot_list_append PySem.F.type_list_append mt_append (pv 4) (pa_cons (pe_callTy call_tuple_of (by rfl) T.z_tuple (by decide +kernel) (pa_cons (pv 7) pa_nil)) pa_nil)))))))
    (pss_one (ps_ret (pe_callTy call_tuple_of (by rfl) T.z_tuple (by decide +kernel) (pa_cons (pv 4) pa_nil))))))), ?_⟩
    have lv := al.len
    have lr := alr.len
    have rfew := ok.few
    refine ⟨_, rfl, a, rfl, ⟨_, SqT.of ea⟩, fun C nC => ?_⟩
    refine lc_tup (K := K) (a := a) (xs := xs) (fun i H' => ∃ us, Same H H' ∧ H' C = some (.lst us) ∧ CameAt H H' us i (fun _ => []) [C]) ⟨[], same_upd nC, upd_same, rfl, fun l hl => absurd hl (Nat.not_lt_zero _)⟩ (fun i H' _ ⟨_, s, _⟩ => SqT.of (s _ _ ea)) ?_ ?_
    · rintro i x H1 hx ⟨us, s1, e1, cm⟩
      have hi := (List.getElem?_eq_some_iff.mp hx).1
      have lu := cm.1
      refine ⟨by kernel_rfl, ?_⟩
      refine ⟨Nat.zero_le _, fun q nq => ?_⟩
      have s2 := same_upd nq (o := .lst [])
      have eq : upd H1 q (.lst []) q = some (.lst []) := upd_same
      have cm2 := cm.same s2
      have e2 := s2 _ _ e1
      have Cq : q ≠ C := fun z => by rw [z, e1] at nq; cases nq
      generalize upd H1 q (.lst []) = H2 at s2 eq cm2 e2 ⊢
      have cm3 := cm2.but (o := .lst (us ++ [.ref q])) (List.mem_singleton.mpr rfl)
      refine ⟨us, e2, lts (by omega), us ++ [.ref q], same_to (s1.trans s2) nC, upd_same, by rw [List.length_append, lu]; rfl, fun l hl => ?_⟩
      by_cases c : l < i
      · obtain ⟨q', h1, h2, h3, h4⟩ := cm3.2 l c
        exact ⟨q', by rw [List.getElem?_append_left (by omega)]; exact h1, h2, h3, h4⟩
      · have : l = i := by omega
        subst this
        exact ⟨q, by rw [List.getElem?_append_right (by omega), show l - us.length = 0 by omega]; rfl, s1.free nq, by rw [upd_ne Cq]; exact eq, fun z => Cq (List.mem_singleton.mp z)⟩
    · rintro H1 ⟨us0, s1, e1, cm1⟩
      rw [← lr] at cm1
      refine ⟨by show 0 ≤ sizeLine; decide, fun F nF => ?_⟩
      have s2 := same_upd nF (o := .lst [])
      have eF2 : upd H1 F (.lst []) F = some (.lst []) := upd_same
      have cm2 := (cm1.more nF).same s2
      have eC2 := s2 _ _ e1
      have nF0 := s1.free nF
      have CF : C ≠ F := fun z => by rw [← z, e1] at nF; cases nF
      have s02 := s1.trans s2
      generalize upd H1 F (.lst []) = H2 at s2 eF2 cm2 eC2 s02 ⊢
      refine ⟨_, rfl, b, vs, rfl, .inr ⟨SqT.of (s02 _ _ eb), for_it GE.walk (fun t σ H' => ∃ (y5 y6 y7 y8 y9 y10 y11 y12 : Option V) (us fs : List V) (ts : Strm), σ = [some (.ref a), some (.int bot), some (.ref b), some (.ref C), some (.ref F), y5, y6, y7, y8, y9, y10, y11, y12, none] ∧ Same H H' ∧ H' C = some (.lst us) ∧ H' F = some (.lst fs) ∧ All2 (LotAt H') ts fs ∧ ts.length = t ∧ CameAt H H' us rs.length (fun l => fl ts l t) [F, C] ∧ (∀ ls ∈ ts, LotOk rs.length ls) ∧ ∀ l, l < rs.length → ∀ t', t' < t → ThinAt bot (rs.getD l none) ts l t')
        ⟨_, _, _, _, _, _, _, _, us0, [], [], rfl, s02, eC2, eF2, .nil, rfl, cm2, fun ls h => absurd h List.not_mem_nil, fun l _ t' h => absurd h (Nat.not_lt_zero _)⟩ (fun i σ H' _ ⟨_, _, _, _, _, _, _, _, _, _, _, _, s, _⟩ => SqT.of (s _ _ eb)) ?_ ?_⟩⟩
      · rintro t x σ H3 H3' ht ⟨y5, y6, y7, y8, y9, y10, y11, y12, us, fs, ts, rfl, s3, eC3, eF3, alF, lt3, cm3, ok3, th3⟩ ⟨T1, x1, x2, rfl, nT, rfl, ex1, ex2⟩
        cases ex1
        obtain ⟨ls, hls, q, rfl, hq⟩ := al.get ex2
        obtain ⟨lasc, llt⟩ := sok.ok ls (List.mem_of_getElem? hls)
        have tl := (List.getElem?_eq_some_iff.mp hls).1
        have lF := alF.len
        have s4 := same_upd nT (o := .tup [.int ((t : Nat) : Int), .ref q])
        refine ⟨T1, _, rfl, SqT.of upd_same, rfl, _, _, rfl, _, _, rfl, rfl, ?_⟩
        have s04 := s3.trans s4
        have eC4 := s4 _ _ eC3
        have eF4 := s4 _ _ eF3
        have alF4 := alF.imp fun _ _ z => z.mv (fun q xs e => s4 q _ e)
        have cm4 := cm3.same s4
        generalize upd H3 T1 (.tup [.int ((t : Nat) : Int), .ref q]) = H4 at s4 s04 eC4 eF4 alF4 cm4 ⊢
        refine ⟨by show 0 ≤ sizeLine; decide, fun S nS => ?_⟩
        have s5 := same_upd nS (o := .lst [])
        have s05 := s04.trans s5
        have eS5 : upd H4 S (.lst []) S = some (.lst []) := upd_same
        have eC5 := s5 _ _ eC4
        have eF5 := s5 _ _ eF4
        have alF5 := alF4.imp fun _ _ z => z.mv (fun q xs e => s5 q _ e)
        have cm5 := (cm4.more nS).same s5
        have nS0 := s04.free nS
        have CS : C ≠ S := fun z => by rw [← z, eC4] at nS; cases nS
        have FS : F ≠ S := fun z => by rw [← z, eF4] at nS; cases nS
        generalize upd H4 S (.lst []) = H5 at s5 s05 eS5 eC5 eF5 alF5 cm5 ⊢
        refine ⟨_, rfl, q, rfl, ⟨_, SqT.of (s05 _ _ hq)⟩, for_tup (xs := natsV ls) (fun i σ H' => ∃ (y8 y9 y10 y11 y12 : Option V) (us' : List V) (so : List Nat), σ = [some (.ref a), some (.int bot), some (.ref b), some (.ref C), some (.ref F), some (.int (t : Int)), some (.ref q), some (.ref S), y8, y9, y10, y11, y12, none] ∧ Same H H' ∧ H' C = some (.lst us') ∧ H' F = some (.lst fs) ∧ All2 (LotAt H') ts fs ∧ H' S = some (.lst (natsV so)) ∧ so.Pairwise (· < ·) ∧ (∀ x ∈ so, x ∈ ls.take i) ∧ so.length ≤ i ∧ CameAt H H' us' rs.length (fun l => fl ts l t ++ (if l ∈ so then [t] else [])) [S, F, C] ∧ ∀ l ∈ so, LetC bot (rs.getD l none) (fl ts l t ++ [t]) t ((fl ts l t ++ [t]).length))
          ⟨_, _, _, _, _, us, [], rfl, s05, eC5, eF5, alF5, eS5, .nil, fun x hx => absurd hx List.not_mem_nil, Nat.le_refl _, cm5.as fun l _ => (List.append_nil _).symm, fun l hl => absurd hl List.not_mem_nil⟩ (fun i σ H' _ ⟨_, _, _, _, _, _, _, _, s, _⟩ => SqT.of (s _ _ hq)) ?_ ?_⟩
        · rintro i x σ H6 hx ⟨y8, y9, y10, y11, y12, us', so, rfl, s6, eC6, eF6, alF6, eS6, pso, sub, lso, cm6, lc6⟩
          unfold natsV at hx
          rw [List.getElem?_map] at hx
          obtain ⟨l, hl, rfl⟩ := Option.map_eq_some_iff.mp hx
          have il := (List.getElem?_eq_some_iff.mp hl).1
          have hln := llt l (List.mem_of_getElem? hl)
          have lls : ls.length ≤ 12 := by
            have z := nd_len_lt (ls := ls) lasc llt
            omega
          have low : ∀ x ∈ so, x < l := fun x hx => by
            have z := lasc
            have hd : ls.drop i = l :: ls.drop (i + 1) := by
              obtain ⟨h1, h2⟩ := List.getElem?_eq_some_iff.mp hl
              rw [← h2, ← List.drop_eq_getElem_cons h1]
            rw [← List.take_append_drop i ls, hd, List.pairwise_append] at z
            exact z.2.2 x (sub x hx) l List.mem_cons_self
          have lno : l ∉ so := fun z => Nat.lt_irrefl _ (low l z)
          have rl : rs[l]? = some (rs.getD l none) := by
            rw [List.getD_eq_getElem?_getD, List.getElem?_eq_getElem hln]
            rfl
          have rok := ok.ok _ (List.mem_of_getElem? rl)
          obtain ⟨rv, hrv, hrw⟩ := alr.getL rl
          obtain ⟨ql, w1, w2, w3, w4⟩ := cm6.2 l hln
          have w3 : H6 ql = some (.lst (natsV (fl ts l t))) := by
            have z := w3
            simp only [if_neg lno, List.append_nil] at z
            exact z
          have llen : (fl ts l t).length ≤ t := by
            unfold fl
            exact Nat.le_trans (List.length_filter_le _ _) (by rw [List.length_range]; exact Nat.le_refl _)
          refine ⟨_, rfl, _, rfl, C, us', _, _, rfl, rfl, SqL.of eC6, atI_nat w1, _, rfl, by show 1 ≤ sizeLine; decide, fun L1 n1 => ?_⟩
          have s7 := same_upd n1 (o := .lst [.int (t : Int)])
          refine ⟨ql, L1, _, _, rfl, rfl, s7 _ _ w3, upd_same, ?_, fun L2 n2 => ?_⟩
          · unfold natsV
            rw [List.length_map]
            exact Nat.le_of_lt (lts (by show (fl ts l t).length + 1 ≤ 1000 + 1 - 1 + 0; omega))
          have elater : natsV (fl ts l t) ++ [V.int (t : Int)] = natsV (fl ts l t ++ [t]) := by
            unfold natsV
            rw [List.map_append]
            rfl
          rw [elater]
          have s8 := same_upd n2 (o := .lst (natsV (fl ts l t ++ [t])))
          have s68 := s7.trans s8
          have e8 : upd (upd H6 L1 (.lst [.int (t : Int)])) L2 (.lst (natsV (fl ts l t ++ [t]))) L2 = some (.lst (natsV (fl ts l t ++ [t]))) := upd_same
          have n26 : H6 L2 = none := s7.free n2
          have L2C : L2 ≠ C := (ne_of_none eC6 n26).symm
          have L2F : L2 ≠ F := (ne_of_none eF6 n26).symm
          have L2S : L2 ≠ S := (ne_of_none eS6 n26).symm
          have n20 := s6.free n26
          generalize upd (upd H6 L1 (.lst [.int (t : Int)])) L2 (.lst (natsV (fl ts l t ++ [t]))) = H8 at s8 s68 e8 ⊢
          have s08 := s6.trans s68
          have llater : (fl ts l t ++ [t]).length ≤ 1000 := by
            rw [List.length_append]
            show (fl ts l t).length + 1 ≤ 1000
            omega
          have lnats : (natsV (fl ts l t ++ [t])).length = (fl ts l t ++ [t]).length := by unfold natsV; rw [List.length_map]
          refine ⟨_, rfl, L2, _, rfl, .inl ⟨SqL.of e8, for_it walk_enum (fun j σ H' => ∃ (y11 y12 : Option V) (bb : Bool), σ = [some (.ref a), some (.int bot), some (.ref b), some (.ref C), some (.ref F), some (.int (t : Int)), some (.ref q), some (.ref S), some (.int (l : Int)), some (.ref L2), some (.bl bb), y11, y12, none] ∧ Same H8 H' ∧ (bb = true ↔ LetC bot (rs.getD l none) (fl ts l t ++ [t]) t j))
            ⟨_, _, true, rfl, fun _ _ e => e, ⟨fun _ at_ s h => absurd h (Nat.not_lt_zero _), fun _ => rfl⟩⟩ (fun i σ H' _ ⟨_, _, _, _, s, _⟩ => SqL.of (s _ _ e8)) ?_ ?_⟩⟩
          · rintro j x σ H9 H9' hj ⟨y11, y12, bb, rfl, s9, hbb⟩ ⟨T2, x1, x2, rfl, nT2, rfl, ex3, ex4⟩
            cases ex3
            have ex4 : (natsV (fl ts l t ++ [t]))[j]? = some x2 := ex4
            unfold natsV at ex4
            rw [List.getElem?_map] at ex4
            obtain ⟨sb, hsb, rfl⟩ := Option.map_eq_some_iff.mp ex4
            have s10 := same_upd nT2 (o := .tup [.int ((j : Nat) : Int), .int (sb : Int)])
            refine ⟨T2, _, rfl, SqT.of upd_same, rfl, _, _, rfl, _, _, rfl, rfl, ?_⟩
            have s810 := s9.trans s10
            have s010 := s08.trans s810
            generalize upd H9 T2 (.tup [.int ((j : Nat) : Int), .int (sb : Int)]) = H10 at s10 s810 s010 ⊢
            refine ⟨_, rfl, bb, rfl, ?_⟩
            cases bb with
            | false =>
              refine iteF ⟨_, _, false, rfl, s810, ⟨fun z => absurd z Bool.false_ne_true, fun z => ?_⟩⟩
              exact hbb.mpr fun at_ s h1 h2 => z at_ s (by omega) h2
            | true =>
              refine iteT ⟨_, rfl, L2, _, rfl, .inl (SqL.of (s810 _ _ e8)), _, rfl, _, _, rfl, rfl, _, rfl, _, rfl, a, xs, _, _, rfl, rfl, SqT.of (s010 _ _ ea), atI_nat hrv, _, rfl, _, rfl, _, rfl, _, _, rfl, rfl, _, _, rfl, rfl, bot, ((t : Int) - (sb : Int) + 1), _, rv, rfl, hrw.same s010, rok, ok.b1, ok.b20, _, _, rfl, rfl, ?_⟩
              refine ⟨_, _, _, rfl, s810, ?_⟩
              rw [decide_eq_true_eq, lnats]
              constructor
              · intro z at_ s h1 h2
                by_cases c : at_ = j
                · subst c
                  rw [hsb] at h2
                  cases h2
                  exact z
                · exact hbb.mp rfl at_ s (by omega) h2
              · intro z
                exact z j sb (Nat.lt_succ_self _) hsb
          · rintro σ H9 ⟨y11, y12, bb, rfl, s9, hbb⟩
            rw [lnats] at hbb
            have s69 := s68.trans s9
            have s09 := s08.trans s9
            have eC9 := s69 _ _ eC6
            have eF9 := s69 _ _ eF6
            have eS9 := s69 _ _ eS6
            have alF9 := alF6.imp fun _ _ z => z.mv (fun q xs e => s69 q _ e)
            have cm9 := cm6.same s69
            have e9 := s9 _ _ e8
            refine ⟨_, rfl, bb, rfl, ?_⟩
            cases bb with
            | false => exact iteF ⟨_, _, _, _, _, us', so, rfl, s09, eC9, eF9, alF9, eS9, pso, fun x hx => List.take_subset_take_left ls (Nat.le_succ i) (sub x hx), by omega, cm9, lc6⟩
            | true =>
              have lus := cm9.1
              refine iteT ⟨_, rfl, _, rfl, _, rfl, C, us', _, l, rfl, rfl, eC9, Evl.ixN_nat (by omega), ?_⟩
              have cm10 : CameAt H H9 (us'.set l (.ref L2)) rs.length (fun j => fl ts j t ++ (if j ∈ so ++ [l] then [t] else [])) [S, F, C] := by
                refine cm9.set hln n20 (by simp only [List.mem_append, List.mem_singleton, or_true, if_true]; exact e9) ?_ fun j hj hjl => ?_
                · simp only [List.mem_cons, List.not_mem_nil, or_false, not_or]
                  exact ⟨L2S, L2F, L2C⟩
                · by_cases c : j ∈ so
                  · simp only [c, List.mem_append, true_or, if_true]
                  · simp only [c, List.mem_append, List.mem_singleton, hjl, or_self, if_false]
              have cm11 := cm10.but (p := C) (o := .lst (us'.set l (.ref L2))) (by simp)
              have tC : ∀ q xs, H9 q = some (.tup xs) → upd H9 C (.lst (us'.set l (.ref L2))) q = some (.tup xs) := fun q xs e => tup_put eC9 e
              have eC11 : upd H9 C (.lst (us'.set l (.ref L2))) C = some (.lst (us'.set l (.ref L2))) := upd_same
              have eF11 : upd H9 C (.lst (us'.set l (.ref L2))) F = some (.lst fs) := by rw [upd_ne CF.symm]; exact eF9
              have eS11 : upd H9 C (.lst (us'.set l (.ref L2))) S = some (.lst (natsV so)) := by rw [upd_ne CS.symm]; exact eS9
              have s011 : Same H (upd H9 C (.lst (us'.set l (.ref L2)))) := same_to s09 nC
              have alF11 := alF9.imp fun _ _ z => z.mv tC
              generalize upd H9 C (.lst (us'.set l (.ref L2))) = H11 at cm11 eC11 eF11 eS11 s011 alF11 ⊢
              refine ⟨_, rfl, .inl ⟨rfl, _, SqL.of eS11⟩, _, rfl, S, _, _, rfl, rfl, eS11, by unfold natsV; rw [List.length_map]; exact lts (by omega), ?_⟩
              have tS : ∀ q xs, H11 q = some (.tup xs) → upd H11 S (.lst (natsV so ++ [.int (l : Int)])) q = some (.tup xs) := fun q xs e => tup_put eS11 e
              refine ⟨_, _, _, _, _, _, so ++ [l], rfl, same_to s011 nS0, by rw [upd_ne CS]; exact eC11, by rw [upd_ne FS]; exact eF11, alF11.imp fun _ _ z => z.mv tS, ?_, ?_, fun x hx => ?_, by rw [List.length_append]; exact Nat.succ_le_succ lso, cm11.but (by simp), fun x hx => ?_⟩
              · rw [upd_same]
                unfold natsV
                rw [List.map_append]
                rfl
              · rw [List.pairwise_append]
                refine ⟨pso, List.pairwise_singleton _ _, fun x hx y hy => ?_⟩
                rw [List.mem_singleton] at hy
                rw [hy]
                exact low x hx
              · rw [List.take_add_one, hl]
                rcases List.mem_append.mp hx with z | z
                · exact List.mem_append_left _ (sub x z)
                · rw [List.mem_singleton] at z
                  rw [z]
                  exact List.mem_append_right _ (List.mem_singleton.mpr rfl)
              · rcases List.mem_append.mp hx with z | z
                · exact lc6 x z
                · rw [List.mem_singleton] at z
                  rw [z]
                  exact hbb.mp rfl
        · rintro σ H6 ⟨y8, y9, y10, y11, y12, us', so, rfl, s6, eC6, eF6, alF6, eS6, pso, sub, lso, cm6, lc6⟩
          refine ⟨_, rfl, .inl ⟨rfl, _, SqL.of eF6⟩, _, rfl, S, _, rfl, .inl ⟨SqL.of eS6, fun p np => ?_⟩⟩
          have s7 := same_upd np (o := .tup (natsV so))
          have ep : upd H6 p (.tup (natsV so)) p = some (.tup (natsV so)) := upd_same
          have s07 := s6.trans s7
          have eC7 := s7 _ _ eC6
          have eF7 := s7 _ _ eF6
          have alF7 := alF6.imp fun _ _ z => z.mv (fun q xs e => s7 q _ e)
          have cm7 := cm6.same s7
          generalize upd H6 p (.tup (natsV so)) = H7 at s7 ep s07 eC7 eF7 alF7 cm7 ⊢
          refine ⟨F, fs, _, rfl, rfl, eF7, lts (by omega), ?_⟩
          have tF : ∀ q xs, H7 q = some (.tup xs) → upd H7 F (.lst (fs ++ [.ref p])) q = some (.tup xs) := fun q xs e => tup_put eF7 e
          have sub2 : ∀ x ∈ so, x ∈ ls := fun x hx => List.mem_of_mem_take (sub x hx)
          subst lt3
          refine ⟨_, _, _, _, _, _, _, _, us', fs ++ [.ref p], ts ++ [so], rfl, same_to s07 nF0, by rw [upd_ne CF]; exact eC7, upd_same, (alF7.imp fun _ _ z => z.mv tF).snoc ⟨p, rfl, tF _ _ ep⟩, by rw [List.length_append]; rfl, ?_, fun x hx => ?_, fun l hl t' ht' => ?_⟩
          · refine ((cm7.but (p := F) (by simp)).less (fun x hx => List.mem_cons_of_mem _ hx)).as fun l hl => ?_
            rw [fl_succ, inL_new, fl_old (Nat.le_refl _)]
            by_cases c : l ∈ so
            · rw [if_pos c, if_pos (decide_eq_true c)]
            · rw [if_neg c, if_neg (by rw [decide_eq_false c]; exact Bool.false_ne_true)]
          · rcases List.mem_append.mp hx with z | z
            · exact ok3 x z
            · rw [List.mem_singleton] at z
              rw [z]
              exact ⟨pso, fun y hy => llt y (sub2 y hy)⟩
          · by_cases c : t' = ts.length
            · rw [c]
              exact thin_new fun hso at_ s h2 => lc6 l hso at_ s (List.getElem?_eq_some_iff.mp h2).1 h2
            · exact thin_old (by omega) (th3 l hl t' (by omega))
      · rintro σ H3 ⟨y5, y6, y7, y8, y9, y10, y11, y12, us, fs, ts, rfl, s3, eC3, eF3, alF, lt3, cm3, ok3, th3⟩
        refine ⟨_, rfl, F, fs, rfl, .inl ⟨SqL.of eF3, fun p np => ?_⟩⟩
        have s4 := same_upd np (o := .tup fs)
        refine k _ p ts (s3.trans s4) ⟨fs, upd_same, alF.imp fun _ _ z => z.mv (fun q xs e => s4 q _ e)⟩ (by omega) ok3 (thin_none ok fun l hl t ht => th3 l hl t (by omega))
end

section
variable {P : Program} {w : World} {K : PySem.W.Frag} {mg : Str → Option Value} {base : Heap} {A : Adr}
def spTold (C : Addr) : Sp := fun vs H Q _ => ∃ (v u : V) (db dr : Td) (h : Addr), vs = [v, u] ∧ Is h H v db ∧ Is h H u dr ∧
  (badP db dr = none → ∀ (H' : Hp) (p x dx : Addr), Same H H' → H' p = some (.tup [.non, .ref x]) → H' x = some (.ins C dx (bFv v u)) → Q (.ref p) H') ∧
  (∀ wd, badP db dr = some wd → ∀ (H' : Hp) (p : Addr), Same H H' → H' p = some (.tup [wd, .non]) → Q (.ref p) H')
theorem ok_law_told (T : Top K mg A) : FnOk P w K mg base CX0 7 A.a_law_told A.d_law_told P_law_told (spTold A.c_Buckets) := by
  refine T.F_law_told.ok sc_law_told (fun vs H Q E h => ?_) (fun cdv A' outer s H vs Q E hr h => ?_)
  · obtain ⟨v, u, db, dr, h, rfl, _⟩ := h
    rfl
  · obtain ⟨v, u, db, dr, h, rfl, iv, iu, yes, no⟩ := h
    refine ⟨_, (pss_cons (ps_set (i := 2) sc_law_told.nd rfl (.inl rfl) (pe_tup (pa_cons pe_str (pa_cons pe_non pa_nil))))
    (pss_cons (ps_try_as (i := 3) rfl rfl sc_law_told.nd rfl rfl (by exact ⟨rfl, by decide, .inl T.gc_BadBuckets⟩) LamX.takes0 (fun W pn xe tk _ => (pss_one (ps_set (i := 2) sc_law_told.nd rfl (.inl rfl) (pe_tup (pa_cons pe_non (pa_cons (pe_make T.mk_Buckets (ok_Buckets___init__ T) (hr.mono (by decide)) (by rfl) T.gc_Buckets T.b_Buckets___init__ .nil (GX.passT 4 tk) (pa_cons (pv 0) (pa_cons (pv 1) pa_nil))) pa_nil)))))) (fun a oe cls d pn hz hf => by exact (pss_one (ps_set (i := 2) sc_law_told.nd rfl (.inl rfl) (pe_tup (pa_cons (pe_xf ⟨T.e1_BadBuckets, T.e2_BadBuckets, T.s_BadBuckets, T.e3_BadBuckets⟩ T.nf_BadBuckets_part hz hf (pv 3) (by rfl)) (pa_cons pe_non pa_nil)))))))
    (pss_one (ps_ret (pv 2))))), ?_⟩
    refine ⟨(by show 2 ≤ sizeLine; decide), fun p0 np0 => ?_⟩
    have s0 := same_upd np0 (o := .tup [.str "other", .non])
    generalize upd H p0 (.tup [.str "other", .non]) = G0 at s0 ⊢
    refine ⟨_, rfl, _, rfl, ?_⟩
    refine fun x dx nx ndx hne => ?_
    have si : Same G0 (upd (upd G0 dx (.own x)) x (.ins A.c_Buckets dx [])) := fun q o e => by
      rw [upd_ne (ne_of_none e nx), upd_ne (ne_of_none e ndx)]
      exact e
    have s01 := s0.trans si
    refine ⟨x, dx, v, u, db, dr, h, rfl, upd_same, iv.same s01, iu.same s01, fun hb H1 k1 e1 => ⟨rfl, ?_⟩, fun wd hb H1 dd s1 ed => ?_⟩
    · have s2 : Same H H1 := fun q o e => by
        have e' := s0 _ _ e
        exact k1 q o (ne_of_none e' nx) (si q o e')
      refine ⟨(by show 2 ≤ sizeLine; decide), fun p np => ?_⟩
      have s4 := same_upd np (o := .tup [.non, .ref x])
      exact ⟨_, rfl, yes hb _ p x dx (s2.trans s4) upd_same (s4 _ _ e1)⟩
    · intro σ hσ
      obtain ⟨x0, x1, x2, x3, rfl⟩ : ∃ x0 x1 x2 x3, σ = [x0, x1, x2, x3] := by
        match σ, hσ with
        | [x0, x1, x2, x3], _ => exact ⟨x0, x1, x2, x3, rfl⟩
      refine ⟨true, T.xm_BadBuckets_BadBuckets, fun _ a ha => ?_, fun z => by cases z⟩
      refine ⟨_, rfl, rfl, rfl, dd, _, _, rfl, ed, rfl, (by show 2 ≤ sizeLine; decide), fun p np => ?_⟩
      exact ⟨_, rfl, no wd hb _ p ((s01.trans s1).trans (same_upd np)) upd_same⟩
end

theorem IsL.take {h : Addr} {H : Hp} : ∀ {vs : List V} {ds : List Td} (n : Nat), IsL h H vs ds → IsL h H (vs.take n) (ds.take n)
  | _, _, 0, _ => .nil
  | _, _, _ + 1, .nil => .nil
  | _, _, n + 1, .cons a t => .cons a (t.take n)
theorem IsL.drop {h : Addr} {H : Hp} : ∀ {vs : List V} {ds : List Td} (n : Nat), IsL h H vs ds → IsL h H (vs.drop n) (ds.drop n)
  | _, _, 0, t => t
  | _, _, _ + 1, .nil => .nil
  | _, _, n + 1, .cons _ t => t.drop n
theorem IsL.rev {h : Addr} {H : Hp} : ∀ {vs : List V} {ds : List Td}, IsL h H vs ds → IsL h H vs.reverse ds.reverse
  | _, _, .nil => .nil
  | _, _, .cons a t => by
    rw [List.reverse_cons, List.reverse_cons]
    exact t.rev.append (.cons a .nil)
theorem isL_rep {h : Addr} {H : Hp} {v : V} {d : Td} (i : Is h H v d) : ∀ n, IsL h H (List.replicate n [v]).flatten (List.replicate n d)
  | 0 => .nil
  | n + 1 => by
    rw [List.replicate_succ, List.replicate_succ, List.flatten_cons]
    exact .cons i (isL_rep i n)
/-- a tuple of things that can be told, at most n -/
def TG (h : Addr) (H : Hp) (p : Addr) (n : Nat) : Prop := ∃ xs ds, H p = some (.tup xs) ∧ IsL h H xs ds ∧ xs.length ≤ n
/-- a list of n good things -/
def LG (h : Addr) (H : Hp) (l : Addr) (n : Nat) : Prop := ∃ xs, H l = some (.lst xs) ∧ (∀ x ∈ xs, Gd h H x) ∧ xs.length = n ∧ l ≠ h
section
variable {h g : Addr} {H H' : Hp}
theorem TG.same {p : Addr} {n : Nat} (t : TG h H p n) (s : Same H H') : TG h H' p n := let ⟨xs, ds, e, l, k⟩ := t; ⟨xs, ds, s _ _ e, l.same s, k⟩
theorem TG.kp {p : Addr} {n : Nat} (t : TG h H p n) (s : Kp h H H') (a : HandAt H h g) : TG h H' p n := let ⟨xs, ds, e, l, k⟩ := t; ⟨xs, ds, tup_kp s a e, l.kp s a, k⟩
theorem TG.gd {p : Addr} {n : Nat} (t : TG h H p n) (hn : n ≤ 200) : Gd h H (.ref p) := let ⟨xs, ds, e, l, k⟩ := t; gd_tup (.tup e l) (by rw [← l.len]; omega)
theorem LG.same {p : Addr} {n : Nat} (t : LG h H p n) (s : Same H H') : LG h H' p n := let ⟨xs, e, l, k, q⟩ := t; ⟨xs, s _ _ e, fun x hx => (l x hx).same s, k, q⟩
theorem LG.kp {p : Addr} {n : Nat} (t : LG h H p n) (s : Kp h H H') (a : HandAt H h g) : LG h H' p n := let ⟨xs, e, l, k, q⟩ := t; ⟨xs, s _ _ q e, fun x hx => (l x hx).kp s a, k, q⟩
theorem cut_is {xs : List V} {ds : List Td} {lo hi : Option Int} (l : IsL h H xs ds) : ∃ es, IsL h H (cutV xs lo hi) es := by
  unfold cutV
  exact ⟨_, (l.drop _).take _⟩
theorem tg_sl {K : PySem.W.Frag} {b : Addr} {n : Nat} {lo hi : Option Int} {Q : VK} (t : TG h H b n) (q : ∀ H' p, Same H H' → TG h H' p n → Q (.ref p) H') : rSlA K (.ref b) lo hi H Q := by
  obtain ⟨xs, ds, e, l, k⟩ := t
  refine sl_at e fun H' p s z => q H' p s ?_
  obtain ⟨es, l2⟩ := cut_is (lo := lo) (hi := hi) (l.same s)
  exact ⟨_, es, z, l2, Nat.le_trans (cutV_length _ _ _) k⟩
theorem tg_cat {K : PySem.W.Frag} {a b : Addr} {n m : Nat} {Q : VK} (t : TG h H a n) (u : TG h H b m) (hn : n + m ≤ 200) (q : ∀ H' p, Same H H' → TG h H' p (n + m) → Q (.ref p) H') : rCatA K (.ref a) (.ref b) H Q := by
  obtain ⟨xs, ds, e, l, k⟩ := t
  obtain ⟨ys, es, e2, l2, k2⟩ := u
  exact cat_at e e2 (by omega) fun H' p s z => q H' p s ⟨_, _, z, (l.same s).append (l2.same s), by rw [List.length_append]; omega⟩
theorem tg_one {p : Addr} {v : V} (t : Gd h H v) (np : H p = none) : TG h (upd H p (.tup [v])) p 1 := let ⟨d, i, _⟩ := t; ⟨_, [d], upd_same, .cons (i.same (same_upd np)) .nil, Nat.le_refl _⟩
theorem lg_new {p : Addr} {xs : List V} (t : ∀ x ∈ xs, Gd h H x) (np : H p = none) (a : HandAt H h g) : LG h (upd H p (.lst xs)) p xs.length := ⟨xs, upd_same, fun x hx => (t x hx).same (same_upd np), rfl, a.ne_none np⟩
theorem LG.any {l : Addr} {n : Nat} (t : LG h H l n) (a : HandAt H h g) (n0 : 0 < n) (n1 : n ≤ 1000) {K : PySem.W.Frag} {Q : VK} (q : ∀ (H' : Hp) (v : V), But h H H' → HandAt H' h g → Gd h H' v → Q v H') :
    ∃ (h' g' l' : Addr) (xs : List V), [V.ref h, V.ref l] = [.ref h', .ref l'] ∧ HandAt H h' g' ∧ SqL K H l' xs ∧ (∀ H', But h' H H' → SqL K H' l' xs) ∧ 0 < xs.length ∧ xs.length ≤ 100000 ∧ ∀ (H' : Hp) (j : Nat) (v : V), But h' H H' → HandAt H' h' g' → xs[j]? = some v → Q v H' := by
  obtain ⟨xs, e, al, k, ne⟩ := t
  exact ⟨h, g, l, xs, rfl, a, SqL.of e, fun H' b => SqL.of ((b l ne).trans e), by omega, by omega, fun H' j v b a' hv => q H' v b a' ((al v (List.mem_of_getElem? hv)).kp b.kp a)⟩
end
theorem rw_is {h : Addr} {H : Hp} : ∀ {rs : List Rw} {vs : List V}, All2 (RowAt H) rs vs → ∃ ds, IsL h H vs ds ∧ ds.length = rs.length
  | _, _, .nil => ⟨[], .nil, rfl⟩
  | none :: _, _, .cons e t => by
    obtain ⟨ds, l, k⟩ := rw_is (h := h) t
    cases (show _ = V.non from e)
    exact ⟨.non :: ds, .cons .non l, by rw [List.length_cons, List.length_cons, k]⟩
  | some (b, tp, kk) :: _, _, .cons ⟨q, e, e1⟩ t => by
    obtain ⟨ds, l, k⟩ := rw_is (h := h) t
    subst e
    exact ⟨.tup [.int b, .int tp, .int kk] :: ds, .cons (.tup e1 (.cons (.int _) (.cons (.int _) (.cons (.int _) .nil)))) l, by rw [List.length_cons, List.length_cons, k]⟩
/-- where the bending stands -/
structure Bt (H H' : Hp) (h g m : Addr) : Prop where
  kp : Kp h H H'
  hand : HandAt H' h g
  tg : TG h H' m 12
  ne : ∃ x xs, H' m = some (.tup (x :: xs))
theorem Bt.same {H H1 H2 : Hp} {h g m : Addr} (b : Bt H H1 h g m) (s : Same H1 H2) : Bt H H2 h g m := ⟨b.kp.trans (kp_of s h), b.hand.same s, b.tg.same s, let ⟨x, xs, e⟩ := b.ne; ⟨x, xs, s _ _ e⟩⟩
theorem Bt.but {H H1 H2 : Hp} {h g m : Addr} (b : Bt H H1 h g m) (s : Kp h H1 H2) (a : HandAt H2 h g) : Bt H H2 h g m := ⟨b.kp.trans s, a, b.tg.kp s b.hand, let ⟨x, xs, e⟩ := b.ne; ⟨x, xs, tup_kp s b.hand e⟩⟩
theorem rep_len {α : Type} (xs : List α) (n : Nat) : (List.replicate n xs).flatten.length = n * xs.length := by
  induction n with
  | zero => simp
  | succ n ih => rw [List.replicate_succ, List.flatten_cons, List.length_append, ih, Nat.succ_mul]; omega
theorem repL {h : Addr} {H : Hp} {xs : List V} {ds : List Td} (l : IsL h H xs ds) : ∀ n, ∃ es, IsL h H (List.replicate n xs).flatten es ∧ es.length = n * ds.length
  | 0 => ⟨[], .nil, by simp⟩
  | n + 1 => by
    obtain ⟨es, k, e⟩ := repL l n
    refine ⟨ds ++ es, ?_, by rw [List.length_append, e, Nat.succ_mul]; omega⟩
    rw [List.replicate_succ, List.flatten_cons]
    exact l.append k
section
variable {P : Program} {w : World} {K : PySem.W.Frag} {mg : Str → Option Value} {base : Heap} {A : Adr}
def spOdd : Sp := fun vs H Q _ => ∃ (h g a : Addr) (bot : Int) (rs : List Rw), vs = [.ref h, .int bot, .ref a] ∧ HandAt H h g ∧ RowsAt H a rs ∧ 1 ≤ rs.length ∧ rs.length ≤ 12 ∧ ∀ (H' : Hp) (x : V), Kp h H H' → HandAt H' h g → Gd h H' x → Q x H'
theorem ok_law_odd_rows (T : Top K mg A) : FnOk P w K mg base CX0 4 A.a_law_odd_rows A.d_law_odd_rows P_law_odd_rows spOdd := by
  refine T.F_law_odd_rows.ok sc_law_odd_rows (fun vs H Q E h => ?_) (fun cdv A' outer s H vs Q E hr h => ?_)
  · obtain ⟨h, g, a, bot, rs, rfl, _⟩ := h
    rfl
  · obtain ⟨h, g, a, bot, rs, rfl, ha, ⟨vs, ea, al⟩, one, few, k⟩ := h
    have big : sizeLine ≥ 1000000 := by decide
    have lv := al.len
    obtain ⟨ds, ids, lds⟩ := rw_is (h := h) al
    have B0 : Bt H H h g a := ⟨fun _ _ _ e => e, ha, ⟨vs, ds, ea, ids, by omega⟩, by
      match vs, lv, ea with
      | x :: vs, _, ea => exact ⟨x, vs, ea⟩
      | [], lv, _ =>
        have : rs.length = 0 := lv
        omega⟩
    refine ⟨_, (pss_cons (ps_set (i := 3) sc_law_odd_rows.nd rfl (.inl rfl) (pe_call (ok_law_draw T) (hr.mono (by decide)) (by rfl) T.g_law_draw T.F_law_draw.kp T.b_law_draw .nil pass0 (pa_cons (pv 0) (pa_cons (pe_callB call_len_seq (by rfl) T.z_len (by decide +kernel) (pa_cons (pv 2) pa_nil)) pa_nil))))
    (Evl.pss_cut (ps_set (i := 4) sc_law_odd_rows.nd rfl (.inl rfl) (pe_ifExp (pt_cmpR op_notN (pe_ix ix_tup (pv 2) (pv 3) (fun _ _ => rfl)) pe_non (nomark _)) (pe_ix ix_tup (pv 2) (pv 3) (fun _ _ => rfl)) (pe_tup (pa_cons pe_int (pa_cons pe_int (pa_cons pe_int pa_nil))))))
    (pss_cons (ps_set (i := 5) sc_law_odd_rows.nd rfl (.inl rfl) (pe_call (ok_law_draw T) (hr.mono (by decide)) (by rfl) T.g_law_draw T.F_law_draw.kp T.b_law_draw .nil pass0 (pa_cons (pv 0) (pa_cons pe_int pa_nil))))
    (Evl.pss_cut (ps_set (i := 6) sc_law_odd_rows.nd rfl (.inl rfl) (pe_call (ok_law_pick T) (hr.mono (by decide)) (by rfl) T.g_law_pick T.F_law_pick.kp T.b_law_pick .nil pass0 (pa_cons (pv 0) (pa_cons (pe_lst (pa_cons (pe_un un_neg pe_int) (pa_cons pe_int (pa_cons pe_int (pa_cons (pe_op op_add (pv 1) pe_int) (pa_cons pe_int (pa_cons pe_bl (pa_cons pe_non (pa_cons pe_str (pa_cons (pe_tup (pa_cons pe_int pa_nil)) (pa_cons (pe_call (ok_law_deep T) (hr.mono (by decide)) (by rfl) T.g_law_deep T.F_law_deep.kp T.b_law_deep .nil pass0 (pa_cons (pv 0) pa_nil)) pa_nil))))))))))) pa_nil))))
    (Evl.pss_cut (ps_set (i := 7) sc_law_odd_rows.nd rfl (.inl rfl) (pe_op op_catA (pe_op op_catA (pe_slice sl_tupA (pv 4) po_none (po_some (pv 5))) (pe_tup (pa_cons (pv 6) pa_nil))) (pe_slice sl_tupA (pv 4) (po_some (pe_op op_add (pv 5) pe_int)) po_none)))
    (Evl.pss_cut (ps_set (i := 8) sc_law_odd_rows.nd rfl (.inl rfl) (pe_lst (pa_cons (pe_op op_catA (pe_op op_catA (pe_slice sl_tupA (pv 2) po_none (po_some (pv 3))) (pe_tup (pa_cons (pv 7) pa_nil))) (pe_slice sl_tupA (pv 2) (po_some (pe_op op_add (pv 3) pe_int)) po_none)) (pa_cons (pe_op op_catA (pe_op op_catA (pe_slice sl_tupA (pv 2) po_none (po_some (pv 3))) (pe_tup (pa_cons (pe_callTy call_list_of (by rfl) T.z_list (by decide +kernel) (pa_cons (pv 4) pa_nil)) pa_nil))) (pe_slice sl_tupA (pv 2) (po_some (pe_op op_add (pv 3) pe_int)) po_none)) (pa_cons (pe_callTy call_list_of (by rfl) T.z_list (by decide +kernel) (pa_cons (pv 2) pa_nil)) (pa_cons (pe_tup pa_nil) pa_nil))))))
    (Evl.pss_cut (ps_set (i := 8) sc_law_odd_rows.nd rfl (.inl rfl) (pe_op op_cat (pv 8) (pe_lst (pa_cons (pe_op op_repT (pv 2) pe_int) (pa_cons pe_non pa_nil)))))
    (pss_one (ps_ret (pe_call (ok_law_pick T) (hr.mono (by decide)) (by rfl) T.g_law_pick T.F_law_pick.kp T.b_law_pick .nil pass0 (pa_cons (pv 0) (pa_cons (pe_op op_cat (pv 8) (pe_lst (pa_cons (pe_ix ix_list (pv 8) pe_int (fun _ _ => rfl)) (pa_cons (pe_ix ix_list (pv 8) pe_int (fun _ _ => rfl)) (pa_cons (pe_op op_catA (pe_op op_catA (pe_slice sl_tupA (pv 2) po_none (po_some (pv 3))) (pe_tup (pa_cons (pe_slice sl_tupA (pv 4) po_none (po_some pe_int)) pa_nil))) (pe_slice sl_tupA (pv 2) (po_some (pe_op op_add (pv 3) pe_int)) po_none)) pa_nil))))) pa_nil)))))))))))), ?_⟩
    unfold tNoPart
    refine ⟨_, rfl, _, rfl, a, vs, rfl, .inr (SqT.of ea), h, g, _, rfl, ha, by omega, by omega, fun H1 d b1 ha1 d0 d1 => ?_⟩
    have B1 := B0.but b1.kp ha1
    have ea1 := tup_kp b1.kp ha ea
    have al1 := al.imp fun _ _ z => z.mv (fun q xs e => tup_kp b1.kp ha e)
    -- row
    refine ⟨fun σ H' => ∃ q, σ = [some (.ref h), some (.int bot), some (.ref a), some (.int d), some (.ref q), none, none, none, none] ∧ Bt H H' h g a ∧ TG h H' q 3, ?_, ?_⟩
    · obtain ⟨v, ev, _⟩ := pick_at d0 d1
      have hi : vs[d.toNat]? = some v := by
        have z := atI_nat (xs := vs) (j := d.toNat) (List.getElem?_eq_getElem (by omega))
        rw [Int.toNat_of_nonneg d0, ev] at z
        rw [List.getElem?_eq_getElem (by omega)]
        exact z.symm
      obtain ⟨r, hr1, hr2⟩ := al1.get hi
      refine ⟨_, rfl, _, rfl, a, vs, d, _, rfl, rfl, SqT.of ea1, ev, rfl, _, rfl, ?_⟩
      match r, hr2 with
      | none, e =>
        cases (show v = V.non from e)
        refine iteF ⟨by show 3 ≤ sizeLine; decide, fun q nq => ?_⟩
        exact ⟨q, rfl, B1.same (same_upd nq), _, _, upd_same, .cons (.int _) (.cons (.int _) (.cons (.int _) .nil)), Nat.le_refl 3⟩
      | some (b, tp, kk), ⟨q, e, eq⟩ =>
        subst e
        refine iteT ⟨_, rfl, _, rfl, a, vs, d, _, rfl, rfl, SqT.of ea1, ev, ?_⟩
        exact ⟨q, rfl, B1, _, _, eq, .cons (.int _) (.cons (.int _) (.cons (.int _) .nil)), Nat.le_refl 3⟩
    clear B1 ea1 al1 b1 ha1 B0
    rintro σ H1 ⟨q, rfl, B, tq⟩
    refine ⟨_, rfl, h, g, 3, rfl, B.hand, by decide, by decide, fun H2 sd b2 ha2 sd0 sd1 => ?_⟩
    have tq := tq.kp b2.kp B.hand
    have B := B.but b2.kp ha2
    clear b2 ha2
    -- part
    refine ⟨fun σ H' => ∃ v, σ = [some (.ref h), some (.int bot), some (.ref a), some (.int d), some (.ref q), some (.int sd), some v, none, none] ∧ Bt H H' h g a ∧ TG h H' q 3 ∧ Gd h H' v, ?_, ?_⟩
    · refine ⟨_, rfl, _, rfl, _, rfl, _, _, rfl, rfl, by show 1 ≤ sizeLine; decide, fun p1 n1 => ?_⟩
      have s3 := same_upd n1 (o := .tup [.int 1])
      have t1 := tg_one (h := h) (v := .int 1) (gd_no (.int 1) rfl) n1
      have B := B.same s3
      have tq := tq.same s3
      generalize upd H2 p1 (.tup [.int 1]) = H3 at s3 t1 B tq ⊢
      refine ⟨_, rfl, h, g, rfl, B.hand, fun H4 dv k4 h4 gd => ⟨by show 10 ≤ sizeLine; decide, fun l nl => ?_⟩⟩
      have tq := tq.kp k4 B.hand
      have t1 := (t1.kp k4 B.hand).gd (by decide)
      have B := B.but k4 h4
      have gl := lg_new (p := l) (xs := [.int (-1), .int 0, .int 21, .int (bot + 1), .int 8, .bl true, .non, .str "1", .ref p1, dv]) (fun x hx => by
        simp only [List.mem_cons, List.not_mem_nil, or_false] at hx
        rcases hx with e | e | e | e | e | e | e | e | e | e <;> subst e
        · exact gd_no (.int _) rfl
        · exact gd_no (.int _) rfl
        · exact gd_no (.int _) rfl
        · exact gd_no (.int _) rfl
        · exact gd_no (.int _) rfl
        · exact gd_no (.bl _) rfl
        · exact gd_no .non rfl
        · exact gd_no (.str _) rfl
        · exact t1
        · exact gd) nl B.hand
      have s5 := same_upd nl (o := .lst [.int (-1), .int 0, .int 21, .int (bot + 1), .int 8, .bl true, .non, .str "1", .ref p1, dv])
      have tq := tq.same s5
      have B := B.same s5
      exact gl.any B.hand (by show 0 < 10; decide) (by show 10 ≤ 1000; decide) fun H6 v b6 h6 gv => ⟨v, rfl, B.but b6.kp h6, tq.kp b6.kp B.hand, gv⟩
    clear tq B
    rintro σ H2 ⟨v, rfl, B, tq, gv⟩
    -- more
    refine ⟨fun σ H' => ∃ r, σ = [some (.ref h), some (.int bot), some (.ref a), some (.int d), some (.ref q), some (.int sd), some v, some (.ref r), none] ∧ Bt H H' h g a ∧ TG h H' q 3 ∧ TG h H' r 7, ?_, ?_⟩
    · refine ⟨_, rfl, _, rfl, _, rfl, ?_⟩
      refine tg_sl tq fun H3 p1 s3 t1 => ?_
      have B := B.same s3
      have tq := tq.same s3
      have gv := gv.same s3
      refine ⟨_, rfl, by show 1 ≤ sizeLine; decide, fun p2 n2 => ?_⟩
      have s4 := same_upd n2 (o := .tup [v])
      have t2 := tg_one gv n2
      have B := B.same s4
      have tq := tq.same s4
      have t1 := t1.same s4
      generalize upd H3 p2 (.tup [v]) = H4 at s4 t2 B tq t1 ⊢
      refine tg_cat t1 t2 (by decide) fun H5 p3 s5 t3 => ?_
      have B := B.same s5
      have tq := tq.same s5
      refine ⟨_, rfl, _, rfl, _, _, rfl, rfl, _, rfl, ?_⟩
      refine tg_sl tq fun H6 p4 s6 t4 => ?_
      have B := B.same s6
      have tq := tq.same s6
      have t3 := t3.same s6
      refine tg_cat t3 t4 (by decide) fun H7 p5 s7 t5 => ?_
      exact ⟨p5, rfl, B.same s7, tq.same s7, t5⟩
    clear tq B gv
    rintro σ H2 ⟨r, rfl, B, tq, tr⟩
    -- some
    refine ⟨fun σ H' => ∃ S, σ = [some (.ref h), some (.int bot), some (.ref a), some (.int d), some (.ref q), some (.int sd), some v, some (.ref r), some (.ref S)] ∧ Bt H H' h g a ∧ TG h H' q 3 ∧ LG h H' S 4, ?_, ?_⟩
    · refine ⟨_, rfl, _, rfl, _, rfl, ?_⟩
      refine tg_sl B.tg fun H3 p1 s3 t1 => ?_
      have B := B.same s3
      have tq := tq.same s3
      have gr := (tr.same s3).gd (by decide)
      refine ⟨_, rfl, by show 1 ≤ sizeLine; decide, fun p2 n2 => ?_⟩
      have s4 := same_upd n2 (o := .tup [.ref r])
      have t2 := tg_one gr n2
      have B := B.same s4
      have tq := tq.same s4
      have t1 := t1.same s4
      generalize upd H3 p2 (.tup [.ref r]) = H4 at s4 t2 B tq t1 ⊢
      refine tg_cat t1 t2 (by decide) fun H5 p3 s5 t3 => ?_
      have B := B.same s5
      have tq := tq.same s5
      refine ⟨_, rfl, _, rfl, _, _, rfl, rfl, _, rfl, ?_⟩
      refine tg_sl B.tg fun H6 p4 s6 t4 => ?_
      have B := B.same s6
      have tq := tq.same s6
      have t3 := t3.same s6
      refine tg_cat t3 t4 (by decide) fun H7 p5 s7 t5 => ?_
      have B := B.same s7
      have tq := tq.same s7
      -- the second
      refine ⟨_, rfl, _, rfl, _, rfl, ?_⟩
      refine tg_sl B.tg fun H8 q1 s8 u1 => ?_
      have B := B.same s8
      have tq := tq.same s8
      have t5 := t5.same s8
      obtain ⟨ys, es, eq, lq, kq⟩ := id tq
      refine ⟨_, rfl, q, ys, rfl, .inr (SqT.of eq), fun l1 n1 => ?_⟩
      have s9 := same_upd n1 (o := .lst ys)
      have g1 : Gd h (upd H8 l1 (.lst ys)) (.ref l1) := gd_no (Is.newL n1 B.hand) rfl
      have B := B.same s9
      have tq := tq.same s9
      have t5 := t5.same s9
      have u1 := u1.same s9
      generalize upd H8 l1 (.lst ys) = H9 at s9 g1 B tq t5 u1 ⊢
      refine ⟨by show 1 ≤ sizeLine; decide, fun q2 m2 => ?_⟩
      have s10 := same_upd m2 (o := .tup [.ref l1])
      have u2 := tg_one g1 m2
      have B := B.same s10
      have tq := tq.same s10
      have t5 := t5.same s10
      have u1 := u1.same s10
      generalize upd H9 q2 (.tup [.ref l1]) = H10 at s10 u2 B tq t5 u1 ⊢
      refine tg_cat u1 u2 (by decide) fun H11 q3 s11 u3 => ?_
      have B := B.same s11
      have tq := tq.same s11
      have t5 := t5.same s11
      refine ⟨_, rfl, _, rfl, _, _, rfl, rfl, _, rfl, ?_⟩
      refine tg_sl B.tg fun H12 q4 s12 u4 => ?_
      have B := B.same s12
      have tq := tq.same s12
      have t5 := t5.same s12
      have u3 := u3.same s12
      refine tg_cat u3 u4 (by decide) fun H13 q5 s13 u5 => ?_
      have B := B.same s13
      have tq := tq.same s13
      have t5 := t5.same s13
      -- list, ()
      obtain ⟨zs, fs, ez, lz, kz⟩ := id B.tg
      refine ⟨_, rfl, a, zs, rfl, .inr (SqT.of ez), fun l2 n2 => ?_⟩
      have s14 := same_upd n2 (o := .lst zs)
      have g2 : Gd h (upd H13 l2 (.lst zs)) (.ref l2) := gd_no (Is.newL n2 B.hand) rfl
      have B := B.same s14
      have tq := tq.same s14
      have t5 := t5.same s14
      have u5 := u5.same s14
      generalize upd H13 l2 (.lst zs) = H14 at s14 g2 B tq t5 u5 ⊢
      refine ⟨Nat.zero_le _, fun e0 n0 => ?_⟩
      have s15 := same_upd n0 (o := .tup [])
      have g3 : Gd h (upd H14 e0 (.tup [])) (.ref e0) := gd_tup (.tup upd_same .nil) (Nat.zero_le _)
      have B := B.same s15
      have tq := tq.same s15
      have t5 := (t5.same s15).gd (by decide)
      have u5 := (u5.same s15).gd (by decide)
      have g2 := g2.same s15
      generalize upd H14 e0 (.tup []) = H15 at s15 g3 B tq t5 u5 g2 ⊢
      refine ⟨by show 4 ≤ sizeLine; decide, fun S nS => ?_⟩
      refine ⟨S, rfl, B.same (same_upd nS), tq.same (same_upd nS), lg_new (xs := [.ref p5, .ref q5, .ref l2, .ref e0]) (fun x hx => ?_) nS B.hand⟩
      simp only [List.mem_cons, List.not_mem_nil, or_false] at hx
      rcases hx with e | e | e | e <;> subst e
      · exact t5
      · exact u5
      · exact g2
      · exact g3
    clear tq B tr
    rintro σ H2 ⟨S, rfl, B, tq, gS⟩
    refine ⟨fun σ H' => ∃ S, σ = [some (.ref h), some (.int bot), some (.ref a), some (.int d), some (.ref q), some (.int sd), some v, some (.ref r), some (.ref S)] ∧ Bt H H' h g a ∧ TG h H' q 3 ∧ LG h H' S 6, ?_, ?_⟩
    · obtain ⟨zs, fs, ez, lz, kz⟩ := id B.tg
      obtain ⟨z0, zs0, ez0⟩ := B.ne
      have nez : zs ≠ [] := fun e => by
        rw [ez, e] at ez0
        cases ez0
      refine ⟨_, rfl, _, rfl, a, 7, zs, rfl, rfl, SqT.of ez, nez, by decide, by decide, by omega, fun p np => ?_⟩
      have s3 := same_upd np (o := .tup (List.replicate (7 : Int).toNat zs).flatten)
      have gp : Gd h (upd H2 p (.tup (List.replicate (7 : Int).toNat zs).flatten)) (.ref p) := by
        obtain ⟨es, l7, e7⟩ := repL (lz.same s3) 7
        have ll := lz.len
        exact gd_tup (.tup upd_same l7) (by omega)
      have B := B.same s3
      have tq := tq.same s3
      have gS := gS.same s3
      generalize upd H2 p (.tup (List.replicate (7 : Int).toNat zs).flatten) = H3 at s3 gp B tq gS ⊢
      refine ⟨by show 2 ≤ sizeLine; decide, fun l nl => ?_⟩
      have s4 := same_upd nl (o := .lst [.ref p, .non])
      have el : upd H3 l (.lst [.ref p, .non]) l = some (.lst [.ref p, .non]) := upd_same
      have B := B.same s4
      have tq := tq.same s4
      have gS := gS.same s4
      have gp := gp.same s4
      generalize upd H3 l (.lst [.ref p, .non]) = H4 at s4 el gp B tq gS ⊢
      obtain ⟨ws, eS, aS, lS, nS⟩ := gS
      refine ⟨S, l, _, _, rfl, rfl, eS, el, by show ws.length + 2 ≤ sizeLine; omega, fun S2 nS2 => ?_⟩
      have gl := lg_new (p := S2) (xs := ws ++ [.ref p, .non]) (fun x hx => by
        rcases List.mem_append.mp hx with z | z
        · exact aS x z
        · simp only [List.mem_cons, List.not_mem_nil, or_false] at z
          rcases z with e | e <;> subst e
          · exact gp
          · exact gd_no .non rfl) nS2 B.hand
      have l6 : (ws ++ [V.ref p, V.non]).length = 6 := by
        rw [List.length_append, lS]
        rfl
      rw [l6] at gl
      exact ⟨S2, rfl, B.same (same_upd nS2), tq.same (same_upd nS2), gl⟩
    clear tq B gS
    rintro σ H2 ⟨S, rfl, B, tq, gS⟩
    obtain ⟨ws, eS, aS, lS, nS⟩ := id gS
    obtain ⟨w0, ew0⟩ : ∃ w0, ws[0]? = some w0 := ⟨_, List.getElem?_eq_getElem (by omega)⟩
    have gw0 := aS w0 (List.mem_of_getElem? ew0)
    refine ⟨_, rfl, _, rfl, _, rfl, S, ws, 0, w0, rfl, rfl, SqL.of eS, atI_nat (j := 0) ew0, _, rfl, S, ws, 0, w0, rfl, rfl, SqL.of eS, atI_nat (j := 0) ew0, ?_⟩
    refine ⟨_, rfl, _, rfl, _, rfl, ?_⟩
    refine tg_sl B.tg fun H3 p1 s3 t1 => ?_
    have B := B.same s3
    have tq := tq.same s3
    have gS := gS.same s3
    have gw0 := gw0.same s3
    refine ⟨_, rfl, 2, rfl, ?_⟩
    refine tg_sl tq fun H4 p2 s4 t2 => ?_
    have B := B.same s4
    have gS := gS.same s4
    have gw0 := gw0.same s4
    have t1 := t1.same s4
    refine ⟨by show 1 ≤ sizeLine; decide, fun p3 n3 => ?_⟩
    have s5 := same_upd n3 (o := .tup [.ref p2])
    have t3 := tg_one (t2.gd (by decide)) n3
    have B := B.same s5
    have gS := gS.same s5
    have gw0 := gw0.same s5
    have t1 := t1.same s5
    generalize upd H4 p3 (.tup [.ref p2]) = H5 at s5 t3 B gS gw0 t1 ⊢
    refine tg_cat t1 t3 (by decide) fun H6 p4 s6 t4 => ?_
    have B := B.same s6
    have gS := gS.same s6
    have gw0 := gw0.same s6
    refine ⟨_, rfl, _, rfl, _, _, rfl, rfl, _, rfl, ?_⟩
    refine tg_sl B.tg fun H7 p5 s7 t5 => ?_
    have B := B.same s7
    have gS := gS.same s7
    have gw0 := gw0.same s7
    have t4 := t4.same s7
    refine tg_cat t4 t5 (by decide) fun H8 p6 s8 t6 => ?_
    have B := B.same s8
    have gS := gS.same s8
    have gw0 := gw0.same s8
    refine ⟨by show 3 ≤ sizeLine; decide, fun l nl => ?_⟩
    have s9 := same_upd nl (o := .lst [w0, w0, .ref p6])
    have el : upd H8 l (.lst [w0, w0, .ref p6]) l = some (.lst [w0, w0, .ref p6]) := upd_same
    have B := B.same s9
    have gS := gS.same s9
    have gw0 := gw0.same s9
    have t6 := (t6.same s9).gd (by decide)
    generalize upd H8 l (.lst [w0, w0, .ref p6]) = H9 at s9 el B gS gw0 t6 ⊢
    obtain ⟨ws, eS, aS, lS, nS⟩ := gS
    refine ⟨S, l, _, _, rfl, rfl, eS, el, by show ws.length + 3 ≤ sizeLine; omega, fun S2 nS2 => ?_⟩
    have gl := lg_new (p := S2) (xs := ws ++ [w0, w0, .ref p6]) (fun x hx => by
      rcases List.mem_append.mp hx with z | z
      · exact aS x z
      · simp only [List.mem_cons, List.not_mem_nil, or_false] at z
        rcases z with e | e | e <;> subst e
        · exact gw0
        · exact gw0
        · exact t6) nS2 B.hand
    have l9 : (ws ++ [w0, w0, V.ref p6]).length = 9 := by
      rw [List.length_append, lS]
      rfl
    rw [l9] at gl
    have B := B.same (same_upd nS2 (o := .lst (ws ++ [w0, w0, .ref p6])))
    exact gl.any B.hand (by decide) (by decide) fun H10 x b10 h10 gx => k H10 x (B.kp.trans b10.kp) h10 gx
end

theorem same_row {h : Addr} {H : Hp} {bot : Int} {v : V} {d : Td} (i : Is h H v d) (c : rowB bot d = true) : SameV H 1 v v := by
  by_cases cn : d = .non
  · subst cn
    cases i
    exact .plain .non
  have erow : rowB bot d = bucketB bot d := by
    cases d <;> first | rfl | exact absurd rfl cn
  rw [erow] at c
  cases q : tupN 3 d with
  | false =>
    rw [bucketB_no q] at c
    cases c
  | true =>
    obtain ⟨d1, d2, d3, rfl⟩ := tup3 q
    obtain ⟨a, xs, ds, rfl, e0, e, l⟩ := isT_of i rfl
    injection e0 with e0
    subst e0
    have c : (inI 1 20 d1 && (inI 0 bot d2 && inI 0 7 d3)) = true := c
    rw [Bool.and_eq_true, Bool.and_eq_true] at c
    have l3 := l.len
    match xs, l, l3, e with
    | [x1, x2, x3], l, _, e =>
    obtain ⟨_, _, _, e4, i1, i2, i3⟩ := l.three
    simp only [List.cons.injEq, and_true] at e4
    obtain ⟨rfl, rfl, rfl⟩ := e4
    have pl : ∀ {lo hi : Int} {x : V} {d : Td}, Is h H x d → inI lo hi d = true → Plain x := fun {lo hi x d} i c => by
      cases i with
      | int i => exact .int i
      | _ => cases c
    refine .tup e e rfl (by show 3 ≤ 100; decide) fun i u v hu hv => ?_
    rw [hu] at hv
    cases hv
    have m := List.mem_of_getElem? hu
    simp only [List.mem_cons, List.not_mem_nil, or_false] at m
    rcases m with z | z | z <;> subst z
    · exact .plain (pl i1 c.1)
    · exact .plain (pl i2 c.2.1)
    · exact .plain (pl i3 c.2.2)
theorem first_all {bot : Int} : ∀ {ds : List Td} {k : Nat}, firstBad bot ds k = none → ∀ (i : Nat) (e : Td), ds[i]? = some e → rowB bot e = true
  | [], _, _, i, e, h => by simp at h
  | d :: ds, k, h, i, e, hi => by
    have h : (if rowB bot d = true then firstBad bot ds (k + 1) else some k) = none := h
    by_cases c : rowB bot d = true
    · rw [if_pos c] at h
      match i, hi with
      | 0, hi =>
        have hi : d = e := by simpa using hi
        rw [← hi]
        exact c
      | i + 1, hi => exact first_all h i e (by simpa using hi)
    · rw [if_neg c] at h
      cases h
theorem bad_good {db dr : Td} (h : badP db dr = none) : ∃ bot ds, db = .int bot ∧ dr = .tup ds ∧ ds.length ≤ 12 ∧ ∀ (i : Nat) (e : Td), ds[i]? = some e → rowB bot e = true := by
  cases db with
  | int bot =>
    have h : (if (decide (1 ≤ bot) && decide (bot ≤ 20)) = true then (match dr with
      | .tup ds => if (decide (1 ≤ ds.length) && decide (ds.length ≤ 12)) = true then (firstBad bot ds 0).map fun (i : Nat) => V.int (i : Int) else some (.str "rows")
      | _ => some (.str "rows")) else some (.str "bottom")) = none := h
    by_cases c : (decide (1 ≤ bot) && decide (bot ≤ 20)) = true
    · rw [if_pos c] at h
      cases dr with
      | tup ds =>
        have h : (if (decide (1 ≤ ds.length) && decide (ds.length ≤ 12)) = true then (firstBad bot ds 0).map fun (i : Nat) => V.int (i : Int) else some (.str "rows")) = none := h
        by_cases c2 : (decide (1 ≤ ds.length) && decide (ds.length ≤ 12)) = true
        · rw [if_pos c2] at h
          rw [Bool.and_eq_true, decide_eq_true_eq, decide_eq_true_eq] at c2
          refine ⟨bot, ds, rfl, rfl, c2.2, first_all (k := 0) ?_⟩
          exact Option.map_eq_none_iff.mp h
        · rw [if_neg c2] at h
          cases h
      | _ => cases h
    · rw [if_neg c] at h
      cases h
  | _ => cases h
theorem bad_plain {db dr : Td} {x : V} (h : badP db dr = some x) : Plain x ∧ x ≠ .non := by
  cases db with
  | int bot =>
    have h : (if (decide (1 ≤ bot) && decide (bot ≤ 20)) = true then (match dr with
      | .tup ds => if (decide (1 ≤ ds.length) && decide (ds.length ≤ 12)) = true then (firstBad bot ds 0).map fun (i : Nat) => V.int (i : Int) else some (.str "rows")
      | _ => some (.str "rows")) else some (.str "bottom")) = some x := h
    by_cases c : (decide (1 ≤ bot) && decide (bot ≤ 20)) = true
    · rw [if_pos c] at h
      cases dr with
      | tup ds =>
        have h : (if (decide (1 ≤ ds.length) && decide (ds.length ≤ 12)) = true then (firstBad bot ds 0).map fun (i : Nat) => V.int (i : Int) else some (.str "rows")) = some x := h
        by_cases c2 : (decide (1 ≤ ds.length) && decide (ds.length ≤ 12)) = true
        · rw [if_pos c2] at h
          obtain ⟨i, _, rfl⟩ := Option.map_eq_some_iff.mp h
          exact ⟨.int _, fun z => by cases z⟩
        · rw [if_neg c2] at h
          cases h
          exact ⟨.str _, fun z => by cases z⟩
      | _ =>
        cases h
        exact ⟨.str _, fun z => by cases z⟩
    · rw [if_neg c] at h
      cases h
      exact ⟨.str _, fun z => by cases z⟩
  | _ =>
    cases h
    exact ⟨.str _, fun z => by cases z⟩
theorem bv1 {v u : V} : List.lookup ("bottom" : Str) (bFv v u) = some v := rfl
theorem bv2 {v u : V} : List.lookup ("rows" : Str) (bFv v u) = some u := rfl
section
variable {P : Program} {w : World} {K : PySem.W.Frag} {mg : Str → Option Value} {base : Heap} {A : Adr}
def spJudged : Sp := fun vs H Q _ => ∃ (h g a : Addr) (bot : Int) (rs : List Rw), vs = [.ref h, .int bot, .ref a] ∧ HandAt H h g ∧ RowsAt H a rs ∧ 1 ≤ rs.length ∧ rs.length ≤ 12 ∧ ∀ (H' : Hp), Kp h H H' → HandAt H' h g → Q (.bl true) H'
theorem ok_law_judged_right (T : Top K mg A) : FnOk P w K mg base CX0 8 A.a_law_judged_right A.d_law_judged_right P_law_judged_right spJudged := by
  refine T.F_law_judged_right.ok sc_law_judged_right (fun vs H Q E h => ?_) (fun cdv A' outer s H vs Q E hr h => ?_)
  · obtain ⟨h, g, a, bot, rs, rfl, _⟩ := h
    rfl
  · obtain ⟨h, g, a, bot, rs, rfl, ha, ra, one, few, k⟩ := h
    refine ⟨_, (pss_cons (ps_set (i := 3) sc_law_judged_right.nd rfl (.inl rfl) (pe_call (ok_law_pick T) (hr.mono (by decide)) (by rfl) T.g_law_pick T.F_law_pick.kp T.b_law_pick .nil pass0 (pa_cons (pv 0) (pa_cons (pe_lst (pa_cons (pv 1) (pa_cons (pv 1) (pa_cons pe_int (pa_cons pe_int (pa_cons (pe_un un_neg pe_int) (pa_cons pe_bl (pa_cons pe_non (pa_cons pe_str (pa_cons (pe_tup (pa_cons pe_int pa_nil)) (pa_cons (pe_call (ok_law_deep T) (hr.mono (by decide)) (by rfl) T.g_law_deep T.F_law_deep.kp T.b_law_deep .nil pass0 (pa_cons (pv 0) pa_nil)) pa_nil))))))))))) pa_nil))))
    (Evl.pss_cut (ps_set (i := 4) sc_law_judged_right.nd rfl (.inl rfl) (pe_call (ok_law_odd_rows T) (hr.mono (by decide)) (by rfl) T.g_law_odd_rows T.F_law_odd_rows.kp T.b_law_odd_rows .nil pass0 (pa_cons (pv 0) (pa_cons (pv 1) (pa_cons (pv 2) pa_nil)))))
    (pss_cons (ps_asg (pe_call (ok_law_told T) (hr.mono (by decide)) (by rfl) T.g_law_told T.F_law_told.kp T.b_law_told .nil pass0 (pa_cons (pv 3) (pa_cons (pv 4) pa_nil))) (pg_tup rfl (pgs_cons (pg_name (i := 5) sc_law_judged_right.nd rfl (.inl rfl)) (pgs_cons (pg_name (i := 6) sc_law_judged_right.nd rfl (.inl rfl)) pgs_nil))))
    (pss_cons (ps_if (pt_not (pt_val (pe_call (ok_law_same T) (hr.mono (by decide)) (by rfl) T.g_law_same T.F_law_same.kp T.b_law_same .nil pass0 (pa_cons (pv 5) (pa_cons (pe_call (ok_law_due T) (hr.mono (by decide)) (by rfl) T.g_law_due T.F_law_due.kp T.b_law_due .nil pass0 (pa_cons (pv 3) (pa_cons (pv 4) pa_nil))) pa_nil))))) (pss_one (ps_ret pe_bl)) pss_nil)
    (pss_one (ps_ret (pe_or (pe_cmpR op_notN (pv 5) pe_non (nomark _)) (pe_one (pe_call (ok_law_same T) (hr.mono (by decide)) (by rfl) T.g_law_same T.F_law_same.kp T.b_law_same .nil pass0 (pa_cons (pe_lst (pa_cons (pe_fld (pv 6) rfl) (pa_cons (pe_fld (pv 6) rfl) pa_nil))) (pa_cons (pe_lst (pa_cons (pv 3) (pa_cons (pv 4) pa_nil))) pa_nil))))))))))), ?_⟩
    refine ⟨_, rfl, _, rfl, _, rfl, _, rfl, by show 1 ≤ sizeLine; decide, fun p1 n1 => ?_⟩
    have s1 := same_upd n1 (o := .tup [.int 5])
    have t1 := tg_one (h := h) (v := .int 5) (gd_no (.int 5) rfl) n1
    have ha1 := ha.same s1
    generalize upd H p1 (.tup [.int 5]) = H1 at s1 t1 ha1 ⊢
    refine ⟨_, rfl, h, g, rfl, ha1, fun H2 dv k2 h2 gd => ⟨by show 10 ≤ sizeLine; decide, fun l nl => ?_⟩⟩
    have t1 := (t1.kp k2 ha1).gd (by decide)
    have gl := lg_new (p := l) (xs := [.int bot, .int bot, .int 0, .int 21, .int (-1), .bl true, .non, .str "5", .ref p1, dv]) (fun x hx => by
      simp only [List.mem_cons, List.not_mem_nil, or_false] at hx
      rcases hx with e | e | e | e | e | e | e | e | e | e <;> subst e
      · exact gd_no (.int _) rfl
      · exact gd_no (.int _) rfl
      · exact gd_no (.int _) rfl
      · exact gd_no (.int _) rfl
      · exact gd_no (.int _) rfl
      · exact gd_no (.bl _) rfl
      · exact gd_no .non rfl
      · exact gd_no (.str _) rfl
      · exact t1
      · exact gd) nl h2
    have s3 := same_upd nl (o := .lst [.int bot, .int bot, .int 0, .int 21, .int (-1), .bl true, .non, .str "5", .ref p1, dv])
    have kk : Kp h H (upd H2 l (.lst [.int bot, .int bot, .int 0, .int 21, .int (-1), .bl true, .non, .str "5", .ref p1, dv])) := ((kp_of s1 h).trans k2).trans (kp_of s3 h)
    have h3 := h2.same s3
    generalize upd H2 l (.lst [.int bot, .int bot, .int 0, .int 21, .int (-1), .bl true, .non, .str "5", .ref p1, dv]) = H3 at gl s3 kk h3 ⊢
    refine gl.any h3 (by show 0 < 10; decide) (by show 10 ≤ 1000; decide) fun H4 ov b4 h4 go => ?_
    have kk := kk.trans b4.kp
    clear gl h3 s3 t1 gd h2 k2 b4
    refine ⟨fun σ H' => ∃ sv, σ = [some (.ref h), some (.int bot), some (.ref a), some ov, some sv, none, none] ∧ Kp h H H' ∧ HandAt H' h g ∧ Gd h H' ov ∧ Gd h H' sv, ?_, ?_⟩
    · refine ⟨_, rfl, _, rfl, _, rfl, h, g, a, bot, rs, rfl, h4, ra.mv (fun q xs e => tup_kp kk ha e), one, few, fun H5 x k5 h5 gx => ?_⟩
      exact ⟨x, rfl, kk.trans k5, h5, go.kp k5 h4, gx⟩
    clear kk h4 go
    rintro σ H4 ⟨sv, rfl, k4, h4, go, gs⟩
    obtain ⟨db, iv, _⟩ := go
    obtain ⟨dr, iu, _⟩ := gs
    have fin : ∀ H', Same H4 H' → Q (.bl true) H' := fun H' s => k H' (k4.trans (kp_of s h)) (h4.same s)
    refine ⟨_, rfl, _, rfl, ov, sv, db, dr, h, rfl, iv, iu, fun hb H5 p x dx s5 e5 ex => ?_, fun wd hb H5 p s5 e5 => ?_⟩
    · refine ⟨p, _, rfl, SqT.of e5, rfl, _, _, rfl, _, _, rfl, rfl, ?_⟩
      refine ⟨_, rfl, _, rfl, _, rfl, ov, sv, db, dr, h, rfl, iv.same s5, iu.same s5, fun H6 s6 => ?_⟩
      rw [hb]
      have s46 := s5.trans s6
      refine ⟨.non, .non, 0, rfl, .plain .non, by decide, fun H7 s7 => ⟨true, rfl, iteF ?_⟩⟩
      have s47 := s46.trans s7
      refine ⟨_, rfl, rfl, _, rfl, iteF ?_⟩
      have ex7 := (s6.trans s7) _ _ ex
      refine ⟨_, rfl, x, _, _, _, _, rfl, ex7, T.cl_Buckets, T.n_Buckets_bottom, bv1, _, rfl, x, _, _, _, _, rfl, ex7, T.cl_Buckets, T.n_Buckets_rows, bv2, by show 2 ≤ sizeLine; decide, fun l1 n1 => ?_⟩
      have s8 := same_upd n1 (o := .lst [ov, sv])
      have e8 : upd H7 l1 (.lst [ov, sv]) l1 = some (.lst [ov, sv]) := upd_same
      have s48 := s47.trans s8
      generalize upd H7 l1 (.lst [ov, sv]) = H8 at s8 e8 s48 ⊢
      refine ⟨_, rfl, _, rfl, by show 2 ≤ sizeLine; decide, fun l2 n2 => ?_⟩
      have s9 := same_upd n2 (o := .lst [ov, sv])
      have s49 := s48.trans s9
      refine ⟨.ref l1, .ref l2, 3, rfl, .lst (s9 _ _ e8) upd_same rfl (by show 2 ≤ 100; decide) fun i u v hu hv => ?_, by decide, fun H10 s10 => fin _ (s49.trans s10)⟩
      rw [hu] at hv
      cases hv
      obtain ⟨bt, ds, rfl, rfl, fewd, good⟩ := bad_good hb
      have m := List.mem_of_getElem? hu
      simp only [List.mem_cons, List.not_mem_nil, or_false] at m
      rcases m with z | z
      · subst z
        cases iv
        exact .plain (.int _)
      · subst z
        obtain ⟨aa, ws, ds', rfl, e0, ea, al⟩ := isT_of (iu.same s49) rfl
        injection e0 with e0
        subst e0
        have ll := al.len
        refine .tup ea ea rfl (by omega) fun i u v hu hv => ?_
        rw [hu] at hv
        cases hv
        obtain ⟨d, hd, id⟩ := al.get hu
        exact same_row id (good i d hd)
    · obtain ⟨pl, nn⟩ := bad_plain hb
      refine ⟨p, _, rfl, SqT.of e5, rfl, _, _, rfl, _, _, rfl, rfl, ?_⟩
      refine ⟨_, rfl, _, rfl, _, rfl, ov, sv, db, dr, h, rfl, iv.same s5, iu.same s5, fun H6 s6 => ?_⟩
      rw [hb]
      refine ⟨wd, wd, 0, rfl, .plain pl, by decide, fun H7 s7 => ⟨true, rfl, iteF ?_⟩⟩
      refine ⟨_, rfl, rfl, _, rfl, ?_⟩
      rw [decide_eq_false nn]
      exact iteT (fin _ ((s5.trans s6).trans s7))
end

/-! ### a long stream -/
def f54 (bot tp n : Int) : Int := tp * n / bot
theorem f_add {bot tp m n : Int} (hb : 1 ≤ bot) (t0 : 0 ≤ tp) (t1 : tp ≤ bot) (hm : 0 ≤ m) (hn : 0 ≤ n) : f54 bot tp (m + n) ≤ f54 bot tp m + n ∧ f54 bot tp (m + n) ≤ f54 bot tp m + f54 bot tp n + 1 ∧ 0 ≤ f54 bot tp m := by
  have q0 : 0 ≤ f54 bot tp m := Int.ediv_nonneg (Int.mul_nonneg t0 hm) (by omega)
  refine ⟨?_, ?_, q0⟩
  · unfold f54
    have h1 : tp * (m + n) ≤ tp * m + n * bot := by
      rw [Int.mul_add]
      have : tp * n ≤ bot * n := Int.mul_le_mul_of_nonneg_right t1 hn
      rw [Int.mul_comm n bot]
      omega
    have h2 : (tp * m + n * bot) / bot = tp * m / bot + n := Int.add_mul_ediv_right _ _ (by omega)
    rw [← h2]
    exact Int.ediv_le_ediv (by omega) h1
  · unfold f54
    have d1 := Int.mul_ediv_add_emod (tp * m) bot
    have d2 := Int.mul_ediv_add_emod (tp * n) bot
    have r1 := Int.emod_lt_of_pos (tp * m) (show 0 < bot by omega)
    have r2 := Int.emod_lt_of_pos (tp * n) (show 0 < bot by omega)
    have e : tp * (m + n) < (tp * m / bot + tp * n / bot + 2) * bot := by
      rw [Int.mul_add]
      have : (tp * m / bot + tp * n / bot + 2) * bot = bot * (tp * m / bot) + bot * (tp * n / bot) + 2 * bot := by
        rw [Int.add_mul, Int.add_mul, Int.mul_comm (tp * m / bot) bot, Int.mul_comm (tp * n / bot) bot]
      rw [this]
      omega
    have z := (Int.ediv_lt_iff_lt_mul (a := tp * (m + n)) (b := tp * m / bot + tp * n / bot + 2) (show 0 < bot by omega)).mpr e
    omega
theorem sent_add {bot b tp k m n : Int} (hb : 1 ≤ bot) (ok : RowOk bot (some (b, tp, k))) (hm : 0 ≤ m) (hn : 0 ≤ n) : sentR bot (m + n) (some (b, tp, k)) ≤ sentR bot m (some (b, tp, k)) + sentR bot n (some (b, tp, k)) := by
  obtain ⟨⟨b1, _⟩, ⟨t0, t1⟩, _⟩ := ok
  obtain ⟨h1, h2, h3⟩ := f_add hb t0 t1 hm hn
  obtain ⟨h4, _, h5⟩ := f_add hb t0 t1 hn hm
  rw [Int.add_comm n m] at h4
  show mn (m + n) (b + f54 bot tp (m + n)) ≤ mn m (b + f54 bot tp m) + mn n (b + f54 bot tp n)
  unfold mn
  split <;> split <;> split <;> omega
theorem sent_inc {bot b tp k n : Int} (hb : 1 ≤ bot) (ok : RowOk bot (some (b, tp, k))) (hn : 0 ≤ n) : sentR bot (n + 1) (some (b, tp, k)) ≤ sentR bot n (some (b, tp, k)) + 1 := by
  have h := sent_add hb ok hn (show (0 : Int) ≤ 1 by decide)
  have z : sentR bot 1 (some (b, tp, k)) ≤ 1 := by
    show mn 1 _ ≤ 1
    unfold mn
    split <;> omega
  omega
theorem sent_zero {bot b tp k : Int} (ok : RowOk bot (some (b, tp, k))) : sentR bot 0 (some (b, tp, k)) = 0 := by
  obtain ⟨⟨b1, _⟩, _⟩ := ok
  show mn 0 (b + tp * 0 / bot) = 0
  rw [Int.mul_zero, Int.zero_ediv]
  unfold mn
  split <;> omega
def sendsB (bot : Int) (r : Rw) (t : Nat) : Bool := decide (sentR bot (t : Int) r < sentR bot ((t : Int) + 1) r)
def lotS (bot : Int) (r : Rw) (t : Nat) : List Nat := if sendsB bot r t = true then [0] else []
theorem in_long {bot : Int} {r : Rw} {n l t : Nat} (ht : t < n) : inL ((List.range n).map (lotS bot r)) l t = (decide (l = 0) && sendsB bot r t) := by
  unfold inL
  rw [getD_some (a := lotS bot r t) (by rw [List.getElem?_map, List.getElem?_range ht]; rfl)]
  unfold lotS
  by_cases c : sendsB bot r t = true
  · rw [if_pos c, c, Bool.and_true]
    exact decide_eq_decide.mpr List.mem_singleton
  · rw [if_neg c]
    rw [Bool.not_eq_true] at c
    rw [c, Bool.and_false]
    exact decide_eq_false List.not_mem_nil
theorem dn_long {bot b tp k : Int} {n t : Nat} (hb : 1 ≤ bot) (ok : RowOk bot (some (b, tp, k))) (ht : t < n) : ∀ m, m ≤ t + 1 → (dn ((List.range n).map (lotS bot (some (b, tp, k)))) 0 t m : Int) + sentR bot ((t + 1 - m : Nat) : Int) (some (b, tp, k)) = sentR bot ((t + 1 : Nat) : Int) (some (b, tp, k))
  | 0, _ => by
    rw [Nat.sub_zero]
    show ((0 : Nat) : Int) + _ = _
    omega
  | m + 1, h => by
    have ih := dn_long hb ok ht m (by omega)
    have e : t + 1 - m = (t - m) + 1 := by omega
    have e2 : t + 1 - (m + 1) = t - m := by omega
    rw [e] at ih
    rw [e2]
    have d : dn ((List.range n).map (lotS bot (some (b, tp, k)))) 0 t (m + 1) = dn ((List.range n).map (lotS bot (some (b, tp, k)))) 0 t m + (if inL ((List.range n).map (lotS bot (some (b, tp, k)))) 0 (t - m) = true then 1 else 0) := rfl
    rw [d, in_long (by omega), decide_eq_true rfl, Bool.true_and]
    have i1 := sent_inc (n := ((t - m : Nat) : Int)) hb ok (by omega)
    have i2 := sent_mono (n := ((t - m : Nat) : Int)) (m := ((t - m : Nat) : Int) + 1) ok hb (by omega)
    have ih : (dn ((List.range n).map (lotS bot (some (b, tp, k)))) 0 t m : Int) + sentR bot (((t - m : Nat) : Int) + 1) (some (b, tp, k)) = sentR bot ((t + 1 : Nat) : Int) (some (b, tp, k)) := ih
    by_cases c : sendsB bot (some (b, tp, k)) (t - m) = true
    · rw [if_pos c]
      have c := of_decide_eq_true c
      rw [Int.natCast_add]
      omega
    · rw [if_neg c, Nat.add_zero]
      rw [Bool.not_eq_true] at c
      have c := of_decide_eq_false c
      omega
theorem dn_none {ss : Strm} {l t : Nat} (h : ∀ s, s ≤ t → inL ss l s = false) : ∀ m, m ≤ t + 1 → dn ss l t m = 0
  | 0, _ => rfl
  | m + 1, hm => by
    show dn ss l t m + (if inL ss l (t - m) = true then 1 else 0) = 0
    rw [dn_none h m (by omega), h _ (by omega), if_neg Bool.false_ne_true]
theorem long_none {bot b tp k : Int} {rs : List Rw} {n : Nat} (hb : 1 ≤ bot) (ok : RowOk bot (some (b, tp, k))) (h0 : rs[0]? = some (some (b, tp, k))) (h1 : ∀ l, 0 < l → l < rs.length → rs.getD l none = none) : brF bot rs ((List.range n).map (lotS bot (some (b, tp, k)))) = none := by
  unfold brF
  refine findSome_no fun t ht => ?_
  rw [List.length_map, List.length_range] at ht
  unfold lineF
  refine findSome_no fun l hl => ?_
  have z : fstN bot (rs.getD l none) ((List.range n).map (lotS bot (some (b, tp, k)))) l t = none := fst_none.mpr fun j hj => by
    unfold brk
    rw [decide_eq_false_iff_not]
    by_cases c : l = 0
    · subst c
      rw [getD_some h0]
      have q := dn_long (n := n) hb ok ht (j + 1) (by omega)
      have a := sent_add (m := ((t + 1 - (j + 1) : Nat) : Int)) (n := ((j + 1 : Nat) : Int)) hb ok (by omega) (by omega)
      rw [show ((t + 1 - (j + 1) : Nat) : Int) + ((j + 1 : Nat) : Int) = ((t + 1 : Nat) : Int) by omega] at a
      omega
    · rw [h1 l (by omega) hl, dn_none (fun s hs => by rw [in_long (by omega), decide_eq_false c, Bool.false_and]) (j + 1) (by omega)]
      show ¬ (0 : Int) < ((0 : Nat) : Int)
      decide
  rw [z]
  rfl
def rwT : Rw → Td
  | none => .non
  | some (b, t, k) => .tup [.int b, .int t, .int k]
theorem rows_is {h : Addr} {H : Hp} : ∀ {rs : List Rw} {vs : List V}, All2 (RowAt H) rs vs → IsL h H vs (rs.map rwT)
  | _, _, .nil => .nil
  | none :: _, _, .cons e t => by
    cases (show _ = V.non from e)
    exact .cons .non (rows_is t)
  | some (b, tp, kk) :: _, _, .cons ⟨q, e, e1⟩ t => by
    subst e
    exact .cons (.tup e1 (.cons (.int _) (.cons (.int _) (.cons (.int _) .nil)))) (rows_is t)
theorem rows_good {bot : Int} {rs : List Rw} (ok : RowsOk bot rs) : badP (.int bot) (.tup (rs.map rwT)) = none := by
  show (if (decide (1 ≤ bot) && decide (bot ≤ 20)) = true then _ else _) = _
  rw [decide_eq_true ok.b1, decide_eq_true ok.b20, Bool.and_self, if_pos rfl]
  show (if (decide (1 ≤ (rs.map rwT).length) && decide ((rs.map rwT).length ≤ 12)) = true then _ else _) = _
  rw [List.length_map, decide_eq_true ok.one, decide_eq_true ok.few, Bool.and_self, if_pos rfl, firstBad_none fun j e he => ?_]
  · rfl
  · rw [List.getElem?_map] at he
    obtain ⟨r, h1, rfl⟩ := Option.map_eq_some_iff.mp he
    have rk := ok.ok r (List.mem_of_getElem? h1)
    match r, rk with
    | none, _ => rfl
    | some (b, t, k), ⟨⟨b1, b2⟩, ⟨t1, t2⟩, k1, k2⟩ =>
      show (inI 1 20 (.int b) && (inI 0 bot (.int t) && inI 0 7 (.int k))) = true
      rw [inI_ok b1 b2, inI_ok t1 t2, inI_ok k1 k2]
      rfl
theorem mk_same {C x dx : Addr} {H1 H2 : Hp} (nx : H1 x = none) (nd : H1 dx = none) (k : Kp x (upd (upd H1 dx (.own x)) x (.ins C dx [])) H2) : Same H1 H2 := fun q o e => by
  have h1 : q ≠ x := ne_of_none e nx
  have h2 : q ≠ dx := ne_of_none e nd
  exact k q o h1 (by rw [upd_ne h1, upd_ne h2]; exact e)
theorem make_bk {C BC : Addr} {H1 : Hp} {a x dx : Addr} {bot : Int} {rs : List Rw} {R : Hp → Prop} {E : XK} (ra : RowsAt H1 a rs) (ok : RowsOk bot rs) (nx : H1 x = none) (nd : H1 dx = none) (ne : dx ≠ x) (k : ∀ H', Same H1 H' → BkAt C H' x bot rs → R H') :
    spInit C BC [.ref x, .int bot, .ref a] (upd (upd H1 dx (.own x)) x (.ins C dx [])) (fun v H2 => v = .non ∧ R H2) E := by
  have s0 : Same H1 (upd (upd H1 dx (.own x)) x (.ins C dx [])) := fun q o e => by
    rw [upd_ne (ne_of_none e nx), upd_ne (ne_of_none e nd)]
    exact e
  obtain ⟨xs, ea, al⟩ := id ra
  refine ⟨x, dx, .int bot, .ref a, .int bot, .tup (rs.map rwT), 0, rfl, upd_same, .int bot, .tup (s0 _ _ ea) (IsL.same (rows_is al) s0), fun _ H' kp e => ⟨rfl, ?_⟩, fun w hw => ?_⟩
  · have s := mk_same nx nd kp
    exact k H' s ⟨dx, a, e, ra.same s⟩
  · rw [rows_good ok] at hw
    cases hw

theorem all2_set {α β : Type} {R : α → β → Prop} : ∀ {as : List α} {bs : List β}, All2 R as bs → ∀ {i : Nat} {a : α} {b : β}, R a b → All2 R (as.set i a) (bs.set i b)
  | _, _, .nil, _, _, _, _ => .nil
  | _, _, .cons _ t, 0, _, _, r => .cons r t
  | _, _, .cons h t, i + 1, _, _, r => .cons h (all2_set t r)
section
variable {P : Program} {w : World} {K : PySem.W.Frag} {mg : Str → Option Value} {base : Heap} {A : Adr}
theorem tri_same {H : Hp} {o : Option (Nat × Nat × Nat)} {u v : V} (h1 : TriV H o u) (h2 : TriV H o v) : SameV H 1 u v := by
  match o, h1, h2 with
  | none, h1, h2 =>
    cases (show u = V.non from h1)
    cases (show v = V.non from h2)
    exact .plain .non
  | some (l, b, t), ⟨q, e, e1⟩, ⟨q', e', e1'⟩ =>
    subst e e'
    refine .tup e1 e1' rfl (by show 3 ≤ 100; decide) fun i u v hu hv => ?_
    rw [hu] at hv
    cases hv
    have m := List.mem_of_getElem? hu
    simp only [List.mem_cons, List.not_mem_nil, or_false] at m
    rcases m with z | z | z <;> subst z <;> exact .plain (.int _)
theorem lot_dp {H : Hp} {ls : List Nat} {v : V} (h : LotAt H ls v) : Dp K H v (.tuple (ls.map fun (x : Nat) => PyData.int (x : Int))) := by
  obtain ⟨q, rfl, e⟩ := h
  refine .tup (SqT.of e) ?_
  clear e
  induction ls with
  | nil => exact .nil
  | cons x ls ih => exact .cons (.int _) ih
theorem lot_lay (ls : List Nat) : Lay (.tuple (ls.map fun (x : Nat) => PyData.int (x : Int))) 1 := Lay.tup fun x hx => by
  obtain ⟨i, _, rfl⟩ := List.mem_map.mp hx
  exact Lay.int _
def spLong : Sp := fun vs H Q _ => ∃ (h g : Addr), vs = [.ref h] ∧ HandAt H h g ∧ ∀ (H' : Hp), Kp h H H' → HandAt H' h g → Q (.bl true) H'
theorem ok_law_long_right (T : Top K mg A) : FnOk P w K mg base CX0 9 A.a_law_long_right A.d_law_long_right P_law_long_right spLong := by
  refine T.F_law_long_right.ok sc_law_long_right (fun vs H Q E h => ?_) (fun cdv A' outer s H vs Q E hr h => ?_)
  · obtain ⟨h, g, rfl, _⟩ := h
    rfl
  · obtain ⟨h, g, rfl, ha, k⟩ := h
    refine ⟨_, (pss_cons (ps_set (i := 1) sc_law_long_right.nd rfl (.inl rfl) (pe_op op_add pe_int (pe_call (ok_law_draw T) (hr.mono (by decide)) (by rfl) T.g_law_draw T.F_law_draw.kp T.b_law_draw .nil pass0 (pa_cons (pv 0) (pa_cons pe_int pa_nil)))))
    (pss_cons (ps_set (i := 2) sc_law_long_right.nd rfl (.inl rfl) (pe_slice sl_tupA (pe_tup (pa_cons (pe_tup (pa_cons (pe_op op_add pe_int (pe_call (ok_law_draw T) (hr.mono (by decide)) (by rfl) T.g_law_draw T.F_law_draw.kp T.b_law_draw .nil pass0 (pa_cons (pv 0) (pa_cons pe_int pa_nil)))) (pa_cons (pe_call (ok_law_draw T) (hr.mono (by decide)) (by rfl) T.g_law_draw T.F_law_draw.kp T.b_law_draw .nil pass0 (pa_cons (pv 0) (pa_cons (pv 1) pa_nil))) (pa_cons pe_int pa_nil)))) (pa_cons pe_non pa_nil))) po_none (po_some (pe_op op_add pe_int (pe_call (ok_law_draw T) (hr.mono (by decide)) (by rfl) T.g_law_draw T.F_law_draw.kp T.b_law_draw .nil pass0 (pa_cons (pv 0) (pa_cons pe_int pa_nil)))))))
    (pss_cons (ps_set (i := 3) sc_law_long_right.nd rfl (.inl rfl) (pe_op op_add pe_int (pe_call (ok_law_draw T) (hr.mono (by decide)) (by rfl) T.g_law_draw T.F_law_draw.kp T.b_law_draw .nil pass0 (pa_cons (pv 0) (pa_cons pe_int pa_nil)))))
    (pss_cons (ps_set (i := 4) sc_law_long_right.nd rfl (.inr rfl) (pe_lst pa_nil))
    (pss_cons (ps_for PassesOwn.never rfl (pi_range1 rfl T.z_range (pa_cons (pv 3) pa_nil)) (pg_name (i := 5) sc_law_long_right.nd rfl (.inl rfl)) (pss_cons (ps_set (i := 6) sc_law_long_right.nd rfl (.inl rfl) (pe_cmpR op_gt (pe_call (ok_law_sent T) (hr.mono (by decide)) (by rfl) T.g_law_sent T.F_law_sent.kp T.b_law_sent .nil pass0 (pa_cons (pe_ix ix_tup (pv 2) pe_int (fun _ _ => rfl)) (pa_cons (pv 1) (pa_cons (pe_op op_add (pv 5) pe_int) pa_nil)))) (pe_call (ok_law_sent T) (hr.mono (by decide)) (by rfl) T.g_law_sent T.F_law_sent.kp T.b_law_sent .nil pass0 (pa_cons (pe_ix ix_tup (pv 2) pe_int (fun _ _ => rfl)) (pa_cons (pv 1) (pa_cons (pv 5) pa_nil)))) (nomark _)))
    (pss_one (ps_expr (pe_bm PySem.F.plainAttrs_list PySem.F.slot_list_append PySem.F.type_list_append mt_append (pv 4) (pa_cons (pe_ifExp (pt_truth (pv 6) (by intro _; rfl)) (pe_tup (pa_cons pe_int pa_nil)) (pe_tup pa_nil)) pa_nil))))))
    (pss_cons (ps_if (pt_cmpR op_notN (pe_call (ok_breach T) (hr.mono (by decide)) (by rfl) T.g_breach T.F_breach.kp T.b_breach .nil pass0 (pa_cons (pe_make T.mk_Buckets (ok_Buckets___init__ T) (hr.mono (by decide)) (by rfl) T.gc_Buckets T.b_Buckets___init__ .nil passL (pa_cons (pv 1) (pa_cons (pv 2) pa_nil))) (pa_cons (pe_callTy call_tuple_of (by rfl) T.z_tuple (by decide +kernel) (pa_cons (pv 4) pa_nil)) pa_nil))) pe_non (nomark _)) (pss_one (ps_ret pe_bl)) pss_nil)
    (pss_cons (ps_setLc (i := 7) (own := [("_law_beat", 5)]) (by rfl) sc_law_long_right.nd rfl rfl (sw_true rfl rfl rfl (by decide +kernel)) (pi_range2 rfl T.z_range (pa_cons pe_int (pa_cons (pv 3) pa_nil))) (blkOk_by (own := [("_law_beat", 5)]) (N := N_law_long_right) (sc := defScope s_law_long_right) (by decide +kernel)) (fun _ _ _ _ _ => (pg_name (i := 5) sc_law_long_right.nd rfl (.inl rfl))) (fun _ _ _ _ _ => (pts_one (pt_cmpR (show OpR _ _ (rEqD K) from (op_eqD hr.units)) (pe_ix (show IxR _ (rIxL K) from ix_list) (pv 4) (pv 5) (fun _ _ => rfl)) (pe_tup pa_nil) (nomark _)))) (fun _ _ _ _ _ => (pv 5)))
    (Evl.pss_cut (ps_if (pt_cmpR op_gt (pe_callB call_len_seq (by rfl) T.z_len (by decide +kernel) (pa_cons (pv 7) pa_nil)) pe_int (nomark _)) (pss_one (ps_asg (pe_tup (pa_cons pe_int pa_nil)) (pg_sub (pv 4) (pe_call (ok_law_pick T) (hr.mono (by decide)) (by rfl) T.g_law_pick T.F_law_pick.kp T.b_law_pick .nil pass0 (pa_cons (pv 0) (pa_cons (pv 7) pa_nil))) set_list))) pss_nil)
    (pss_one (ps_ret (pe_call (ok_law_same T) (hr.mono (by decide)) (by rfl) T.g_law_same T.F_law_same.kp T.b_law_same .nil pass0 (pa_cons (pe_call (ok_breach T) (hr.mono (by decide)) (by rfl) T.g_breach T.F_breach.kp T.b_breach .nil pass0 (pa_cons (pe_make T.mk_Buckets (ok_Buckets___init__ T) (hr.mono (by decide)) (by rfl) T.gc_Buckets T.b_Buckets___init__ .nil passL (pa_cons (pv 1) (pa_cons (pv 2) pa_nil))) (pa_cons (pe_callTy call_tuple_of (by rfl) T.z_tuple (by decide +kernel) (pa_cons (pv 4) pa_nil)) pa_nil))) (pa_cons (pe_call (ok_law_breach T) (hr.mono (by decide)) (by rfl) T.g_law_breach T.F_law_breach.kp T.b_law_breach .nil pass0 (pa_cons (pv 2) (pa_cons (pv 1) (pa_cons (pe_callTy call_tuple_of (by rfl) T.z_tuple (by decide +kernel) (pa_cons (pv 4) pa_nil)) pa_nil)))) pa_nil))))))))))))), ?_⟩
    unfold tNoPart
    refine ⟨_, rfl, h, g, 18, rfl, ha, by decide, by decide, fun H1 d b1 a1 d0 d1 => ⟨3, d, rfl, rfl, ?_⟩⟩
    refine ⟨_, rfl, h, g, 10, rfl, a1, by decide, by decide, fun H2 b2 bb2 a2 b20 b21 => ⟨2, b2, rfl, rfl, _, rfl, _, rfl, h, g, 3 + d, rfl, a2, by omega, by omega, fun H3 tp bb3 a3 t0 t1 => ⟨by show 3 ≤ sizeLine; decide, fun q nq => ⟨by show 2 ≤ sizeLine; decide, fun p np => ?_⟩⟩⟩⟩
    have s4 := same_upd nq (o := .tup [.int (2 + b2), .int tp, .int 0])
    have eq4 : upd H3 q (.tup [.int (2 + b2), .int tp, .int 0]) q = some (.tup [.int (2 + b2), .int tp, .int 0]) := upd_same
    have a4 := a3.same s4
    have k4 : Kp h H (upd H3 q (.tup [.int (2 + b2), .int tp, .int 0])) := ((b1.kp.trans bb2.kp).trans bb3.kp).trans (kp_of s4 h)
    generalize upd H3 q (.tup [.int (2 + b2), .int tp, .int 0]) = H4 at s4 eq4 a4 k4 np ⊢
    have s5 := same_upd np (o := .tup [.ref q, .non])
    have ep5 : upd H4 p (.tup [.ref q, .non]) p = some (.tup [.ref q, .non]) := upd_same
    have eq5 := s5 _ _ eq4
    have a5 := a4.same s5
    have k5 := k4.trans (kp_of s5 h)
    generalize upd H4 p (.tup [.ref q, .non]) = H5 at s5 ep5 eq5 a5 k5 ⊢
    clear s4 s5 nq np a4 a3 a2 a1 bb2 bb3 b1 k4 eq4
    refine ⟨_, rfl, h, g, 2, rfl, a5, by decide, by decide, fun H6 c b6 a6 c0 c1 => ⟨1, c, rfl, rfl, _, rfl, ?_⟩⟩
    have ep6 := tup_kp b6.kp a5 ep5
    have eq6 := tup_kp b6.kp a5 eq5
    have k6 := k5.trans b6.kp
    clear b6 a5 ep5 eq5 k5
    refine sl_at ep6 fun H7 ra s7 z7 => ?_
    have eq7 := s7 _ _ eq6
    have a7 := a6.same s7
    have k7 := k6.trans (kp_of s7 h)
    clear ep6 eq6 a6 k6 s7
    have rowOk : RowOk (3 + d) (some (2 + b2, tp, 0)) := ⟨⟨by omega, by omega⟩, ⟨t0, by omega⟩, by decide, by decide⟩
    obtain ⟨rs, hra, hrs, h00, h0s⟩ : ∃ rs : List Rw, RowsAt H7 ra rs ∧ RowsOk (3 + d) rs ∧ rs[0]? = some (some (2 + b2, tp, 0)) ∧ ∀ l, 0 < l → l < rs.length → rs.getD l none = none := by
      have hc : c = 0 ∨ c = 1 := by omega
      rcases hc with e | e
      · subst e
        refine ⟨[some (2 + b2, tp, 0)], ⟨[.ref q], z7, .cons ⟨q, rfl, eq7⟩ .nil⟩, ⟨by show 1 ≤ 1; decide, by show 1 ≤ 12; decide, fun r hr => ?_, by omega, by omega⟩, rfl, fun l h1 h2 => ?_⟩
        · rw [List.mem_singleton.mp hr]
          exact rowOk
        · have h2 : l < 1 := h2
          omega
      · subst e
        refine ⟨[some (2 + b2, tp, 0), none], ⟨[.ref q, .non], z7, .cons ⟨q, rfl, eq7⟩ (.cons rfl .nil)⟩, ⟨by show 1 ≤ 2; decide, by show 2 ≤ 12; decide, fun r hr => ?_, by omega, by omega⟩, rfl, fun l h1 h2 => ?_⟩
        · simp only [List.mem_cons, List.not_mem_nil, or_false] at hr
          rcases hr with e | e <;> subst e
          · exact rowOk
          · trivial
        · have h2 : l < 2 := h2
          have : l = 1 := by omega
          subst this
          rfl
    have hbt : 1 ≤ 3 + d := by omega
    have hbt2 : 3 + d ≤ 20 := by omega
    dsimp only
    generalize 3 + d = bot at rowOk hrs t1 hbt hbt2 ⊢
    have bnone := fun n => long_none (rs := rs) (n := n) hbt rowOk h00 h0s
    generalize some (2 + b2, tp, (0 : Int)) = r0 at rowOk h00 bnone ⊢
    have rk0 := hrs.few
    have lot2 : ∀ ls : List Nat, (ls = [] ∨ ls = [0]) → LotOk rs.length ls := fun ls h => by
      have one := hrs.one
      rcases h with e | e <;> subst e
      · exact ⟨.nil, fun x hx => absurd hx List.not_mem_nil⟩
      · exact ⟨List.pairwise_singleton _ _, fun x hx => by rw [List.mem_singleton] at hx; omega⟩
    have lotS2 : ∀ t, lotS bot r0 t = [] ∨ lotS bot r0 t = [0] := fun t => by
      unfold lotS
      split
      · exact .inr rfl
      · exact .inl rfl
    -- beats
    refine ⟨_, rfl, h, g, 200, rfl, a7, by decide, by decide, fun H8 e b8 a8 e0 e1 => ⟨200, e, rfl, rfl, ?_⟩⟩
    obtain ⟨n, hn⟩ : ∃ n : Nat, 200 + e = (n : Int) := ⟨(200 + e).toNat, by omega⟩
    have hn1 : 200 ≤ n ∧ n < 400 := by omega
    dsimp only
    rw [hn]
    have hra := hra.mv fun q xs e => tup_kp b8.kp a7 e
    have k8 := k7.trans b8.kp
    clear b8 a7 k7 eq7 z7 hn e0 e1
    refine ⟨by show 0 ≤ sizeLine; decide, fun F nF => ?_⟩
    have s9 := same_upd nF (o := .lst [])
    have e9 : upd H8 F (.lst []) F = some (.lst []) := upd_same
    have hra := hra.same s9
    have a9 := a8.same s9
    have Fh := a8.ne_none nF
    have Fg := a8.ne_g nF
    have k9 := k8.trans (kp_of s9 h)
    have nF0 : H F = none := k8.free Fh nF
    generalize upd H8 F (.lst []) = H9 at s9 e9 hra a9 k9 ⊢
    obtain ⟨rxs, era, alr⟩ := id hra
    obtain ⟨rv, hrv, hrw⟩ := alr.getL h00
    refine ⟨_, rfl, (n : Int), rfl, by omega, by omega, ?_⟩
    refine for_range (lo := 0) (n := (n : Int).toNat) (fun i σ H' => ∃ (y5 y6 : Option V) (us : List V), σ = [some (.ref h), some (.int bot), some (.ref ra), some (.int (n : Int)), some (.ref F), y5, y6, none] ∧ Kp h H H' ∧ HandAt H' h g ∧ RowsAt H' ra rs ∧ H' F = some (.lst us) ∧ All2 (LotAt H') ((List.range i).map (lotS bot r0)) us) ⟨_, _, [], rfl, k9, a9, hra, e9, .nil⟩ ?_ ?_
    · rintro i σ H10 hi ⟨y5, y6, us, rfl, k10, a10, ra10, e10, al10⟩
      have lu := al10.len
      rw [List.length_map, List.length_range] at lu
      obtain ⟨rxs, era, alr⟩ := id ra10
      obtain ⟨rv, hrv, hrw⟩ := alr.getL h00
      have rok := hrs.ok _ (List.mem_of_getElem? h00)
      refine ⟨_, rfl, ra, rxs, _, _, rfl, rfl, SqT.of era, atI_nat (j := 0) hrv, _, rfl, _, rfl, _, _, rfl, rfl, bot, ((i : Int) + 1), r0, rv, by show [rv, V.int bot, V.int (0 + (i : Int) + 1)] = _; rw [Int.zero_add], hrw, rok, hbt, hbt2, _, rfl, ra, rxs, _, _, rfl, rfl, SqT.of era, atI_nat (j := 0) hrv, _, rfl, _, rfl, bot, (i : Int), r0, rv, by show [rv, V.int bot, V.int (0 + (i : Int))] = _; rw [Int.zero_add], hrw, rok, hbt, hbt2, _, _, rfl, rfl, ?_⟩
      have put : ∀ (z : Addr) (ls : List Nat), lotS bot r0 i = ls → H10 z = none → ∃ (y5 y6 : Option V) (us' : List V), ([some (.ref h), some (.int bot), some (.ref ra), some (.int (n : Int)), some (.ref F), some (.int (0 + (i : Int))), some (.bl (sendsB bot r0 i)), none] : L2.St) = [some (.ref h), some (.int bot), some (.ref ra), some (.int (n : Int)), some (.ref F), y5, y6, none] ∧ Kp h H (upd (upd H10 z (.tup (natsV ls))) F (.lst (us ++ [.ref z]))) ∧ HandAt (upd (upd H10 z (.tup (natsV ls))) F (.lst (us ++ [.ref z]))) h g ∧ RowsAt (upd (upd H10 z (.tup (natsV ls))) F (.lst (us ++ [.ref z]))) ra rs ∧ upd (upd H10 z (.tup (natsV ls))) F (.lst (us ++ [.ref z])) F = some (.lst us') ∧ All2 (LotAt (upd (upd H10 z (.tup (natsV ls))) F (.lst (us ++ [.ref z])))) ((List.range (i + 1)).map (lotS bot r0)) us' := fun z ls hls nz => by
        have sz := same_upd nz (o := .tup (natsV ls))
        have ez : upd H10 z (.tup (natsV ls)) z = some (.tup (natsV ls)) := upd_same
        have eF := sz _ _ e10
        have tp2 : ∀ q xs, H10 q = some (.tup xs) → upd (upd H10 z (.tup (natsV ls))) F (.lst (us ++ [.ref z])) q = some (.tup xs) := fun q xs e => tup_put eF (sz _ _ e)
        refine ⟨_, _, us ++ [.ref z], rfl, (k10.trans (kp_of sz h)).put nF0, (a10.same sz).put Fh Fg, ra10.mv tp2, upd_same, ?_⟩
        rw [List.range_succ, List.map_append]
        exact (al10.imp fun _ _ t => t.mv tp2).snoc ⟨z, rfl, by rw [hls]; exact tup_put eF ez⟩
      refine ⟨_, rfl, .inl ⟨rfl, _, SqL.of e10⟩, _, rfl, sendsB bot r0 i, rfl, ?_⟩
      cases c : sendsB bot r0 i with
      | true =>
        refine iteT ⟨by show 1 ≤ sizeLine; decide, fun z nz => ?_⟩
        have q := put z [0] (by unfold lotS; rw [if_pos c]) nz
        exact ⟨F, us, _, rfl, rfl, (same_upd nz) _ _ e10, lts (by omega), q⟩
      | false =>
        refine iteF ⟨Nat.zero_le _, fun z nz => ?_⟩
        have q := put z [] (by unfold lotS; rw [if_neg (by rw [c]; exact Bool.false_ne_true)]) nz
        exact ⟨F, us, _, rfl, rfl, (same_upd nz) _ _ e10, lts (by omega), q⟩
    · rintro σ H10 ⟨y5, y6, us, rfl, k10, a10, ra10, e10, al10⟩
      rw [Int.toNat_natCast] at al10
      have lu := al10.len
      rw [List.length_map, List.length_range] at lu
      have sok0 : StrmOk rs.length ((List.range n).map (lotS bot r0)) := ⟨by rw [List.length_map, List.length_range]; omega, fun ls hls => by
        obtain ⟨t, _, rfl⟩ := List.mem_map.mp hls
        exact lot2 _ (lotS2 t)⟩
      refine ⟨_, rfl, _, rfl, fun x dx nx nd ne => ?_⟩
      refine make_bk ra10 hrs nx nd ne fun H11 s11 bk => ?_
      refine ⟨_, rfl, F, us, rfl, .inl ⟨SqL.of (s11 _ _ e10), fun z nz => ?_⟩⟩
      have s12 := same_upd nz (o := .tup us)
      have ez : upd H11 z (.tup us) z = some (.tup us) := upd_same
      have s1012 := s11.trans s12
      have bk := bk.same s12
      generalize upd H11 z (.tup us) = H12 at s12 ez s1012 bk ⊢
      refine ⟨x, z, bot, rs, _, rfl, bk, hrs, ⟨us, ez, al10.imp fun _ _ t => t.mv (fun q xs e => s1012 _ _ e)⟩, sok0, fun H13 v s13 tv => ?_⟩
      rw [bnone n] at tv
      cases (show v = V.non from tv)
      refine ⟨rfl, _, rfl, iteF ?_⟩
      have s1013 := s1012.trans s13
      have e13 := s1013 _ _ e10
      have al13 := al10.imp fun _ _ t => t.mv (fun q xs e => s1013 q _ e)
      have ra13 := ra10.same s1013
      have a13 := a10.same s1013
      have k13 := k10.trans (kp_of s1013 h)
      clear s11 s12 s13 s1012 s1013 ez bk nz nx nd ne e10 al10 ra10 a10 k10 tv
      -- rests
      refine ⟨_, rfl, 100, (n : Int), rfl, ⟨by decide, by decide, by omega, by omega⟩, fun D nD => ?_⟩
      refine lc_range (lo := 100) (n := ((n : Int) - 100).toNat) (fun i H' => ∃ bs : List Nat, Same H13 H' ∧ H' D = some (.lst (natsV bs)) ∧ (∀ x ∈ bs, x < n) ∧ bs.length ≤ i) ⟨[], same_upd nD, upd_same, fun x hx => absurd hx List.not_mem_nil, Nat.le_refl _⟩ ?_ ?_
      · rintro i H14 hi ⟨bs, s14, e14, b14, l14⟩
        have hj : 100 + i < us.length := by omega
        obtain ⟨u, hu⟩ : ∃ u, us[100 + i]? = some u := ⟨_, List.getElem?_eq_getElem hj⟩
        obtain ⟨ls, hls, lt⟩ := al13.get hu
        refine ⟨by kernel_rfl, ?_⟩
        refine ⟨_, rfl, _, rfl, F, us, _, u, rfl, rfl, SqL.of (s14 _ _ e13), (by rw [show (100 : Int) + (i : Nat) = ((100 + i : Nat) : Int) by omega]; exact atI_nat hu), Nat.zero_le _, fun z nz => ?_⟩
        have s15 := same_upd nz (o := .tup [])
        have ez : upd H14 z (.tup []) z = some (.tup []) := upd_same
        have e15 := s15 _ _ e14
        have s1315 := s14.trans s15
        generalize upd H14 z (.tup []) = H15 at s15 ez e15 s1315 ⊢
        refine ⟨_, .tuple [], lot_dp (lt.mv fun q xs e => s1315 _ _ e), .tup (SqT.of ez) .nil, (lot_lay ls).sh (by decide), rfl, _, rfl, ite2 (fun _ => ?_) (fun _ => ⟨bs, s1315, e15, b14, by omega⟩)⟩
        refine ⟨_, rfl, _, e15, by unfold natsV; rw [List.length_map]; exact lts (by omega), bs ++ [100 + i], same_to s1315 nD, ?_, fun x hx => ?_, by rw [List.length_append]; exact Nat.succ_le_succ l14⟩
        · rw [upd_same]
          unfold natsV
          rw [List.map_append, show (100 : Int) + (i : Nat) = ((100 + i : Nat) : Int) by omega]
          rfl
        · rcases List.mem_append.mp hx with w | w
          · exact b14 x w
          · rw [List.mem_singleton] at w
            omega
      · rintro H14 ⟨bs, s14, e14, b14, l14⟩
        have e14F := s14 _ _ e13
        have al14 := al13.imp fun _ _ t => t.mv (fun q xs e => s14 q _ e)
        have ra14 := ra13.same s14
        have a14 := a13.same s14
        have k14 := k13.trans (kp_of s14 h)
        refine ⟨fun σ H' => ∃ (us' : List V) (ss : Strm), σ = [some (.ref h), some (.int bot), some (.ref ra), some (.int (n : Int)), some (.ref F), y5, y6, some (.ref D)] ∧ Kp h H H' ∧ HandAt H' h g ∧ RowsAt H' ra rs ∧ H' F = some (.lst us') ∧ All2 (LotAt H') ss us' ∧ StrmOk rs.length ss, ?_, ?_⟩
        · refine ⟨_, rfl, D, _, rfl, .inl (SqL.of e14), _, _, rfl, rfl, _, rfl, ?_⟩
          have lb : ((natsV bs).length : Int) = (bs.length : Int) := by unfold natsV; rw [List.length_map]
          rw [lb]
          by_cases cb : bs = []
          · subst cb
            exact iteF ⟨us, _, rfl, k14, a14, ra14, e14F, al14, sok0⟩
          · have cb0 : 0 < bs.length := List.length_pos_iff.mpr cb
            show (if decide ((0 : Int) < (bs.length : Int)) = true then _ else _)
            rw [decide_eq_true (show (0 : Int) < (bs.length : Int) by omega)]
            have nD14 : D ≠ h := a13.ne_none nD
            refine iteT ⟨by show 1 ≤ sizeLine; decide, fun z nz => ?_⟩
            have s15 := same_upd nz (o := .tup [.int 0])
            have ez : upd H14 z (.tup [.int 0]) z = some (.tup (natsV [0])) := upd_same
            have e15 := s15 _ _ e14
            have e15F := s15 _ _ e14F
            have al15 := al14.imp fun _ _ t => t.mv (fun q xs e => s15 q _ e)
            have ra15 := ra14.same s15
            have a15 := a14.same s15
            have k15 := k14.trans (kp_of s15 h)
            generalize upd H14 z (.tup [.int 0]) = H15 at s15 ez e15 e15F al15 ra15 a15 k15 ⊢
            refine ⟨_, rfl, _, rfl, _, rfl, h, g, D, _, rfl, a15, SqL.of e15, fun H' b => SqL.of ((b D nD14).trans e15), by omega, by omega, fun H16 j v b16 a16 hv => ?_⟩
            unfold natsV at hv
            rw [List.getElem?_map] at hv
            obtain ⟨i, hi, rfl⟩ := Option.map_eq_some_iff.mp hv
            have hib := b14 i (List.mem_of_getElem? hi)
            have e16F := b16.kp _ _ Fh e15F
            refine ⟨F, us, _, i, rfl, rfl, e16F, Evl.ixN_nat (by omega), ?_⟩
            have tp2 : ∀ q xs, H15 q = some (.tup xs) → upd H16 F (.lst (us.set i (.ref z))) q = some (.tup xs) := fun q xs e => tup_put e16F (tup_kp b16.kp a15 e)
            refine ⟨us.set i (.ref z), ((List.range n).map (lotS bot r0)).set i [0], rfl, (k15.trans b16.kp).put nF0, a16.put Fh Fg, ra15.mv tp2, upd_same, ?_, ⟨by rw [List.length_set]; exact sok0.few, fun ls hls => ?_⟩⟩
            · exact all2_set (al15.imp fun _ _ t => t.mv tp2) ⟨z, rfl, tp2 _ _ ez⟩
            · rcases List.mem_or_eq_of_mem_set hls with w | w
              · exact sok0.ok ls w
              · rw [w]
                exact lot2 _ (.inr rfl)
        clear e14 e14F al14 ra14 a14 k14 s14 b14 l14 e13 al13 ra13 a13 k13 nD
        rintro σ H14 ⟨us', ss, rfl, k14, a14, ra14, e14, al14, sok⟩
        refine ⟨_, rfl, _, rfl, fun x dx nx nd ne => ?_⟩
        refine make_bk ra14 hrs nx nd ne fun H15 s15 bk => ?_
        refine ⟨_, rfl, F, us', rfl, .inl ⟨SqL.of (s15 _ _ e14), fun z nz => ?_⟩⟩
        have s16 := same_upd nz (o := .tup us')
        have ez : upd H15 z (.tup us') z = some (.tup us') := upd_same
        have s1416 := s15.trans s16
        have bk := bk.same s16
        generalize upd H15 z (.tup us') = H16 at s16 ez s1416 bk ⊢
        refine ⟨x, z, bot, rs, ss, rfl, bk, hrs, ⟨us', ez, al14.imp fun _ _ t => t.mv (fun q xs e => s1416 _ _ e)⟩, sok, fun H17 v s17 tv => ?_⟩
        have s1417 := s1416.trans s17
        refine ⟨_, rfl, _, rfl, _, rfl, F, us', rfl, .inl ⟨SqL.of (s1417 _ _ e14), fun z2 nz2 => ?_⟩⟩
        have s18 := same_upd nz2 (o := .tup us')
        have s1418 := s1417.trans s18
        refine ⟨ra, z2, bot, rs, ss, rfl, ra14.same s1418, hrs, ⟨us', upd_same, al14.imp fun _ _ t => t.mv (fun q xs e => s1418 _ _ e)⟩, sok.few, fun H19 v2 s19 tv2 => ?_⟩
        refine ⟨v, v2, 1, rfl, tri_same (tv.same (s18.trans s19)) tv2, by decide, fun H20 s20 => ?_⟩
        have sAll := (s1418.trans s19).trans s20
        exact k H20 (k14.trans (kp_of sAll h)) (a14.same sAll)
end

theorem nats_of {ns : List Int} (h : ∀ x ∈ ns, 0 ≤ x) : ns.map V.int = natsV (ns.map Int.toNat) := by
  unfold natsV
  rw [List.map_map]
  refine List.map_congr_left fun x hx => ?_
  show V.int x = V.int ((x.toNat : Nat) : Int)
  rw [Int.toNat_of_nonneg (h x hx)]
theorem lot_of {n : Nat} {ns : List Int} (asc : ns.Pairwise (· < ·)) (h : ∀ x ∈ ns, 0 ≤ x ∧ x < (n : Int)) : LotOk n (ns.map Int.toNat) := by
  refine ⟨?_, fun y hy => ?_⟩
  · rw [List.pairwise_map]
    exact asc.imp_of_mem fun {a b} ha hb hab => by
      have := h a ha
      have := h b hb
      omega
  · obtain ⟨x, hx, rfl⟩ := List.mem_map.mp hy
    have := h x hx
    omega
section
variable {P : Program} {w : World} {K : PySem.W.Frag} {mg : Str → Option Value} {base : Heap} {A : Adr}
theorem sort_set {w : World} {H : Hp} {a : Addr} {S : Int → Bool} {n : Nat} {Q : VK} (ha : H a = some (SetO w a S n)) (h64 : n < 64) (k : ∀ (H' : Hp) (p : Addr) (ns : List Int), Same H H' → H' p = some (.lst (ns.map V.int)) → ns.Pairwise (· < ·) → (∀ k : Int, k ∈ ns ↔ S k = true) → Q (.ref p) H') : rSortedSet w [.ref a] H Q :=
  ⟨a, S, n, rfl, ha, h64, fun ns p asc mem _ np => k _ p ns (same_upd np) upd_same asc mem⟩
/-- what stands through the law -/
structure Wd (C : Addr) (H : Hp) (h g a x : Addr) (bot : Int) (rs : List Rw) : Prop where
  hand : HandAt H h g
  ra : RowsAt H a rs
  bk : BkAt C H x bot rs
theorem Wd.same {C : Addr} {H H' : Hp} {h g a x : Addr} {bot : Int} {rs : List Rw} (w : Wd C H h g a x bot rs) (s : Same H H') : Wd C H' h g a x bot rs := ⟨w.hand.same s, w.ra.same s, w.bk.same s⟩
theorem Wd.kp {C : Addr} {H H' : Hp} {h g a x : Addr} {bot : Int} {rs : List Rw} (w : Wd C H h g a x bot rs) (k : Kp h H H') (a' : HandAt H' h g) : Wd C H' h g a x bot rs := ⟨a', w.ra.mv fun q xs e => tup_kp k w.hand e, w.bk.kp k w.hand⟩
theorem Wd.put {C : Addr} {H : Hp} {h g a x M : Addr} {bot : Int} {rs : List Rw} {xs ys : List V} (w : Wd C H h g a x bot rs) (eM : H M = some (.lst xs)) (h1 : M ≠ h) (h2 : M ≠ g) : Wd C (upd H M (.lst ys)) h g a x bot rs := by
  have t : ∀ q zs, H q = some (.tup zs) → upd H M (.lst ys) q = some (.tup zs) := fun q zs e => tup_put eM e
  refine ⟨w.hand.put h1 h2, w.ra.mv t, ?_⟩
  obtain ⟨dx, b, e, r⟩ := w.bk
  exact ⟨dx, b, by rw [upd_ne (fun z => by rw [z, eM] at e; cases e)]; exact e, r.mv t⟩
def spLaw (K : PySem.W.Frag) : Sp := fun vs H Q _ => ∃ (a : Addr) (ns : List Int), vs = [.ref a] ∧ SqL K H a (ns.map V.int) ∧ ns.length ≤ 63 ∧ ∀ H', Q (.bl true) H'
theorem ok_law (T : Top K mg A) : FnOk P w K mg base CX0 14 A.a_law A.d_law P_law (spLaw K) := by
  refine T.F_law.ok sc_law (fun vs H Q E h => ?_) (fun cdv A' outer s H vs Q E hr h => ?_)
  · obtain ⟨a, ns, rfl, _⟩ := h
    rfl
  · obtain ⟨sa, ns, rfl, hS, hn, kq⟩ := h
    refine ⟨_, (pss_cons (ps_set (i := 1) sc_law.nd rfl (.inl rfl) (pe_call (ok_law_hand T) (hr.mono (by decide)) (by rfl) T.g_law_hand T.F_law_hand.kp T.b_law_hand .nil pass0 (pa_cons (pv 0) pa_nil)))
    (Evl.pss_cut (ps_if (PW.pt (pw_and (pt_cmpR op_eq (pe_call (ok_law_draw T) (hr.mono (by decide)) (by rfl) T.g_law_draw T.F_law_draw.kp T.b_law_draw .nil pass0 (pa_cons (pv 1) (pa_cons pe_int pa_nil))) pe_int (nomark _)) (pw_and1 (pt_not (pt_val (pe_call (ok_law_long_right T) (hr.mono (by decide)) (by rfl) T.g_law_long_right T.F_law_long_right.kp T.b_law_long_right .nil pass0 (pa_cons (pv 1) pa_nil))))))) (pss_one (ps_ret pe_bl)) pss_nil)
    (pss_cons (ps_for PassesOwn.never rfl (pi_range1 rfl T.z_range (pa_cons pe_int pa_nil)) (pg_name (i := 2) sc_law.nd rfl (.inl rfl)) (pss_cons (ps_set (i := 3) sc_law.nd rfl (.inl rfl) (pe_op op_add pe_int (pe_call (ok_law_draw T) (hr.mono (by decide)) (by rfl) T.g_law_draw T.F_law_draw.kp T.b_law_draw .nil pass0 (pa_cons (pv 1) (pa_cons pe_int pa_nil)))))
    (pss_cons (ps_set (i := 4) sc_law.nd rfl (.inl rfl) (pe_call (ok_law_rows T) (hr.mono (by decide)) (by rfl) T.g_law_rows T.F_law_rows.kp T.b_law_rows .nil pass0 (pa_cons (pv 1) (pa_cons pe_int (pa_cons (pv 3) (pa_cons pe_int (pa_cons pe_int pa_nil)))))))
    (pss_cons (ps_asg (pe_call (ok_law_told T) (hr.mono (by decide)) (by rfl) T.g_law_told T.F_law_told.kp T.b_law_told .nil pass0 (pa_cons (pv 3) (pa_cons (pv 4) pa_nil))) (pg_tup rfl (pgs_cons (pg_name (i := 5) sc_law.nd rfl (.inl rfl)) (pgs_cons (pg_name (i := 6) sc_law.nd rfl (.inl rfl)) pgs_nil))))
    (pss_cons (ps_if (PW.pt (pw_or (pt_cmpR op_notN (pv 5) pe_non (nomark _)) (pw_or (pt_not (pt_cmpR (GP.op_eqO T.eo_Buckets.eq T.eo_Buckets.fn (ok_Buckets___eq__ T) T.b_Buckets___eq__ (hr.mono (by decide))) (pv 6) (pe_make T.mk_Buckets (ok_Buckets___init__ T) (hr.mono (by decide)) (by rfl) T.gc_Buckets T.b_Buckets___init__ .nil passL (pa_cons (pv 3) (pa_cons (pv 4) pa_nil))) (nomark _))) (pw_or1 (pt_cmpR (GP.op_eqO T.eo_Buckets.eq T.eo_Buckets.fn (ok_Buckets___eq__ T) T.b_Buckets___eq__ (hr.mono (by decide))) (pv 6) (pe_tup (pa_cons (pv 3) (pa_cons (pv 4) pa_nil))) (nomark _)))))) (pss_one (ps_ret pe_bl)) pss_nil)
    (pss_cons (ps_par (by rfl) sc_law.nd (i := 7) (j := 8) rfl rfl (by decide) rfl rfl (pa_cons (pe_call (ok_law_draw T) (hr.mono (by decide)) (by rfl) T.g_law_draw T.F_law_draw.kp T.b_law_draw .nil pass0 (pa_cons (pv 1) (pa_cons (pe_callB call_len_seq (by rfl) T.z_len (by decide +kernel) (pa_cons (pv 4) pa_nil)) pa_nil))) (pa_cons (pe_call (ok_law_pick T) (hr.mono (by decide)) (by rfl) T.g_law_pick T.F_law_pick.kp T.b_law_pick .nil pass0 (pa_cons (pv 1) (pa_cons (pe_lst (pa_cons pe_int (pa_cons pe_int (pa_cons pe_int (pa_cons (pe_call (ok_law_draw T) (hr.mono (by decide)) (by rfl) T.g_law_draw T.F_law_draw.kp T.b_law_draw .nil pass0 (pa_cons (pv 1) (pa_cons pe_int pa_nil))) (pa_cons (pe_op op_pow pe_int pe_int) pa_nil)))))) pa_nil))) pa_nil)) (by rfl))
    (pss_cons (ps_if (pt_not (pt_val (pe_call (ok_law_same T) (hr.mono (by decide)) (by rfl) T.g_law_same T.F_law_same.kp T.b_law_same .nil pass0 (pa_cons (pe_call (ok_most_sent T) (hr.mono (by decide)) (by rfl) T.g_most_sent T.F_most_sent.kp T.b_most_sent .nil pass0 (pa_cons (pv 6) (pa_cons (pv 7) (pa_cons (pv 8) pa_nil)))) (pa_cons (pe_call (ok_law_sent T) (hr.mono (by decide)) (by rfl) T.g_law_sent T.F_law_sent.kp T.b_law_sent .nil pass0 (pa_cons (pe_ix ix_tup (pv 4) (pv 7) (fun _ _ => rfl)) (pa_cons (pv 3) (pa_cons (pv 8) pa_nil)))) pa_nil))))) (pss_one (ps_ret pe_bl)) pss_nil)
    (pss_cons (ps_set (i := 9) sc_law.nd rfl (.inl rfl) (pe_call (ok_law_thinned T) (hr.mono (by decide)) (by rfl) T.g_law_thinned T.F_law_thinned.kp T.b_law_thinned .nil pass0 (pa_cons (pv 4) (pa_cons (pv 3) (pa_cons (pe_call (ok_law_stream T) (hr.mono (by decide)) (by rfl) T.g_law_stream T.F_law_stream.kp T.b_law_stream .nil pass0 (pa_cons (pv 1) (pa_cons (pe_callB call_len_seq (by rfl) T.z_len (by decide +kernel) (pa_cons (pv 4) pa_nil)) (pa_cons (pe_call (ok_law_draw T) (hr.mono (by decide)) (by rfl) T.g_law_draw T.F_law_draw.kp T.b_law_draw .nil pass0 (pa_cons (pv 1) (pa_cons pe_int pa_nil))) pa_nil)))) pa_nil)))))
    (pss_cons (ps_if (pt_cmpR op_notN (pe_call (ok_breach T) (hr.mono (by decide)) (by rfl) T.g_breach T.F_breach.kp T.b_breach .nil pass0 (pa_cons (pv 6) (pa_cons (pv 9) pa_nil))) pe_non (nomark _)) (pss_one (ps_ret pe_bl)) pss_nil)
    (pss_one (ps_for PassesOwn.never rfl (pi_range1 rfl T.z_range (pa_cons pe_int pa_nil)) (pg_name (i := 10) sc_law.nd rfl (.inl rfl)) (Evl.pss_cut (ps_set (i := 11) sc_law.nd rfl (.inl rfl) (pe_callTy call_list_of (by rfl) T.z_list (by decide +kernel) (pa_cons (pv 9) pa_nil)))
    (pss_cons (ps_for PassesOwn.never rfl (pi_range1 rfl T.z_range (pa_cons (pe_op op_add pe_int (pe_call (ok_law_draw T) (hr.mono (by decide)) (by rfl) T.g_law_draw T.F_law_draw.kp T.b_law_draw .nil pass0 (pa_cons (pv 1) (pa_cons pe_int pa_nil)))) pa_nil)) (pg_name (i := 12) sc_law.nd rfl (.inl rfl)) (pss_one (ps_if (pt_cmpR op_gt (pe_callB call_len_seq (by rfl) T.z_len (by decide +kernel) (pa_cons (pv 11) pa_nil)) pe_int (nomark _)) (pss_cons (ps_set (i := 13) sc_law.nd rfl (.inl rfl) (pe_call (ok_law_draw T) (hr.mono (by decide)) (by rfl) T.g_law_draw T.F_law_draw.kp T.b_law_draw .nil pass0 (pa_cons (pv 1) (pa_cons (pe_callB call_len_seq (by rfl) T.z_len (by decide +kernel) (pa_cons (pv 11) pa_nil)) pa_nil))))
    (pss_one (ps_asg (pe_callTy call_tuple_of (by rfl) T.z_tuple (by decide +kernel) (pa_cons (pe_callB (cr_sortedSet rfl) (by rfl) T.z_sorted (by decide +kernel) (pa_cons (pe_callTy (GTi.cr_setTI rfl) (by rfl) T.z_set (by decide +kernel) (pa_cons (pe_op op_catA (pe_ix ix_list (pv 11) (pv 13) (fun _ _ => rfl)) (pe_tup (pa_cons (pe_call (ok_law_draw T) (hr.mono (by decide)) (by rfl) T.g_law_draw T.F_law_draw.kp T.b_law_draw .nil pass0 (pa_cons (pv 1) (pa_cons (pe_callB call_len_seq (by rfl) T.z_len (by decide +kernel) (pa_cons (pv 4) pa_nil)) pa_nil))) pa_nil))) pa_nil)) pa_nil)) pa_nil)) (pg_sub (pv 11) (pv 13) set_list)))) pss_nil)))
    (pss_cons (ps_if (pt_not (pt_val (pe_call (ok_law_same T) (hr.mono (by decide)) (by rfl) T.g_law_same T.F_law_same.kp T.b_law_same .nil pass0 (pa_cons (pe_call (ok_breach T) (hr.mono (by decide)) (by rfl) T.g_breach T.F_breach.kp T.b_breach .nil pass0 (pa_cons (pv 6) (pa_cons (pe_callTy call_tuple_of (by rfl) T.z_tuple (by decide +kernel) (pa_cons (pv 11) pa_nil)) pa_nil))) (pa_cons (pe_call (ok_law_breach T) (hr.mono (by decide)) (by rfl) T.g_law_breach T.F_law_breach.kp T.b_law_breach .nil pass0 (pa_cons (pv 4) (pa_cons (pv 3) (pa_cons (pe_callTy call_tuple_of (by rfl) T.z_tuple (by decide +kernel) (pa_cons (pv 11) pa_nil)) pa_nil)))) pa_nil))))) (pss_one (ps_ret pe_bl)) pss_nil)
    (pss_one (ps_if (pt_not (pt_val (pe_call (ok_law_judged_right T) (hr.mono (by decide)) (by rfl) T.g_law_judged_right T.F_law_judged_right.kp T.b_law_judged_right .nil pass0 (pa_cons (pv 1) (pa_cons (pv 3) (pa_cons (pv 4) pa_nil)))))) (pss_one (ps_ret pe_bl)) pss_nil))))))))))))))))
    (pss_one (ps_ret pe_bl))))), ?_⟩
    refine ⟨_, rfl, sa, ns, rfl, hS, hn, fun H1 h g s1 _ _ a1 => ?_⟩
    refine ⟨fun σ H' => σ = [some (.ref sa), some (.ref h), none, none, none, none, none, none, none, none, none, none, none, none] ∧ HandAt H' h g, ?_, ?_⟩
    · refine ⟨_, rfl, h, g, 8, rfl, a1, by decide, by decide, fun H2 d b2 a2 d0 d1 => ⟨rfl, _, rfl, ?_⟩⟩
      rw [dec_int]
      by_cases c : d = 0
      · rw [decide_eq_true c]
        exact iteT ⟨_, rfl, h, g, rfl, a2, fun H3 k3 a3 => ⟨true, rfl, iteF ⟨rfl, a3⟩⟩⟩
      · rw [decide_eq_false c]
        exact iteF ⟨rfl, a2⟩
    clear a1 hS
    rintro σ H1 ⟨rfl, a1⟩
    refine ⟨3, rfl, by decide, by decide, ?_⟩
    refine for_range (lo := 0) (n := (3 : Int).toNat) (fun i σ H' => ∃ y2 y3 y4 y5 y6 y7 y8 y9 y10 y11 y12 y13 : Option V, σ = [some (.ref sa), some (.ref h), y2, y3, y4, y5, y6, y7, y8, y9, y10, y11, y12, y13] ∧ HandAt H' h g) ⟨_, _, _, _, _, _, _, _, _, _, _, _, rfl, a1⟩ ?_ ?_
    · rintro i σ H2 hi ⟨y2, y3, y4, y5, y6, y7, y8, y9, y10, y11, y12, y13, rfl, a2⟩
      refine ⟨_, rfl, h, g, 12, rfl, a2, by decide, by decide, fun H3 b b3 a3 b0 b1 => ⟨1, b, rfl, rfl, ?_⟩⟩
      dsimp only
      have hb : 1 ≤ 1 + b ∧ 1 + b ≤ 12 := by omega
      generalize 1 + b = bot at hb ⊢
      refine ⟨_, rfl, _, rfl, h, g, 5, bot, 6, 4, rfl, a3, by decide, ⟨hb.1, by omega⟩, by decide, by decide, fun H4 a rs k4 a4 ra ok => ?_⟩
      obtain ⟨xs, ea, al⟩ := id ra
      have one := ok.one
      have few := ok.few
      have lx := al.len
      refine ⟨_, rfl, _, rfl, .int bot, .ref a, .int bot, .tup (rs.map rwT), h, rfl, .int _, .tup ea (rows_is al), fun _ H5 p x dx s5 ep ex => ?_, fun wd hw => by rw [rows_good ok] at hw; cases hw⟩
      refine ⟨p, _, rfl, SqT.of ep, rfl, _, _, rfl, _, _, rfl, rfl, ?_⟩
      have ra5 := ra.same s5
      have ea5 := s5 _ _ ea
      have w5 : Wd A.c_Buckets H5 h g a x bot rs := ⟨a4.same s5, ra5, ⟨dx, a, ex, ra5⟩⟩
      clear a3 b3 a2 k4 s5 ep a4 ra ea
      refine ⟨_, rfl, rfl, _, rfl, iteF ?_⟩
      refine ⟨_, rfl, _, rfl, _, rfl, fun x2 dx2 nx2 nd2 ne2 => make_bk ra5 ok nx2 nd2 ne2 fun H6 s6 bk6 => ?_⟩
      have w6 := w5.same s6
      have ex6 := s6 _ _ ex
      obtain ⟨dy, ay, hy, ry⟩ := id bk6
      refine ⟨x, dx, _, _, rfl, ex6, .base (.ins hy T.cl_Buckets T.ci_Buckets T.en1 T.en2 T.em_Buckets), GP.first_self, .inr ⟨x, x2, dx, dy, a, ay, bot, rs, rfl, ex6, hy, w6.ra, ry, true, rfl, _, rfl, iteF ?_⟩⟩
      refine ⟨_, rfl, _, rfl, _, rfl, by show 2 ≤ sizeLine; decide, fun z nz => ?_⟩
      have s7 := same_upd nz (o := .tup [.int bot, .ref a])
      have ez : upd H6 z (.tup [.int bot, .ref a]) z = some (.tup [.int bot, .ref a]) := upd_same
      have w7 := w6.same s7
      have ex7 := s7 _ _ ex6
      have ea7 := s7 _ _ (s6 _ _ ea5)
      generalize upd H6 z (.tup [.int bot, .ref a]) = H7 at s7 ez w7 ex7 ea7 ⊢
      refine ⟨x, dx, _, _, rfl, ex7, .base (.tup ez), GP.first_rev (by decide +kernel), .inl ⟨x, z, _, rfl, ez, false, rfl, _, rfl, iteF ?_⟩⟩
      clear ex7 ez s7 w6 ex6 hy ry bk6 s6 nx2 nd2 ne2 w5 ra5 ea5 ex
      -- line, beats
      refine ⟨_, rfl, _, rfl, a, xs, rfl, .inr (SqT.of ea7), h, g, _, rfl, w7.hand, by omega, by omega, fun H8 l' b8 a8 l0 l1 => ?_⟩
      obtain ⟨l, rfl⟩ : ∃ l : Nat, l' = (l : Int) := ⟨l'.toNat, by omega⟩
      have w8 := w7.kp b8.kp a8
      refine ⟨_, rfl, _, rfl, h, g, 80, rfl, a8, by decide, by decide, fun H9 d9 b9 a9 d0 d1 => ⟨10, 9, rfl, rfl, ⟨by decide, by decide, by decide⟩, by show 5 ≤ sizeLine; decide, fun L nL => ?_⟩⟩
      have w9 := w8.kp b9.kp a9
      have s10 := same_upd nL (o := .lst [.int 0, .int 1, .int 2, .int d9, .int (10 ^ (9 : Int).toNat)])
      have w10 := w9.same s10
      have hL := a9.ne_none nL
      refine ⟨h, g, L, _, rfl, w10.hand, SqL.of upd_same, fun H' b => SqL.of ((b L hL).trans upd_same), by show 0 < 5; decide, by show 5 ≤ 100000; decide, fun H11 j v b11 a11 hv => ?_⟩
      have hbt : ∃ m : Int, v = .int m ∧ 0 ≤ m ∧ m ≤ 1000000000 := by
        have q := List.mem_of_getElem? hv
        simp only [List.mem_cons, List.not_mem_nil, or_false] at q
        rcases q with q | q | q | q | q <;> subst q <;> exact ⟨_, rfl, by first | decide | omega, by first | decide | omega⟩
      obtain ⟨m, rfl, m0, m1⟩ := hbt
      have w11 := w10.kp b11.kp a11
      clear w10 w9 w8 w7 b8 b9 b11 a8 a9 a11 s10 hL nL hv ea7
      refine ⟨_, _, rfl, ?_⟩
      obtain ⟨xs, ea, al⟩ := id w11.ra
      have hl : l < rs.length := by omega
      have rl : rs[l]? = some (rs.getD l none) := by
        rw [List.getD_eq_getElem?_getD, List.getElem?_eq_getElem hl]
        rfl
      obtain ⟨rv, hrv, hrw⟩ := al.getL rl
      refine ⟨_, rfl, _, rfl, _, rfl, x, bot, m, rs, l, rfl, w11.bk, ok, hl, m0, m1, _, rfl, _, rfl, a, xs, _, _, rfl, rfl, SqT.of ea, atI_nat hrv, _, rfl, _, rfl, bot, m, _, rv, rfl, hrw, ok.ok _ (List.mem_of_getElem? rl), ok.b1, ok.b20, _, _, 0, rfl, .plain (.int _), by decide, fun H12 s12 => ⟨true, rfl, iteF ?_⟩⟩
      have w12 := w11.same s12
      have ea12 := s12 _ _ ea
      have lx := al.len
      clear w11 s12 hrw hrv ea al
      -- a stream
      refine ⟨_, rfl, _, rfl, _, rfl, _, rfl, a, xs, rfl, .inr (SqT.of ea12), _, rfl, h, g, 31, rfl, w12.hand, by decide, by decide, fun H13 m' b13 a13 q0 q1 => ?_⟩
      have w13 := w12.kp b13.kp a13
      refine ⟨h, g, rs.length, m'.toNat, ?_, a13, few, by omega, fun H14 c ss k14 a14 st14 len14 lots14 => ?_⟩
      · show [V.ref h, V.int (xs.length : Int), V.int m'] = [V.ref h, V.int (rs.length : Int), V.int ((m'.toNat : Nat) : Int)]
        rw [Int.toNat_of_nonneg q0, lx]
      have w14 := w13.kp k14 a14
      refine ⟨a, c, bot, rs, ss, rfl, w14.ra, ok, st14, ⟨by omega, lots14⟩, by omega, fun H15 c2 ts s15 st15 len15 lots15 none15 => ?_⟩
      have w15 := w14.same s15
      clear w14 w13 w12 k14 a14 a13 b13 ea12 st14
      have sok : StrmOk rs.length ts := ⟨by omega, lots15⟩
      refine ⟨_, rfl, _, rfl, x, c2, bot, rs, ts, rfl, w15.bk, ok, st15, sok, fun H16 v s16 tv => ?_⟩
      rw [none15] at tv
      cases (show v = V.non from tv)
      refine ⟨rfl, _, rfl, iteF ?_⟩
      have w16 := w15.same s16
      have st16 := st15.same s16
      clear w15 st15 s16 s15 tv
      refine ⟨3, rfl, by decide, by decide, ?_⟩
      refine for_range (lo := 0) (n := (3 : Int).toNat) (fun j σ H' => ∃ y10 y11 y12 y13 : Option V, σ = [some (.ref sa), some (.ref h), some (.int (0 + (i : Int))), some (.int bot), some (.ref a), some .non, some (.ref x), some (.int (l : Int)), some (.int m), some (.ref c2), y10, y11, y12, y13] ∧ Wd A.c_Buckets H' h g a x bot rs ∧ StrmAt H' c2 ts) ⟨_, _, _, _, rfl, w16, st16⟩ ?_ ?_
      · clear w16 st16
        rintro j σ H17 hj ⟨y10, y11, y12, y13, rfl, w17, st17⟩
        obtain ⟨us, eus, alus⟩ := id st17
        refine ⟨fun σ H' => ∃ M us', σ = [some (.ref sa), some (.ref h), some (.int (0 + (i : Int))), some (.int bot), some (.ref a), some .non, some (.ref x), some (.int (l : Int)), some (.int m), some (.ref c2), some (.int (0 + (j : Int))), some (.ref M), y12, y13] ∧ Wd A.c_Buckets H' h g a x bot rs ∧ StrmAt H' c2 ts ∧ H' M = some (.lst us') ∧ All2 (LotAt H') ts us' ∧ M ≠ h ∧ M ≠ g, ?_, ?_⟩
        · refine ⟨_, rfl, c2, us, rfl, .inr (SqT.of eus), fun M nM => ?_⟩
          have s18 := same_upd nM (o := .lst us)
          exact ⟨M, us, rfl, w17.same s18, st17.same s18, upd_same, alus.imp fun _ _ t => t.mv (fun q xs e => s18 _ _ e), w17.hand.ne_none nM, w17.hand.ne_g nM⟩
        clear w17 st17 eus alus us
        rintro σ H17 ⟨M, us, rfl, w17, st17, eM, alM, Mh, Mg⟩
        refine ⟨_, rfl, h, g, 3, rfl, w17.hand, by decide, by decide, fun H18 d b18 a18 d0 d1 => ⟨_, _, rfl, rfl, _, rfl, by omega, by omega, ?_⟩⟩
        have tk18 : ∀ q zs, H17 q = some (.tup zs) → H18 q = some (.tup zs) := fun q zs e => tup_kp b18.kp w17.hand e
        refine for_range (lo := 0) (n := (1 + d).toNat) (fun k2 σ H' => ∃ (y12 y13 : Option V) (us' : List V) (ss' : Strm), σ = [some (.ref sa), some (.ref h), some (.int (0 + (i : Int))), some (.int bot), some (.ref a), some .non, some (.ref x), some (.int (l : Int)), some (.int m), some (.ref c2), some (.int (0 + (j : Int))), some (.ref M), y12, y13] ∧ Wd A.c_Buckets H' h g a x bot rs ∧ StrmAt H' c2 ts ∧ H' M = some (.lst us') ∧ All2 (LotAt H') ss' us' ∧ StrmOk rs.length ss')
          ⟨_, _, us, ts, rfl, w17.kp b18.kp a18, st17.mv tk18, b18.kp _ _ Mh eM, alM.imp fun _ _ t => t.mv tk18, sok⟩ ?_ ?_
        · clear w17 st17 eM alM a18 b18 tk18 us
          rintro k2 σ H18 hk2 ⟨y12, y13, us, ss', rfl, w18, st18, eM, alM, sok'⟩
          have lus := alM.len
          have fewS := sok'.few
          refine ⟨_, rfl, M, us, rfl, .inl (SqL.of eM), _, _, rfl, rfl, _, rfl, ?_⟩
          by_cases cu : us.length = 0
          · rw [decide_eq_false (by omega)]
            exact iteF ⟨_, _, us, ss', rfl, w18, st18, eM, alM, sok'⟩
          rw [decide_eq_true (by omega)]
          refine iteT ⟨_, rfl, _, rfl, M, us, rfl, .inl (SqL.of eM), h, g, _, rfl, w18.hand, by omega, by omega, fun H19 at' b19 a19 t0 t1 => ?_⟩
          obtain ⟨at_, rfl⟩ : ∃ z : Nat, at' = (z : Int) := ⟨at'.toNat, by omega⟩
          have tk19 : ∀ q zs, H18 q = some (.tup zs) → H19 q = some (.tup zs) := fun q zs e => tup_kp b19.kp w18.hand e
          have w19 := w18.kp b19.kp a19
          have st19 := st18.mv tk19
          have eM19 := b19.kp _ _ Mh eM
          have al19 := alM.imp fun _ _ t => t.mv tk19
          clear w18 st18 eM alM b19 tk19
          obtain ⟨u, hu⟩ : ∃ u, us[at_]? = some u := ⟨_, List.getElem?_eq_getElem (by omega)⟩
          obtain ⟨ls, hls, q, rfl, hq⟩ := al19.get hu
          obtain ⟨lasc, llt⟩ := sok'.ok ls (List.mem_of_getElem? hls)
          have lls := nd_len_lt lasc llt
          obtain ⟨xs, ea, al⟩ := id w19.ra
          have lx := al.len
          refine ⟨_, rfl, _, rfl, M, us, _, _, rfl, rfl, SqL.of eM19, atI_nat hu, _, rfl, _, rfl, a, xs, rfl, .inr (SqT.of ea), h, g, _, rfl, a19, by omega, by omega, fun H20 dl b20 a20 e0 e1 => ⟨by show 1 ≤ sizeLine; decide, fun z nz => ?_⟩⟩
          have tk20 : ∀ q zs, H19 q = some (.tup zs) → H20 q = some (.tup zs) := fun q zs e => tup_kp b20.kp a19 e
          have w20 := w19.kp b20.kp a20
          have st20 := st19.mv tk20
          have eM20 := b20.kp _ _ Mh eM19
          have al20 := al19.imp fun _ _ t => t.mv tk20
          have hq20 := tk20 _ _ hq
          have s21 := same_upd nz (o := .tup [.int dl])
          have ez : upd H20 z (.tup [.int dl]) z = some (.tup [.int dl]) := upd_same
          clear w19 st19 eM19 al19 b20 tk20 hq
          refine cat_at (s21 _ _ hq20) ez (by unfold natsV; rw [List.length_map]; show ls.length + 1 ≤ 1000; omega) fun H22 p s22 e22 => ?_
          have ecat : natsV ls ++ [V.int dl] = ((ls.map fun (x : Nat) => (x : Int)) ++ [dl]).map V.int := by
            unfold natsV
            rw [List.map_append, List.map_map]
            rfl
          rw [ecat] at e22
          refine ⟨p, _, rfl, SqT.of e22, by rw [List.length_append, List.length_map]; show ls.length + 1 ≤ 4000; omega, fun S cN nS hc => ?_⟩
          have s23 := same_upd nS (o := SetO w S (fun j => decide (j ∈ (ls.map fun (x : Nat) => (x : Int)) ++ [dl])) cN)
          unfold tNil
          show rSortedSet w [V.ref S] _ _
          refine sort_set (H := upd H22 S (SetO w S (fun j => decide (j ∈ (ls.map fun (x : Nat) => (x : Int)) ++ [dl])) cN)) (S := fun j => decide (j ∈ (ls.map fun (x : Nat) => (x : Int)) ++ [dl])) (n := cN) upd_same (by rw [List.length_append, List.length_map] at hc; have hc : cN ≤ ls.length + 1 := hc; omega) fun H24 p2 ns2 s24 e24 asc mem => ?_
          have s2024 := ((s21.trans s22).trans s23).trans s24
          have good : ∀ x ∈ ns2, 0 ≤ x ∧ x < (rs.length : Int) := fun y hy => by
            have q := of_decide_eq_true ((mem y).mp hy)
            rcases List.mem_append.mp q with q | q
            · obtain ⟨n0, hn0, rfl⟩ := List.mem_map.mp q
              have := llt n0 hn0
              omega
            · rw [List.mem_singleton] at q
              omega
          rw [nats_of fun y hy => (good y hy).1] at e24
          have w24 := w20.same s2024
          have st24 := st20.same s2024
          have eM24 := s2024 _ _ eM20
          have al24 := al20.imp fun _ _ t => t.mv (fun q xs e => s2024 q _ e)
          refine ⟨p2, _, rfl, .inl ⟨SqL.of e24, fun z2 nz2 => ?_⟩⟩
          have s25 := same_upd nz2 (o := .tup (natsV (ns2.map Int.toNat)))
          have ez2 : upd H24 z2 (.tup (natsV (ns2.map Int.toNat))) z2 = some (.tup (natsV (ns2.map Int.toNat))) := upd_same
          have w25 := w24.same s25
          have st25 := st24.same s25
          have eM25 := s25 _ _ eM24
          have al25 := al24.imp fun _ _ t => t.mv (fun q xs e => s25 q _ e)
          generalize upd H24 z2 (.tup (natsV (ns2.map Int.toNat))) = H25 at s25 ez2 w25 st25 eM25 al25 ⊢
          refine ⟨_, rfl, _, rfl, M, us, _, at_, rfl, rfl, eM25, Evl.ixN_nat (by omega), ?_⟩
          have tM : ∀ q zs, H25 q = some (.tup zs) → upd H25 M (.lst (us.set at_ (.ref z2))) q = some (.tup zs) := fun q zs e => tup_put eM25 e
          refine ⟨_, _, us.set at_ (.ref z2), ss'.set at_ (ns2.map Int.toNat), rfl, w25.put eM25 Mh Mg, st25.mv tM, upd_same, all2_set (al25.imp fun _ _ t => t.mv tM) ⟨z2, rfl, tM _ _ ez2⟩, ⟨by rw [List.length_set]; exact fewS, fun lz hlz => ?_⟩⟩
          rcases List.mem_or_eq_of_mem_set hlz with w' | w'
          · exact sok'.ok lz w'
          · rw [w']
            exact lot_of asc good
        · clear w17 st17 eM alM a18 b18 tk18 us
          rintro σ H18 ⟨y12, y13, us, ss', rfl, w18, st18, eM, alM, sok'⟩
          refine ⟨_, rfl, _, rfl, M, us, rfl, .inl ⟨SqL.of eM, fun z nz => ?_⟩⟩
          have s19 := same_upd nz (o := .tup us)
          have ez : upd H18 z (.tup us) z = some (.tup us) := upd_same
          have w19 := w18.same s19
          generalize upd H18 z (.tup us) = H19 at s19 ez w19 ⊢
          refine ⟨x, z, bot, rs, ss', rfl, w19.bk, ok, ⟨us, ez, alM.imp fun _ _ t => t.mv (fun q xs e => s19 q _ e)⟩, sok', fun H20 v s20 tv => ?_⟩
          have s1820 := s19.trans s20
          refine ⟨_, rfl, _, rfl, _, rfl, M, us, rfl, .inl ⟨SqL.of (s1820 _ _ eM), fun z2 nz2 => ?_⟩⟩
          have s21 := same_upd nz2 (o := .tup us)
          have s1821 := s1820.trans s21
          refine ⟨a, z2, bot, rs, ss', rfl, w18.ra.same s1821, ok, ⟨us, upd_same, alM.imp fun _ _ t => t.mv (fun q xs e => s1821 q _ e)⟩, sok'.few, fun H22 v2 s22 tv2 => ?_⟩
          refine ⟨v, v2, 1, rfl, tri_same (tv.same (s21.trans s22)) tv2, by decide, fun H23 s23 => ⟨true, rfl, iteF ?_⟩⟩
          have sAll := (s1821.trans s22).trans s23
          have w23 := w18.same sAll
          refine ⟨_, rfl, _, rfl, _, rfl, h, g, a, bot, rs, rfl, w23.hand, w23.ra, one, few, fun H24 k24 a24 => ⟨true, rfl, iteF ?_⟩⟩
          exact ⟨_, _, _, _, rfl, w23.kp k24 a24, (st18.same sAll).mv fun q zs e => tup_kp k24 w23.hand e⟩
      · rintro σ H17 ⟨y10, y11, y12, y13, rfl, w17, _⟩
        exact ⟨_, _, _, _, _, _, _, _, _, _, _, _, rfl, w17.hand⟩
    · rintro σ H2 ⟨y2, y3, y4, y5, y6, y7, y8, y9, y10, y11, y12, y13, rfl, a2⟩
      exact kq H2
end

theorem end_mk {l : PySem.W.OpenLaw} {w : World} {K : PySem.W.Frag} {mg : Str → Option Value} {fa f_law : Addr} {kV dc pm cd ct : Value} {an : Option Addr} (E : ∃ A : Adr, Top K mg A ∧ A.d_law = PySem.W.fnOf "law" "law" (defArgs s_law) (defBody s_law) (defScope s_law) .none kV dc pm an cd ct ∧ A.a_law = f_law) (hfa : mg "law" = some (.ref fa)) :
    ∃ fd : FuncData, (∀ (s : Shared) (v : Value), BindsTo s fd ⟨[v], []⟩ [("_law_script", v)]) ∧ ∀ base : Heap, K.In base → base.Ns mainGlobals mg → FnOk l.prog w K mg base CX0 14 fa fd ["_law_script"] (spLaw K) := by
  obtain ⟨A, T, ed, ea⟩ := E
  have e := hfa.symm.trans T.g_law
  cases e
  exact ⟨A.d_law, fun s v => by rw [ed]; exact .of_eq rfl, fun base _ _ => ok_law T⟩
theorem top_end {l : PySem.W.OpenLaw} {w : World} {K : PySem.W.Frag} {h : Heap} {mg : Str → Option Value} {fa : Addr} (X : K.In h) (G : h.Ns mainGlobals mg) (hfa : mg "law" = some (.ref fa))
    {f_BadBuckets___init__ : Addr} {od_BadBuckets___init__ an_BadBuckets___init__ : Option Addr} {sl_BadBuckets___init__ : Array (Option Value)} {oc_BadBuckets___init__ kV_BadBuckets___init__ dc_BadBuckets___init__ pm_BadBuckets___init__ cd_BadBuckets___init__ ct_BadBuckets___init__ : Value}
    {f_is_integer : Addr} {od_is_integer an_is_integer : Option Addr} {sl_is_integer : Array (Option Value)} {oc_is_integer kV_is_integer dc_is_integer pm_is_integer cd_is_integer ct_is_integer : Value}
    {f_is_integer_from : Addr} {od_is_integer_from an_is_integer_from : Option Addr} {sl_is_integer_from : Array (Option Value)} {oc_is_integer_from kV_is_integer_from dc_is_integer_from pm_is_integer_from cd_is_integer_from ct_is_integer_from : Value}
    {f_is_number_below : Addr} {od_is_number_below an_is_number_below : Option Addr} {sl_is_number_below : Array (Option Value)} {oc_is_number_below kV_is_number_below dc_is_number_below pm_is_number_below cd_is_number_below ct_is_number_below : Value}
    {f_is_tuple_of : Addr} {od_is_tuple_of an_is_tuple_of : Option Addr} {sl_is_tuple_of : Array (Option Value)} {oc_is_tuple_of kV_is_tuple_of dc_is_tuple_of pm_is_tuple_of cd_is_tuple_of ct_is_tuple_of : Value}
    {f_is_lot_below : Addr} {od_is_lot_below an_is_lot_below : Option Addr} {sl_is_lot_below : Array (Option Value)} {oc_is_lot_below kV_is_lot_below dc_is_lot_below pm_is_lot_below cd_is_lot_below ct_is_lot_below : Value}
    {f_is_bucket : Addr} {od_is_bucket an_is_bucket : Option Addr} {sl_is_bucket : Array (Option Value)} {oc_is_bucket kV_is_bucket dc_is_bucket pm_is_bucket cd_is_bucket ct_is_bucket : Value}
    {f_Buckets___init__ : Addr} {od_Buckets___init__ an_Buckets___init__ : Option Addr} {sl_Buckets___init__ : Array (Option Value)} {oc_Buckets___init__ kV_Buckets___init__ dc_Buckets___init__ pm_Buckets___init__ cd_Buckets___init__ ct_Buckets___init__ : Value}
    {f_Buckets___eq__ : Addr} {od_Buckets___eq__ an_Buckets___eq__ : Option Addr} {sl_Buckets___eq__ : Array (Option Value)} {oc_Buckets___eq__ kV_Buckets___eq__ dc_Buckets___eq__ pm_Buckets___eq__ cd_Buckets___eq__ ct_Buckets___eq__ : Value}
    {f_check_line : Addr} {od_check_line an_check_line : Option Addr} {sl_check_line : Array (Option Value)} {oc_check_line kV_check_line dc_check_line pm_check_line cd_check_line ct_check_line : Value}
    {f_check_number : Addr} {od_check_number an_check_number : Option Addr} {sl_check_number : Array (Option Value)} {oc_check_number kV_check_number dc_check_number pm_check_number cd_check_number ct_check_number : Value}
    {f_most_of : Addr} {od_most_of an_most_of : Option Addr} {sl_most_of : Array (Option Value)} {oc_most_of kV_most_of dc_most_of pm_most_of cd_most_of ct_most_of : Value}
    {f_most_sent : Addr} {od_most_sent an_most_sent : Option Addr} {sl_most_sent : Array (Option Value)} {oc_most_sent kV_most_sent dc_most_sent pm_most_sent cd_most_sent ct_most_sent : Value}
    {f_check_stream : Addr} {od_check_stream an_check_stream : Option Addr} {sl_check_stream : Array (Option Value)} {oc_check_stream kV_check_stream dc_check_stream pm_check_stream cd_check_stream ct_check_stream : Value}
    {f_first_beginning : Addr} {od_first_beginning an_first_beginning : Option Addr} {sl_first_beginning : Array (Option Value)} {oc_first_beginning kV_first_beginning dc_first_beginning pm_first_beginning cd_first_beginning ct_first_beginning : Value}
    {f_Gauge___init__ : Addr} {od_Gauge___init__ an_Gauge___init__ : Option Addr} {sl_Gauge___init__ : Array (Option Value)} {oc_Gauge___init__ kV_Gauge___init__ dc_Gauge___init__ pm_Gauge___init__ cd_Gauge___init__ ct_Gauge___init__ : Value}
    {f_Gauge_overflows : Addr} {od_Gauge_overflows an_Gauge_overflows : Option Addr} {sl_Gauge_overflows : Array (Option Value)} {oc_Gauge_overflows kV_Gauge_overflows dc_Gauge_overflows pm_Gauge_overflows cd_Gauge_overflows ct_Gauge_overflows : Value}
    {f_breach : Addr} {od_breach an_breach : Option Addr} {sl_breach : Array (Option Value)} {oc_breach kV_breach dc_breach pm_breach cd_breach ct_breach : Value}
    {f_law_hand : Addr} {od_law_hand an_law_hand : Option Addr} {sl_law_hand : Array (Option Value)} {oc_law_hand kV_law_hand dc_law_hand pm_law_hand cd_law_hand ct_law_hand : Value}
    {f_law_draw : Addr} {od_law_draw an_law_draw : Option Addr} {sl_law_draw : Array (Option Value)} {oc_law_draw kV_law_draw dc_law_draw pm_law_draw cd_law_draw ct_law_draw : Value}
    {f_law_pick : Addr} {od_law_pick an_law_pick : Option Addr} {sl_law_pick : Array (Option Value)} {oc_law_pick kV_law_pick dc_law_pick pm_law_pick cd_law_pick ct_law_pick : Value}
    {f_law_same : Addr} {od_law_same an_law_same : Option Addr} {sl_law_same : Array (Option Value)} {oc_law_same kV_law_same dc_law_same pm_law_same cd_law_same ct_law_same : Value}
    {f_law_rows : Addr} {od_law_rows an_law_rows : Option Addr} {sl_law_rows : Array (Option Value)} {oc_law_rows kV_law_rows dc_law_rows pm_law_rows cd_law_rows ct_law_rows : Value}
    {f_law_sent : Addr} {od_law_sent an_law_sent : Option Addr} {sl_law_sent : Array (Option Value)} {oc_law_sent kV_law_sent dc_law_sent pm_law_sent cd_law_sent ct_law_sent : Value}
    {f_law_is_int : Addr} {od_law_is_int an_law_is_int : Option Addr} {sl_law_is_int : Array (Option Value)} {oc_law_is_int kV_law_is_int dc_law_is_int pm_law_is_int cd_law_is_int ct_law_is_int : Value}
    {f_law_deep : Addr} {od_law_deep an_law_deep : Option Addr} {sl_law_deep : Array (Option Value)} {oc_law_deep kV_law_deep dc_law_deep pm_law_deep cd_law_deep ct_law_deep : Value}
    {f_law_stream : Addr} {od_law_stream an_law_stream : Option Addr} {sl_law_stream : Array (Option Value)} {oc_law_stream kV_law_stream dc_law_stream pm_law_stream cd_law_stream ct_law_stream : Value}
    {f_law_thinned : Addr} {od_law_thinned an_law_thinned : Option Addr} {sl_law_thinned : Array (Option Value)} {oc_law_thinned kV_law_thinned dc_law_thinned pm_law_thinned cd_law_thinned ct_law_thinned : Value}
    {f_law_breach : Addr} {od_law_breach an_law_breach : Option Addr} {sl_law_breach : Array (Option Value)} {oc_law_breach kV_law_breach dc_law_breach pm_law_breach cd_law_breach ct_law_breach : Value}
    {f_law_is_row : Addr} {od_law_is_row an_law_is_row : Option Addr} {sl_law_is_row : Array (Option Value)} {oc_law_is_row kV_law_is_row dc_law_is_row pm_law_is_row cd_law_is_row ct_law_is_row : Value}
    {f_law_due : Addr} {od_law_due an_law_due : Option Addr} {sl_law_due : Array (Option Value)} {oc_law_due kV_law_due dc_law_due pm_law_due cd_law_due ct_law_due : Value}
    {f_law_told : Addr} {od_law_told an_law_told : Option Addr} {sl_law_told : Array (Option Value)} {oc_law_told kV_law_told dc_law_told pm_law_told cd_law_told ct_law_told : Value}
    {f_law_odd_rows : Addr} {od_law_odd_rows an_law_odd_rows : Option Addr} {sl_law_odd_rows : Array (Option Value)} {oc_law_odd_rows kV_law_odd_rows dc_law_odd_rows pm_law_odd_rows cd_law_odd_rows ct_law_odd_rows : Value}
    {f_law_judged_right : Addr} {od_law_judged_right an_law_judged_right : Option Addr} {sl_law_judged_right : Array (Option Value)} {oc_law_judged_right kV_law_judged_right dc_law_judged_right pm_law_judged_right cd_law_judged_right ct_law_judged_right : Value}
    {f_law_long_right : Addr} {od_law_long_right an_law_long_right : Option Addr} {sl_law_long_right : Array (Option Value)} {oc_law_long_right kV_law_long_right dc_law_long_right pm_law_long_right cd_law_long_right ct_law_long_right : Value}
    {f_law : Addr} {od_law an_law : Option Addr} {sl_law : Array (Option Value)} {oc_law kV_law dc_law pm_law cd_law ct_law : Value}
    {c_Buckets : Addr}
    {c_Gauge : Addr}
    {c_BadBuckets : Addr}
    {t_MOST_LINES : Tok}
    {t_KINDS : Tok}
    {t_GREATEST_BOTTOM : Tok}
    {t_GREATEST_BURST : Tok}
    {t_GREATEST_NUMBER : Tok}
    {t_MOST_LOTS : Tok}
    (ac_Buckets : PySem.W.nsIn K mainGlobals "Buckets" = some (some (.ref c_Buckets)))
    (ac_Gauge : PySem.W.nsIn K mainGlobals "Gauge" = some (some (.ref c_Gauge)))
    (ac_BadBuckets : PySem.W.nsIn K mainGlobals "BadBuckets" = some (some (.ref c_BadBuckets)))
    (a_BadBuckets___init__ : PySem.W.findIn K (.ref c_BadBuckets) "__init__" = some (some (.ref f_BadBuckets___init__)))
    (i_BadBuckets___init__ : PySem.W.isFn K (.ref f_BadBuckets___init__) = true)
    (l_BadBuckets___init__ : K.lookup f_BadBuckets___init__ = some ⟨oc_BadBuckets___init__, od_BadBuckets___init__, .func (PySem.W.fnOf "__init__" "BadBuckets.__init__" (defArgs s_BadBuckets___init__) (defBody s_BadBuckets___init__) (defScope s_BadBuckets___init__) .none kV_BadBuckets___init__ dc_BadBuckets___init__ pm_BadBuckets___init__ an_BadBuckets___init__ cd_BadBuckets___init__ ct_BadBuckets___init__), sl_BadBuckets___init__⟩)
    (q_BadBuckets___init__ : PySem.W.codeIn K cd_BadBuckets___init__ "BadBuckets.__init__" = true)
    (p_BadBuckets___init__ : PySem.W.keepIn K (.ref f_BadBuckets___init__) = true)
    (a_is_integer : PySem.W.nsIn K mainGlobals "is_integer" = some (some (.ref f_is_integer)))
    (l_is_integer : K.lookup f_is_integer = some ⟨oc_is_integer, od_is_integer, .func (PySem.W.fnOf "is_integer" "is_integer" (defArgs s_is_integer) (defBody s_is_integer) (defScope s_is_integer) .none kV_is_integer dc_is_integer pm_is_integer an_is_integer cd_is_integer ct_is_integer), sl_is_integer⟩)
    (q_is_integer : PySem.W.codeIn K cd_is_integer "is_integer" = true)
    (p_is_integer : PySem.W.keepIn K (.ref f_is_integer) = true)
    (a_is_integer_from : PySem.W.nsIn K mainGlobals "is_integer_from" = some (some (.ref f_is_integer_from)))
    (l_is_integer_from : K.lookup f_is_integer_from = some ⟨oc_is_integer_from, od_is_integer_from, .func (PySem.W.fnOf "is_integer_from" "is_integer_from" (defArgs s_is_integer_from) (defBody s_is_integer_from) (defScope s_is_integer_from) .none kV_is_integer_from dc_is_integer_from pm_is_integer_from an_is_integer_from cd_is_integer_from ct_is_integer_from), sl_is_integer_from⟩)
    (q_is_integer_from : PySem.W.codeIn K cd_is_integer_from "is_integer_from" = true)
    (p_is_integer_from : PySem.W.keepIn K (.ref f_is_integer_from) = true)
    (a_is_number_below : PySem.W.nsIn K mainGlobals "is_number_below" = some (some (.ref f_is_number_below)))
    (l_is_number_below : K.lookup f_is_number_below = some ⟨oc_is_number_below, od_is_number_below, .func (PySem.W.fnOf "is_number_below" "is_number_below" (defArgs s_is_number_below) (defBody s_is_number_below) (defScope s_is_number_below) .none kV_is_number_below dc_is_number_below pm_is_number_below an_is_number_below cd_is_number_below ct_is_number_below), sl_is_number_below⟩)
    (q_is_number_below : PySem.W.codeIn K cd_is_number_below "is_number_below" = true)
    (p_is_number_below : PySem.W.keepIn K (.ref f_is_number_below) = true)
    (a_is_tuple_of : PySem.W.nsIn K mainGlobals "is_tuple_of" = some (some (.ref f_is_tuple_of)))
    (l_is_tuple_of : K.lookup f_is_tuple_of = some ⟨oc_is_tuple_of, od_is_tuple_of, .func (PySem.W.fnOf "is_tuple_of" "is_tuple_of" (defArgs s_is_tuple_of) (defBody s_is_tuple_of) (defScope s_is_tuple_of) .none kV_is_tuple_of dc_is_tuple_of pm_is_tuple_of an_is_tuple_of cd_is_tuple_of ct_is_tuple_of), sl_is_tuple_of⟩)
    (q_is_tuple_of : PySem.W.codeIn K cd_is_tuple_of "is_tuple_of" = true)
    (p_is_tuple_of : PySem.W.keepIn K (.ref f_is_tuple_of) = true)
    (a_is_lot_below : PySem.W.nsIn K mainGlobals "is_lot_below" = some (some (.ref f_is_lot_below)))
    (l_is_lot_below : K.lookup f_is_lot_below = some ⟨oc_is_lot_below, od_is_lot_below, .func (PySem.W.fnOf "is_lot_below" "is_lot_below" (defArgs s_is_lot_below) (defBody s_is_lot_below) (defScope s_is_lot_below) .none kV_is_lot_below dc_is_lot_below pm_is_lot_below an_is_lot_below cd_is_lot_below ct_is_lot_below), sl_is_lot_below⟩)
    (q_is_lot_below : PySem.W.codeIn K cd_is_lot_below "is_lot_below" = true)
    (p_is_lot_below : PySem.W.keepIn K (.ref f_is_lot_below) = true)
    (a_is_bucket : PySem.W.nsIn K mainGlobals "is_bucket" = some (some (.ref f_is_bucket)))
    (l_is_bucket : K.lookup f_is_bucket = some ⟨oc_is_bucket, od_is_bucket, .func (PySem.W.fnOf "is_bucket" "is_bucket" (defArgs s_is_bucket) (defBody s_is_bucket) (defScope s_is_bucket) .none kV_is_bucket dc_is_bucket pm_is_bucket an_is_bucket cd_is_bucket ct_is_bucket), sl_is_bucket⟩)
    (q_is_bucket : PySem.W.codeIn K cd_is_bucket "is_bucket" = true)
    (p_is_bucket : PySem.W.keepIn K (.ref f_is_bucket) = true)
    (a_Buckets___init__ : PySem.W.findIn K (.ref c_Buckets) "__init__" = some (some (.ref f_Buckets___init__)))
    (i_Buckets___init__ : PySem.W.isFn K (.ref f_Buckets___init__) = true)
    (l_Buckets___init__ : K.lookup f_Buckets___init__ = some ⟨oc_Buckets___init__, od_Buckets___init__, .func (PySem.W.fnOf "__init__" "Buckets.__init__" (defArgs s_Buckets___init__) (defBody s_Buckets___init__) (defScope s_Buckets___init__) .none kV_Buckets___init__ dc_Buckets___init__ pm_Buckets___init__ an_Buckets___init__ cd_Buckets___init__ ct_Buckets___init__), sl_Buckets___init__⟩)
    (q_Buckets___init__ : PySem.W.codeIn K cd_Buckets___init__ "Buckets.__init__" = true)
    (p_Buckets___init__ : PySem.W.keepIn K (.ref f_Buckets___init__) = true)
    (a_Buckets___eq__ : PySem.W.findIn K (.ref c_Buckets) "__eq__" = some (some (.ref f_Buckets___eq__)))
    (i_Buckets___eq__ : PySem.W.isFn K (.ref f_Buckets___eq__) = true)
    (l_Buckets___eq__ : K.lookup f_Buckets___eq__ = some ⟨oc_Buckets___eq__, od_Buckets___eq__, .func (PySem.W.fnOf "__eq__" "Buckets.__eq__" (defArgs s_Buckets___eq__) (defBody s_Buckets___eq__) (defScope s_Buckets___eq__) .none kV_Buckets___eq__ dc_Buckets___eq__ pm_Buckets___eq__ an_Buckets___eq__ cd_Buckets___eq__ ct_Buckets___eq__), sl_Buckets___eq__⟩)
    (q_Buckets___eq__ : PySem.W.codeIn K cd_Buckets___eq__ "Buckets.__eq__" = true)
    (p_Buckets___eq__ : PySem.W.keepIn K (.ref f_Buckets___eq__) = true)
    (a_check_line : PySem.W.nsIn K mainGlobals "check_line" = some (some (.ref f_check_line)))
    (l_check_line : K.lookup f_check_line = some ⟨oc_check_line, od_check_line, .func (PySem.W.fnOf "check_line" "check_line" (defArgs s_check_line) (defBody s_check_line) (defScope s_check_line) .none kV_check_line dc_check_line pm_check_line an_check_line cd_check_line ct_check_line), sl_check_line⟩)
    (q_check_line : PySem.W.codeIn K cd_check_line "check_line" = true)
    (p_check_line : PySem.W.keepIn K (.ref f_check_line) = true)
    (a_check_number : PySem.W.nsIn K mainGlobals "check_number" = some (some (.ref f_check_number)))
    (l_check_number : K.lookup f_check_number = some ⟨oc_check_number, od_check_number, .func (PySem.W.fnOf "check_number" "check_number" (defArgs s_check_number) (defBody s_check_number) (defScope s_check_number) .none kV_check_number dc_check_number pm_check_number an_check_number cd_check_number ct_check_number), sl_check_number⟩)
    (q_check_number : PySem.W.codeIn K cd_check_number "check_number" = true)
    (p_check_number : PySem.W.keepIn K (.ref f_check_number) = true)
    (a_most_of : PySem.W.nsIn K mainGlobals "most_of" = some (some (.ref f_most_of)))
    (l_most_of : K.lookup f_most_of = some ⟨oc_most_of, od_most_of, .func (PySem.W.fnOf "most_of" "most_of" (defArgs s_most_of) (defBody s_most_of) (defScope s_most_of) .none kV_most_of dc_most_of pm_most_of an_most_of cd_most_of ct_most_of), sl_most_of⟩)
    (q_most_of : PySem.W.codeIn K cd_most_of "most_of" = true)
    (p_most_of : PySem.W.keepIn K (.ref f_most_of) = true)
    (a_most_sent : PySem.W.nsIn K mainGlobals "most_sent" = some (some (.ref f_most_sent)))
    (l_most_sent : K.lookup f_most_sent = some ⟨oc_most_sent, od_most_sent, .func (PySem.W.fnOf "most_sent" "most_sent" (defArgs s_most_sent) (defBody s_most_sent) (defScope s_most_sent) .none kV_most_sent dc_most_sent pm_most_sent an_most_sent cd_most_sent ct_most_sent), sl_most_sent⟩)
    (q_most_sent : PySem.W.codeIn K cd_most_sent "most_sent" = true)
    (p_most_sent : PySem.W.keepIn K (.ref f_most_sent) = true)
    (a_check_stream : PySem.W.nsIn K mainGlobals "check_stream" = some (some (.ref f_check_stream)))
    (l_check_stream : K.lookup f_check_stream = some ⟨oc_check_stream, od_check_stream, .func (PySem.W.fnOf "check_stream" "check_stream" (defArgs s_check_stream) (defBody s_check_stream) (defScope s_check_stream) .none kV_check_stream dc_check_stream pm_check_stream an_check_stream cd_check_stream ct_check_stream), sl_check_stream⟩)
    (q_check_stream : PySem.W.codeIn K cd_check_stream "check_stream" = true)
    (p_check_stream : PySem.W.keepIn K (.ref f_check_stream) = true)
    (a_first_beginning : PySem.W.nsIn K mainGlobals "first_beginning" = some (some (.ref f_first_beginning)))
    (l_first_beginning : K.lookup f_first_beginning = some ⟨oc_first_beginning, od_first_beginning, .func (PySem.W.fnOf "first_beginning" "first_beginning" (defArgs s_first_beginning) (defBody s_first_beginning) (defScope s_first_beginning) .none kV_first_beginning dc_first_beginning pm_first_beginning an_first_beginning cd_first_beginning ct_first_beginning), sl_first_beginning⟩)
    (q_first_beginning : PySem.W.codeIn K cd_first_beginning "first_beginning" = true)
    (p_first_beginning : PySem.W.keepIn K (.ref f_first_beginning) = true)
    (a_Gauge___init__ : PySem.W.findIn K (.ref c_Gauge) "__init__" = some (some (.ref f_Gauge___init__)))
    (i_Gauge___init__ : PySem.W.isFn K (.ref f_Gauge___init__) = true)
    (l_Gauge___init__ : K.lookup f_Gauge___init__ = some ⟨oc_Gauge___init__, od_Gauge___init__, .func (PySem.W.fnOf "__init__" "Gauge.__init__" (defArgs s_Gauge___init__) (defBody s_Gauge___init__) (defScope s_Gauge___init__) .none kV_Gauge___init__ dc_Gauge___init__ pm_Gauge___init__ an_Gauge___init__ cd_Gauge___init__ ct_Gauge___init__), sl_Gauge___init__⟩)
    (q_Gauge___init__ : PySem.W.codeIn K cd_Gauge___init__ "Gauge.__init__" = true)
    (p_Gauge___init__ : PySem.W.keepIn K (.ref f_Gauge___init__) = true)
    (a_Gauge_overflows : PySem.W.findIn K (.ref c_Gauge) "overflows" = some (some (.ref f_Gauge_overflows)))
    (i_Gauge_overflows : PySem.W.isFn K (.ref f_Gauge_overflows) = true)
    (l_Gauge_overflows : K.lookup f_Gauge_overflows = some ⟨oc_Gauge_overflows, od_Gauge_overflows, .func (PySem.W.fnOf "overflows" "Gauge.overflows" (defArgs s_Gauge_overflows) (defBody s_Gauge_overflows) (defScope s_Gauge_overflows) .none kV_Gauge_overflows dc_Gauge_overflows pm_Gauge_overflows an_Gauge_overflows cd_Gauge_overflows ct_Gauge_overflows), sl_Gauge_overflows⟩)
    (q_Gauge_overflows : PySem.W.codeIn K cd_Gauge_overflows "Gauge.overflows" = true)
    (p_Gauge_overflows : PySem.W.keepIn K (.ref f_Gauge_overflows) = true)
    (a_breach : PySem.W.nsIn K mainGlobals "breach" = some (some (.ref f_breach)))
    (l_breach : K.lookup f_breach = some ⟨oc_breach, od_breach, .func (PySem.W.fnOf "breach" "breach" (defArgs s_breach) (defBody s_breach) (defScope s_breach) .none kV_breach dc_breach pm_breach an_breach cd_breach ct_breach), sl_breach⟩)
    (q_breach : PySem.W.codeIn K cd_breach "breach" = true)
    (p_breach : PySem.W.keepIn K (.ref f_breach) = true)
    (a_law_hand : PySem.W.nsIn K mainGlobals "_law_hand" = some (some (.ref f_law_hand)))
    (l_law_hand : K.lookup f_law_hand = some ⟨oc_law_hand, od_law_hand, .func (PySem.W.fnOf "_law_hand" "_law_hand" (defArgs s_law_hand) (defBody s_law_hand) (defScope s_law_hand) .none kV_law_hand dc_law_hand pm_law_hand an_law_hand cd_law_hand ct_law_hand), sl_law_hand⟩)
    (q_law_hand : PySem.W.codeIn K cd_law_hand "_law_hand" = true)
    (p_law_hand : PySem.W.keepIn K (.ref f_law_hand) = true)
    (a_law_draw : PySem.W.nsIn K mainGlobals "_law_draw" = some (some (.ref f_law_draw)))
    (l_law_draw : K.lookup f_law_draw = some ⟨oc_law_draw, od_law_draw, .func (PySem.W.fnOf "_law_draw" "_law_draw" (defArgs s_law_draw) (defBody s_law_draw) (defScope s_law_draw) .none kV_law_draw dc_law_draw pm_law_draw an_law_draw cd_law_draw ct_law_draw), sl_law_draw⟩)
    (q_law_draw : PySem.W.codeIn K cd_law_draw "_law_draw" = true)
    (p_law_draw : PySem.W.keepIn K (.ref f_law_draw) = true)
    (a_law_pick : PySem.W.nsIn K mainGlobals "_law_pick" = some (some (.ref f_law_pick)))
    (l_law_pick : K.lookup f_law_pick = some ⟨oc_law_pick, od_law_pick, .func (PySem.W.fnOf "_law_pick" "_law_pick" (defArgs s_law_pick) (defBody s_law_pick) (defScope s_law_pick) .none kV_law_pick dc_law_pick pm_law_pick an_law_pick cd_law_pick ct_law_pick), sl_law_pick⟩)
    (q_law_pick : PySem.W.codeIn K cd_law_pick "_law_pick" = true)
    (p_law_pick : PySem.W.keepIn K (.ref f_law_pick) = true)
    (a_law_same : PySem.W.nsIn K mainGlobals "_law_same" = some (some (.ref f_law_same)))
    (l_law_same : K.lookup f_law_same = some ⟨oc_law_same, od_law_same, .func (PySem.W.fnOf "_law_same" "_law_same" (defArgs s_law_same) (defBody s_law_same) (defScope s_law_same) .none kV_law_same dc_law_same pm_law_same an_law_same cd_law_same ct_law_same), sl_law_same⟩)
    (q_law_same : PySem.W.codeIn K cd_law_same "_law_same" = true)
    (p_law_same : PySem.W.keepIn K (.ref f_law_same) = true)
    (a_law_rows : PySem.W.nsIn K mainGlobals "_law_rows" = some (some (.ref f_law_rows)))
    (l_law_rows : K.lookup f_law_rows = some ⟨oc_law_rows, od_law_rows, .func (PySem.W.fnOf "_law_rows" "_law_rows" (defArgs s_law_rows) (defBody s_law_rows) (defScope s_law_rows) .none kV_law_rows dc_law_rows pm_law_rows an_law_rows cd_law_rows ct_law_rows), sl_law_rows⟩)
    (q_law_rows : PySem.W.codeIn K cd_law_rows "_law_rows" = true)
    (p_law_rows : PySem.W.keepIn K (.ref f_law_rows) = true)
    (a_law_sent : PySem.W.nsIn K mainGlobals "_law_sent" = some (some (.ref f_law_sent)))
    (l_law_sent : K.lookup f_law_sent = some ⟨oc_law_sent, od_law_sent, .func (PySem.W.fnOf "_law_sent" "_law_sent" (defArgs s_law_sent) (defBody s_law_sent) (defScope s_law_sent) .none kV_law_sent dc_law_sent pm_law_sent an_law_sent cd_law_sent ct_law_sent), sl_law_sent⟩)
    (q_law_sent : PySem.W.codeIn K cd_law_sent "_law_sent" = true)
    (p_law_sent : PySem.W.keepIn K (.ref f_law_sent) = true)
    (a_law_is_int : PySem.W.nsIn K mainGlobals "_law_is_int" = some (some (.ref f_law_is_int)))
    (l_law_is_int : K.lookup f_law_is_int = some ⟨oc_law_is_int, od_law_is_int, .func (PySem.W.fnOf "_law_is_int" "_law_is_int" (defArgs s_law_is_int) (defBody s_law_is_int) (defScope s_law_is_int) .none kV_law_is_int dc_law_is_int pm_law_is_int an_law_is_int cd_law_is_int ct_law_is_int), sl_law_is_int⟩)
    (q_law_is_int : PySem.W.codeIn K cd_law_is_int "_law_is_int" = true)
    (p_law_is_int : PySem.W.keepIn K (.ref f_law_is_int) = true)
    (a_law_deep : PySem.W.nsIn K mainGlobals "_law_deep" = some (some (.ref f_law_deep)))
    (l_law_deep : K.lookup f_law_deep = some ⟨oc_law_deep, od_law_deep, .func (PySem.W.fnOf "_law_deep" "_law_deep" (defArgs s_law_deep) (defBody s_law_deep) (defScope s_law_deep) .none kV_law_deep dc_law_deep pm_law_deep an_law_deep cd_law_deep ct_law_deep), sl_law_deep⟩)
    (q_law_deep : PySem.W.codeIn K cd_law_deep "_law_deep" = true)
    (p_law_deep : PySem.W.keepIn K (.ref f_law_deep) = true)
    (a_law_stream : PySem.W.nsIn K mainGlobals "_law_stream" = some (some (.ref f_law_stream)))
    (l_law_stream : K.lookup f_law_stream = some ⟨oc_law_stream, od_law_stream, .func (PySem.W.fnOf "_law_stream" "_law_stream" (defArgs s_law_stream) (defBody s_law_stream) (defScope s_law_stream) .none kV_law_stream dc_law_stream pm_law_stream an_law_stream cd_law_stream ct_law_stream), sl_law_stream⟩)
    (q_law_stream : PySem.W.codeIn K cd_law_stream "_law_stream" = true)
    (p_law_stream : PySem.W.keepIn K (.ref f_law_stream) = true)
    (a_law_thinned : PySem.W.nsIn K mainGlobals "_law_thinned" = some (some (.ref f_law_thinned)))
    (l_law_thinned : K.lookup f_law_thinned = some ⟨oc_law_thinned, od_law_thinned, .func (PySem.W.fnOf "_law_thinned" "_law_thinned" (defArgs s_law_thinned) (defBody s_law_thinned) (defScope s_law_thinned) .none kV_law_thinned dc_law_thinned pm_law_thinned an_law_thinned cd_law_thinned ct_law_thinned), sl_law_thinned⟩)
    (q_law_thinned : PySem.W.codeIn K cd_law_thinned "_law_thinned" = true)
    (p_law_thinned : PySem.W.keepIn K (.ref f_law_thinned) = true)
    (a_law_breach : PySem.W.nsIn K mainGlobals "_law_breach" = some (some (.ref f_law_breach)))
    (l_law_breach : K.lookup f_law_breach = some ⟨oc_law_breach, od_law_breach, .func (PySem.W.fnOf "_law_breach" "_law_breach" (defArgs s_law_breach) (defBody s_law_breach) (defScope s_law_breach) .none kV_law_breach dc_law_breach pm_law_breach an_law_breach cd_law_breach ct_law_breach), sl_law_breach⟩)
    (q_law_breach : PySem.W.codeIn K cd_law_breach "_law_breach" = true)
    (p_law_breach : PySem.W.keepIn K (.ref f_law_breach) = true)
    (a_law_is_row : PySem.W.nsIn K mainGlobals "_law_is_row" = some (some (.ref f_law_is_row)))
    (l_law_is_row : K.lookup f_law_is_row = some ⟨oc_law_is_row, od_law_is_row, .func (PySem.W.fnOf "_law_is_row" "_law_is_row" (defArgs s_law_is_row) (defBody s_law_is_row) (defScope s_law_is_row) .none kV_law_is_row dc_law_is_row pm_law_is_row an_law_is_row cd_law_is_row ct_law_is_row), sl_law_is_row⟩)
    (q_law_is_row : PySem.W.codeIn K cd_law_is_row "_law_is_row" = true)
    (p_law_is_row : PySem.W.keepIn K (.ref f_law_is_row) = true)
    (a_law_due : PySem.W.nsIn K mainGlobals "_law_due" = some (some (.ref f_law_due)))
    (l_law_due : K.lookup f_law_due = some ⟨oc_law_due, od_law_due, .func (PySem.W.fnOf "_law_due" "_law_due" (defArgs s_law_due) (defBody s_law_due) (defScope s_law_due) .none kV_law_due dc_law_due pm_law_due an_law_due cd_law_due ct_law_due), sl_law_due⟩)
    (q_law_due : PySem.W.codeIn K cd_law_due "_law_due" = true)
    (p_law_due : PySem.W.keepIn K (.ref f_law_due) = true)
    (a_law_told : PySem.W.nsIn K mainGlobals "_law_told" = some (some (.ref f_law_told)))
    (l_law_told : K.lookup f_law_told = some ⟨oc_law_told, od_law_told, .func (PySem.W.fnOf "_law_told" "_law_told" (defArgs s_law_told) (defBody s_law_told) (defScope s_law_told) .none kV_law_told dc_law_told pm_law_told an_law_told cd_law_told ct_law_told), sl_law_told⟩)
    (q_law_told : PySem.W.codeIn K cd_law_told "_law_told" = true)
    (p_law_told : PySem.W.keepIn K (.ref f_law_told) = true)
    (a_law_odd_rows : PySem.W.nsIn K mainGlobals "_law_odd_rows" = some (some (.ref f_law_odd_rows)))
    (l_law_odd_rows : K.lookup f_law_odd_rows = some ⟨oc_law_odd_rows, od_law_odd_rows, .func (PySem.W.fnOf "_law_odd_rows" "_law_odd_rows" (defArgs s_law_odd_rows) (defBody s_law_odd_rows) (defScope s_law_odd_rows) .none kV_law_odd_rows dc_law_odd_rows pm_law_odd_rows an_law_odd_rows cd_law_odd_rows ct_law_odd_rows), sl_law_odd_rows⟩)
    (q_law_odd_rows : PySem.W.codeIn K cd_law_odd_rows "_law_odd_rows" = true)
    (p_law_odd_rows : PySem.W.keepIn K (.ref f_law_odd_rows) = true)
    (a_law_judged_right : PySem.W.nsIn K mainGlobals "_law_judged_right" = some (some (.ref f_law_judged_right)))
    (l_law_judged_right : K.lookup f_law_judged_right = some ⟨oc_law_judged_right, od_law_judged_right, .func (PySem.W.fnOf "_law_judged_right" "_law_judged_right" (defArgs s_law_judged_right) (defBody s_law_judged_right) (defScope s_law_judged_right) .none kV_law_judged_right dc_law_judged_right pm_law_judged_right an_law_judged_right cd_law_judged_right ct_law_judged_right), sl_law_judged_right⟩)
    (q_law_judged_right : PySem.W.codeIn K cd_law_judged_right "_law_judged_right" = true)
    (p_law_judged_right : PySem.W.keepIn K (.ref f_law_judged_right) = true)
    (a_law_long_right : PySem.W.nsIn K mainGlobals "_law_long_right" = some (some (.ref f_law_long_right)))
    (l_law_long_right : K.lookup f_law_long_right = some ⟨oc_law_long_right, od_law_long_right, .func (PySem.W.fnOf "_law_long_right" "_law_long_right" (defArgs s_law_long_right) (defBody s_law_long_right) (defScope s_law_long_right) .none kV_law_long_right dc_law_long_right pm_law_long_right an_law_long_right cd_law_long_right ct_law_long_right), sl_law_long_right⟩)
    (q_law_long_right : PySem.W.codeIn K cd_law_long_right "_law_long_right" = true)
    (p_law_long_right : PySem.W.keepIn K (.ref f_law_long_right) = true)
    (a_law : PySem.W.nsIn K mainGlobals "law" = some (some (.ref f_law)))
    (l_law : K.lookup f_law = some ⟨oc_law, od_law, .func (PySem.W.fnOf "law" "law" (defArgs s_law) (defBody s_law) (defScope s_law) .none kV_law dc_law pm_law an_law cd_law ct_law), sl_law⟩)
    (q_law : PySem.W.codeIn K cd_law "law" = true)
    (p_law : PySem.W.keepIn K (.ref f_law) = true)
    (pg_Buckets : PySem.W.plainGet K c_Buckets Str.empty = true)
    (hd_Buckets : PySem.W.hasDictIn K c_Buckets = true)
    (po_Buckets : PySem.W.plainOver K c_Buckets = true)
    (sa_Buckets : PySem.W.findIn K (.ref c_Buckets) "__setattr__" = some (some (.builtin "object.__setattr__")))
    (mk_Buckets : PySem.W.makesIn K c_Buckets = true)
    (kc_Buckets : PySem.W.keepIn K (.ref c_Buckets) = true)
    (n_Buckets_bottom : PySem.W.findIn K (.ref c_Buckets) "bottom" = some none)
    (n_Buckets_rows : PySem.W.findIn K (.ref c_Buckets) "rows" = some none)
    (ne_Buckets : PySem.W.findIn K (.ref c_Buckets) "__ne__" = some (some (.builtin "object.__ne__")))
    (pg_Gauge : PySem.W.plainGet K c_Gauge Str.empty = true)
    (hd_Gauge : PySem.W.hasDictIn K c_Gauge = true)
    (po_Gauge : PySem.W.plainOver K c_Gauge = true)
    (sa_Gauge : PySem.W.findIn K (.ref c_Gauge) "__setattr__" = some (some (.builtin "object.__setattr__")))
    (mk_Gauge : PySem.W.makesIn K c_Gauge = true)
    (kc_Gauge : PySem.W.keepIn K (.ref c_Gauge) = true)
    (n_Gauge_bottom : PySem.W.findIn K (.ref c_Gauge) "bottom" = some none)
    (n_Gauge_row : PySem.W.findIn K (.ref c_Gauge) "row" = some none)
    (n_Gauge_level : PySem.W.findIn K (.ref c_Gauge) "level" = some none)
    (n_Gauge_least : PySem.W.findIn K (.ref c_Gauge) "least" = some none)
    (em_Gauge : PySem.W.mroIn K c_Gauge (.type "object") = some true)
    (es_Gauge : PySem.W.findIn K (.ref c_Gauge) "__eq__" = some (some (.builtin "object.__eq__")))
    (xt_BadBuckets : PySem.W.typeIn K (.ref f_BadBuckets___init__) = some (.type "function"))
    (nf_BadBuckets_part : PySem.W.findIn K (.ref c_BadBuckets) "part" = some none)
    (kp_BadBuckets : PySem.W.keepIn K (.ref c_BadBuckets) = true)
    (s_BadBuckets : PySem.W.subIn K (.ref c_BadBuckets) (.type "BaseException") = some true)
    (t_BadBuckets : PySem.W.typeIn K (.ref c_BadBuckets) = some (.type "type"))
    (e1_BadBuckets : PySem.W.findIn K (.ref c_BadBuckets) "__getattribute__" = some (some (.builtin "BaseException.__getattribute__")))
    (e2_BadBuckets : PySem.W.findIn K (.ref c_BadBuckets) "__getattr__" = some none)
    (e3_BadBuckets : PySem.W.hasDictIn K c_BadBuckets = true)
    (e4_BadBuckets : PySem.W.findIn K (.ref c_BadBuckets) "__class__" = some (some (.builtin "object.__class__")))
    (e5_BadBuckets : PySem.W.mroIn K c_BadBuckets (.type "object") = some true)
    (tt_Buckets : PySem.W.typeIn K (.ref c_Buckets) = some (.type "type"))
    (ci_Buckets : PySem.W.findIn K (.ref c_Buckets) "__class__" = some (some (.builtin "object.__class__")))
    (em_Buckets : PySem.W.mroIn K c_Buckets (.type "object") = some true)
    (tt_Gauge : PySem.W.typeIn K (.ref c_Gauge) = some (.type "type"))
    (ci_Gauge : PySem.W.findIn K (.ref c_Gauge) "__class__" = some (some (.builtin "object.__class__")))
    (en1 : PySem.W.specialIn K (.builtin "object.__class__") "__get__" = some (some (.builtin "getset_descriptor.__get__")))
    (en2 : PySem.W.takesIn K (.builtin "object.__class__") = some true)
    (oc_BadBuckets : ∃ nm q N bs bm sn sub ab col dd k0 k1 k2 k3 k5, List.lookup c_BadBuckets K = some (excClassObj nm q c_BadBuckets N bs bm true sn sub ab col dd k0 k1 k2 k3 k5 "ValueError.__new__") ∧ HandSPX.refsVE bm = true)
    (os_BadBuckets : PySem.W.findIn K (.ref c_BadBuckets) "__setattr__" = some (some (.builtin "object.__setattr__")))
    (su_Buckets_int : PySem.W.subIn K (.ref c_Buckets) (.type "int") = some false)
    (su_Buckets_bool : PySem.W.subIn K (.ref c_Buckets) (.type "bool") = some false)
    (su_Buckets_tuple : PySem.W.subIn K (.ref c_Buckets) (.type "tuple") = some false)
    (su_Gauge_int : PySem.W.subIn K (.ref c_Gauge) (.type "int") = some false)
    (su_Gauge_bool : PySem.W.subIn K (.ref c_Gauge) (.type "bool") = some false)
    (su_Gauge_tuple : PySem.W.subIn K (.ref c_Gauge) (.type "tuple") = some false)
    (su_BadBuckets_BadBuckets : PySem.W.subIn K (.ref c_BadBuckets) (.ref c_BadBuckets) = some true)
    (k_MOST_LINES : PySem.W.nsIn K mainGlobals "MOST_LINES" = some (some (.int 12 t_MOST_LINES)))
    (k_KINDS : PySem.W.nsIn K mainGlobals "KINDS" = some (some (.int 8 t_KINDS)))
    (k_GREATEST_BOTTOM : PySem.W.nsIn K mainGlobals "GREATEST_BOTTOM" = some (some (.int 20 t_GREATEST_BOTTOM)))
    (k_GREATEST_BURST : PySem.W.nsIn K mainGlobals "GREATEST_BURST" = some (some (.int 20 t_GREATEST_BURST)))
    (k_GREATEST_NUMBER : PySem.W.nsIn K mainGlobals "GREATEST_NUMBER" = some (some (.int 1000000000 t_GREATEST_NUMBER)))
    (k_MOST_LOTS : PySem.W.nsIn K mainGlobals "MOST_LOTS" = some (some (.int 6000 t_MOST_LOTS)))
    (z_abs : PySem.W.nsIn K mainGlobals "abs" = some none)
    (z_all : PySem.W.nsIn K mainGlobals "all" = some none)
    (z_bool : PySem.W.nsIn K mainGlobals "bool" = some none)
    (z_enumerate : PySem.W.nsIn K mainGlobals "enumerate" = some none)
    (z_int : PySem.W.nsIn K mainGlobals "int" = some none)
    (z_isinstance : PySem.W.nsIn K mainGlobals "isinstance" = some none)
    (z_len : PySem.W.nsIn K mainGlobals "len" = some none)
    (z_list : PySem.W.nsIn K mainGlobals "list" = some none)
    (z_max : PySem.W.nsIn K mainGlobals "max" = some none)
    (z_min : PySem.W.nsIn K mainGlobals "min" = some none)
    (z_range : PySem.W.nsIn K mainGlobals "range" = some none)
    (z_set : PySem.W.nsIn K mainGlobals "set" = some none)
    (z_sorted : PySem.W.nsIn K mainGlobals "sorted" = some none)
    (z_tuple : PySem.W.nsIn K mainGlobals "tuple" = some none)
    (z_zip : PySem.W.nsIn K mainGlobals "zip" = some none)
    : ∃ fd : FuncData, (∀ (s : Shared) (v : Value), BindsTo s fd ⟨[v], []⟩ [("_law_script", v)]) ∧ ∀ base : Heap, K.In base → base.Ns mainGlobals mg → FnOk l.prog w K mg base CX0 14 fa fd ["_law_script"] (spLaw K) :=
  end_mk (top_mk (l := l) (w := w) X G ac_Buckets ac_Gauge ac_BadBuckets a_BadBuckets___init__ i_BadBuckets___init__ l_BadBuckets___init__ q_BadBuckets___init__ p_BadBuckets___init__ a_is_integer l_is_integer q_is_integer p_is_integer a_is_integer_from l_is_integer_from q_is_integer_from p_is_integer_from a_is_number_below l_is_number_below q_is_number_below p_is_number_below a_is_tuple_of l_is_tuple_of q_is_tuple_of p_is_tuple_of a_is_lot_below l_is_lot_below q_is_lot_below p_is_lot_below a_is_bucket l_is_bucket q_is_bucket p_is_bucket a_Buckets___init__ i_Buckets___init__ l_Buckets___init__ q_Buckets___init__ p_Buckets___init__ a_Buckets___eq__ i_Buckets___eq__ l_Buckets___eq__ q_Buckets___eq__ p_Buckets___eq__ a_check_line l_check_line q_check_line p_check_line a_check_number l_check_number q_check_number p_check_number a_most_of l_most_of q_most_of p_most_of a_most_sent l_most_sent q_most_sent p_most_sent a_check_stream l_check_stream q_check_stream p_check_stream a_first_beginning l_first_beginning q_first_beginning p_first_beginning a_Gauge___init__ i_Gauge___init__ l_Gauge___init__ q_Gauge___init__ p_Gauge___init__ a_Gauge_overflows i_Gauge_overflows l_Gauge_overflows q_Gauge_overflows p_Gauge_overflows a_breach l_breach q_breach p_breach a_law_hand l_law_hand q_law_hand p_law_hand a_law_draw l_law_draw q_law_draw p_law_draw a_law_pick l_law_pick q_law_pick p_law_pick a_law_same l_law_same q_law_same p_law_same a_law_rows l_law_rows q_law_rows p_law_rows a_law_sent l_law_sent q_law_sent p_law_sent a_law_is_int l_law_is_int q_law_is_int p_law_is_int a_law_deep l_law_deep q_law_deep p_law_deep a_law_stream l_law_stream q_law_stream p_law_stream a_law_thinned l_law_thinned q_law_thinned p_law_thinned a_law_breach l_law_breach q_law_breach p_law_breach a_law_is_row l_law_is_row q_law_is_row p_law_is_row a_law_due l_law_due q_law_due p_law_due a_law_told l_law_told q_law_told p_law_told a_law_odd_rows l_law_odd_rows q_law_odd_rows p_law_odd_rows a_law_judged_right l_law_judged_right q_law_judged_right p_law_judged_right a_law_long_right l_law_long_right q_law_long_right p_law_long_right a_law l_law q_law p_law pg_Buckets hd_Buckets po_Buckets sa_Buckets mk_Buckets kc_Buckets n_Buckets_bottom n_Buckets_rows ne_Buckets pg_Gauge hd_Gauge po_Gauge sa_Gauge mk_Gauge kc_Gauge n_Gauge_bottom n_Gauge_row n_Gauge_level n_Gauge_least em_Gauge es_Gauge xt_BadBuckets nf_BadBuckets_part kp_BadBuckets s_BadBuckets t_BadBuckets e1_BadBuckets e2_BadBuckets e3_BadBuckets e4_BadBuckets e5_BadBuckets tt_Buckets ci_Buckets em_Buckets tt_Gauge ci_Gauge en1 en2 oc_BadBuckets os_BadBuckets su_Buckets_int su_Buckets_bool su_Buckets_tuple su_Gauge_int su_Gauge_bool su_Gauge_tuple su_BadBuckets_BadBuckets k_MOST_LINES k_KINDS k_GREATEST_BOTTOM k_GREATEST_BURST k_GREATEST_NUMBER k_MOST_LOTS z_abs z_all z_bool z_enumerate z_int z_isinstance z_len z_list z_max z_min z_range z_set z_sorted z_tuple z_zip) hfa

end KX
open PySem PySem.W PyProof.Rows in
set_option maxRecDepth 100000 in
set_option maxHeartbeats 0 in
theorem PySem.Challenge.cw_exactbeats_k54_buckets_judged_and_breach_holds : PySem.Challenge.rw_exactbeats_k54_buckets_judged_and_breach.Holds := by
  w_on; o_law; k_head; (case hw => w_witness2)
  k_fill
  refine L2.walk_of (l := PySem.Challenge.rw_exactbeats_k54_buckets_judged_and_breach) (n := 63) (k := 14) (x := "_law_script") (CX := fun _ => L2.CX0) (sp := fun w => KX.spLaw _) rfl (by decide) rfl ⟨rfl, by decide, by decide⟩ (fun w h Y => PySem.W.kIn_of Y) ?F (fun _ _ a ns hl _ hS => ⟨a, ns, rfl, hS, hl, fun _ => rfl⟩) (fun _ _ _ _ _ h => h)
  case F =>
    intro w mg fa h KX_ G hmg
    refine' KX.top_end KX_ G hmg ?ac_Buckets ?ac_Gauge ?ac_BadBuckets ?a_BadBuckets___init__ ?i_BadBuckets___init__ ?l_BadBuckets___init__ ?q_BadBuckets___init__ ?p_BadBuckets___init__ ?a_is_integer ?l_is_integer ?q_is_integer ?p_is_integer ?a_is_integer_from ?l_is_integer_from ?q_is_integer_from ?p_is_integer_from ?a_is_number_below ?l_is_number_below ?q_is_number_below ?p_is_number_below ?a_is_tuple_of ?l_is_tuple_of ?q_is_tuple_of ?p_is_tuple_of ?a_is_lot_below ?l_is_lot_below ?q_is_lot_below ?p_is_lot_below ?a_is_bucket ?l_is_bucket ?q_is_bucket ?p_is_bucket ?a_Buckets___init__ ?i_Buckets___init__ ?l_Buckets___init__ ?q_Buckets___init__ ?p_Buckets___init__ ?a_Buckets___eq__ ?i_Buckets___eq__ ?l_Buckets___eq__ ?q_Buckets___eq__ ?p_Buckets___eq__ ?a_check_line ?l_check_line ?q_check_line ?p_check_line ?a_check_number ?l_check_number ?q_check_number ?p_check_number ?a_most_of ?l_most_of ?q_most_of ?p_most_of ?a_most_sent ?l_most_sent ?q_most_sent ?p_most_sent ?a_check_stream ?l_check_stream ?q_check_stream ?p_check_stream ?a_first_beginning ?l_first_beginning ?q_first_beginning ?p_first_beginning ?a_Gauge___init__ ?i_Gauge___init__ ?l_Gauge___init__ ?q_Gauge___init__ ?p_Gauge___init__ ?a_Gauge_overflows ?i_Gauge_overflows ?l_Gauge_overflows ?q_Gauge_overflows ?p_Gauge_overflows ?a_breach ?l_breach ?q_breach ?p_breach ?a_law_hand ?l_law_hand ?q_law_hand ?p_law_hand ?a_law_draw ?l_law_draw ?q_law_draw ?p_law_draw ?a_law_pick ?l_law_pick ?q_law_pick ?p_law_pick ?a_law_same ?l_law_same ?q_law_same ?p_law_same ?a_law_rows ?l_law_rows ?q_law_rows ?p_law_rows ?a_law_sent ?l_law_sent ?q_law_sent ?p_law_sent ?a_law_is_int ?l_law_is_int ?q_law_is_int ?p_law_is_int ?a_law_deep ?l_law_deep ?q_law_deep ?p_law_deep ?a_law_stream ?l_law_stream ?q_law_stream ?p_law_stream ?a_law_thinned ?l_law_thinned ?q_law_thinned ?p_law_thinned ?a_law_breach ?l_law_breach ?q_law_breach ?p_law_breach ?a_law_is_row ?l_law_is_row ?q_law_is_row ?p_law_is_row ?a_law_due ?l_law_due ?q_law_due ?p_law_due ?a_law_told ?l_law_told ?q_law_told ?p_law_told ?a_law_odd_rows ?l_law_odd_rows ?q_law_odd_rows ?p_law_odd_rows ?a_law_judged_right ?l_law_judged_right ?q_law_judged_right ?p_law_judged_right ?a_law_long_right ?l_law_long_right ?q_law_long_right ?p_law_long_right ?a_law ?l_law ?q_law ?p_law ?pg_Buckets ?hd_Buckets ?po_Buckets ?sa_Buckets ?mk_Buckets ?kc_Buckets ?n_Buckets_bottom ?n_Buckets_rows ?ne_Buckets ?pg_Gauge ?hd_Gauge ?po_Gauge ?sa_Gauge ?mk_Gauge ?kc_Gauge ?n_Gauge_bottom ?n_Gauge_row ?n_Gauge_level ?n_Gauge_least ?em_Gauge ?es_Gauge ?xt_BadBuckets ?nf_BadBuckets_part ?kp_BadBuckets ?s_BadBuckets ?t_BadBuckets ?e1_BadBuckets ?e2_BadBuckets ?e3_BadBuckets ?e4_BadBuckets ?e5_BadBuckets ?tt_Buckets ?ci_Buckets ?em_Buckets ?tt_Gauge ?ci_Gauge ?en1 ?en2 ?oc_BadBuckets ?os_BadBuckets ?su_Buckets_int ?su_Buckets_bool ?su_Buckets_tuple ?su_Gauge_int ?su_Gauge_bool ?su_Gauge_tuple ?su_BadBuckets_BadBuckets ?k_MOST_LINES ?k_KINDS ?k_GREATEST_BOTTOM ?k_GREATEST_BURST ?k_GREATEST_NUMBER ?k_MOST_LOTS ?z_abs ?z_all ?z_bool ?z_enumerate ?z_int ?z_isinstance ?z_len ?z_list ?z_max ?z_min ?z_range ?z_set ?z_sorted ?z_tuple ?z_zip
    (case ac_Buckets => k_is)
    (case ac_Gauge => k_is)
    (case ac_BadBuckets => k_is)
    (case a_BadBuckets___init__ => k_is)
    (case i_BadBuckets___init__ => k_is)
    (case l_BadBuckets___init__ => k_is)
    (case q_BadBuckets___init__ => k_is)
    (case p_BadBuckets___init__ => k_is)
    (case a_is_integer => k_is)
    (case l_is_integer => k_is)
    (case q_is_integer => k_is)
    (case p_is_integer => k_is)
    (case a_is_integer_from => k_is)
    (case l_is_integer_from => k_is)
    (case q_is_integer_from => k_is)
    (case p_is_integer_from => k_is)
    (case a_is_number_below => k_is)
    (case l_is_number_below => k_is)
    (case q_is_number_below => k_is)
    (case p_is_number_below => k_is)
    (case a_is_tuple_of => k_is)
    (case l_is_tuple_of => k_is)
    (case q_is_tuple_of => k_is)
    (case p_is_tuple_of => k_is)
    (case a_is_lot_below => k_is)
    (case l_is_lot_below => k_is)
    (case q_is_lot_below => k_is)
    (case p_is_lot_below => k_is)
    (case a_is_bucket => k_is)
    (case l_is_bucket => k_is)
    (case q_is_bucket => k_is)
    (case p_is_bucket => k_is)
    (case a_Buckets___init__ => k_is)
    (case i_Buckets___init__ => k_is)
    (case l_Buckets___init__ => k_is)
    (case q_Buckets___init__ => k_is)
    (case p_Buckets___init__ => k_is)
    (case a_Buckets___eq__ => k_is)
    (case i_Buckets___eq__ => k_is)
    (case l_Buckets___eq__ => k_is)
    (case q_Buckets___eq__ => k_is)
    (case p_Buckets___eq__ => k_is)
    (case a_check_line => k_is)
    (case l_check_line => k_is)
    (case q_check_line => k_is)
    (case p_check_line => k_is)
    (case a_check_number => k_is)
    (case l_check_number => k_is)
    (case q_check_number => k_is)
    (case p_check_number => k_is)
    (case a_most_of => k_is)
    (case l_most_of => k_is)
    (case q_most_of => k_is)
    (case p_most_of => k_is)
    (case a_most_sent => k_is)
    (case l_most_sent => k_is)
    (case q_most_sent => k_is)
    (case p_most_sent => k_is)
    (case a_check_stream => k_is)
    (case l_check_stream => k_is)
    (case q_check_stream => k_is)
    (case p_check_stream => k_is)
    (case a_first_beginning => k_is)
    (case l_first_beginning => k_is)
    (case q_first_beginning => k_is)
    (case p_first_beginning => k_is)
    (case a_Gauge___init__ => k_is)
    (case i_Gauge___init__ => k_is)
    (case l_Gauge___init__ => k_is)
    (case q_Gauge___init__ => k_is)
    (case p_Gauge___init__ => k_is)
    (case a_Gauge_overflows => k_is)
    (case i_Gauge_overflows => k_is)
    (case l_Gauge_overflows => k_is)
    (case q_Gauge_overflows => k_is)
    (case p_Gauge_overflows => k_is)
    (case a_breach => k_is)
    (case l_breach => k_is)
    (case q_breach => k_is)
    (case p_breach => k_is)
    (case a_law_hand => k_is)
    (case l_law_hand => k_is)
    (case q_law_hand => k_is)
    (case p_law_hand => k_is)
    (case a_law_draw => k_is)
    (case l_law_draw => k_is)
    (case q_law_draw => k_is)
    (case p_law_draw => k_is)
    (case a_law_pick => k_is)
    (case l_law_pick => k_is)
    (case q_law_pick => k_is)
    (case p_law_pick => k_is)
    (case a_law_same => k_is)
    (case l_law_same => k_is)
    (case q_law_same => k_is)
    (case p_law_same => k_is)
    (case a_law_rows => k_is)
    (case l_law_rows => k_is)
    (case q_law_rows => k_is)
    (case p_law_rows => k_is)
    (case a_law_sent => k_is)
    (case l_law_sent => k_is)
    (case q_law_sent => k_is)
    (case p_law_sent => k_is)
    (case a_law_is_int => k_is)
    (case l_law_is_int => k_is)
    (case q_law_is_int => k_is)
    (case p_law_is_int => k_is)
    (case a_law_deep => k_is)
    (case l_law_deep => k_is)
    (case q_law_deep => k_is)
    (case p_law_deep => k_is)
    (case a_law_stream => k_is)
    (case l_law_stream => k_is)
    (case q_law_stream => k_is)
    (case p_law_stream => k_is)
    (case a_law_thinned => k_is)
    (case l_law_thinned => k_is)
    (case q_law_thinned => k_is)
    (case p_law_thinned => k_is)
    (case a_law_breach => k_is)
    (case l_law_breach => k_is)
    (case q_law_breach => k_is)
    (case p_law_breach => k_is)
    (case a_law_is_row => k_is)
    (case l_law_is_row => k_is)
    (case q_law_is_row => k_is)
    (case p_law_is_row => k_is)
    (case a_law_due => k_is)
    (case l_law_due => k_is)
    (case q_law_due => k_is)
    (case p_law_due => k_is)
    (case a_law_told => k_is)
    (case l_law_told => k_is)
    (case q_law_told => k_is)
    (case p_law_told => k_is)
    (case a_law_odd_rows => k_is)
    (case l_law_odd_rows => k_is)
    (case q_law_odd_rows => k_is)
    (case p_law_odd_rows => k_is)
    (case a_law_judged_right => k_is)
    (case l_law_judged_right => k_is)
    (case q_law_judged_right => k_is)
    (case p_law_judged_right => k_is)
    (case a_law_long_right => k_is)
    (case l_law_long_right => k_is)
    (case q_law_long_right => k_is)
    (case p_law_long_right => k_is)
    (case a_law => k_is)
    (case l_law => k_is)
    (case q_law => k_is)
    (case p_law => k_is)
    (case pg_Buckets => k_is)
    (case hd_Buckets => k_is)
    (case po_Buckets => k_is)
    (case sa_Buckets => k_is)
    (case mk_Buckets => k_is)
    (case kc_Buckets => k_is)
    (case n_Buckets_bottom => k_is)
    (case n_Buckets_rows => k_is)
    (case ne_Buckets => k_is)
    (case pg_Gauge => k_is)
    (case hd_Gauge => k_is)
    (case po_Gauge => k_is)
    (case sa_Gauge => k_is)
    (case mk_Gauge => k_is)
    (case kc_Gauge => k_is)
    (case n_Gauge_bottom => k_is)
    (case n_Gauge_row => k_is)
    (case n_Gauge_level => k_is)
    (case n_Gauge_least => k_is)
    (case em_Gauge => k_is)
    (case es_Gauge => k_is)
    (case xt_BadBuckets => k_is)
    (case nf_BadBuckets_part => k_is)
    (case kp_BadBuckets => k_is)
    (case s_BadBuckets => k_is)
    (case t_BadBuckets => k_is)
    (case e1_BadBuckets => k_is)
    (case e2_BadBuckets => k_is)
    (case e3_BadBuckets => k_is)
    (case e4_BadBuckets => k_is)
    (case e5_BadBuckets => k_is)
    (case tt_Buckets => k_is)
    (case ci_Buckets => k_is)
    (case em_Buckets => k_is)
    (case tt_Gauge => k_is)
    (case ci_Gauge => k_is)
    (case en1 => k_is)
    (case en2 => k_is)
    (case oc_BadBuckets => exact ⟨_, _, _, _, _, _, _, _, _, _, _, _, _, _, _, rfl, by decide +kernel⟩)
    (case os_BadBuckets => k_is)
    (case su_Buckets_int => k_is)
    (case su_Buckets_bool => k_is)
    (case su_Buckets_tuple => k_is)
    (case su_Gauge_int => k_is)
    (case su_Gauge_bool => k_is)
    (case su_Gauge_tuple => k_is)
    (case su_BadBuckets_BadBuckets => k_is)
    (case k_MOST_LINES => k_is)
    (case k_KINDS => k_is)
    (case k_GREATEST_BOTTOM => k_is)
    (case k_GREATEST_BURST => k_is)
    (case k_GREATEST_NUMBER => k_is)
    (case k_MOST_LOTS => k_is)
    (case z_abs => k_is)
    (case z_all => k_is)
    (case z_bool => k_is)
    (case z_enumerate => k_is)
    (case z_int => k_is)
    (case z_isinstance => k_is)
    (case z_len => k_is)
    (case z_list => k_is)
    (case z_max => k_is)
    (case z_min => k_is)
    (case z_range => k_is)
    (case z_set => k_is)
    (case z_sorted => k_is)
    (case z_tuple => k_is)
    (case z_zip => k_is)
