import PyProof.Rows.All
import Wide.All
import OpenK.AllK
import Wide.FinOn
import HandS.ForMost
import HandS.IsInst
import HandS.More
import HandS.SetFor
import HandS.Evl
import HandS.Walk
import PyProof.Rows.CountFlat
import HandS.ForExc
import HandS.TryMany
import HandS.Small
import HandS.Style
import HandS.Lambda
import HandS.EndTab
import HandS.ExcIs
import KE.KNestM
import HandS.Zip
import HandS.TupAny
import HandS.Strs
import HandS.SortInts
import HandS.ExcInit
import HandS.ExcField
import KE.KExcIs
import KE.GoesMore
import PyProof.EnumMake
import PyProof.Draws
import PyProof.ReprRoads
import PyProof.CallFns
import PyProof.ReprLen
import PyProof.InstEq
import HandS.TupMul
import HandS.Flow
import HandS.Dict
import HandS.DictComp
import HandS.Deep
import HandS.TupSets
import HandS.Conv
import HandS.Rev
import PySem.Challenge.RW_exactbeats_k62_whole_rounds_spoiled
set_option Elab.async false
set_option linter.all false
set_option maxRecDepth 100000
set_option maxHeartbeats 4000000
/-! Rules that the layer lacks: an own exception made without arguments; what a lambda's call may raise. -/
namespace GX
open PySem PySem.Spec PyProof.Rows L2
section
variable {X : Cx}
/-- X(): an own exception class without an __init__ of its own, no argument -/
theorem pmk_own0 {C : Addr} {bmB : List Value} {B newId initId : String} {x : Str} {p pos : Pos} (FB : ExcBaseFacts B newId initId bmB) (hx : PySem.W.excIn X.K C bmB newId = true) (hm : X.mg x = some (.ref C)) (hk : PySem.W.keepIn X.K (.ref C) = true)
    (hR : Raises X (.ref C)) (hg : Gl X x) (hdb : (x == ("__debug__" : Str)) = false := by decide) : PMk X (.Call (.Name x p) [] [] pos) (fun _ H Q => Q (.ref C) none H) := by
  intro pins s σ H Q I h
  refine wpAny_Call_Name_kw (ld_glob I hg hm (PySem.W.callWith_K0 I.kIn hk ?_) hdb)
  obtain ⟨bm, N, nm, qn, bs, hdct, sn, sub, ab, col, dd, k0, k1, k2, k3, k5, mN, e1, e2, e3, tail⟩ := exc_obj I.kIn hx
  refine wpAny_call_exc_subT (rest := [] ++ []) FB tail e1 e2 e3 (fun h' e made => ?_)
  refine mk_of I made hR h ?_
  -- the new address is tracked by nothing
  cases q : H e with
  | none => rfl
  | some o =>
    have z := made.new
    obtain ⟨b, hb⟩ := objOk_get (I.hok e o q)
    rw [hb] at z
    cases z
/-- raising calls within a def's own body (or a lambda's) -/
theorem passX {E : XK} (h1 : X.stack = X.env :: X.outer) (h2 : X.env.frame = some X.env.locals) (h3 : X.ex = []) {E₁ : Value → Shared → Prop}
    (h4 : X.xe = fun e s' => wpAny (model X.prog X.w) X.A (leaving X.env e) (fun _ s'' => L2.CX X.prog X.w X.outer X.H_0 X.s_0 E e s'') E₁ s') : Passes (L2.CX X.prog X.w) X E :=
  passes_call (takes_of h1 h2 h3 h4) fun _ _ _ _ h => h
theorem takes_len {W : WX} (h : Takes X W) : Takes X (fun cls d σ H => σ.length = X.N.length → W cls d σ H) := fun u s' z => by
  obtain ⟨a, B, sI, pins, σ, H, cls, d, e1, I, r1, r2, r3, r4, r5, r6, r7⟩ := z
  exact h u s' ⟨a, B, sI, pins, σ, H, cls, d, e1, I, r1, r2, r3, r4, r5, r6, r7 I.len⟩
theorem call_isEg {a : Addr} {cls : Value} {d : Option Addr} {oe : Obj} {pn : List (Addr × Obj)} (hz : Zc cls d oe) (hf : ∃ vs, oe.data = Data.fields vs) :
    CallR (X.suite a ((a, oe) :: pn)) (.builtin "isinstance") (fun xs H Q => ∃ D, cls = .ref D ∧ d = none ∧ ExcC X.K D ∧ rIsE X.K D a xs H Q) := by
  intro pins s σ H xs us Q I r h
  obtain ⟨D, rfl, rfl, hE, h⟩ := h
  exact call_isE hE hz hf pins s σ H xs us Q I r h
/-- isinstance(e, c), e the error that the suite holds, with fields or without -/
theorem call_isEa {a : Addr} {cls : Value} {d : Option Addr} {oe : Obj} {pn : List (Addr × Obj)} (hz : Zc cls d oe) (hf : ∃ vs, oe.data = Data.fields vs) :
    CallR (X.suite a ((a, oe) :: pn)) (.builtin "isinstance") (fun xs H Q => ∃ D, cls = .ref D ∧ ExcC X.K D ∧ (d = none ∨ ∃ dd fs, d = some dd ∧ H dd = some (.xd fs)) ∧ rIsE X.K D a xs H Q) := by
  intro pins s σ H xs us Q I r h
  obtain ⟨D, rfl, C, hd, c, cv, b, rfl, hcv, e, q⟩ := h
  obtain ⟨u, u2, rfl, ru, ru2⟩ := r.two
  cases (show u = Value.ref a from ru)
  cases hcv _ ru2
  obtain ⟨there, _⟩ := I.pin (a, oe) (List.mem_append.mpr (.inl List.mem_cons_self))
  obtain ⟨vs, hv⟩ := hf
  have nc : PySem.W.notCls oe = true := by
    unfold PySem.W.notCls
    rw [hv]
  have od : ∃ od, PySem.W.InstAt s.heap a oe D od := by
    rcases hd with e1 | ⟨dd, fs, e1, e2⟩
    · subst e1
      exact ⟨none, there, hz.1, nc, by rw [hz.2]; trivial⟩
    · subst e1
      obtain ⟨mA, hns, _⟩ : ObjOk X.prog X.w H s.heap dd (.xd fs) := I.hok dd _ e2
      obtain ⟨od, ho, _⟩ := lookIn_ns hns
      exact ⟨some od, there, hz.1, nc, by rw [hz.2]; exact ho⟩
  obtain ⟨od, J⟩ := od
  have isC : (PySem.W.clsIn X.K D).isSome = true := by
    obtain ⟨cd, hc, _⟩ := PySem.W.any_some C.hd
    rw [hc] <;> rfl
  exact PySem.W.kia_one (PySem.W.kitx_exc isC C.hg C.hk C.hs C.ha C.hn C.ht C.hm) I.kIn J e (fun z => nomatch z) fun tk => ⟨.bl b, H, I.kept (t' := tk) fun _ _ z => z, rfl, q⟩
theorem exm_kit {K : PySem.W.Frag} {t c : Value} {b : Bool} (h : PySem.W.exmOne K t c = some b) : PySem.W.kitCls K t c = some b := by
  unfold PySem.W.exmOne at h
  split at h
  · exact h
  · cases h
theorem kit_yes {K : PySem.W.Frag} {t c : Value} (h : PySem.W.exmOne K t c = some true) : PySem.W.kitOne K t c = some true := by
  unfold PySem.W.kitOne
  split
  · rfl
  · exact exm_kit h
theorem kit_no {K : PySem.W.Frag} {D C : Addr} (h : PySem.W.exmOne K (.ref D) (.ref C) = some false) (self : PySem.W.subIn K (.ref C) (.ref C) = some true) (no : PySem.W.subIn K (.ref D) (.ref C) = some false) : PySem.W.kitOne K (.ref D) (.ref C) = some false := by
  unfold PySem.W.kitOne
  split
  · rename_i e
    have e2 : (Value.ref D) = .ref C := eq_of_beq e
    rw [e2, self] at no
    cases no
  · exact exm_kit h
theorem kit_bi {K : PySem.W.Frag} {D : Addr} {T : String} {b : Bool} (m : PySem.W.kitMeta T = true) (h : PySem.W.subIn K (.ref D) (.type T) = some b) : PySem.W.kitOne K (.ref D) (.type T) = some b := by
  unfold PySem.W.kitOne
  split
  · rename_i e
    have e2 : (Value.ref D) = .type T := eq_of_beq e
    cases e2
  · show (if PySem.W.kitMeta T = true then PySem.W.subIn K (.ref D) (.type T) else none) = some b
    rw [if_pos m]
    exact h
/-- a def of the text whose code is known -/
structure FunC (K : PySem.W.Frag) (x qual : Str) (st : Stmt) (f : Addr) (fd : FuncData) (c : Addr) : Prop where
  ex : ∃ oc od kV doc pm an ct osl, fd = PySem.W.fnOf x qual (defArgs st) (defBody st) (defScope st) .none kV doc pm an (.ref c) ct ∧ K.lookup f = some ⟨oc, od, .func fd, osl⟩ ∧ PySem.W.codeIn K (.ref c) qual = true
theorem FunC.ok {P : Program} {w : World} {K : PySem.W.Frag} {mg : Str → Option Value} {base : Heap} {x qual : Str} {st : Stmt} {f c : Addr} {fd : FuncData} {N ps : List Str} {k : Nat} {sp : Sp} (F : FunC K x qual st f fd c) (S : FnScope N ps (defScope st))
    (len : ∀ vs H Q E, sp vs H Q E → vs.length = ps.length)
    (hb : ∀ (A : Around) (outer : List Env) (s : Shared) (H : Hp) (vs : List V) (Q : VK) (E : XK), Room k (A.deeper (envOfC qual (defScope st) s.heap.objs.size f (.ref c))) → sp vs H Q E →
      ∃ t, PSs (cxOf L2.CX0 P w K mg base N qual (defScope st) f (.ref c) A outer s H E).nox (defBody st) t ∧ t { nx := fun _ H' => Q .non H', rt := Q } (L2.start N vs) H) : FnOk P w K mg base L2.CX0 (k + 1) f fd ps sp := by
  obtain ⟨oc, od, kV, doc, pm, an, ct, osl, rfl, lk, hcd⟩ := F.ex
  refine fn_of lk hcd S len fun A outer s H vs Q E hr h => ?_
  obtain ⟨t, h1, h2⟩ := hb A outer s H vs Q E hr h
  exact ⟨t, h1.nox, h2⟩
def tTru (K : PySem.W.Frag) (ta : TE) : L2.St → Hp → (Bool → Hp → Prop) → Prop := fun σ H Q => ta σ H fun x H' => ∃ k, TruV K x H' k ∧ Q k H'
def WL (n : Nat) (W : WX) : WX := fun cls d σ H => σ.length = n → W cls d σ H
def EE (n : Nat) (W : WX) : XK := fun cls d H => ∀ σ : L2.St, σ.length = n → W cls d σ H
/-- raising calls within a try's body -/
theorem passT (n : Nat) {W : WX} (tk : Takes X W) (hn : X.N.length = n := by rfl) : Passes (L2.CX X.prog X.w) X (EE n W) := passes_call (takes_len tk) fun cls d σ H h hl => h σ (hl.trans hn)
/-- f(lambda: e) -/
theorem pe_lam {T : List (Addr × Str)} {TT : (XK → Hp → VK → Prop) → Hp → VK → Prop} {x a : Str} {g c P : Addr} {fd : FuncData} {k : Nat} {st : Stmt} {Ng : List Str} {params : Arguments} {body : Expr} {scope : Scope} {t : XK → TE} {p lpos pos : Pos}
    (F : Fun X.K x x st g fd) (Sg : FnScope Ng [a] (defScope st)) (hg : Gl X x) (hm : X.mg x = some (.ref g)) (hb : Binds X.K fd [a] []) (hNg : Ng[0]? = some a) (hva : Vis (defScope st) a)
    (hG : ∀ cdv, LamX.GivesTo X Ng x (defScope st) g cdv (defBody st) a (X.env.qual ++ "<lambda>") TT) (TB : LamX.TabB X.base X.mg c P) (hcode : X.env.code = .ref c) (hmT : (P, X.env.qual ++ "<lambda>") ∈ T)
    (hu : ∀ p ∈ T, p.1 = P → p.2 = X.env.qual ++ "<lambda>") (hr : Room (k + 2) X.A) (L : LamX.LamS X.env.scope scope) (hdef : defaultsOf params X.env = ([], []))
    (hbind : ∀ (q : Str) (cl : List (Str × Addr)) (pm cv ctv : Value), bindArgs (PySem.W.kla_fn "<lambda>" q params body scope cl pm cv ctv) ⟨[], []⟩ = pure [])
    (hbody : ∀ (A : Around) (outer : List Env) (s : Shared) (H : Hp) (E : XK) (f c' : Addr), Room k (A.deeper (LamX.lamEnv X scope s.heap.objs.size f c')) → PE (LamX.lamCx X A outer s H E scope f c') body (t E))
    (h1 : (x == ("__debug__" : Str)) = false := by decide) (h2 : (a == ("__debug__" : Str)) = false := by decide) (h3 : (a == ("__classdict__" : Str)) = false := by decide) :
    PE X (.Call (.Name x p) [.Lambda params body scope lpos] [] pos) (LamX.tLam T TT t) := by
  obtain ⟨oc, od, kV, doc, pm, an, cdv, ct, osl, rfl, lk, hcd⟩ := F.ex
  exact LamX.pe_lamcall hg hm F.kp lk hcd hb Sg hNg hva (hG cdv) TB hcode hmT hu hr L hdef hbind hbody h1 h2 h3
end
end GX
namespace KX
open PySem PySem.Spec PyProof.Rows L2
section
variable {X : Cx}
/-- xs.count(True), xs a list of bools -/
def rCntB (K : PySem.W.Frag) : V → List V → Hp → VK → Prop := fun x xs H Q => ∃ (p : Addr) (bs : List Bool) (k : Bool), x = .ref p ∧ xs = [.bl k] ∧ SqL K H p (bs.map V.bl) ∧ Q (.int (bs.countP (fun b => b == k) : Nat)) H
theorem bools_of : ∀ {bs : List Bool} {its : List Value}, Vals (bs.map V.bl) its → its = bs.map Value.bool
  | [], _, .nil => rfl
  | b :: bs, _, .cons r t => by
    cases (show _ = Value.bool b from r)
    rw [bools_of t]
    rfl
theorem mt_count_bl : MtR X "list.count" (rCntB X.K) := by
  intro pins s σ H x xs v us Q I rx rxs h
  obtain ⟨p, bs, k, rfl, rfl, hs, q⟩ := h
  cases rx
  obtain ⟨u, rfl, ru⟩ := rxs.one
  cases (show u = Value.bool k from ru)
  obtain ⟨its, rv, ⟨⟨cls, dd, data, sl⟩, n, ho, hc, hdn, hd⟩, hlen⟩ := I.list hs
  simp only at hc hd
  subst hc hd
  have hi := bools_of rv
  refine call_meets PySem.F.slot_list_count ⟨_, ho, rfl⟩ PySem.F.entry_list_count (PySem.F.args_list_count_2 _ _)
    (SeqAt.list_countAt p its.toArray n dd sl (.bool k) (isBoolOf k)) ⟨ho, fun y hy => ?_, ?_⟩
  · have hy' : y ∈ its := by simpa using hy
    rw [hi] at hy'
    obtain ⟨b, _, rfl⟩ := List.mem_map.mp hy'
    exact PySem.SeqAt.EqAt.bool_bool b k
  · have ec : its.toArray.toList.countP (isBoolOf k) = bs.countP (fun b => b == k) := by
      show its.countP (isBoolOf k) = _
      rw [hi, List.countP_map]
      rfl
    refine ⟨.int (bs.countP (fun b => b == k) : Nat), H, I.tok _, ⟨s.toks, ?_⟩, q⟩
    show Value.int ((its.toArray.toList.countP (isBoolOf k) : Nat) : Int) s.toks = _
    rw [ec]
end
end KX

/-! set(xs), xs a list of ints. -/
namespace GX
open PySem PySem.Spec PyProof.Rows PySem.Calls L2 Builtin
section
variable {P : Program} {w : World} {A : Around} {E : Value → Shared → Prop} {s : Shared}
abbrev bareSet (w : World) : Obj := { cls := .type "set", dict := none, data := .set #[] 0 (.fresh 0 0 (!w.params.followText "set-order")) }
set_option maxHeartbeats 8000000 in
theorem set_of_ints {l : Addr} {items : Array Value} (ns : List Int) {Q : Value → Shared → Prop} (calm : A.handled = none) (isl : s.heap.IsList l items) (are : IntsAre items.toList ns) (few : ns.length + 1 < scanBound)
    (k : ∀ (h' : Heap) (tk c : Nat), SetR w h' s.heap.objs.size (fun j => decide (j ∈ ns)) c → c ≤ ns.length → (∀ b o, s.heap.get? b = some o → h'.get? b = some o) → Q (.ref s.heap.objs.size) { s with heap := h', toks := tk }) :
    wpAny (model P w) A (call (.type "set") [.ref l]) Q E s := by
  have many : items.size = ns.length := by simpa using are.length
  obtain ⟨mc, mtl, hmro⟩ := F.called_set.mro
  have a1 := F.called_set.made
  have a2 := F.called_set.sub
  have a3 := F.called_set.notType
  have a4 := F.called_set.canCreate
  have a5 := F.typeCall_set_1 (.ref l)
  refine wpAny_call (codeAny_of_tree (show wpAny _ _ (callAny (.type "set") _) _ _ _ from wpAny_pure ⟨Code.quiet_builtin _ (by decide +kernel), codeAny_builtin F.entry_type_call ?_⟩))
  rw [Around.under_plain (weight_type_call_type "set" [.ref l] []) rfl]
  repeat (any_goals (first | assumption | wp_step))
  refine codeAny_mono (code_set_led1 (.ref l) (E := E) (Q₁ := fun obj s₁ => obj = .ref s.heap.objs.size ∧ s₁ = { s with heap := s.heap.push (bareSet w) }) ⟨rfl, rfl⟩) fun r s₁ made => ?_
  match r, made with
  | .error e, made => exact made
  | .ok .next, made => exact made.elim
  | .ok .brk, made => exact made.elim
  | .ok .cont, made => exact made.elim
  | .ok (.ret obj), made =>
    obtain ⟨rfl, rfl⟩ := made
    have at_ : (s.heap.push (bareSet w)).get? s.heap.objs.size = some (bareSet w) := Heap.get?_push_size _ rfl
    have ty : Shared.TypeIs { s with heap := s.heap.push (bareSet w) } (.ref s.heap.objs.size) "set" := ⟨_, at_, rfl⟩
    have b1 := F.called_set.init.lookup
    have b2 := F.called_set.init.bind (.ref s.heap.objs.size)
    repeat (any_goals (first | assumption | wp_step))
    refine codeAny_mono (codeAny_call_builtin (R := wants (fun r s₂ => r = .none ∧ ∃ h' tk c, s₂ = { s with heap := h', toks := tk } ∧ SetR w h' s.heap.objs.size (fun j => decide (j ∈ ns)) c ∧ c ≤ ns.length ∧ (∀ b o, s.heap.get? b = some o → h'.get? b = some o)) E)
      F.called_set.init.plain F.entry_set_init (check_set_init_1 ty ?_)) fun r₂ s₂ done => ?_
    · obtain ⟨ol, gl, cl, nl, dl⟩ := isl
      obtain ⟨ocls, odict, odata, oslots⟩ := ol
      simp only at cl dl
      subst cl; subst dl
      have gl' : (s.heap.push (bareSet w)).get? l = some { cls := .type "list", dict := odict, data := .seq items nl, slots := oslots } := Heap.get?_push_of_some _ gl
      have c1 := PySem.F.sub_list_set
      have c2 := PySem.F.sub_list_frozenset
      have c3 : (Value.type "list" == Value.type "dict") = false := by decide
      have isl' : (s.heap.push (bareSet w)).IsList l items := ⟨_, gl', rfl, nl, rfl⟩
      unfold Builtin.«set.__init__» noKeywords Builtin.Frozenset.updateFrom
      generalize hPI : pyIter = PI
      wp_walk
      subst hPI
      refine wpAny_pyIter_list isl' (wpAny_bind (wpAny_runValue ?_))
      have lt := Heap.lt_size gl
      have sz : (s.heap.push (bareSet w)).objs.size = s.heap.objs.size + 1 := Heap.size_push ..
      have apart : l ≠ (s.heap.push (bareSet w)).objs.size := by rw [sz]; exact Nat.ne_of_lt (Nat.lt_succ_of_lt lt)
      have quiet : A.in1.in1.in1.handled = none := by simp [calm]
      have each : ∀ (i : Nat) (v : Value), items[i]? = some v → ∃ z t, ns[i]? = some z ∧ v = .int z t := fun i v hv => by
        have lt' : i < ns.length := many ▸ (Array.getElem?_eq_some_iff.mp hv).1
        obtain ⟨t, e⟩ := IntsAre.int_at are i v (by rw [Array.getElem?_toList]; exact hv)
        exact ⟨ns[i], t, List.getElem?_eq_getElem lt', by rw [e, List.getD_eq_getElem?_getD, List.getElem?_eq_getElem lt'] <;> rfl⟩
      refine set_update_ints ((Walks.list quiet _ l apart items).toS) s.heap.objs.size (by simp only [List.mem_cons, List.not_mem_nil, or_false, not_or]; rw [sz]; exact ⟨Nat.ne_of_lt (Nat.lt_succ_self _), Nat.ne_of_gt lt⟩) ns many few each (items.size - 0) 0 _ (by omega) (Nat.zero_le _)
        ⟨⟨_, Heap.get?_push_size _ rfl, rfl, rfl⟩, isl'.push _⟩ ⟨0, Nat.le_refl 0, setR_new_at (Heap.get?_push_of_some _ at_)⟩ fun s' c' moved le is => ?_
      obtain ⟨h', g2, d', tk', os'⟩ := s'
      cases (show g2 = s.gens from moved.gens)
      cases (show d' = s.drawn from moved.drawn)
      cases (show os' = s.os from moved.os)
      show wpAny _ _ _ _ _ _
      refine wpAny_pure (show wpAny _ _ (ret Value.none) _ _ _ from wpAny_pure ⟨rfl, h', tk', c', rfl, is, many ▸ le, fun b o e => ?_⟩)
      have lb := Heap.lt_size e
      exact moved.heap b o (by simp only [List.mem_cons, List.not_mem_nil, or_false, not_or]; rw [sz]; exact ⟨Nat.ne_of_lt lb, Nat.ne_of_lt (Nat.lt_succ_of_lt lb)⟩) (Heap.get?_push_of_some _ (Heap.get?_push_of_some _ e))
    · match r₂, done with
      | .error e, done => exact done
      | .ok .next, done => exact done.elim
      | .ok .brk, done => exact done.elim
      | .ok .cont, done => exact done.elim
      | .ok (.ret r), done =>
        obtain ⟨rfl, h', tk, c', rfl, is, le, kept⟩ := done
        repeat (any_goals (first | assumption | wp_step))
        exact k _ _ _ is le kept
end
section
variable {X : Cx}
/-- set(xs), xs a list of ints -/
def rSetI (K : PySem.W.Frag) (w : World) : List V → Hp → VK → Prop := fun xs H Q => ∃ (l : Addr) (ns : List Int), xs = [.ref l] ∧ SqL K H l (ns.map V.int) ∧ ns.length ≤ 4000 ∧ ∀ (p : Addr) (c : Nat), H p = none → c ≤ ns.length → Q (.ref p) (upd H p (SetO w p (fun j => decide (j ∈ ns)) c))
theorem cr_setI (hc : X.calm = true) : CallR X (.type "set") (rSetI X.K X.w) := by
  intro pins s σ H xs us Q I r h
  obtain ⟨l, ns, rfl, hl, few, q⟩ := h
  obtain ⟨u, rfl, ru⟩ := vals1 r
  cases (show u = Value.ref l from ru)
  obtain ⟨its, rv, pl, _⟩ := I.list hl
  have sz : its.toArray.size = ns.length := by rw [List.size_toArray, ← rv.length, List.length_map]
  refine set_of_ints ns (I.ok.hd hc) pl.isList (by simpa using rv.ints) (by unfold scanBound; omega) fun h' tk c is le kept => ?_
  exact ⟨.ref _, _, I.laid (t' := tk) kept (Nat.le_refl _) (setO_new is), rfl, q _ c (I.hok.fresh (Nat.le_refl _)) le⟩
end
end GX

/-! enumerate(t), t a tuple. -/
namespace GE
open PySem PySem.Spec PyProof.Rows L2 Builtin
/-- a tuple's items with their places, a new pair at each turn -/
def Etp (K : PySem.W.Frag) (t : Addr) : It where
  go i H := ∃ xs x, SqT K H t xs ∧ xs[i]? = some x
  yld i H v H' := ∃ (p : Addr) (x : V), v = .ref p ∧ H p = none ∧ H' = upd H p (.tup [.int ((i : Nat) : Int), x]) ∧ ∀ xs, SqT K H t xs → xs[i]? = some x
  stop i H := ∃ xs, SqT K H t xs ∧ xs.length ≤ i
abbrev tIt (t : Addr) : Obj := { cls := .type "tuple_iterator", data := .fields #[.ref t, .int 0 0] }
abbrev eOb (i : Addr) : Obj := { cls := .type "enumerate", data := .fields #[.none, .bool false, .ref i, rawInt 0, .none, .none] }
set_option maxHeartbeats 8000000 in
theorem made (t : Addr) (vs : Array Value) : Meets (Builtin.«enumerate.__new__» ⟨[.type "enumerate", .ref t], []⟩)
    (fun _ R s => s.heap.IsTuple t vs ∧ R (.ok (.ret (.ref (s.heap.push (tIt t)).objs.size))) { s with heap := (s.heap.push (tIt t)).push (eOb s.heap.objs.size) }) := by
  refine Meets.of_wp fun prog w A R s both => ?_
  obtain ⟨h0, gs, dr, tk, os⟩ := s
  obtain ⟨isT, back⟩ := both
  have z1 := PySem.sub_enumerate
  have z2 : ∀ {B : Around} {F : Value → Shared → Prop} {G : Value → Shared → Prop}, G (.ref h0.objs.size) ⟨h0.push (tIt t), gs, dr, tk, os⟩ → wpAny (model prog w) B (pyIter (.ref t)) G F ⟨h0, gs, dr, tk, os⟩ := fun g => wpAny_pyIter_tuple isT g
  wp_walk using z2
  refine wpAny_stack_any fun st => ?_
  refine wpAny_pure ?_
  split
  · rename_i c _ _ _ _ _
    cases (c == Value.type "enumerate") <;> (wp_walk using z2; exact ⟨_, rfl, back⟩)
  · wp_walk using z2
    exact ⟨_, rfl, back⟩
section
variable {P : Program} {w : World} {A : Around} {E : Value → Shared → Prop} {s : Shared}
theorem begins {t : Addr} {vs : Array Value} {Q : Value → Shared → Prop} (isT : s.heap.IsTuple t vs)
    (k : ∀ h1, IsEnum h1 (s.heap.objs.size + 1) s.heap.objs.size 0 .none → h1.IsTupleIter s.heap.objs.size t 0 → h1.objs.size = s.heap.objs.size + 2 → (∀ b o, s.heap.get? b = some o → h1.get? b = some o) → Q (.ref (s.heap.objs.size + 1)) { s with heap := h1 }) :
    wpAny (model P w) A (call (.type "enumerate") [.ref t]) Q E s := by
  refine callType_new F.called_enumerate (by decide) (F.typeCall_enumerate_1 _) (F.newCall_enumerate_1 _) (fun y => F.args_object_init_2 y _) F.entry_enumerate_new (made t vs) ⟨isT, ?_⟩
  have sz : (s.heap.push (tIt t)).objs.size = s.heap.objs.size + 1 := Heap.size_push ..
  have at_ : IsEnum ((s.heap.push (tIt t)).push (eOb s.heap.objs.size)) (s.heap.objs.size + 1) s.heap.objs.size 0 .none := by
    have z := Heap.get?_push_size (s.heap.push (tIt t)) (o := eOb s.heap.objs.size) rfl
    rw [sz] at z
    exact z
  show _ ∧ _
  rw [sz]
  exact ⟨⟨_, at_, rfl⟩, k _ at_ ⟨_, Heap.get?_push_of_some _ (Heap.get?_push_size _ rfl), rfl, rfl⟩ (by rw [Heap.size_push, sz]) fun b o x => Heap.get?_push_of_some _ (Heap.get?_push_of_some _ x)⟩
end
theorem turn {P : Program} {w : World} {K : PySem.W.Frag} {elts : List Expr} {kk : Nat} {tpos : Pos} (t e i : Addr) :
    Turn P w K (.Tuple elts kk tpos) (Etp K t) [e, i] e (fun n h => (∃ old, IsEnum h e i ((n : Nat) : Int) old) ∧ h.IsTupleIter i t n ∧ e ≠ i) := by
  have two : ∀ {b : Addr}, b ∈ [e, i] → b = e ∨ b = i := fun hb => by simpa using hb
  constructor
  case mem => simp
  case obj =>
    rintro n h ⟨⟨old, h1⟩, ⟨o, h2, h3, h4⟩, _⟩ b hb
    rcases two hb with q | q <;> subst q
    · exact ⟨_, h1, fun v z => nomatch z⟩
    · exact ⟨o, h2, fun v z => by rw [h4] at z; cases z⟩
  case keep =>
    rintro n h h' ⟨⟨old, h1⟩, h2, h3⟩ k
    exact ⟨⟨old, k e (by simp) _ h1⟩, h2.at fun o q => k i (by simp) o q, h3⟩
  case item =>
    intro X eP ew eK calm n pins s σ H Er I free st go
    subst eP ew eK
    obtain ⟨⟨old, h1⟩, h2, apart⟩ := st
    obtain ⟨xs, x, hq, hx⟩ := go
    obtain ⟨vs, rv, isT, _⟩ := I.tuple hq
    obtain ⟨u, hu, ru⟩ := rv.get hx
    have le : e < s.heap.objs.size := Heap.lt_size h1
    have li : i < s.heap.objs.size := by
      obtain ⟨_, q, _⟩ := h2
      exact Heap.lt_size q
    have ti : t ≠ i := fun z => by
      subst z
      obtain ⟨o1, q1, c1, _⟩ := h2
      obtain ⟨o2, q2, c2, _⟩ := isT
      rw [q1] at q2
      cases q2
      rw [c1] at c2
      exact absurd (Value.type.inj c2) (by decide)
    have te : t ≠ e := fun z => by
      subst z
      obtain ⟨o2, q2, c2, _⟩ := isT
      rw [h1] at q2
      cases q2
      exact absurd (Value.type.inj c2) (by decide)
    have quiet : X.A.in1.handled = none := by
      have z := I.ok.hd calm
      simp [z]
    have lt : n < vs.toArray.size := by
      have z := (List.getElem?_eq_some_iff.mp hu).1
      simpa using z
    refine wpAny_pyNext_enum_itemD (Draws.tuple quiet i t ti vs.toArray) h1 ⟨h2, isT⟩ lt apart (by simp [apart, te.symm]) fun y h' tk py out st' tup size keep => ?_
    have ey : y = u := by
      have z : vs.toArray[n]? = some y := py
      rw [List.getElem?_toArray, hu] at z
      exact (Option.some.inj z).symm
    subst ey
    refine ⟨_, rfl, wpAny_letOwnedTupleGo_enum (s := { s with heap := h', toks := tk + 1 }) out fun h'' again sb => ?_⟩
    have tup2 : h''.get? s.heap.objs.size = some { cls := .type "tuple", data := .seq #[.int n tk, y] } := (sb.2 _ (Nat.ne_of_gt le)).trans tup
    have fresh : ObjOk X.prog X.w (upd H s.heap.objs.size (.tup [.int ((n : Nat) : Int), x])) h'' s.heap.objs.size (.tup [.int ((n : Nat) : Int), x]) :=
      ⟨by show 2 ≤ sizeLine; decide, [.int n tk, y], .cons ⟨_, rfl⟩ (.cons ru .nil), ⟨_, tup2, rfl, _, rfl⟩⟩
    have J : Inv X pins σ (upd H s.heap.objs.size (.tup [.int ((n : Nat) : Int), x])) { s with heap := h'', toks := tk + 1 } :=
      I.turnedNew (t' := tk + 1) (ch := [e, i]) (fun b ob hb q => (sb.2 b (fun z => hb (by simp [z]))).trans (keep b ob (fun z => hb (by simp [z])) (fun z => hb (by simp [z])) q)) free (Nat.le_refl _) fresh
    refine ⟨.ref s.heap.objs.size, _, J, rfl, ⟨_, x, rfl, I.hok.fresh (Nat.le_refl _), rfl, fun ys hy => by rw [I.tuple_inj hy hq]; exact hx⟩, ⟨⟨y, ?_⟩, st'.1.at fun o q => (sb.2 i (Ne.symm apart)).trans q, apart⟩, fun b hb => ?_⟩
    · rw [show ((n + 1 : Nat) : Int) = (n : Int) + 1 by omega]
      exact again
    · have lb : b < s.heap.objs.size := by
        rcases two hb with z | z <;> subst z
        · exact le
        · exact li
      rw [upd_ne (Nat.ne_of_lt lb)]
      exact (free b hb).1
  case done =>
    intro X eP ew eK calm n pins s σ H Er I free st stop
    subst eP ew eK
    obtain ⟨⟨old, h1⟩, h2, apart⟩ := st
    obtain ⟨xs, hq, hl⟩ := stop
    obtain ⟨vs, rv, isT, _⟩ := I.tuple hq
    have long := rv.length
    have quiet : X.A.in1.handled = none := by
      have z := I.ok.hd calm
      simp [z]
    have hT : s.TypeIs (.ref e) "enumerate" := ⟨_, h1, rfl⟩
    obtain ⟨f0, f1, f2, f3, f4, f5⟩ := free i (by simp)
    unfold pyNext
    refine wpAny_bind (wpAny_attempt (wpAny_callSpecial?_slot (name := Str.ofString "__next__") hT F.slot_enumerate_next (wpAny_call_entry F.slot_enumerate_next hT F.entry_enumerate_next ?_ (F.args_enumerate_next_1 _))))
    show wpAny _ _ (field (.ref e) 2 >>= _) _ _ _
    refine wpAny_bind (wpAny_field h1 rfl (x := .ref i) rfl (wpAny_bind ?_))
    refine wpAny_nextOf_tuple_end quiet h2 isT (by simp; omega) fun h' ex eb isx => ?_
    obtain ⟨o, ho, hc⟩ := isx
    refine wpAny_bind (wpAny_isInstance (T := "StopIteration") (b := true) ⟨o, ho, hc⟩ isSubtype_stop (wpAny_pure ?_))
    exact ⟨rfl, I.turned (t' := s.toks) (fun b o hb q => eb b o hb q) f0 f1 f3 f4 f5⟩
  case self =>
    rintro A n s Q Er ⟨⟨_, h1⟩, _⟩ q
    exact wpAny_pyIter_enum h1 q
/-- enumerate of a list or a tuple -/
def iEnA (K : PySem.W.Frag) (ta : TA) : TI := fun σ H R => ta σ H fun vs H1 => ∃ a xs, vs = [.ref a] ∧ ((SqL K H1 a xs ∧ R (Ite K a) H1) ∨ (SqT K H1 a xs ∧ R (Etp K a) H1))
theorem pi_enumA {X : Cx} {e : Expr} {ta : TA} {p pos tpos : Pos} {elts : List Expr} {kk : Nat} (hg : Gl X "enumerate") (hm : X.mg "enumerate" = none) (ha : PA X [e] ta) (hs : starEach [e] X.env = [(false, eval e X.env)] := by rfl) :
    PI X (.Tuple elts kk tpos) (.Call (.Name "enumerate" p) [e] [] pos) (iEnA X.K ta) := by
  constructor
  intro pins s σ H R I h
  refine Call_ (ld_blt I hg hm boot_enumerate (PyProof.Rows.callWith_type1 (thn (ha.run pos pins s σ H _ I h) fun us s1 got => ?_) hs rfl))
  obtain ⟨_, H1, I1, r1, a, xs, rfl, q⟩ := got
  have fp : ∀ b ∈ [s1.heap.objs.size + 1, s1.heap.objs.size], FpOk X pins H1 b := fun b hb => by
    have le : s1.heap.objs.size ≤ b := by
      rcases (show b = s1.heap.objs.size + 1 ∨ b = s1.heap.objs.size by simpa using hb) with z | z <;> omega
    exact I1.fpOk le (I1.hok.fresh le)
  cases r1 with
  | cons r rr =>
    cases rr
    cases r
    rcases q with ⟨hq, q⟩ | ⟨hq, q⟩
    · obtain ⟨vs, rv, isL, _⟩ := I1.list hq
      refine call_enumerate_list isL.isList fun h' at_ it size keep => wpAny_pyIter_enum at_ ?_
      exact ⟨_, _, _, _, H1, rfl, I1.kept (t' := s1.toks) keep, turn_enum a (s1.heap.objs.size + 1) s1.heap.objs.size, ⟨⟨.none, at_⟩, it, Nat.succ_ne_self _⟩, fp, q⟩
    · obtain ⟨vs, rv, isT, _⟩ := I1.tuple hq
      refine begins isT fun h' at_ it size keep => wpAny_pyIter_enum at_ ?_
      exact ⟨_, _, _, _, H1, rfl, I1.kept (t' := s1.toks) keep, turn a (s1.heap.objs.size + 1) s1.heap.objs.size, ⟨⟨.none, at_⟩, it, Nat.succ_ne_self _⟩, fp, q⟩
theorem walk {K : PySem.W.Frag} {a : Addr} {xs : List V} : Walk (Etp K a) xs.length (fun H => SqT K H a xs) (YPair (fun i => some (.int (i : Nat))) (fun i => xs[i]?)) := by
  constructor
  · exact fun i _ hi q => ⟨xs, xs[i], q, by simp [hi]⟩
  · exact fun _ q => ⟨xs, q, Nat.le_refl _⟩
  · rintro i H v H' _ q ⟨p, x, h1, h2, h3, h4⟩
    exact ⟨p, .int (i : Nat), x, h1, h2, h3, rfl, h4 xs q⟩
/-- zip of two tuples -/
theorem walk_zipT {K : PySem.W.Frag} {a b : Addr} {xs ys : List V} {n : Nat} (hn : n = min xs.length ys.length) : Walk (RZ.ItzT K a b) n (fun H => SqT K H a xs ∧ SqT K H b ys) (YPair (fun i => xs[i]?) (fun i => ys[i]?)) := by
  subst hn
  constructor
  · intro i _ hi q
    exact ⟨xs, ys, xs[i]'(by omega), ys[i]'(by omega), q.1, q.2, List.getElem?_eq_getElem _, List.getElem?_eq_getElem _⟩
  · exact fun _ q => ⟨xs, ys, q.1, q.2, by omega⟩
  · rintro i H v H' _ q ⟨p, x, y, h1, h2, h3, h4, h5⟩
    exact ⟨p, x, y, h1, h2, h3, h4 xs q.1, h5 ys q.2⟩
end GE

/-! comprehensions with two clauses, dict comprehensions, over any walk. -/
namespace GC
open PySem PySem.Spec PyProof.Rows L2
section
variable {J J1 : It} {n n1 : Nat} {G G1 : Hp → Prop} {Y Y1 : Nat → Hp → V → Hp → Prop}
/-- the outer clause -/
theorem lc2_it (w : Walk J n G Y) {g : TG} {tt : TT} {wi1 : TI} {g1 : TG} {tt1 : TT} {te : TE} {vs vs1 : List Nat} {σ : L2.St} {H1 : Hp} {D : Addr} {Qd : Hp → Prop} (Pv : Nat → Hp → Prop) (h0 : Pv 0 (upd H1 D (.lst []))) (hG : ∀ i H, i ≤ n → Pv i H → G H)
    (hs : ∀ i x H H', i < n → Pv i H → Y i H x H' → g x (wipe σ vs) H' fun σ2 H2 => wipe σ2 vs = wipe σ vs ∧ tt σ2 H2 fun b H3 =>
      if b = true then wi1 σ2 H3 fun J1 H4 => ∃ W1 : Nat → Nat → Hp → Prop, (∃ m, W1 0 m H4) ∧ ∀ j k H, W1 j k H →
        (J1.stop j H ∧ Pv (i + 1) H) ∨ (J1.go j H ∧ ∃ Nx1 : Hp → Prop, (∀ H', Nx1 H' → ∃ k', k' < k ∧ W1 (j + 1) k' H') ∧ ∀ x H', J1.yld j H x H' → g1 x (wipe σ2 vs1) H' fun σ3 H5 => wipe σ3 vs1 = wipe σ2 vs1 ∧ tt1 σ3 H5 fun b H6 =>
          if b = true then te σ3 H6 fun y H7 => ∃ acc, H7 D = some (.lst acc) ∧ acc.length < sizeLine ∧ Nx1 (upd H7 D (.lst (acc ++ [y]))) else Nx1 H6)
      else Pv (i + 1) H3) (hd : ∀ H, Pv n H → Qd H) :
    ∃ W : Nat → Nat → Hp → Prop, (∃ m, W 0 m (upd H1 D (.lst []))) ∧ ∀ i m H, W i m H →
      (J.stop i H ∧ Qd H) ∨ (J.go i H ∧ ∃ Nx : Hp → Prop, (∀ H', Nx H' → ∃ m', m' < m ∧ W (i + 1) m' H') ∧ ∀ x H', J.yld i H x H' → g x (wipe σ vs) H' fun σ2 H2 => wipe σ2 vs = wipe σ vs ∧ tt σ2 H2 fun b H3 =>
        if b = true then wi1 σ2 H3 fun J1 H4 => ∃ W1 : Nat → Nat → Hp → Prop, (∃ m, W1 0 m H4) ∧ ∀ j k H, W1 j k H →
          (J1.stop j H ∧ Nx H) ∨ (J1.go j H ∧ ∃ Nx1 : Hp → Prop, (∀ H', Nx1 H' → ∃ k', k' < k ∧ W1 (j + 1) k' H') ∧ ∀ x H', J1.yld j H x H' → g1 x (wipe σ2 vs1) H' fun σ3 H5 => wipe σ3 vs1 = wipe σ2 vs1 ∧ tt1 σ3 H5 fun b H6 =>
            if b = true then te σ3 H6 fun y H7 => ∃ acc, H7 D = some (.lst acc) ∧ acc.length < sizeLine ∧ Nx1 (upd H7 D (.lst (acc ++ [y]))) else Nx1 H6)
        else Nx H3) := by
  refine ⟨fun i m H => m = n - i ∧ i ≤ n ∧ Pv i H, ⟨n, by simp, Nat.zero_le _, h0⟩, ?_⟩
  rintro i m H ⟨rfl, hi, p⟩
  have q := hG i H hi p
  by_cases hlt : i < n
  · exact .inr ⟨w.goes i H hlt q, Pv (i + 1), fun H' p' => ⟨n - (i + 1), by omega, rfl, hlt, p'⟩, fun x H' y => hs i x H H' hlt p (w.yields i H x H' hlt q y)⟩
  · have e : i = n := by omega
    subst e
    exact .inl ⟨w.stops H q, hd H p⟩
/-- the inner clause -/
theorem lc2_in (w : Walk J1 n1 G1 Y1) {g1 : TG} {tt1 : TT} {te : TE} {vs1 : List Nat} {σ2 : L2.St} {H4 : Hp} {D : Addr} {Nx : Hp → Prop} (Pv : Nat → Hp → Prop) (h0 : Pv 0 H4) (hG : ∀ i H, i ≤ n1 → Pv i H → G1 H)
    (hs : ∀ i x H H', i < n1 → Pv i H → Y1 i H x H' → g1 x (wipe σ2 vs1) H' fun σ3 H5 => wipe σ3 vs1 = wipe σ2 vs1 ∧ tt1 σ3 H5 fun b H6 =>
      if b = true then te σ3 H6 fun y H7 => ∃ acc, H7 D = some (.lst acc) ∧ acc.length < sizeLine ∧ Pv (i + 1) (upd H7 D (.lst (acc ++ [y]))) else Pv (i + 1) H6) (hd : ∀ H, Pv n1 H → Nx H) :
    ∃ W1 : Nat → Nat → Hp → Prop, (∃ m, W1 0 m H4) ∧ ∀ j k H, W1 j k H →
      (J1.stop j H ∧ Nx H) ∨ (J1.go j H ∧ ∃ Nx1 : Hp → Prop, (∀ H', Nx1 H' → ∃ k', k' < k ∧ W1 (j + 1) k' H') ∧ ∀ x H', J1.yld j H x H' → g1 x (wipe σ2 vs1) H' fun σ3 H5 => wipe σ3 vs1 = wipe σ2 vs1 ∧ tt1 σ3 H5 fun b H6 =>
        if b = true then te σ3 H6 fun y H7 => ∃ acc, H7 D = some (.lst acc) ∧ acc.length < sizeLine ∧ Nx1 (upd H7 D (.lst (acc ++ [y]))) else Nx1 H6) := by
  refine ⟨fun i m H => m = n1 - i ∧ i ≤ n1 ∧ Pv i H, ⟨n1, by simp, Nat.zero_le _, h0⟩, ?_⟩
  rintro i m H ⟨rfl, hi, p⟩
  have q := hG i H hi p
  by_cases hlt : i < n1
  · exact .inr ⟨w.goes i H hlt q, Pv (i + 1), fun H' p' => ⟨n1 - (i + 1), by omega, rfl, hlt, p'⟩, fun x H' y => hs i x H H' hlt p (w.yields i H x H' hlt q y)⟩
  · have e : i = n1 := by omega
    subst e
    exact .inl ⟨w.stops H q, hd H p⟩
/-- a dict comprehension -/
theorem dc_it (w : Walk J n G Y) {g : TG} {tt : TT} {tk tv : TE} {vs : List Nat} {σ : L2.St} {H1 : Hp} {D : Addr} {Qd : Hp → Prop} (Pv : Nat → Hp → Prop) (h0 : Pv 0 (upd H1 D (.dK []))) (hG : ∀ i H, i ≤ n → Pv i H → G H)
    (hs : ∀ i x H H', i < n → Pv i H → Y i H x H' → g x (wipe σ vs) H' fun σ2 H2 => wipe σ2 vs = wipe σ vs ∧ tt σ2 H2 fun b H3 =>
      if b = true then tk σ2 H3 fun y H4 => tv σ2 H4 fun z H5 => ∃ kvs k, y = kV k ∧ H5 D = some (.dK kvs) ∧ kvs.length < sizeLine ∧ Pv (i + 1) (upd H5 D (.dK (putK kvs k z))) else Pv (i + 1) H3) (hd : ∀ H, Pv n H → Qd H) :
    ∃ W : Nat → Nat → Hp → Prop, (∃ m, W 0 m (upd H1 D (.dK []))) ∧ ∀ i m H, W i m H →
      (J.stop i H ∧ Qd H) ∨ (J.go i H ∧ ∃ Nx : Hp → Prop, (∀ H', Nx H' → ∃ m', m' < m ∧ W (i + 1) m' H') ∧ ∀ x H', J.yld i H x H' → g x (wipe σ vs) H' fun σ2 H2 => wipe σ2 vs = wipe σ vs ∧ tt σ2 H2 fun b H3 =>
        if b = true then tk σ2 H3 fun y H4 => tv σ2 H4 fun z H5 => ∃ kvs k, y = kV k ∧ H5 D = some (.dK kvs) ∧ kvs.length < sizeLine ∧ Nx (upd H5 D (.dK (putK kvs k z))) else Nx H3) := by
  refine ⟨fun i m H => m = n - i ∧ i ≤ n ∧ Pv i H, ⟨n, by simp, Nat.zero_le _, h0⟩, ?_⟩
  rintro i m H ⟨rfl, hi, p⟩
  have q := hG i H hi p
  by_cases hlt : i < n
  · exact .inr ⟨w.goes i H hlt q, Pv (i + 1), fun H' p' => ⟨n - (i + 1), by omega, rfl, hlt, p'⟩, fun x H' y => hs i x H H' hlt p (w.yields i H x H' hlt q y)⟩
  · have e : i = n := by omega
    subst e
    exact .inl ⟨w.stops H q, hd H p⟩
end
section
variable {X : Cx}
/-- xs[i], by values: for xs[i] += e -/
def rGetI : V → V → Hp → VK → Prop := fun x y H Q => ∃ p xs i j v, x = .ref p ∧ y = .int i ∧ H p = some (.lst xs) ∧ i = ((j : Nat) : Int) ∧ xs[j]? = some v ∧ Q v H
theorem get_listI : PGet X rGetI := by
  intro pins s σ H x y ov iv Q I rx ry h
  obtain ⟨p, xs, i, j, z, rfl, rfl, hq, rfl, he, q⟩ := h
  cases rx
  obtain ⟨t, rfl⟩ := ry
  obtain ⟨its, r, pl, hz⟩ := I.list (.inl (.inl hq))
  obtain ⟨w, ew, rw'⟩ := r.get he
  have hl := r.length
  have hn := line63
  have lt := (List.getElem?_eq_some_iff.mp he).1
  exact wpAny_getItem_list (x := w) pl.isList (by omega) (by omega) (by simpa using ew) ⟨z, H, I, rw', q⟩
end
theorem hu1 {k : Nat} {A : Around} (r : Room k A) : A.units + 1 < cLine := by have := r.un; omega
theorem hu65 {k : Nat} {A : Around} (r : Room k A) : A.units + 65 < cLine := by have := r.un; omega
theorem hu4 {k : Nat} {A : Around} (r : Room k A) : A.units + 4 < cLine := by have := r.un; omega
/-- tuple(xs), said for comprehensions -/
def rTupK (K : PySem.W.Frag) : List V → Hp → VK → Prop := fun xs H Q => ∃ p ys, xs = [.ref p] ∧ ((SqL K H p ys ∧ ∀ l, H l = none → Q (.ref l) (upd H l (.tup ys))) ∨ (SqT K H p ys ∧ Q (.ref p) H))
end GC

/-! len(set(xs)) of ints, t[::-1] of a tuple, what is never come to. -/
namespace GL
open PySem PySem.Spec PyProof.Rows PySem.Calls L2 Builtin
/-- the unlike ones, as met -/
def met (ns : List Int) : List Int := firstMet (fun i => ns.getD i 0) ns.length
theorem fold_dedup : ∀ (xs acc : List Int), acc.Nodup → (xs.foldl step_dedup acc).length ≤ acc.length + xs.length ∧ ((xs.foldl step_dedup acc).length = acc.length + xs.length ↔ xs.Nodup ∧ ∀ x ∈ xs, x ∉ acc)
  | [], acc, h => by simp
  | x :: xs, acc, h => by
    rw [List.foldl_cons]
    by_cases c : x ∈ acc
    · have e : step_dedup acc x = acc := by
        unfold step_dedup
        rw [if_pos (List.any_eq_true.mpr ⟨x, c, by simp⟩)]
      rw [e]
      obtain ⟨h1, h2⟩ := fold_dedup xs acc h
      refine ⟨by rw [List.length_cons]; omega, ⟨fun z => by rw [List.length_cons] at z; omega, fun ⟨z1, z2⟩ => absurd c (z2 x List.mem_cons_self)⟩⟩
    · have e : step_dedup acc x = acc ++ [x] := by
        unfold step_dedup
        rw [if_neg]
        intro z
        obtain ⟨y, hy, q⟩ := List.any_eq_true.mp z
        have q : y = x := by simpa using q
        exact c (by rw [← q]; exact hy)
      rw [e]
      have nd : (acc ++ [x]).Nodup := by
        rw [List.nodup_append]
        refine ⟨h, by simp, fun a ha b hb => ?_⟩
        rw [List.mem_singleton] at hb
        intro z
        exact c (by rw [← hb, ← z]; exact ha)
      obtain ⟨h1, h2⟩ := fold_dedup xs (acc ++ [x]) nd
      have el : (acc ++ [x]).length = acc.length + 1 := by rw [List.length_append]; rfl
      rw [el] at h1 h2
      rw [List.length_cons]
      refine ⟨by omega, ?_⟩
      rw [show acc.length + (xs.length + 1) = acc.length + 1 + xs.length by omega, h2, List.nodup_cons]
      constructor
      · rintro ⟨a, b⟩
        refine ⟨⟨fun z => b x z (by simp), a⟩, fun y hy => ?_⟩
        rcases List.mem_cons.mp hy with z | z
        · rw [z]
          exact c
        · exact fun q => b y z (List.mem_append_left _ q)
      · rintro ⟨⟨a, b⟩, d⟩
        refine ⟨b, fun y hy z => ?_⟩
        rcases List.mem_append.mp z with q | q
        · exact d y (List.mem_cons_of_mem _ hy) q
        · rw [List.mem_singleton] at q
          exact a (by rw [← q]; exact hy)
theorem getD_range (ns : List Int) : (List.range ns.length).map (fun i => ns.getD i 0) = ns := by
  refine List.ext_getElem? fun i => ?_
  rw [List.getElem?_map]
  by_cases h : i < ns.length
  · rw [List.getElem?_range h, List.getElem?_eq_getElem h]
    simp [List.getD_eq_getElem?_getD, h]
  · rw [List.getElem?_eq_none (by rw [List.length_range]; omega), List.getElem?_eq_none (by omega)]
    rfl
theorem met_len (ns : List Int) : (met ns).length ≤ ns.length ∧ ((met ns).length = ns.length ↔ ns.Nodup) := by
  unfold met firstMet
  rw [getD_range]
  obtain ⟨h1, h2⟩ := fold_dedup ns [] List.nodup_nil
  rw [List.length_nil, Nat.zero_add] at h1 h2
  refine ⟨h1, h2.trans ⟨fun z => z.1, fun z => ⟨z, fun x _ => List.not_mem_nil⟩⟩⟩
def tLenSetN (K : PySem.W.Frag) (ta : TE) : TE := fun σ H Q => ta σ H fun x H1 => ∃ (l : Addr) (ns : List Int), x = .ref l ∧ SqL K H1 l (ns.map V.int) ∧ ns.length ≤ 4000 ∧ Q (.int ((met ns).length : Nat)) H1
theorem pe_lenSetN {X : Cx} {a : Expr} {ta : TE} {p p2 q pos : Pos} (hg : Gl X "len") (hm : X.mg "len" = none) (hg2 : Gl X "set") (hm2 : X.mg "set" = none) (ha : PE X a ta) (hc : X.calm = true := by rfl)
    (na : starEach [a] X.env = (false, eval a X.env) :: starEach [] X.env := by rfl) : PE X (.Call (.Name "len" p) [.Call (.Name "set" p2) [a] [] q] [] pos) (tLenSetN X.K ta) := by
  refine ⟨fun pins s σ H Q I h => ?_⟩
  refine Call_ (ld_blt I hg hm boot_len ?_)
  refine PyProof.Rows.callWith_builtin1 (PyProof.Rows.args_cons ?_ rfl) rfl rfl
  refine Call_ (ld_blt I hg2 hm2 boot_set ?_)
  refine PyProof.Rows.callWith_type1 (PyProof.Rows.args_cons (thn (ha.run pins s σ H _ I h) fun v s1 ⟨x, H1, I1, r1, q1⟩ => PyProof.Rows.args_nil ?_) na) na rfl
  obtain ⟨l, ns, rfl, hq, hl, q1⟩ := q1
  cases r1
  obtain ⟨its, r, pl, hz⟩ := I1.list hq
  have hlen : its.toArray.size = ns.length := by rw [List.size_toArray, ← r.length, List.length_map]
  refine call_set_list (I1.ok.hd hc) pl.isList (by simpa using RZ.intsAre_vals r) (by rw [hlen]; unfold scanBound; omega) fun h' tk hS hk => ?_
  refine PyProof.Rows.args_nil ?_
  rw [hlen] at hS
  obtain ⟨o, es, ep, t, ho, hex, hd, _, _, _, hf, hn⟩ := hS
  have I2 : Inv X pins σ H1 { s1 with heap := h', toks := tk } := I1.kept fun b o e => hk b o (Heap.lt_size e) e
  have le := (met_len ns).1
  exact call_len_set ho hex hd hf (by rw [hn]; show ((met ns).length : Int) < _; omega) ⟨.int (met ns).length, H1, I2.tok _, ⟨_, by rw [hn]; rfl⟩, q1⟩
/-! ### t[::-1] -/
theorem filt_take {α : Type} {f : Nat → Option α} {L : List α} (h : ∀ m, m < L.length → f m = L[m]?) : ∀ n, n ≤ L.length → (List.range n).filterMap f = L.take n
  | 0, _ => rfl
  | n + 1, hn => by
    rw [List.range_succ, List.filterMap_append, filt_take h n (by omega), List.take_add_one]
    congr 1
    rw [List.filterMap_cons, h n (by omega), List.getElem?_eq_getElem (by omega)]
    rfl
theorem pick_back (xs : Array Value) : ((List.range xs.size).filterMap fun (m : Nat) => xs[((xs.size : Int) - 1 + (m : Int) * (-1)).toNat]?).toArray = xs.toList.reverse.toArray := by
  congr 1
  have e := filt_take (f := fun (m : Nat) => xs[((xs.size : Int) - 1 + (m : Int) * (-1)).toNat]?) (L := xs.toList.reverse) (fun m hm => ?_) xs.toList.reverse.length (Nat.le_refl _)
  · rw [List.length_reverse, Array.length_toList] at e
    rw [e]
    exact List.take_of_length_le (by rw [List.length_reverse, Array.length_toList]; omega)
  · rw [List.length_reverse, Array.length_toList] at hm
    rw [List.getElem?_reverse (by rw [Array.length_toList]; exact hm), Array.getElem?_toList, Array.length_toList]
    congr 1
    omega
section
variable {P : Program} {w : World} {A : Around} {E : Value → Shared → Prop} {s : Shared}
theorem sliceApplied_back {sl : Addr} {vs : Value} {n : Nat} {Q : Int × Int × Nat → Shared → Prop} (hs : s.heap.IsSliceOf sl .none .none vs) (ps : IsPart vs (some (-1)))
    (h : Q ((n : Int) - 1, -1, n) s) : wpAny (model P w) A (Builtin.Slice.sliceApplied (.ref sl) (pure (n : Int))) Q E s := by
  obtain ⟨os, hos, hcs, hds⟩ := id hs
  unfold Builtin.Slice.sliceApplied Builtin.Slice.sliceFields
  refine wpAny_bind (wpAny_bind (wpAny_field hos hds (x := .none) rfl (wpAny_bind (wpAny_field hos hds (x := .none) rfl (wpAny_bind (wpAny_field hos hds (x := vs) rfl (wpAny_pure ?_)))))))
  refine wpAny_bind (HT.slicePart_ ps ?_)
  show wpAny _ _ (if ((-1 : Int) == 0) = true then _ else _) _ _ s
  rw [if_neg (by decide)]
  refine wpAny_bind (HT.slicePart_ .none (wpAny_bind (HT.slicePart_ .none (wpAny_bind (wpAny_pure ?_)))))
  show wpAny _ _ (match Builtin.Slice.sliceAdjust none none (-1) (n : Int) with | (lo, hi) => pure (lo, (-1 : Int), Builtin.Slice.slicePlaces lo hi (-1))) _ _ s
  have e1 : Builtin.Slice.sliceAdjust none none (-1) (n : Int) = ((n : Int) - 1, -1) := by
    unfold Builtin.Slice.sliceAdjust
    simp
  rw [e1]
  show wpAny _ _ (pure ((n : Int) - 1, (-1 : Int), Builtin.Slice.slicePlaces ((n : Int) - 1) (-1) (-1))) _ _ s
  have e2 : Builtin.Slice.slicePlaces ((n : Int) - 1) (-1) (-1) = n := by
    unfold Builtin.Slice.slicePlaces
    have h1 : ¬ ((-1 : Int) > 0) := by omega
    simp only [h1, if_false, show (-(-1 : Int)) = 1 from rfl, Int.ediv_one]
    split <;> omega
  rw [e2]
  exact wpAny_pure h
theorem getItem_tuple_back {t sl : Addr} {items : Array Value} {vs : Value} {Q : Value → Shared → Prop} (ht : IsTup s.heap t items) (hs : s.heap.IsSliceOf sl .none .none vs) (ps : IsPart vs (some (-1)))
    (h : Q (.ref s.heap.objs.size) { s with heap := s.heap.push { cls := .type "tuple", data := .seq items.toList.reverse.toArray } })
    (hsz : items.size ≤ sizeLine) : wpAny (model P w) A (getItem (.ref t) (.ref sl)) Q E s := by
  have htake : sizeOk (.seq items.toList.reverse.toArray) := by
    show items.toList.reverse.toArray.size ≤ sizeLine
    rw [List.size_toArray, List.length_reverse, Array.length_toList]
    omega
  obtain ⟨os, hos, hcs, hds⟩ := id hs
  have hTs : s.TypeIs (.ref sl) "slice" := ⟨os, hos, hcs⟩
  unfold getItem
  try with_reducible refine wpAny_holding ?_
  first | refine wpAny_bind (wpAny_pure ?_) | skip
  refine wpAny_bind (wpAny_sequenceKey ht.typeIs (by decide) ?_)
  refine wpAny_bind (wpAny_callSpecial?_slot (name := Str.ofString "__getitem__") ht.typeIs PyProof.Rows.slot_tuple_getitem
    (wpAny_call_entry PyProof.Rows.slot_tuple_getitem ht.typeIs entry_tuple_getitem ?_ (args_tuple_getitem _ _)))
  show wpAny _ _ (Builtin.Tuple.tupleItemsOf (.ref t) >>= _) _ _ s
  refine wpAny_bind (tupleItemsOf_ ht ?_)
  refine wpAny_bind (wpAny_typeOf hTs ?_)
  rw [if_pos (by decide)]
  refine wpAny_bind (sliceApplied_back hs ps ?_)
  have hno : ¬ (((((items.size : Int) - 1) == 0 && (-1 : Int) == 1 && items.size == items.size)) = true) := by
    intro q
    rw [Bool.and_eq_true, Bool.and_eq_true] at q
    have q1 : (-1 : Int) = 1 := eq_of_beq q.1.2
    omega
  show wpAny _ _ (if ((((items.size : Int) - 1) == 0 && (-1 : Int) == 1 && items.size == items.size)) = true then _ else _) _ _ s
  rw [if_neg hno, pick_back]
  first
    | exact wpAny_bind (m := Builtin.Tuple.tupleExact _) (wpAny_newObj_type (wpAny_pure ⟨_, rfl, wpAny_pure h⟩) htake)
    | exact wpAny_bind (m := Builtin.Tuple.tupleExact _) (wpAny_newObj_type (wpAny_bind (wpAny_pure (wpAny_pure ⟨_, rfl, wpAny_pure h⟩))) htake)
    | exact wpAny_bind (wpAny_bind (m := Builtin.Tuple.tupleExact _) (wpAny_newObj_type (wpAny_pure (wpAny_pure ⟨_, rfl, wpAny_pure h⟩)) htake))
    | exact wpAny_bind (wpAny_bind (m := Builtin.Tuple.tupleExact _) (wpAny_newObj_type (wpAny_pure ⟨_, rfl, wpAny_pure h⟩) htake))
end
def tRevT (K : PySem.W.Frag) (te : TE) : TE := fun σ H Q => te σ H fun x H1 => ∃ a xs, x = .ref a ∧ SqT K H1 a xs ∧ ∀ p, H1 p = none → Q (.ref p) (upd H1 p (.tup xs.reverse))
theorem pe_revT {X : Cx} {e : Expr} {te : TE} {k : Nat} {p1 p2 p3 pos : Pos} (he : PE X e te) : PE X (.Subscript e (.Slice none none (some (.UnaryOp .USub (.Constant (.int 1) k p1) p2)) p3) pos) (tRevT X.K te) := by
  refine ⟨fun pins s σ H Q I h => ?_⟩
  refine Subscript_ (thn (he.run pins s σ H _ I h) fun v s1 ⟨x, H1, I1, r1, q1⟩ => ?_)
  obtain ⟨a, xs, ex, hx, q⟩ := q1
  subst ex
  cases r1
  have hst : PO X (some (.UnaryOp .USub (.Constant (.int 1) k p1) p2)) (tPart (tUn (rU fun i => .int (-i)) (tC (.int 1)))) := po_some (pe_un un_neg pe_int)
  refine wpAny_Slice (thn (po_none.run pins s1 σ H1 (fun o H2 => o = none ∧ H2 = H1) I1 ⟨rfl, rfl⟩) fun vl s2 ⟨l, H2, I2, pl, el, e2⟩ => ?_)
  subst el e2
  refine thn (po_none.run pins s2 σ H2 (fun o H3 => o = none ∧ H3 = H2) I2 ⟨rfl, rfl⟩) fun vu s3 ⟨u, H3, I3, pu, eu, e3⟩ => ?_
  subst eu e3
  refine thn (hst.run pins s3 σ H3 (fun o H4 => o = some (-1) ∧ H4 = H3) I3 ⟨1, rfl, -1, rfl, rfl, rfl⟩) fun vs s4 ⟨o, H4, I4, ps, eo, e4⟩ => ?_
  subst eo e4
  cases pl
  cases pu
  have I5 : Inv X pins σ H4 { s4 with heap := s4.heap.push { cls := .type "slice", data := .fields #[.none, .none, vs] } } := I4.kept (t' := s4.toks) fun b ob q => Heap.get?_push_of_some _ q
  obtain ⟨its, r, ht, hz⟩ := I5.tuple hx
  have hlen := r.length
  show wpAny (model X.prog X.w) X.A (subscriptTail e (.Slice none none (some (.UnaryOp .USub (.Constant (.int 1) k p1) p2)) p3) (.ref a) (.ref s4.heap.objs.size)) (EP X pins σ Q) X.xe { s4 with heap := s4.heap.push { cls := .type "slice", data := .fields #[.none, .none, vs] } }
  refine tail_any (ops := [.ref a, .ref s4.heap.objs.size]) ht.typeIs (PyProof.Rows.slot_tuple_getitem.lookup) ?_ (by with_unfolding_all rfl)
  refine getItem_tuple_back ht (Heap.IsSliceOf.new _ .none .none vs) ps ?_ (by rw [List.size_toArray]; omega)
  refine ⟨.ref _, _, I5.laid (t' := s4.toks) (o := .tup xs.reverse) (fun b ob q => Heap.get?_push_of_some _ q) (Nat.le_refl _) ?_, rfl, q _ (I5.hok.fresh (Nat.le_refl _))⟩
  exact ⟨by rw [List.length_reverse]; exact hz, _, r.reverse, IsTup.new _ _⟩
/-! ### what is never come to -/
def tDead : TE := fun _ _ _ => False
theorem pe_dead {X : Cx} {e : Expr} : PE X e tDead := ⟨fun _ _ _ _ _ _ h => h.elim⟩
def sDead : TS := fun _ _ _ => False
end GL

namespace KX
open PySem L2
/-! ### the text by places -/
def top (i : Nat) : Stmt := PySem.Challenge.pw_exactbeats_k62_whole_rounds_spoiled.main.body.getD i (.Pass ⟨0, 0, 0, 0⟩)
abbrev s_is_integer : Stmt := top 5
abbrev N_is_integer : List Str := ["thing"]
abbrev P_is_integer : List Str := ["thing"]
theorem sc_is_integer : FnScope N_is_integer P_is_integer (defScope s_is_integer) := ⟨rfl, rfl, rfl, by decide +kernel, rfl, by decide +kernel, by decide +kernel⟩
abbrev s_is_integer_from : Stmt := top 6
abbrev N_is_integer_from : List Str := ["least", "greatest", "thing"]
abbrev P_is_integer_from : List Str := ["least", "greatest", "thing"]
theorem sc_is_integer_from : FnScope N_is_integer_from P_is_integer_from (defScope s_is_integer_from) := ⟨rfl, rfl, rfl, by decide +kernel, rfl, by decide +kernel, by decide +kernel⟩
abbrev s_is_number_below : Stmt := top 7
abbrev N_is_number_below : List Str := ["bound", "thing"]
abbrev P_is_number_below : List Str := ["bound", "thing"]
theorem sc_is_number_below : FnScope N_is_number_below P_is_number_below (defScope s_is_number_below) := ⟨rfl, rfl, rfl, by decide +kernel, rfl, by decide +kernel, by decide +kernel⟩
abbrev s_is_tuple_of : Stmt := top 8
abbrev N_is_tuple_of : List Str := ["many", "thing"]
abbrev P_is_tuple_of : List Str := ["many", "thing"]
theorem sc_is_tuple_of : FnScope N_is_tuple_of P_is_tuple_of (defScope s_is_tuple_of) := ⟨rfl, rfl, rfl, by decide +kernel, rfl, by decide +kernel, by decide +kernel⟩
abbrev s_is_pair_below : Stmt := top 9
abbrev N_is_pair_below : List Str := ["bound", "thing"]
abbrev P_is_pair_below : List Str := ["bound", "thing"]
theorem sc_is_pair_below : FnScope N_is_pair_below P_is_pair_below (defScope s_is_pair_below) := ⟨rfl, rfl, rfl, by decide +kernel, rfl, by decide +kernel, by decide +kernel⟩
abbrev s_all_unlike : Stmt := top 10
abbrev N_all_unlike : List Str := ["items"]
abbrev P_all_unlike : List Str := ["items"]
theorem sc_all_unlike : FnScope N_all_unlike P_all_unlike (defScope s_all_unlike) := ⟨rfl, rfl, rfl, by decide +kernel, rfl, by decide +kernel, by decide +kernel⟩
abbrev s_are_apart_below : Stmt := top 13
abbrev N_are_apart_below : List Str := ["many", "thing", "lines", "line", "_", "output", "pair"]
abbrev P_are_apart_below : List Str := ["many", "thing"]
theorem sc_are_apart_below : FnScope N_are_apart_below P_are_apart_below (defScope s_are_apart_below) := ⟨rfl, rfl, rfl, by decide +kernel, rfl, by decide +kernel, by decide +kernel⟩
abbrev s_is_table_row : Stmt := top 17
abbrev N_is_table_row : List Str := ["many", "thing", "number"]
abbrev P_is_table_row : List Str := ["many", "thing"]
theorem sc_is_table_row : FnScope N_is_table_row P_is_table_row (defScope s_is_table_row) := ⟨rfl, rfl, rfl, by decide +kernel, rfl, by decide +kernel, by decide +kernel⟩
abbrev s_is_table : Stmt := top 18
abbrev N_is_table : List Str := ["thing", "row"]
abbrev P_is_table : List Str := ["thing"]
theorem sc_is_table : FnScope N_is_table P_is_table (defScope s_is_table) := ⟨rfl, rfl, rfl, by decide +kernel, rfl, by decide +kernel, by decide +kernel⟩
abbrev s_check_table : Stmt := top 19
abbrev N_check_table : List Str := ["table"]
abbrev P_check_table : List Str := ["table"]
theorem sc_check_table : FnScope N_check_table P_check_table (defScope s_check_table) := ⟨rfl, rfl, rfl, by decide +kernel, rfl, by decide +kernel, by decide +kernel⟩
abbrev s_check_beats : Stmt := top 20
abbrev N_check_beats : List Str := ["beats"]
abbrev P_check_beats : List Str := ["beats"]
theorem sc_check_beats : FnScope N_check_beats P_check_beats (defScope s_check_beats) := ⟨rfl, rfl, rfl, by decide +kernel, rfl, by decide +kernel, by decide +kernel⟩
abbrev s_are_together : Stmt := top 21
abbrev N_are_together : List Str := ["table", "timed", "left", "times", "matching", "line", "output", "row", "number"]
abbrev P_are_together : List Str := ["table", "timed"]
theorem sc_are_together : FnScope N_are_together P_are_together (defScope s_are_together) := ⟨rfl, rfl, rfl, by decide +kernel, rfl, by decide +kernel, by decide +kernel⟩
abbrev s_is_round : Stmt := top 22
abbrev N_is_round : List Str := ["table", "beats", "thing", "matching"]
abbrev P_is_round : List Str := ["table", "beats", "thing"]
theorem sc_is_round : FnScope N_is_round P_is_round (defScope s_is_round) := ⟨rfl, rfl, rfl, by decide +kernel, rfl, by decide +kernel, by decide +kernel⟩
abbrev s_law_hand : Stmt := top 24
abbrev N_law_hand : List Str := ["_law_script", "_law_cells", "_law_cell"]
abbrev P_law_hand : List Str := ["_law_script"]
theorem sc_law_hand : FnScope N_law_hand P_law_hand (defScope s_law_hand) := ⟨rfl, rfl, rfl, by decide +kernel, rfl, by decide +kernel, by decide +kernel⟩
abbrev s_law_draw : Stmt := top 25
abbrev N_law_draw : List Str := ["_law_hand_here", "_law_many", "_law_cell", "_law_digit", "_law_number"]
abbrev P_law_draw : List Str := ["_law_hand_here", "_law_many"]
theorem sc_law_draw : FnScope N_law_draw P_law_draw (defScope s_law_draw) := ⟨rfl, rfl, rfl, by decide +kernel, rfl, by decide +kernel, by decide +kernel⟩
abbrev s_law_pick : Stmt := top 26
abbrev N_law_pick : List Str := ["_law_hand_here", "_law_things"]
abbrev P_law_pick : List Str := ["_law_hand_here", "_law_things"]
theorem sc_law_pick : FnScope N_law_pick P_law_pick (defScope s_law_pick) := ⟨rfl, rfl, rfl, by decide +kernel, rfl, by decide +kernel, by decide +kernel⟩
abbrev s_law_is_int : Stmt := top 27
abbrev N_law_is_int : List Str := ["_law_thing", "_law_least", "_law_most"]
abbrev P_law_is_int : List Str := ["_law_thing", "_law_least", "_law_most"]
theorem sc_law_is_int : FnScope N_law_is_int P_law_is_int (defScope s_law_is_int) := ⟨rfl, rfl, rfl, by decide +kernel, rfl, by decide +kernel, by decide +kernel⟩
abbrev s_law_is_pairing : Stmt := top 28
abbrev N_law_is_pairing : List Str := ["_law_many", "_law_thing", "_law_pair", "_law_outputs", "_law_line", "_law_output", "_law_one", "_law_other"]
abbrev P_law_is_pairing : List Str := ["_law_many", "_law_thing"]
theorem sc_law_is_pairing : FnScope N_law_is_pairing P_law_is_pairing (defScope s_law_is_pairing) := ⟨rfl, rfl, rfl, by decide +kernel, rfl, by decide +kernel, by decide +kernel⟩
abbrev s_law_counted : Stmt := top 29
abbrev N_law_counted : List Str := ["_law_many", "_law_pairs", "_law_line", "_law_found", "_law_times", "_law_pairing_here", "_law_output", "_law_row"]
abbrev P_law_counted : List Str := ["_law_many", "_law_pairs"]
theorem sc_law_counted : FnScope N_law_counted P_law_counted (defScope s_law_counted) := ⟨rfl, rfl, rfl, by decide +kernel, rfl, by decide +kernel, by decide +kernel⟩
abbrev s_law_is_round : Stmt := top 30
abbrev N_law_is_round : List Str := ["_law_table", "_law_beats", "_law_thing", "_law_many", "_law_one"]
abbrev P_law_is_round : List Str := ["_law_table", "_law_beats", "_law_thing"]
theorem sc_law_is_round : FnScope N_law_is_round P_law_is_round (defScope s_law_is_round) := ⟨rfl, rfl, rfl, by decide +kernel, rfl, by decide +kernel, by decide +kernel⟩
abbrev s_law_deep : Stmt := top 31
abbrev N_law_deep : List Str := ["_law_hand_here", "_law_found", "_law_turn"]
abbrev P_law_deep : List Str := ["_law_hand_here"]
theorem sc_law_deep : FnScope N_law_deep P_law_deep (defScope s_law_deep) := ⟨rfl, rfl, rfl, by decide +kernel, rfl, by decide +kernel, by decide +kernel⟩
abbrev s_law_pairing : Stmt := top 32
abbrev N_law_pairing : List Str := ["_law_hand_here", "_law_many", "_law_left", "_law_found", "_law_line", "_law_output"]
abbrev P_law_pairing : List Str := ["_law_hand_here", "_law_many"]
theorem sc_law_pairing : FnScope N_law_pairing P_law_pairing (defScope s_law_pairing) := ⟨rfl, rfl, rfl, by decide +kernel, rfl, by decide +kernel, by decide +kernel⟩
abbrev s_law_bent_beat : Stmt := top 33
abbrev N_law_bent_beat : List Str := ["_law_hand_here", "_law_many", "_law_pairing_here", "_law_odd", "_law_at", "_law_line", "_law_output", "_law_some"]
abbrev P_law_bent_beat : List Str := ["_law_hand_here", "_law_many", "_law_pairing_here"]
theorem sc_law_bent_beat : FnScope N_law_bent_beat P_law_bent_beat (defScope s_law_bent_beat) := ⟨rfl, rfl, rfl, by decide +kernel, rfl, by decide +kernel, by decide +kernel⟩
abbrev s_law_bent : Stmt := top 34
abbrev N_law_bent : List Str := ["_law_hand_here", "_law_many", "_law_thing", "_law_at", "_law_beat", "_law_some", "_law_pair"]
abbrev P_law_bent : List Str := ["_law_hand_here", "_law_many", "_law_thing"]
theorem sc_law_bent : FnScope N_law_bent P_law_bent (defScope s_law_bent) := ⟨rfl, rfl, rfl, by decide +kernel, rfl, by decide +kernel, by decide +kernel⟩
abbrev s_law : Stmt := top 35
abbrev N_law : List Str := ["_law_script", "_law_hand_here", "_law_turn", "_law_many", "_law_thing", "_law_beats", "_law_table", "_law_again", "_law_other", "_law_change", "_law_flag", "_law_beat", "_law_pairing_here"]
abbrev P_law : List Str := ["_law_script"]
theorem sc_law : FnScope N_law P_law (defScope s_law) := ⟨rfl, rfl, rfl, by decide +kernel, rfl, by decide +kernel, by decide +kernel⟩
/-! ### what the top has left -/
structure Adr where
  a_is_integer : Addr
  d_is_integer : FuncData
  a_is_integer_from : Addr
  d_is_integer_from : FuncData
  a_is_number_below : Addr
  d_is_number_below : FuncData
  a_is_tuple_of : Addr
  d_is_tuple_of : FuncData
  a_is_pair_below : Addr
  d_is_pair_below : FuncData
  a_all_unlike : Addr
  d_all_unlike : FuncData
  a_are_apart_below : Addr
  d_are_apart_below : FuncData
  a_is_table_row : Addr
  d_is_table_row : FuncData
  a_is_table : Addr
  d_is_table : FuncData
  a_check_table : Addr
  d_check_table : FuncData
  a_check_beats : Addr
  d_check_beats : FuncData
  a_are_together : Addr
  d_are_together : FuncData
  a_is_round : Addr
  d_is_round : FuncData
  a_law_hand : Addr
  d_law_hand : FuncData
  a_law_draw : Addr
  d_law_draw : FuncData
  a_law_pick : Addr
  d_law_pick : FuncData
  a_law_is_int : Addr
  d_law_is_int : FuncData
  a_law_is_pairing : Addr
  d_law_is_pairing : FuncData
  a_law_counted : Addr
  d_law_counted : FuncData
  a_law_is_round : Addr
  d_law_is_round : FuncData
  a_law_deep : Addr
  d_law_deep : FuncData
  a_law_pairing : Addr
  d_law_pairing : FuncData
  a_law_bent_beat : Addr
  d_law_bent_beat : FuncData
  a_law_bent : Addr
  d_law_bent : FuncData
  a_law : Addr
  d_law : FuncData
structure Top (K : PySem.W.Frag) (mg : Str → Option Value) (A : Adr) : Prop where
  F_is_integer : Fun K "is_integer" "is_integer" s_is_integer A.a_is_integer A.d_is_integer
  g_is_integer : mg "is_integer" = some (.ref A.a_is_integer)
  b_is_integer : Binds K A.d_is_integer P_is_integer []
  F_is_integer_from : Fun K "is_integer_from" "is_integer_from" s_is_integer_from A.a_is_integer_from A.d_is_integer_from
  g_is_integer_from : mg "is_integer_from" = some (.ref A.a_is_integer_from)
  b_is_integer_from : Binds K A.d_is_integer_from P_is_integer_from []
  F_is_number_below : Fun K "is_number_below" "is_number_below" s_is_number_below A.a_is_number_below A.d_is_number_below
  g_is_number_below : mg "is_number_below" = some (.ref A.a_is_number_below)
  b_is_number_below : Binds K A.d_is_number_below P_is_number_below []
  F_is_tuple_of : Fun K "is_tuple_of" "is_tuple_of" s_is_tuple_of A.a_is_tuple_of A.d_is_tuple_of
  g_is_tuple_of : mg "is_tuple_of" = some (.ref A.a_is_tuple_of)
  b_is_tuple_of : Binds K A.d_is_tuple_of P_is_tuple_of []
  F_is_pair_below : Fun K "is_pair_below" "is_pair_below" s_is_pair_below A.a_is_pair_below A.d_is_pair_below
  g_is_pair_below : mg "is_pair_below" = some (.ref A.a_is_pair_below)
  b_is_pair_below : Binds K A.d_is_pair_below P_is_pair_below []
  F_all_unlike : Fun K "all_unlike" "all_unlike" s_all_unlike A.a_all_unlike A.d_all_unlike
  g_all_unlike : mg "all_unlike" = some (.ref A.a_all_unlike)
  b_all_unlike : Binds K A.d_all_unlike P_all_unlike []
  F_are_apart_below : Fun K "are_apart_below" "are_apart_below" s_are_apart_below A.a_are_apart_below A.d_are_apart_below
  g_are_apart_below : mg "are_apart_below" = some (.ref A.a_are_apart_below)
  b_are_apart_below : Binds K A.d_are_apart_below P_are_apart_below []
  F_is_table_row : Fun K "is_table_row" "is_table_row" s_is_table_row A.a_is_table_row A.d_is_table_row
  g_is_table_row : mg "is_table_row" = some (.ref A.a_is_table_row)
  b_is_table_row : Binds K A.d_is_table_row P_is_table_row []
  F_is_table : Fun K "is_table" "is_table" s_is_table A.a_is_table A.d_is_table
  g_is_table : mg "is_table" = some (.ref A.a_is_table)
  b_is_table : Binds K A.d_is_table P_is_table []
  F_check_table : Fun K "check_table" "check_table" s_check_table A.a_check_table A.d_check_table
  g_check_table : mg "check_table" = some (.ref A.a_check_table)
  b_check_table : Binds K A.d_check_table P_check_table []
  F_check_beats : Fun K "check_beats" "check_beats" s_check_beats A.a_check_beats A.d_check_beats
  g_check_beats : mg "check_beats" = some (.ref A.a_check_beats)
  b_check_beats : Binds K A.d_check_beats P_check_beats []
  F_are_together : Fun K "are_together" "are_together" s_are_together A.a_are_together A.d_are_together
  g_are_together : mg "are_together" = some (.ref A.a_are_together)
  b_are_together : Binds K A.d_are_together P_are_together []
  F_is_round : Fun K "is_round" "is_round" s_is_round A.a_is_round A.d_is_round
  g_is_round : mg "is_round" = some (.ref A.a_is_round)
  b_is_round : Binds K A.d_is_round P_is_round []
  F_law_hand : Fun K "_law_hand" "_law_hand" s_law_hand A.a_law_hand A.d_law_hand
  g_law_hand : mg "_law_hand" = some (.ref A.a_law_hand)
  b_law_hand : Binds K A.d_law_hand P_law_hand []
  F_law_draw : Fun K "_law_draw" "_law_draw" s_law_draw A.a_law_draw A.d_law_draw
  g_law_draw : mg "_law_draw" = some (.ref A.a_law_draw)
  b_law_draw : Binds K A.d_law_draw P_law_draw []
  F_law_pick : Fun K "_law_pick" "_law_pick" s_law_pick A.a_law_pick A.d_law_pick
  g_law_pick : mg "_law_pick" = some (.ref A.a_law_pick)
  b_law_pick : Binds K A.d_law_pick P_law_pick []
  F_law_is_int : Fun K "_law_is_int" "_law_is_int" s_law_is_int A.a_law_is_int A.d_law_is_int
  g_law_is_int : mg "_law_is_int" = some (.ref A.a_law_is_int)
  b_law_is_int : Binds K A.d_law_is_int P_law_is_int []
  F_law_is_pairing : Fun K "_law_is_pairing" "_law_is_pairing" s_law_is_pairing A.a_law_is_pairing A.d_law_is_pairing
  g_law_is_pairing : mg "_law_is_pairing" = some (.ref A.a_law_is_pairing)
  b_law_is_pairing : Binds K A.d_law_is_pairing P_law_is_pairing []
  F_law_counted : Fun K "_law_counted" "_law_counted" s_law_counted A.a_law_counted A.d_law_counted
  g_law_counted : mg "_law_counted" = some (.ref A.a_law_counted)
  b_law_counted : Binds K A.d_law_counted P_law_counted []
  F_law_is_round : Fun K "_law_is_round" "_law_is_round" s_law_is_round A.a_law_is_round A.d_law_is_round
  g_law_is_round : mg "_law_is_round" = some (.ref A.a_law_is_round)
  b_law_is_round : Binds K A.d_law_is_round P_law_is_round []
  F_law_deep : Fun K "_law_deep" "_law_deep" s_law_deep A.a_law_deep A.d_law_deep
  g_law_deep : mg "_law_deep" = some (.ref A.a_law_deep)
  b_law_deep : Binds K A.d_law_deep P_law_deep []
  F_law_pairing : Fun K "_law_pairing" "_law_pairing" s_law_pairing A.a_law_pairing A.d_law_pairing
  g_law_pairing : mg "_law_pairing" = some (.ref A.a_law_pairing)
  b_law_pairing : Binds K A.d_law_pairing P_law_pairing []
  F_law_bent_beat : Fun K "_law_bent_beat" "_law_bent_beat" s_law_bent_beat A.a_law_bent_beat A.d_law_bent_beat
  g_law_bent_beat : mg "_law_bent_beat" = some (.ref A.a_law_bent_beat)
  b_law_bent_beat : Binds K A.d_law_bent_beat P_law_bent_beat []
  F_law_bent : Fun K "_law_bent" "_law_bent" s_law_bent A.a_law_bent A.d_law_bent
  g_law_bent : mg "_law_bent" = some (.ref A.a_law_bent)
  b_law_bent : Binds K A.d_law_bent P_law_bent []
  F_law : Fun K "law" "law" s_law A.a_law A.d_law
  g_law : mg "law" = some (.ref A.a_law)
  b_law : Binds K A.d_law P_law []
  k_MOST_LINES : ∃ t, mg "MOST_LINES" = some (.int 12 t)
  k_GREATEST_ENTRY : ∃ t, mg "GREATEST_ENTRY" = some (.int 300 t)
  k_MOST_BEATS_OF_A_ROUND : ∃ t, mg "MOST_BEATS_OF_A_ROUND" = some (.int 300 t)
  z_abs : mg "abs" = none
  z_all : mg "all" = none
  z_any : mg "any" = none
  z_bool : mg "bool" = none
  z_int : mg "int" = none
  z_isinstance : mg "isinstance" = none
  z_len : mg "len" = none
  z_list : mg "list" = none
  z_range : mg "range" = none
  z_set : mg "set" = none
  z_sorted : mg "sorted" = none
  z_tuple : mg "tuple" = none
  z_zip : mg "zip" = none
theorem top_mk {l : PySem.W.OpenLaw} {w : World} {K : PySem.W.Frag} {h : Heap} {mg : Str → Option Value} (X : K.In h) (G : h.Ns mainGlobals mg)
    {f_is_integer : Addr} {od_is_integer an_is_integer : Option Addr} {sl_is_integer : Array (Option Value)} {oc_is_integer kV_is_integer dc_is_integer pm_is_integer cd_is_integer ct_is_integer : Value}
    {f_is_integer_from : Addr} {od_is_integer_from an_is_integer_from : Option Addr} {sl_is_integer_from : Array (Option Value)} {oc_is_integer_from kV_is_integer_from dc_is_integer_from pm_is_integer_from cd_is_integer_from ct_is_integer_from : Value}
    {f_is_number_below : Addr} {od_is_number_below an_is_number_below : Option Addr} {sl_is_number_below : Array (Option Value)} {oc_is_number_below kV_is_number_below dc_is_number_below pm_is_number_below cd_is_number_below ct_is_number_below : Value}
    {f_is_tuple_of : Addr} {od_is_tuple_of an_is_tuple_of : Option Addr} {sl_is_tuple_of : Array (Option Value)} {oc_is_tuple_of kV_is_tuple_of dc_is_tuple_of pm_is_tuple_of cd_is_tuple_of ct_is_tuple_of : Value}
    {f_is_pair_below : Addr} {od_is_pair_below an_is_pair_below : Option Addr} {sl_is_pair_below : Array (Option Value)} {oc_is_pair_below kV_is_pair_below dc_is_pair_below pm_is_pair_below cd_is_pair_below ct_is_pair_below : Value}
    {f_all_unlike : Addr} {od_all_unlike an_all_unlike : Option Addr} {sl_all_unlike : Array (Option Value)} {oc_all_unlike kV_all_unlike dc_all_unlike pm_all_unlike cd_all_unlike ct_all_unlike : Value}
    {f_are_apart_below : Addr} {od_are_apart_below an_are_apart_below : Option Addr} {sl_are_apart_below : Array (Option Value)} {oc_are_apart_below kV_are_apart_below dc_are_apart_below pm_are_apart_below cd_are_apart_below ct_are_apart_below : Value}
    {f_is_table_row : Addr} {od_is_table_row an_is_table_row : Option Addr} {sl_is_table_row : Array (Option Value)} {oc_is_table_row kV_is_table_row dc_is_table_row pm_is_table_row cd_is_table_row ct_is_table_row : Value}
    {f_is_table : Addr} {od_is_table an_is_table : Option Addr} {sl_is_table : Array (Option Value)} {oc_is_table kV_is_table dc_is_table pm_is_table cd_is_table ct_is_table : Value}
    {f_check_table : Addr} {od_check_table an_check_table : Option Addr} {sl_check_table : Array (Option Value)} {oc_check_table kV_check_table dc_check_table pm_check_table cd_check_table ct_check_table : Value}
    {f_check_beats : Addr} {od_check_beats an_check_beats : Option Addr} {sl_check_beats : Array (Option Value)} {oc_check_beats kV_check_beats dc_check_beats pm_check_beats cd_check_beats ct_check_beats : Value}
    {f_are_together : Addr} {od_are_together an_are_together : Option Addr} {sl_are_together : Array (Option Value)} {oc_are_together kV_are_together dc_are_together pm_are_together cd_are_together ct_are_together : Value}
    {f_is_round : Addr} {od_is_round an_is_round : Option Addr} {sl_is_round : Array (Option Value)} {oc_is_round kV_is_round dc_is_round pm_is_round cd_is_round ct_is_round : Value}
    {f_law_hand : Addr} {od_law_hand an_law_hand : Option Addr} {sl_law_hand : Array (Option Value)} {oc_law_hand kV_law_hand dc_law_hand pm_law_hand cd_law_hand ct_law_hand : Value}
    {f_law_draw : Addr} {od_law_draw an_law_draw : Option Addr} {sl_law_draw : Array (Option Value)} {oc_law_draw kV_law_draw dc_law_draw pm_law_draw cd_law_draw ct_law_draw : Value}
    {f_law_pick : Addr} {od_law_pick an_law_pick : Option Addr} {sl_law_pick : Array (Option Value)} {oc_law_pick kV_law_pick dc_law_pick pm_law_pick cd_law_pick ct_law_pick : Value}
    {f_law_is_int : Addr} {od_law_is_int an_law_is_int : Option Addr} {sl_law_is_int : Array (Option Value)} {oc_law_is_int kV_law_is_int dc_law_is_int pm_law_is_int cd_law_is_int ct_law_is_int : Value}
    {f_law_is_pairing : Addr} {od_law_is_pairing an_law_is_pairing : Option Addr} {sl_law_is_pairing : Array (Option Value)} {oc_law_is_pairing kV_law_is_pairing dc_law_is_pairing pm_law_is_pairing cd_law_is_pairing ct_law_is_pairing : Value}
    {f_law_counted : Addr} {od_law_counted an_law_counted : Option Addr} {sl_law_counted : Array (Option Value)} {oc_law_counted kV_law_counted dc_law_counted pm_law_counted cd_law_counted ct_law_counted : Value}
    {f_law_is_round : Addr} {od_law_is_round an_law_is_round : Option Addr} {sl_law_is_round : Array (Option Value)} {oc_law_is_round kV_law_is_round dc_law_is_round pm_law_is_round cd_law_is_round ct_law_is_round : Value}
    {f_law_deep : Addr} {od_law_deep an_law_deep : Option Addr} {sl_law_deep : Array (Option Value)} {oc_law_deep kV_law_deep dc_law_deep pm_law_deep cd_law_deep ct_law_deep : Value}
    {f_law_pairing : Addr} {od_law_pairing an_law_pairing : Option Addr} {sl_law_pairing : Array (Option Value)} {oc_law_pairing kV_law_pairing dc_law_pairing pm_law_pairing cd_law_pairing ct_law_pairing : Value}
    {f_law_bent_beat : Addr} {od_law_bent_beat an_law_bent_beat : Option Addr} {sl_law_bent_beat : Array (Option Value)} {oc_law_bent_beat kV_law_bent_beat dc_law_bent_beat pm_law_bent_beat cd_law_bent_beat ct_law_bent_beat : Value}
    {f_law_bent : Addr} {od_law_bent an_law_bent : Option Addr} {sl_law_bent : Array (Option Value)} {oc_law_bent kV_law_bent dc_law_bent pm_law_bent cd_law_bent ct_law_bent : Value}
    {f_law : Addr} {od_law an_law : Option Addr} {sl_law : Array (Option Value)} {oc_law kV_law dc_law pm_law cd_law ct_law : Value}
    {t_MOST_LINES : Tok}
    {t_GREATEST_ENTRY : Tok}
    {t_MOST_BEATS_OF_A_ROUND : Tok}
    (a_is_integer : PySem.W.nsIn K mainGlobals "is_integer" = some (some (.ref f_is_integer)))
    (l_is_integer : K.lookup f_is_integer = some ⟨oc_is_integer, od_is_integer, .func (PySem.W.fnOf "is_integer" "is_integer" (defArgs s_is_integer) (defBody s_is_integer) (defScope s_is_integer) .none kV_is_integer dc_is_integer pm_is_integer an_is_integer cd_is_integer ct_is_integer), sl_is_integer⟩)
    (q_is_integer : PySem.W.codeIn K cd_is_integer "is_integer" = true)
    (p_is_integer : PySem.W.keepIn K (.ref f_is_integer) = true)
    (a_is_integer_from : PySem.W.nsIn K mainGlobals "is_integer_from" = some (some (.ref f_is_integer_from)))
    (l_is_integer_from : K.lookup f_is_integer_from = some ⟨oc_is_integer_from, od_is_integer_from, .func (PySem.W.fnOf "is_integer_from" "is_integer_from" (defArgs s_is_integer_from) (defBody s_is_integer_from) (defScope s_is_integer_from) .none kV_is_integer_from dc_is_integer_from pm_is_integer_from an_is_integer_from cd_is_integer_from ct_is_integer_from), sl_is_integer_from⟩)
    (q_is_integer_from : PySem.W.codeIn K cd_is_integer_from "is_integer_from" = true)
    (p_is_integer_from : PySem.W.keepIn K (.ref f_is_integer_from) = true)
    (a_is_number_below : PySem.W.nsIn K mainGlobals "is_number_below" = some (some (.ref f_is_number_below)))
    (l_is_number_below : K.lookup f_is_number_below = some ⟨oc_is_number_below, od_is_number_below, .func (PySem.W.fnOf "is_number_below" "is_number_below" (defArgs s_is_number_below) (defBody s_is_number_below) (defScope s_is_number_below) .none kV_is_number_below dc_is_number_below pm_is_number_below an_is_number_below cd_is_number_below ct_is_number_below), sl_is_number_below⟩)
    (q_is_number_below : PySem.W.codeIn K cd_is_number_below "is_number_below" = true)
    (p_is_number_below : PySem.W.keepIn K (.ref f_is_number_below) = true)
    (a_is_tuple_of : PySem.W.nsIn K mainGlobals "is_tuple_of" = some (some (.ref f_is_tuple_of)))
    (l_is_tuple_of : K.lookup f_is_tuple_of = some ⟨oc_is_tuple_of, od_is_tuple_of, .func (PySem.W.fnOf "is_tuple_of" "is_tuple_of" (defArgs s_is_tuple_of) (defBody s_is_tuple_of) (defScope s_is_tuple_of) .none kV_is_tuple_of dc_is_tuple_of pm_is_tuple_of an_is_tuple_of cd_is_tuple_of ct_is_tuple_of), sl_is_tuple_of⟩)
    (q_is_tuple_of : PySem.W.codeIn K cd_is_tuple_of "is_tuple_of" = true)
    (p_is_tuple_of : PySem.W.keepIn K (.ref f_is_tuple_of) = true)
    (a_is_pair_below : PySem.W.nsIn K mainGlobals "is_pair_below" = some (some (.ref f_is_pair_below)))
    (l_is_pair_below : K.lookup f_is_pair_below = some ⟨oc_is_pair_below, od_is_pair_below, .func (PySem.W.fnOf "is_pair_below" "is_pair_below" (defArgs s_is_pair_below) (defBody s_is_pair_below) (defScope s_is_pair_below) .none kV_is_pair_below dc_is_pair_below pm_is_pair_below an_is_pair_below cd_is_pair_below ct_is_pair_below), sl_is_pair_below⟩)
    (q_is_pair_below : PySem.W.codeIn K cd_is_pair_below "is_pair_below" = true)
    (p_is_pair_below : PySem.W.keepIn K (.ref f_is_pair_below) = true)
    (a_all_unlike : PySem.W.nsIn K mainGlobals "all_unlike" = some (some (.ref f_all_unlike)))
    (l_all_unlike : K.lookup f_all_unlike = some ⟨oc_all_unlike, od_all_unlike, .func (PySem.W.fnOf "all_unlike" "all_unlike" (defArgs s_all_unlike) (defBody s_all_unlike) (defScope s_all_unlike) .none kV_all_unlike dc_all_unlike pm_all_unlike an_all_unlike cd_all_unlike ct_all_unlike), sl_all_unlike⟩)
    (q_all_unlike : PySem.W.codeIn K cd_all_unlike "all_unlike" = true)
    (p_all_unlike : PySem.W.keepIn K (.ref f_all_unlike) = true)
    (a_are_apart_below : PySem.W.nsIn K mainGlobals "are_apart_below" = some (some (.ref f_are_apart_below)))
    (l_are_apart_below : K.lookup f_are_apart_below = some ⟨oc_are_apart_below, od_are_apart_below, .func (PySem.W.fnOf "are_apart_below" "are_apart_below" (defArgs s_are_apart_below) (defBody s_are_apart_below) (defScope s_are_apart_below) .none kV_are_apart_below dc_are_apart_below pm_are_apart_below an_are_apart_below cd_are_apart_below ct_are_apart_below), sl_are_apart_below⟩)
    (q_are_apart_below : PySem.W.codeIn K cd_are_apart_below "are_apart_below" = true)
    (p_are_apart_below : PySem.W.keepIn K (.ref f_are_apart_below) = true)
    (a_is_table_row : PySem.W.nsIn K mainGlobals "is_table_row" = some (some (.ref f_is_table_row)))
    (l_is_table_row : K.lookup f_is_table_row = some ⟨oc_is_table_row, od_is_table_row, .func (PySem.W.fnOf "is_table_row" "is_table_row" (defArgs s_is_table_row) (defBody s_is_table_row) (defScope s_is_table_row) .none kV_is_table_row dc_is_table_row pm_is_table_row an_is_table_row cd_is_table_row ct_is_table_row), sl_is_table_row⟩)
    (q_is_table_row : PySem.W.codeIn K cd_is_table_row "is_table_row" = true)
    (p_is_table_row : PySem.W.keepIn K (.ref f_is_table_row) = true)
    (a_is_table : PySem.W.nsIn K mainGlobals "is_table" = some (some (.ref f_is_table)))
    (l_is_table : K.lookup f_is_table = some ⟨oc_is_table, od_is_table, .func (PySem.W.fnOf "is_table" "is_table" (defArgs s_is_table) (defBody s_is_table) (defScope s_is_table) .none kV_is_table dc_is_table pm_is_table an_is_table cd_is_table ct_is_table), sl_is_table⟩)
    (q_is_table : PySem.W.codeIn K cd_is_table "is_table" = true)
    (p_is_table : PySem.W.keepIn K (.ref f_is_table) = true)
    (a_check_table : PySem.W.nsIn K mainGlobals "check_table" = some (some (.ref f_check_table)))
    (l_check_table : K.lookup f_check_table = some ⟨oc_check_table, od_check_table, .func (PySem.W.fnOf "check_table" "check_table" (defArgs s_check_table) (defBody s_check_table) (defScope s_check_table) .none kV_check_table dc_check_table pm_check_table an_check_table cd_check_table ct_check_table), sl_check_table⟩)
    (q_check_table : PySem.W.codeIn K cd_check_table "check_table" = true)
    (p_check_table : PySem.W.keepIn K (.ref f_check_table) = true)
    (a_check_beats : PySem.W.nsIn K mainGlobals "check_beats" = some (some (.ref f_check_beats)))
    (l_check_beats : K.lookup f_check_beats = some ⟨oc_check_beats, od_check_beats, .func (PySem.W.fnOf "check_beats" "check_beats" (defArgs s_check_beats) (defBody s_check_beats) (defScope s_check_beats) .none kV_check_beats dc_check_beats pm_check_beats an_check_beats cd_check_beats ct_check_beats), sl_check_beats⟩)
    (q_check_beats : PySem.W.codeIn K cd_check_beats "check_beats" = true)
    (p_check_beats : PySem.W.keepIn K (.ref f_check_beats) = true)
    (a_are_together : PySem.W.nsIn K mainGlobals "are_together" = some (some (.ref f_are_together)))
    (l_are_together : K.lookup f_are_together = some ⟨oc_are_together, od_are_together, .func (PySem.W.fnOf "are_together" "are_together" (defArgs s_are_together) (defBody s_are_together) (defScope s_are_together) .none kV_are_together dc_are_together pm_are_together an_are_together cd_are_together ct_are_together), sl_are_together⟩)
    (q_are_together : PySem.W.codeIn K cd_are_together "are_together" = true)
    (p_are_together : PySem.W.keepIn K (.ref f_are_together) = true)
    (a_is_round : PySem.W.nsIn K mainGlobals "is_round" = some (some (.ref f_is_round)))
    (l_is_round : K.lookup f_is_round = some ⟨oc_is_round, od_is_round, .func (PySem.W.fnOf "is_round" "is_round" (defArgs s_is_round) (defBody s_is_round) (defScope s_is_round) .none kV_is_round dc_is_round pm_is_round an_is_round cd_is_round ct_is_round), sl_is_round⟩)
    (q_is_round : PySem.W.codeIn K cd_is_round "is_round" = true)
    (p_is_round : PySem.W.keepIn K (.ref f_is_round) = true)
    (a_law_hand : PySem.W.nsIn K mainGlobals "_law_hand" = some (some (.ref f_law_hand)))
    (l_law_hand : K.lookup f_law_hand = some ⟨oc_law_hand, od_law_hand, .func (PySem.W.fnOf "_law_hand" "_law_hand" (defArgs s_law_hand) (defBody s_law_hand) (defScope s_law_hand) .none kV_law_hand dc_law_hand pm_law_hand an_law_hand cd_law_hand ct_law_hand), sl_law_hand⟩)
    (q_law_hand : PySem.W.codeIn K cd_law_hand "_law_hand" = true)
    (p_law_hand : PySem.W.keepIn K (.ref f_law_hand) = true)
    (a_law_draw : PySem.W.nsIn K mainGlobals "_law_draw" = some (some (.ref f_law_draw)))
    (l_law_draw : K.lookup f_law_draw = some ⟨oc_law_draw, od_law_draw, .func (PySem.W.fnOf "_law_draw" "_law_draw" (defArgs s_law_draw) (defBody s_law_draw) (defScope s_law_draw) .none kV_law_draw dc_law_draw pm_law_draw an_law_draw cd_law_draw ct_law_draw), sl_law_draw⟩)
    (q_law_draw : PySem.W.codeIn K cd_law_draw "_law_draw" = true)
    (p_law_draw : PySem.W.keepIn K (.ref f_law_draw) = true)
    (a_law_pick : PySem.W.nsIn K mainGlobals "_law_pick" = some (some (.ref f_law_pick)))
    (l_law_pick : K.lookup f_law_pick = some ⟨oc_law_pick, od_law_pick, .func (PySem.W.fnOf "_law_pick" "_law_pick" (defArgs s_law_pick) (defBody s_law_pick) (defScope s_law_pick) .none kV_law_pick dc_law_pick pm_law_pick an_law_pick cd_law_pick ct_law_pick), sl_law_pick⟩)
    (q_law_pick : PySem.W.codeIn K cd_law_pick "_law_pick" = true)
    (p_law_pick : PySem.W.keepIn K (.ref f_law_pick) = true)
    (a_law_is_int : PySem.W.nsIn K mainGlobals "_law_is_int" = some (some (.ref f_law_is_int)))
    (l_law_is_int : K.lookup f_law_is_int = some ⟨oc_law_is_int, od_law_is_int, .func (PySem.W.fnOf "_law_is_int" "_law_is_int" (defArgs s_law_is_int) (defBody s_law_is_int) (defScope s_law_is_int) .none kV_law_is_int dc_law_is_int pm_law_is_int an_law_is_int cd_law_is_int ct_law_is_int), sl_law_is_int⟩)
    (q_law_is_int : PySem.W.codeIn K cd_law_is_int "_law_is_int" = true)
    (p_law_is_int : PySem.W.keepIn K (.ref f_law_is_int) = true)
    (a_law_is_pairing : PySem.W.nsIn K mainGlobals "_law_is_pairing" = some (some (.ref f_law_is_pairing)))
    (l_law_is_pairing : K.lookup f_law_is_pairing = some ⟨oc_law_is_pairing, od_law_is_pairing, .func (PySem.W.fnOf "_law_is_pairing" "_law_is_pairing" (defArgs s_law_is_pairing) (defBody s_law_is_pairing) (defScope s_law_is_pairing) .none kV_law_is_pairing dc_law_is_pairing pm_law_is_pairing an_law_is_pairing cd_law_is_pairing ct_law_is_pairing), sl_law_is_pairing⟩)
    (q_law_is_pairing : PySem.W.codeIn K cd_law_is_pairing "_law_is_pairing" = true)
    (p_law_is_pairing : PySem.W.keepIn K (.ref f_law_is_pairing) = true)
    (a_law_counted : PySem.W.nsIn K mainGlobals "_law_counted" = some (some (.ref f_law_counted)))
    (l_law_counted : K.lookup f_law_counted = some ⟨oc_law_counted, od_law_counted, .func (PySem.W.fnOf "_law_counted" "_law_counted" (defArgs s_law_counted) (defBody s_law_counted) (defScope s_law_counted) .none kV_law_counted dc_law_counted pm_law_counted an_law_counted cd_law_counted ct_law_counted), sl_law_counted⟩)
    (q_law_counted : PySem.W.codeIn K cd_law_counted "_law_counted" = true)
    (p_law_counted : PySem.W.keepIn K (.ref f_law_counted) = true)
    (a_law_is_round : PySem.W.nsIn K mainGlobals "_law_is_round" = some (some (.ref f_law_is_round)))
    (l_law_is_round : K.lookup f_law_is_round = some ⟨oc_law_is_round, od_law_is_round, .func (PySem.W.fnOf "_law_is_round" "_law_is_round" (defArgs s_law_is_round) (defBody s_law_is_round) (defScope s_law_is_round) .none kV_law_is_round dc_law_is_round pm_law_is_round an_law_is_round cd_law_is_round ct_law_is_round), sl_law_is_round⟩)
    (q_law_is_round : PySem.W.codeIn K cd_law_is_round "_law_is_round" = true)
    (p_law_is_round : PySem.W.keepIn K (.ref f_law_is_round) = true)
    (a_law_deep : PySem.W.nsIn K mainGlobals "_law_deep" = some (some (.ref f_law_deep)))
    (l_law_deep : K.lookup f_law_deep = some ⟨oc_law_deep, od_law_deep, .func (PySem.W.fnOf "_law_deep" "_law_deep" (defArgs s_law_deep) (defBody s_law_deep) (defScope s_law_deep) .none kV_law_deep dc_law_deep pm_law_deep an_law_deep cd_law_deep ct_law_deep), sl_law_deep⟩)
    (q_law_deep : PySem.W.codeIn K cd_law_deep "_law_deep" = true)
    (p_law_deep : PySem.W.keepIn K (.ref f_law_deep) = true)
    (a_law_pairing : PySem.W.nsIn K mainGlobals "_law_pairing" = some (some (.ref f_law_pairing)))
    (l_law_pairing : K.lookup f_law_pairing = some ⟨oc_law_pairing, od_law_pairing, .func (PySem.W.fnOf "_law_pairing" "_law_pairing" (defArgs s_law_pairing) (defBody s_law_pairing) (defScope s_law_pairing) .none kV_law_pairing dc_law_pairing pm_law_pairing an_law_pairing cd_law_pairing ct_law_pairing), sl_law_pairing⟩)
    (q_law_pairing : PySem.W.codeIn K cd_law_pairing "_law_pairing" = true)
    (p_law_pairing : PySem.W.keepIn K (.ref f_law_pairing) = true)
    (a_law_bent_beat : PySem.W.nsIn K mainGlobals "_law_bent_beat" = some (some (.ref f_law_bent_beat)))
    (l_law_bent_beat : K.lookup f_law_bent_beat = some ⟨oc_law_bent_beat, od_law_bent_beat, .func (PySem.W.fnOf "_law_bent_beat" "_law_bent_beat" (defArgs s_law_bent_beat) (defBody s_law_bent_beat) (defScope s_law_bent_beat) .none kV_law_bent_beat dc_law_bent_beat pm_law_bent_beat an_law_bent_beat cd_law_bent_beat ct_law_bent_beat), sl_law_bent_beat⟩)
    (q_law_bent_beat : PySem.W.codeIn K cd_law_bent_beat "_law_bent_beat" = true)
    (p_law_bent_beat : PySem.W.keepIn K (.ref f_law_bent_beat) = true)
    (a_law_bent : PySem.W.nsIn K mainGlobals "_law_bent" = some (some (.ref f_law_bent)))
    (l_law_bent : K.lookup f_law_bent = some ⟨oc_law_bent, od_law_bent, .func (PySem.W.fnOf "_law_bent" "_law_bent" (defArgs s_law_bent) (defBody s_law_bent) (defScope s_law_bent) .none kV_law_bent dc_law_bent pm_law_bent an_law_bent cd_law_bent ct_law_bent), sl_law_bent⟩)
    (q_law_bent : PySem.W.codeIn K cd_law_bent "_law_bent" = true)
    (p_law_bent : PySem.W.keepIn K (.ref f_law_bent) = true)
    (a_law : PySem.W.nsIn K mainGlobals "law" = some (some (.ref f_law)))
    (l_law : K.lookup f_law = some ⟨oc_law, od_law, .func (PySem.W.fnOf "law" "law" (defArgs s_law) (defBody s_law) (defScope s_law) .none kV_law dc_law pm_law an_law cd_law ct_law), sl_law⟩)
    (q_law : PySem.W.codeIn K cd_law "law" = true)
    (p_law : PySem.W.keepIn K (.ref f_law) = true)
    (k_MOST_LINES : PySem.W.nsIn K mainGlobals "MOST_LINES" = some (some (.int 12 t_MOST_LINES)))
    (k_GREATEST_ENTRY : PySem.W.nsIn K mainGlobals "GREATEST_ENTRY" = some (some (.int 300 t_GREATEST_ENTRY)))
    (k_MOST_BEATS_OF_A_ROUND : PySem.W.nsIn K mainGlobals "MOST_BEATS_OF_A_ROUND" = some (some (.int 300 t_MOST_BEATS_OF_A_ROUND)))
    (z_abs : PySem.W.nsIn K mainGlobals "abs" = some none)
    (z_all : PySem.W.nsIn K mainGlobals "all" = some none)
    (z_any : PySem.W.nsIn K mainGlobals "any" = some none)
    (z_bool : PySem.W.nsIn K mainGlobals "bool" = some none)
    (z_int : PySem.W.nsIn K mainGlobals "int" = some none)
    (z_isinstance : PySem.W.nsIn K mainGlobals "isinstance" = some none)
    (z_len : PySem.W.nsIn K mainGlobals "len" = some none)
    (z_list : PySem.W.nsIn K mainGlobals "list" = some none)
    (z_range : PySem.W.nsIn K mainGlobals "range" = some none)
    (z_set : PySem.W.nsIn K mainGlobals "set" = some none)
    (z_sorted : PySem.W.nsIn K mainGlobals "sorted" = some none)
    (z_tuple : PySem.W.nsIn K mainGlobals "tuple" = some none)
    (z_zip : PySem.W.nsIn K mainGlobals "zip" = some none)
    : ∃ A : Adr, Top K mg A ∧ A.d_law = PySem.W.fnOf "law" "law" (defArgs s_law) (defBody s_law) (defScope s_law) .none kV_law dc_law pm_law an_law cd_law ct_law ∧ A.a_law = f_law := by
  have F_is_integer := fun_mk (st := s_is_integer) l_is_integer q_is_integer p_is_integer
  have F_is_integer_from := fun_mk (st := s_is_integer_from) l_is_integer_from q_is_integer_from p_is_integer_from
  have F_is_number_below := fun_mk (st := s_is_number_below) l_is_number_below q_is_number_below p_is_number_below
  have F_is_tuple_of := fun_mk (st := s_is_tuple_of) l_is_tuple_of q_is_tuple_of p_is_tuple_of
  have F_is_pair_below := fun_mk (st := s_is_pair_below) l_is_pair_below q_is_pair_below p_is_pair_below
  have F_all_unlike := fun_mk (st := s_all_unlike) l_all_unlike q_all_unlike p_all_unlike
  have F_are_apart_below := fun_mk (st := s_are_apart_below) l_are_apart_below q_are_apart_below p_are_apart_below
  have F_is_table_row := fun_mk (st := s_is_table_row) l_is_table_row q_is_table_row p_is_table_row
  have F_is_table := fun_mk (st := s_is_table) l_is_table q_is_table p_is_table
  have F_check_table := fun_mk (st := s_check_table) l_check_table q_check_table p_check_table
  have F_check_beats := fun_mk (st := s_check_beats) l_check_beats q_check_beats p_check_beats
  have F_are_together := fun_mk (st := s_are_together) l_are_together q_are_together p_are_together
  have F_is_round := fun_mk (st := s_is_round) l_is_round q_is_round p_is_round
  have F_law_hand := fun_mk (st := s_law_hand) l_law_hand q_law_hand p_law_hand
  have F_law_draw := fun_mk (st := s_law_draw) l_law_draw q_law_draw p_law_draw
  have F_law_pick := fun_mk (st := s_law_pick) l_law_pick q_law_pick p_law_pick
  have F_law_is_int := fun_mk (st := s_law_is_int) l_law_is_int q_law_is_int p_law_is_int
  have F_law_is_pairing := fun_mk (st := s_law_is_pairing) l_law_is_pairing q_law_is_pairing p_law_is_pairing
  have F_law_counted := fun_mk (st := s_law_counted) l_law_counted q_law_counted p_law_counted
  have F_law_is_round := fun_mk (st := s_law_is_round) l_law_is_round q_law_is_round p_law_is_round
  have F_law_deep := fun_mk (st := s_law_deep) l_law_deep q_law_deep p_law_deep
  have F_law_pairing := fun_mk (st := s_law_pairing) l_law_pairing q_law_pairing p_law_pairing
  have F_law_bent_beat := fun_mk (st := s_law_bent_beat) l_law_bent_beat q_law_bent_beat p_law_bent_beat
  have F_law_bent := fun_mk (st := s_law_bent) l_law_bent q_law_bent p_law_bent
  have F_law := fun_mk (st := s_law) l_law q_law p_law
  refine ⟨⟨f_is_integer, PySem.W.fnOf "is_integer" "is_integer" (defArgs s_is_integer) (defBody s_is_integer) (defScope s_is_integer) .none kV_is_integer dc_is_integer pm_is_integer an_is_integer cd_is_integer ct_is_integer, f_is_integer_from, PySem.W.fnOf "is_integer_from" "is_integer_from" (defArgs s_is_integer_from) (defBody s_is_integer_from) (defScope s_is_integer_from) .none kV_is_integer_from dc_is_integer_from pm_is_integer_from an_is_integer_from cd_is_integer_from ct_is_integer_from, f_is_number_below, PySem.W.fnOf "is_number_below" "is_number_below" (defArgs s_is_number_below) (defBody s_is_number_below) (defScope s_is_number_below) .none kV_is_number_below dc_is_number_below pm_is_number_below an_is_number_below cd_is_number_below ct_is_number_below, f_is_tuple_of, PySem.W.fnOf "is_tuple_of" "is_tuple_of" (defArgs s_is_tuple_of) (defBody s_is_tuple_of) (defScope s_is_tuple_of) .none kV_is_tuple_of dc_is_tuple_of pm_is_tuple_of an_is_tuple_of cd_is_tuple_of ct_is_tuple_of, f_is_pair_below, PySem.W.fnOf "is_pair_below" "is_pair_below" (defArgs s_is_pair_below) (defBody s_is_pair_below) (defScope s_is_pair_below) .none kV_is_pair_below dc_is_pair_below pm_is_pair_below an_is_pair_below cd_is_pair_below ct_is_pair_below, f_all_unlike, PySem.W.fnOf "all_unlike" "all_unlike" (defArgs s_all_unlike) (defBody s_all_unlike) (defScope s_all_unlike) .none kV_all_unlike dc_all_unlike pm_all_unlike an_all_unlike cd_all_unlike ct_all_unlike, f_are_apart_below, PySem.W.fnOf "are_apart_below" "are_apart_below" (defArgs s_are_apart_below) (defBody s_are_apart_below) (defScope s_are_apart_below) .none kV_are_apart_below dc_are_apart_below pm_are_apart_below an_are_apart_below cd_are_apart_below ct_are_apart_below, f_is_table_row, PySem.W.fnOf "is_table_row" "is_table_row" (defArgs s_is_table_row) (defBody s_is_table_row) (defScope s_is_table_row) .none kV_is_table_row dc_is_table_row pm_is_table_row an_is_table_row cd_is_table_row ct_is_table_row, f_is_table, PySem.W.fnOf "is_table" "is_table" (defArgs s_is_table) (defBody s_is_table) (defScope s_is_table) .none kV_is_table dc_is_table pm_is_table an_is_table cd_is_table ct_is_table, f_check_table, PySem.W.fnOf "check_table" "check_table" (defArgs s_check_table) (defBody s_check_table) (defScope s_check_table) .none kV_check_table dc_check_table pm_check_table an_check_table cd_check_table ct_check_table, f_check_beats, PySem.W.fnOf "check_beats" "check_beats" (defArgs s_check_beats) (defBody s_check_beats) (defScope s_check_beats) .none kV_check_beats dc_check_beats pm_check_beats an_check_beats cd_check_beats ct_check_beats, f_are_together, PySem.W.fnOf "are_together" "are_together" (defArgs s_are_together) (defBody s_are_together) (defScope s_are_together) .none kV_are_together dc_are_together pm_are_together an_are_together cd_are_together ct_are_together, f_is_round, PySem.W.fnOf "is_round" "is_round" (defArgs s_is_round) (defBody s_is_round) (defScope s_is_round) .none kV_is_round dc_is_round pm_is_round an_is_round cd_is_round ct_is_round, f_law_hand, PySem.W.fnOf "_law_hand" "_law_hand" (defArgs s_law_hand) (defBody s_law_hand) (defScope s_law_hand) .none kV_law_hand dc_law_hand pm_law_hand an_law_hand cd_law_hand ct_law_hand, f_law_draw, PySem.W.fnOf "_law_draw" "_law_draw" (defArgs s_law_draw) (defBody s_law_draw) (defScope s_law_draw) .none kV_law_draw dc_law_draw pm_law_draw an_law_draw cd_law_draw ct_law_draw, f_law_pick, PySem.W.fnOf "_law_pick" "_law_pick" (defArgs s_law_pick) (defBody s_law_pick) (defScope s_law_pick) .none kV_law_pick dc_law_pick pm_law_pick an_law_pick cd_law_pick ct_law_pick, f_law_is_int, PySem.W.fnOf "_law_is_int" "_law_is_int" (defArgs s_law_is_int) (defBody s_law_is_int) (defScope s_law_is_int) .none kV_law_is_int dc_law_is_int pm_law_is_int an_law_is_int cd_law_is_int ct_law_is_int, f_law_is_pairing, PySem.W.fnOf "_law_is_pairing" "_law_is_pairing" (defArgs s_law_is_pairing) (defBody s_law_is_pairing) (defScope s_law_is_pairing) .none kV_law_is_pairing dc_law_is_pairing pm_law_is_pairing an_law_is_pairing cd_law_is_pairing ct_law_is_pairing, f_law_counted, PySem.W.fnOf "_law_counted" "_law_counted" (defArgs s_law_counted) (defBody s_law_counted) (defScope s_law_counted) .none kV_law_counted dc_law_counted pm_law_counted an_law_counted cd_law_counted ct_law_counted, f_law_is_round, PySem.W.fnOf "_law_is_round" "_law_is_round" (defArgs s_law_is_round) (defBody s_law_is_round) (defScope s_law_is_round) .none kV_law_is_round dc_law_is_round pm_law_is_round an_law_is_round cd_law_is_round ct_law_is_round, f_law_deep, PySem.W.fnOf "_law_deep" "_law_deep" (defArgs s_law_deep) (defBody s_law_deep) (defScope s_law_deep) .none kV_law_deep dc_law_deep pm_law_deep an_law_deep cd_law_deep ct_law_deep, f_law_pairing, PySem.W.fnOf "_law_pairing" "_law_pairing" (defArgs s_law_pairing) (defBody s_law_pairing) (defScope s_law_pairing) .none kV_law_pairing dc_law_pairing pm_law_pairing an_law_pairing cd_law_pairing ct_law_pairing, f_law_bent_beat, PySem.W.fnOf "_law_bent_beat" "_law_bent_beat" (defArgs s_law_bent_beat) (defBody s_law_bent_beat) (defScope s_law_bent_beat) .none kV_law_bent_beat dc_law_bent_beat pm_law_bent_beat an_law_bent_beat cd_law_bent_beat ct_law_bent_beat, f_law_bent, PySem.W.fnOf "_law_bent" "_law_bent" (defArgs s_law_bent) (defBody s_law_bent) (defScope s_law_bent) .none kV_law_bent dc_law_bent pm_law_bent an_law_bent cd_law_bent ct_law_bent, f_law, PySem.W.fnOf "law" "law" (defArgs s_law) (defBody s_law) (defScope s_law) .none kV_law dc_law pm_law an_law cd_law ct_law⟩, ?_, rfl, rfl⟩
  exact ⟨F_is_integer,
    PySem.W.mg_of X G a_is_integer,
    F_is_integer.binds (fun _ _ _ _ _ _ us hl => match us, hl with | [_], _ => rfl),
    F_is_integer_from,
    PySem.W.mg_of X G a_is_integer_from,
    F_is_integer_from.binds (fun _ _ _ _ _ _ us hl => match us, hl with | [_, _, _], _ => rfl),
    F_is_number_below,
    PySem.W.mg_of X G a_is_number_below,
    F_is_number_below.binds (fun _ _ _ _ _ _ us hl => match us, hl with | [_, _], _ => rfl),
    F_is_tuple_of,
    PySem.W.mg_of X G a_is_tuple_of,
    F_is_tuple_of.binds (fun _ _ _ _ _ _ us hl => match us, hl with | [_, _], _ => rfl),
    F_is_pair_below,
    PySem.W.mg_of X G a_is_pair_below,
    F_is_pair_below.binds (fun _ _ _ _ _ _ us hl => match us, hl with | [_, _], _ => rfl),
    F_all_unlike,
    PySem.W.mg_of X G a_all_unlike,
    F_all_unlike.binds (fun _ _ _ _ _ _ us hl => match us, hl with | [_], _ => rfl),
    F_are_apart_below,
    PySem.W.mg_of X G a_are_apart_below,
    F_are_apart_below.binds (fun _ _ _ _ _ _ us hl => match us, hl with | [_, _], _ => rfl),
    F_is_table_row,
    PySem.W.mg_of X G a_is_table_row,
    F_is_table_row.binds (fun _ _ _ _ _ _ us hl => match us, hl with | [_, _], _ => rfl),
    F_is_table,
    PySem.W.mg_of X G a_is_table,
    F_is_table.binds (fun _ _ _ _ _ _ us hl => match us, hl with | [_], _ => rfl),
    F_check_table,
    PySem.W.mg_of X G a_check_table,
    F_check_table.binds (fun _ _ _ _ _ _ us hl => match us, hl with | [_], _ => rfl),
    F_check_beats,
    PySem.W.mg_of X G a_check_beats,
    F_check_beats.binds (fun _ _ _ _ _ _ us hl => match us, hl with | [_], _ => rfl),
    F_are_together,
    PySem.W.mg_of X G a_are_together,
    F_are_together.binds (fun _ _ _ _ _ _ us hl => match us, hl with | [_, _], _ => rfl),
    F_is_round,
    PySem.W.mg_of X G a_is_round,
    F_is_round.binds (fun _ _ _ _ _ _ us hl => match us, hl with | [_, _, _], _ => rfl),
    F_law_hand,
    PySem.W.mg_of X G a_law_hand,
    F_law_hand.binds (fun _ _ _ _ _ _ us hl => match us, hl with | [_], _ => rfl),
    F_law_draw,
    PySem.W.mg_of X G a_law_draw,
    F_law_draw.binds (fun _ _ _ _ _ _ us hl => match us, hl with | [_, _], _ => rfl),
    F_law_pick,
    PySem.W.mg_of X G a_law_pick,
    F_law_pick.binds (fun _ _ _ _ _ _ us hl => match us, hl with | [_, _], _ => rfl),
    F_law_is_int,
    PySem.W.mg_of X G a_law_is_int,
    F_law_is_int.binds (fun _ _ _ _ _ _ us hl => match us, hl with | [_, _, _], _ => rfl),
    F_law_is_pairing,
    PySem.W.mg_of X G a_law_is_pairing,
    F_law_is_pairing.binds (fun _ _ _ _ _ _ us hl => match us, hl with | [_, _], _ => rfl),
    F_law_counted,
    PySem.W.mg_of X G a_law_counted,
    F_law_counted.binds (fun _ _ _ _ _ _ us hl => match us, hl with | [_, _], _ => rfl),
    F_law_is_round,
    PySem.W.mg_of X G a_law_is_round,
    F_law_is_round.binds (fun _ _ _ _ _ _ us hl => match us, hl with | [_, _, _], _ => rfl),
    F_law_deep,
    PySem.W.mg_of X G a_law_deep,
    F_law_deep.binds (fun _ _ _ _ _ _ us hl => match us, hl with | [_], _ => rfl),
    F_law_pairing,
    PySem.W.mg_of X G a_law_pairing,
    F_law_pairing.binds (fun _ _ _ _ _ _ us hl => match us, hl with | [_, _], _ => rfl),
    F_law_bent_beat,
    PySem.W.mg_of X G a_law_bent_beat,
    F_law_bent_beat.binds (fun _ _ _ _ _ _ us hl => match us, hl with | [_, _, _], _ => rfl),
    F_law_bent,
    PySem.W.mg_of X G a_law_bent,
    F_law_bent.binds (fun _ _ _ _ _ _ us hl => match us, hl with | [_, _, _], _ => rfl),
    F_law,
    PySem.W.mg_of X G a_law,
    F_law.binds (fun _ _ _ _ _ _ us hl => match us, hl with | [_], _ => rfl),
    ⟨_, PySem.W.mg_of X G k_MOST_LINES⟩,
    ⟨_, PySem.W.mg_of X G k_GREATEST_ENTRY⟩,
    ⟨_, PySem.W.mg_of X G k_MOST_BEATS_OF_A_ROUND⟩,
    PySem.W.mg_none_of X G z_abs,
    PySem.W.mg_none_of X G z_all,
    PySem.W.mg_none_of X G z_any,
    PySem.W.mg_none_of X G z_bool,
    PySem.W.mg_none_of X G z_int,
    PySem.W.mg_none_of X G z_isinstance,
    PySem.W.mg_none_of X G z_len,
    PySem.W.mg_none_of X G z_list,
    PySem.W.mg_none_of X G z_range,
    PySem.W.mg_none_of X G z_set,
    PySem.W.mg_none_of X G z_sorted,
    PySem.W.mg_none_of X G z_tuple,
    PySem.W.mg_none_of X G z_zip⟩

/-! ### heaps -/
theorem dec_int {a b : Int} : decide (V.int a = V.int b) = decide (a = b) := decide_eq_decide.mpr ⟨fun e => V.int.inj e, fun e => by rw [e]⟩
theorem dec_self {a : V} : decide (a = a) = true := decide_eq_true rfl
theorem same_upd {H : Hp} {p : Addr} {o : HO} (h : H p = none) : Same H (upd H p o) := fun b x e => by
  rw [upd_ne (ne_of_none e h)]
  exact e
theorem same_to {H H1 : Hp} {p : Addr} {o : HO} (s : Same H H1) (h : H p = none) : Same H (upd H1 p o) := fun b x e => by
  rw [upd_ne (ne_of_none e h)]
  exact s b x e
/-- as H but at x, new objects apart -/
def Kp (x : Addr) (H H' : Hp) : Prop := ∀ q o, q ≠ x → H q = some o → H' q = some o
theorem Kp.same {x : Addr} {H H1 H2 : Hp} (a : Kp x H H1) (b : Same H1 H2) : Kp x H H2 := fun q o hq h => b _ _ (a q o hq h)
theorem kp_of {H H' : Hp} (a : Same H H') (x : Addr) : Kp x H H' := fun q o _ h => a q o h
theorem Kp.upd {x : Addr} {H H1 : Hp} {o : HO} (a : Kp x H H1) : Kp x H (upd H1 x o) := fun q u hq h => by
  rw [upd_ne hq]
  exact a q u hq h
theorem Kp.trans {h : Addr} {H H1 H2 : Hp} (a : Kp h H H1) (b : Kp h H1 H2) : Kp h H H2 := fun q o hq e => b q o hq (a q o hq e)
theorem Kp.free {h p : Addr} {H H' : Hp} (a : Kp h H H') (hp : p ≠ h) (e : H' p = none) : H p = none := by
  cases q : H p with
  | none => rfl
  | some o =>
    rw [a p o hp q] at e
    cases e
theorem small1000 {n : Nat} (h : n < 1000) : n < sizeLine := Nat.lt_trans h (by decide)
theorem ne_of {H : Hp} {p q : Addr} {o u : HO} (hp : H p = some o) (hq : H q = some u) (h : o ≠ u) : p ≠ q := fun e => by
  rw [e, hq] at hp
  exact h (Option.some.inj hp).symm
def NT (o : HO) : Prop := ∀ ps, o ≠ .tbl ps
/-- as H but at h, tables apart -/
def Mv (h : Addr) (H H' : Hp) : Prop := ∀ q o, q ≠ h → H q = some o → NT o → H' q = some o
theorem Mv.of {h : Addr} {H H' : Hp} (k : Kp h H H') : Mv h H H' := fun q o hq e _ => k q o hq e
theorem Mv.same {h : Addr} {H H' : Hp} (k : Same H H') : Mv h H H' := fun q o _ e _ => k q o e
theorem Mv.ext {h : Addr} {H H' : Hp} (k : LamX.ExtN H H') : Mv h H H' := fun q o _ e n => k q o e n
theorem Mv.trans {h : Addr} {H H1 H2 : Hp} (a : Mv h H H1) (b : Mv h H1 H2) : Mv h H H2 := fun q o hq e n => b q o hq (a q o hq e n) n
theorem nt_lst {xs : List V} : NT (.lst xs) := fun _ z => by cases z
theorem nt_tup {xs : List V} : NT (.tup xs) := fun _ z => by cases z
theorem nt_ins {a b : Addr} {fs : List (Str × V)} : NT (.ins a b fs) := fun _ z => by cases z
theorem nt_dK {kvs : List (Key × V)} : NT (.dK kvs) := fun _ z => by cases z
/-! ### things of any sort, told as data -/
inductive Td where
  | int (i : Int) | bl (b : Bool) | non | str (s : Str) | tup (ds : List Td) | oth
mutual
/-- v tells d; what may change (the list at h) is none of it -/
inductive Is (h : Addr) (H : Hp) : V → Td → Prop
  | int (i : Int) : Is h H (.int i) (.int i)
  | bl (b : Bool) : Is h H (.bl b) (.bl b)
  | non : Is h H .non .non
  | str (s : Str) : Is h H (.str s) (.str s)
  | tup {a : Addr} {xs : List V} {ds : List Td} : H a = some (.tup xs) → IsL h H xs ds → Is h H (.ref a) (.tup ds)
  | lst {a : Addr} {xs : List V} : H a = some (.lst xs) → a ≠ h → Is h H (.ref a) .oth
  | dK {a : Addr} {kvs : List (Key × V)} : H a = some (.dK kvs) → Is h H (.ref a) .oth
inductive IsL (h : Addr) (H : Hp) : List V → List Td → Prop
  | nil : IsL h H [] []
  | cons {v : V} {d : Td} {vs : List V} {ds : List Td} : Is h H v d → IsL h H vs ds → IsL h H (v :: vs) (d :: ds)
end
section
variable {h : Addr} {H H' : Hp}
theorem Is.mv {v : V} {d : Td} (t : Is h H v d) (k : Mv h H H') (hh : ∃ ys, H h = some (.lst ys)) : Is h H' v d := by
  obtain ⟨ys, hh⟩ := hh
  refine Is.rec (motive_1 := fun v d _ => Is h H' v d) (motive_2 := fun vs ds _ => IsL h H' vs ds) (fun i => .int i) (fun b => .bl b) .non (fun s => .str s) (fun e _ ih => .tup (k _ _ (ne_of e hh (by intro z; cases z)) e nt_tup) ih)
    (fun e n => .lst (k _ _ n e nt_lst) n) (fun e => .dK (k _ _ (ne_of e hh (by intro z; cases z)) e nt_dK)) .nil (fun _ _ a b => .cons a b) t
theorem IsL.mv {vs : List V} {ds : List Td} (t : IsL h H vs ds) (k : Mv h H H') (hh : ∃ ys, H h = some (.lst ys)) : IsL h H' vs ds := by
  obtain ⟨ys, hh⟩ := hh
  refine IsL.rec (motive_1 := fun v d _ => Is h H' v d) (motive_2 := fun vs ds _ => IsL h H' vs ds) (fun i => .int i) (fun b => .bl b) .non (fun s => .str s) (fun e _ ih => .tup (k _ _ (ne_of e hh (by intro z; cases z)) e nt_tup) ih)
    (fun e n => .lst (k _ _ n e nt_lst) n) (fun e => .dK (k _ _ (ne_of e hh (by intro z; cases z)) e nt_dK)) .nil (fun _ _ a b => .cons a b) t
theorem Is.same {v : V} {d : Td} (t : Is h H v d) (s : Same H H') : Is h H' v d := by
  refine Is.rec (motive_1 := fun v d _ => Is h H' v d) (motive_2 := fun vs ds _ => IsL h H' vs ds) (fun i => .int i) (fun b => .bl b) .non (fun s => .str s) (fun e _ ih => .tup (s _ _ e) ih)
    (fun e n => .lst (s _ _ e) n) (fun e => .dK (s _ _ e)) .nil (fun _ _ a b => .cons a b) t
theorem IsL.same {v : List V} {d : List Td} (t : IsL h H v d) (s : Same H H') : IsL h H' v d := by
  refine IsL.rec (motive_1 := fun v d _ => Is h H' v d) (motive_2 := fun vs ds _ => IsL h H' vs ds) (fun i => .int i) (fun b => .bl b) .non (fun s => .str s) (fun e _ ih => .tup (s _ _ e) ih)
    (fun e n => .lst (s _ _ e) n) (fun e => .dK (s _ _ e)) .nil (fun _ _ a b => .cons a b) t
theorem IsL.len : ∀ {vs : List V} {ds : List Td}, IsL h H vs ds → vs.length = ds.length
  | _, _, .nil => rfl
  | _, _, .cons _ t => by rw [List.length_cons, List.length_cons, t.len]
theorem IsL.get : ∀ {vs : List V} {ds : List Td}, IsL h H vs ds → ∀ {i : Nat} {v : V}, vs[i]? = some v → ∃ d, ds[i]? = some d ∧ Is h H v d
  | _, _, .cons a _, 0, _, e => by
    cases e
    exact ⟨_, rfl, a⟩
  | _, _, .cons _ t, i + 1, _, e => by
    obtain ⟨d, e1, e2⟩ := t.get (i := i) e
    exact ⟨d, e1, e2⟩
theorem IsL.append : ∀ {vs us : List V} {ds es : List Td}, IsL h H vs ds → IsL h H us es → IsL h H (vs ++ us) (ds ++ es)
  | _, _, _, _, .nil, t => t
  | _, _, _, _, .cons a r, t => .cons a (r.append t)
theorem IsL.three {x y z : V} {ds : List Td} (t : IsL h H [x, y, z] ds) : ∃ a b c, ds = [a, b, c] ∧ Is h H x a ∧ Is h H y b ∧ Is h H z c := by
  cases t with
  | cons a t => cases t with
    | cons b t => cases t with
      | cons c t => cases t with
        | nil => exact ⟨_, _, _, rfl, a, b, c⟩
theorem IsL.ints : ∀ {ns : List Int}, IsL h H (ns.map V.int) (ns.map Td.int)
  | [] => .nil
  | n :: ns => .cons (.int n) IsL.ints
end
def isI : Td → Bool
  | .int _ => true
  | _ => false
def isBl : Td → Bool
  | .bl _ => true
  | _ => false
def isT : Td → Bool
  | .tup _ => true
  | _ => false
/-- an integer from lo to hi -/
def inI (lo hi : Int) : Td → Bool
  | .int i => decide (lo ≤ i) && decide (i ≤ hi)
  | _ => false
def tupN (n : Int) : Td → Bool
  | .tup ds => decide ((ds.length : Int) = n)
  | _ => false
section
variable {P : Program} {w : World} {K : PySem.W.Frag} {mg : Str → Option Value} {base : Heap} {A : Adr}
theorem kitQ {a b : String} {r r' : Bool} (h : kitB a b = some r) (e : r' = r) : PySem.W.kitOne K (.type a) (.type b) = some r' := by
  rw [e]
  exact kit_ty h
theorem is_ty (T : Top K mg A) {h : Addr} {H : Hp} {x : V} {d : Td} (t : Is h H x d) : ∃ t, TyX K H x t ∧ PySem.W.kitOne K t (.type "int") = some (isI d || isBl d) ∧ PySem.W.kitOne K t (.type "bool") = some (isBl d) ∧ PySem.W.kitOne K t (.type "tuple") = some (isT d) := by
  cases t with
  | non => exact ⟨_, .base .non, kitQ (a := "NoneType") (b := "int") (r := false) (by decide +kernel) rfl, kitQ (a := "NoneType") (b := "bool") (r := false) (by decide +kernel) rfl, kitQ (a := "NoneType") (b := "tuple") (r := false) (by decide +kernel) rfl⟩
  | bl b => exact ⟨_, .base (.bl b), kitQ (a := "bool") (b := "int") (r := true) (by decide +kernel) rfl, kitQ (a := "bool") (b := "bool") (r := true) (by decide +kernel) rfl, kitQ (a := "bool") (b := "tuple") (r := false) (by decide +kernel) rfl⟩
  | int i => exact ⟨_, .base (.int i), kitQ (a := "int") (b := "int") (r := true) (by decide +kernel) rfl, kitQ (a := "int") (b := "bool") (r := false) (by decide +kernel) rfl, kitQ (a := "int") (b := "tuple") (r := false) (by decide +kernel) rfl⟩
  | str s => exact ⟨_, .base (.str s), kitQ (a := "str") (b := "int") (r := false) (by decide +kernel) rfl, kitQ (a := "str") (b := "bool") (r := false) (by decide +kernel) rfl, kitQ (a := "str") (b := "tuple") (r := false) (by decide +kernel) rfl⟩
  | tup e l => exact ⟨_, .base (.tup e), kitQ (a := "tuple") (b := "int") (r := false) (by decide +kernel) rfl, kitQ (a := "tuple") (b := "bool") (r := false) (by decide +kernel) rfl, kitQ (a := "tuple") (b := "tuple") (r := true) (by decide +kernel) rfl⟩
  | lst e n => exact ⟨_, .base (.lst e), kitQ (a := "list") (b := "int") (r := false) (by decide +kernel) rfl, kitQ (a := "list") (b := "bool") (r := false) (by decide +kernel) rfl, kitQ (a := "list") (b := "tuple") (r := false) (by decide +kernel) rfl⟩
  | dK e => exact ⟨_, .base (.dK e), kitQ (a := "dict") (b := "int") (r := false) (by decide +kernel) rfl, kitQ (a := "dict") (b := "bool") (r := false) (by decide +kernel) rfl, kitQ (a := "dict") (b := "tuple") (r := false) (by decide +kernel) rfl⟩
theorem isT_of {h : Addr} {H : Hp} {x : V} {d : Td} (t : Is h H x d) (c : isT d = true) : ∃ a xs ds, x = .ref a ∧ d = .tup ds ∧ H a = some (.tup xs) ∧ IsL h H xs ds := by
  cases t with
  | tup e l => exact ⟨_, _, _, rfl, rfl, e, l⟩
  | _ => cases c
/-! ### what counts as an integer -/
def spIsInteger : Sp := fun vs H Q _ => ∃ x d h, vs = [x] ∧ Is h H x d ∧ Q (.bl (isI d)) H
theorem ok_is_integer (T : Top K mg A) : FnOk P w K mg base CX0 1 A.a_is_integer A.d_is_integer P_is_integer spIsInteger := by
  refine T.F_is_integer.ok sc_is_integer (fun vs H Q E h => ?_) (fun cdv A' outer s H vs Q E hr h => ?_)
  · obtain ⟨x, d, h, rfl, _⟩ := h
    rfl
  · obtain ⟨x, d, h, rfl, ht, k⟩ := h
    obtain ⟨t, ty, e1, e2, _⟩ := is_ty T ht
    refine ⟨_, (pss_one (ps_ret (pe_and (pe_callB call_isi (by rfl) T.z_isinstance (by decide +kernel) (pa_cons (pv 0) (pa_cons (pe_bltn (v := .ty "int") (by rfl) T.z_int (by decide +kernel) rfl) pa_nil))) (pe_one (pe_not (pe_callB call_isi (by rfl) T.z_isinstance (by decide +kernel) (pa_cons (pv 0) (pa_cons (pe_bltn (v := .ty "bool") (by rfl) T.z_bool (by decide +kernel) rfl) pa_nil)))))))), ?_⟩
    refine ⟨_, rfl, _, _, _, _, _, rfl, .ty "int", ty, e1, (isI d || isBl d), rfl, ?_⟩
    cases c : (isI d || isBl d) with
    | false =>
      refine iteF ?_
      have q : isI d = false := by
        cases d <;> first | rfl | cases c
      rw [q] at k
      exact k
    | true =>
      refine iteT ?_
      refine ⟨_, rfl, _, _, _, _, _, rfl, .ty "bool", ty, e2, _, rfl, ?_⟩
      have q : isI d = !isBl d := by
        cases d <;> first | rfl | cases c
      rw [q] at k
      exact k
theorem is_int {h : Addr} {H : Hp} {x : V} {d : Td} (t : Is h H x d) (c : isI d = true) : ∃ i, x = .int i ∧ d = .int i := by
  cases t with
  | int i => exact ⟨i, rfl, rfl⟩
  | _ => cases c
theorem inI_no {lo hi : Int} {d : Td} (c : isI d = false) : inI lo hi d = false := by
  cases d with
  | int i => cases c
  | _ => rfl
def spIIF : Sp := fun vs H Q _ => ∃ (lo hi : Int) (x : V) (d : Td) (h : Addr), vs = [.int lo, .int hi, x] ∧ Is h H x d ∧ Q (.bl (inI lo hi d)) H
theorem ok_is_integer_from (T : Top K mg A) : FnOk P w K mg base CX0 2 A.a_is_integer_from A.d_is_integer_from P_is_integer_from spIIF := by
  refine T.F_is_integer_from.ok sc_is_integer_from (fun vs H Q E h => ?_) (fun cdv A' outer s H vs Q E hr h => ?_)
  · obtain ⟨lo, hi, x, d, h, rfl, _⟩ := h
    rfl
  · obtain ⟨lo, hi, x, d, h, rfl, ht, k⟩ := h
    refine ⟨_, (pss_one (ps_ret (pe_and (pe_call (ok_is_integer T) (hr.mono (by decide)) (by rfl) T.g_is_integer T.F_is_integer.kp T.b_is_integer .nil pass0 (pa_cons (pv 2) pa_nil)) (pe_one (pe_chain op_le op_le (pv 0) (pv 2) (pv 1)))))), ?_⟩
    refine ⟨_, rfl, x, d, h, rfl, ht, _, rfl, ?_⟩
    cases c : isI d with
    | true =>
      obtain ⟨i, rfl, rfl⟩ := is_int ht c
      refine iteT ?_
      refine ⟨_, rfl, _, rfl, _, _, rfl, rfl, _, rfl, ?_⟩
      by_cases c : lo ≤ i
      · simp only [inI, decide_eq_true c, Bool.true_and] at k
        rw [decide_eq_true c]
        refine iteT ⟨_, rfl, _, _, rfl, rfl, k⟩
      · simp only [inI, decide_eq_false c, Bool.false_and] at k
        rw [decide_eq_false c]
        exact iteF k
    | false =>
      rw [inI_no c] at k
      exact iteF k
def spINB : Sp := fun vs H Q _ => ∃ (n : Int) (x : V) (d : Td) (h : Addr), vs = [.int n, x] ∧ Is h H x d ∧ Q (.bl (inI 0 (n - 1) d)) H
theorem ok_is_number_below (T : Top K mg A) : FnOk P w K mg base CX0 3 A.a_is_number_below A.d_is_number_below P_is_number_below spINB := by
  refine T.F_is_number_below.ok sc_is_number_below (fun vs H Q E h => ?_) (fun cdv A' outer s H vs Q E hr h => ?_)
  · obtain ⟨n, x, d, h, rfl, _⟩ := h
    rfl
  · obtain ⟨n, x, d, h, rfl, ht, k⟩ := h
    refine ⟨_, (pss_one (ps_ret (pe_call (ok_is_integer_from T) (hr.mono (by decide)) (by rfl) T.g_is_integer_from T.F_is_integer_from.kp T.b_is_integer_from .nil pass0 (pa_cons pe_int (pa_cons (pe_op op_sub (pv 0) pe_int) (pa_cons (pv 1) pa_nil)))))), ?_⟩
    exact ⟨_, rfl, _, _, rfl, rfl, _, rfl, _, _, _, _, _, rfl, ht, k⟩
theorem tupN_no {n : Int} {d : Td} (c : isT d = false) : tupN n d = false := by
  cases d with
  | tup i => cases c
  | _ => rfl
def spITO : Sp := fun vs H Q _ => ∃ (n : Int) (x : V) (d : Td) (h : Addr), vs = [.int n, x] ∧ Is h H x d ∧ Q (.bl (tupN n d)) H
theorem ok_is_tuple_of (T : Top K mg A) : FnOk P w K mg base CX0 1 A.a_is_tuple_of A.d_is_tuple_of P_is_tuple_of spITO := by
  refine T.F_is_tuple_of.ok sc_is_tuple_of (fun vs H Q E h => ?_) (fun cdv A' outer s H vs Q E hr h => ?_)
  · obtain ⟨n, x, d, h, rfl, _⟩ := h
    rfl
  · obtain ⟨n, x, d, h, rfl, ht, k⟩ := h
    obtain ⟨t, ty, _, _, e3⟩ := is_ty T ht
    refine ⟨_, (pss_one (ps_ret (pe_and (pe_callB call_isi (by rfl) T.z_isinstance (by decide +kernel) (pa_cons (pv 1) (pa_cons (pe_bltn (v := .ty "tuple") (by rfl) T.z_tuple (by decide +kernel) rfl) pa_nil))) (pe_one (pe_cmpR op_eq (pe_callB call_len_seq (by rfl) T.z_len (by decide +kernel) (pa_cons (pv 1) pa_nil)) (pv 0) (nomark _)))))), ?_⟩
    refine ⟨_, rfl, _, _, _, _, _, rfl, .ty "tuple", ty, e3, _, rfl, ?_⟩
    cases c : isT d with
    | false =>
      rw [tupN_no c] at k
      exact iteF k
    | true =>
      obtain ⟨a, xs, ds, rfl, rfl, ha, hl⟩ := isT_of ht c
      refine iteT ?_
      refine ⟨_, rfl, _, _, rfl, .inr (SqT.of ha), _, rfl, rfl, ?_⟩
      rw [dec_int, hl.len]
      exact k
end

section
variable {P : Program} {w : World} {K : PySem.W.Frag} {mg : Str → Option Value} {base : Heap} {A : Adr}
/-! ### the hand: a list of five, [the script's numbers, place, rest, mix, turns] -/
theorem upd_upd {H : Hp} {a : Addr} {o u : HO} : upd (upd H a o) a u = upd H a u := by
  funext b
  by_cases h : b = a
  · subst h
    rw [upd_same, upd_same]
  · rw [upd_ne h, upd_ne h, upd_ne h]
def handO (g : Addr) (i m s t : Int) : HO := .lst [.ref g, .int i, .int m, .int s, .int t]
/-- the hand stands at h, its numbers at g -/
structure HandAt (H : Hp) (h g : Addr) : Prop where
  cells : ∃ ns : List Int, H g = some (.lst (ns.map V.int))
  five : ∃ i m s t, H h = some (handO g i m s t) ∧ 0 ≤ i ∧ -(2 ^ 64) < s ∧ s < 2 ^ 64
  ne : h ≠ g
/-- as H but at h -/
def But (h : Addr) (H H' : Hp) : Prop := ∀ b, b ≠ h → H' b = H b
theorem But.upd {h : Addr} {H : Hp} {o : HO} : But h H (upd H h o) := fun _ hb => upd_ne hb
theorem But.trans {h : Addr} {H H1 H2 : Hp} (a : But h H H1) (b : But h H1 H2) : But h H H2 := fun c hc => (b c hc).trans (a c hc)
theorem But.refl (h : Addr) (H : Hp) : But h H H := fun _ _ => rfl
theorem hand_upd {H : Hp} {h g : Addr} (a : HandAt H h g) {i m s t : Int} (hi : 0 ≤ i) (hs : -(2 ^ 64) < s) (hs2 : s < 2 ^ 64) : HandAt (upd H h (handO g i m s t)) h g :=
  ⟨by
    obtain ⟨ns, e⟩ := a.cells
    exact ⟨ns, by rw [upd_ne a.ne.symm]; exact e⟩, ⟨i, m, s, t, upd_same, hi, hs, hs2⟩, a.ne⟩
def spDraw : Sp := fun vs H Q _ => ∃ (h g : Addr) (n : Int), vs = [.ref h, .int n] ∧ HandAt H h g ∧ 0 < n ∧ n < 1073741824 ∧ ∀ (H' : Hp) (d : Int), But h H H' → HandAt H' h g → 0 ≤ d → d < n → Q (.int d) H'
theorem ixn5 {g : Addr} {i m s t : Int} {v : V} : ∀ j : Nat, [V.ref g, V.int i, V.int m, V.int s, V.int t][j]? = some v → atI [V.ref g, V.int i, V.int m, V.int s, V.int t] (j : Int) = some v := fun j h => atI_nat h
theorem ok_law_draw (T : Top K mg A) : FnOk P w K mg base CX0 1 A.a_law_draw A.d_law_draw P_law_draw spDraw := by
  refine T.F_law_draw.ok sc_law_draw (fun vs H Q E h => ?_) (fun cdv A outer s H vs Q E hr h => ?_)
  · obtain ⟨h, g, n, rfl, _⟩ := h
    rfl
  · obtain ⟨h, g, n, rfl, ha, hn, hn2, k⟩ := h
    obtain ⟨ns, eg⟩ := ha.cells
    obtain ⟨i, m, sd, t, eh, hi, hs1, hs2⟩ := ha.five
    have hne := ha.ne
    refine ⟨_, (Evl.pss_cut (ps_if (PW.pt (pw_and (pt_cmpR op_eq (pe_ix ix_list (pv 0) pe_int (fun _ _ => rfl)) pe_int (nomark _)) (pw_and1 (pt_cmpR op_lt (pe_ix ix_list (pv 0) pe_int (fun _ _ => rfl)) (pe_callB call_len_seq (by rfl) T.z_len (by decide +kernel) (pa_cons (pe_ix ix_list (pv 0) pe_int (fun _ _ => rfl)) pa_nil)) (nomark _))))) (pss_cons (ps_set (i := 2) sc_law_draw.nd rfl (.inl rfl) (pe_ix ix_list (pe_ix ix_list (pv 0) pe_int (fun _ _ => rfl)) (pe_ix ix_list (pv 0) pe_int (fun _ _ => rfl)) (fun _ _ => rfl)))
    (pss_cons (ps_asg (pe_op op_add (pe_ix ix_list (pv 0) pe_int (fun _ _ => rfl)) pe_int) (pg_sub (pv 0) pe_int set_list))
    (pss_cons (ps_asg (pe_op op_mod (pe_callTy call_int1 (by rfl) T.z_int (by decide +kernel) (pa_cons (pe_op op_add (pe_op op_add (pe_op op_mul (pe_ix ix_list (pv 0) pe_int (fun _ _ => rfl)) pe_int) (pv 2)) pe_int) pa_nil)) pe_int) (pg_sub (pv 0) pe_int set_list))
    (pss_one (ps_if (pt_cmpR op_ge (pv 2) (pe_op op_pow pe_int pe_int) (nomark _)) (pss_one (ps_asg (pv 2) (pg_sub (pv 0) pe_int set_list))) pss_nil))))) pss_nil)
    (pss_cons (ps_if (pt_cmpR op_gt (pe_ix ix_list (pv 0) pe_int (fun _ _ => rfl)) pe_int (nomark _)) (pss_cons (ps_set (i := 3) sc_law_draw.nd rfl (.inl rfl) (pe_op op_mod (pe_callTy call_int1 (by rfl) T.z_int (by decide +kernel) (pa_cons (pe_ix ix_list (pv 0) pe_int (fun _ _ => rfl)) pa_nil)) (pv 1)))
    (pss_cons (ps_asg (pe_op op_fdiv (pe_ix ix_list (pv 0) pe_int (fun _ _ => rfl)) (pv 1)) (pg_sub (pv 0) pe_int set_list))
    (pss_one (ps_ret (pv 3))))) pss_nil)
    (pss_cons (ps_asg (pe_op op_add (pe_ix ix_list (pv 0) pe_int (fun _ _ => rfl)) pe_int) (pg_sub (pv 0) pe_int set_list))
    (pss_cons (ps_set (i := 4) sc_law_draw.nd rfl (.inl rfl) (pe_op op_mod (pe_callTy call_int1 (by rfl) T.z_int (by decide +kernel) (pa_cons (pe_op op_mul (pe_callTy call_int1 (by rfl) T.z_int (by decide +kernel) (pa_cons (pe_op op_add (pe_ix ix_list (pv 0) pe_int (fun _ _ => rfl)) (pe_op op_mul pe_int (pe_ix ix_list (pv 0) pe_int (fun _ _ => rfl)))) pa_nil)) pe_int) pa_nil)) pe_int))
    (pss_cons (ps_set (i := 4) sc_law_draw.nd rfl (.inl rfl) (pe_op op_mod (pe_callTy call_int1 (by rfl) T.z_int (by decide +kernel) (pa_cons (pe_op op_mul (pv 4) (pe_op op_add (pe_op op_fdiv (pv 4) pe_int) pe_int)) pa_nil)) pe_int))
    (pss_cons (ps_set (i := 4) sc_law_draw.nd rfl (.inl rfl) (pe_op op_mod (pe_callTy call_int1 (by rfl) T.z_int (by decide +kernel) (pa_cons (pe_op op_mul (pv 4) (pe_op op_add (pe_op op_fdiv (pv 4) pe_int) pe_int)) pa_nil)) pe_int))
    (pss_one (ps_ret (pe_op op_mod (pe_callTy call_int1 (by rfl) T.z_int (by decide +kernel) (pa_cons (pe_op op_fdiv (pv 4) pe_int) pa_nil)) (pv 1)))))))))), ?_⟩
    refine ⟨fun σ' H' => ∃ y2, σ' = [some (.ref h), some (.int n), y2, none, none] ∧ But h H H' ∧ HandAt H' h g, ?_, ?_⟩
    · -- the first if
      have stay : ∃ y2, (start N_law_draw [V.ref h, V.int n]) = [some (.ref h), some (.int n), y2, none, none] ∧ But h H H ∧ HandAt H h g := ⟨none, rfl, But.refl h H, ha⟩
      refine ⟨_, rfl, h, _, 2, _, rfl, rfl, SqL.of eh, atI_nat (j := 2) rfl, rfl, _, rfl, ite2 (fun c1 => ?_) (fun _ => iteF stay)⟩
      refine ⟨_, rfl, h, _, 1, _, rfl, rfl, SqL.of eh, atI_nat (j := 1) rfl, _, rfl, h, _, 0, _, rfl, rfl, SqL.of eh, atI_nat (j := 0) rfl, g, _, rfl, .inl (SqL.of eg), _, _, rfl, rfl, _, rfl, ite2 (fun c2 => ?_) (fun _ => stay)⟩
      have c3 : i < (ns.length : Int) := by
        have q := of_decide_eq_true c2
        rw [List.length_map] at q
        exact q
      have hj : i.toNat < ns.length := by omega
      have ej : (ns.map V.int)[i.toNat]? = some (.int ns[i.toNat]) := by
        rw [List.getElem?_map, List.getElem?_eq_getElem hj]
        rfl
      -- cell = hand[0][hand[1]]
      refine ⟨_, rfl, h, _, 0, _, rfl, rfl, SqL.of eh, atI_nat (j := 0) rfl, _, rfl, h, _, 1, _, rfl, rfl, SqL.of eh, atI_nat (j := 1) rfl, g, _, i, _, rfl, rfl, SqL.of eg, at_of (by omega) ej, ?_⟩
      -- hand[1] = hand[1] + 1
      refine ⟨_, rfl, h, _, 1, _, rfl, rfl, SqL.of eh, atI_nat (j := 1) rfl, i, 1, rfl, rfl, _, rfl, h, _, _, 1, rfl, rfl, eh, rfl, ?_⟩
      have eh1 : (upd H h (handO g (i + 1) m sd t)) h = some (handO g (i + 1) m sd t) := upd_same
      -- hand[3] = int(hand[3] * 69621 + cell + 11) % 2147483629
      refine ⟨_, rfl, h, _, 3, _, rfl, rfl, SqL.of eh1, atI_nat (j := 3) rfl, _, _, rfl, rfl, .inl ⟨hs1, hs2⟩, _, rfl, _, _, rfl, rfl, _, _, rfl, rfl, .inl ⟨_, rfl, _, _, rfl, rfl, (by show (0 : Int) < 2147483629; decide), _, rfl, h, _, _, 3, rfl, rfl, eh1, rfl, ?_⟩⟩
      have hm0 := Int.emod_nonneg (sd * 69621 + ns[i.toNat] + 11) (show (2147483629 : Int) ≠ 0 by decide)
      have hm1 := Int.emod_lt_of_pos (sd * 69621 + ns[i.toNat] + 11) (show (0 : Int) < 2147483629 by decide)
      obtain ⟨s2, es⟩ : ∃ s2, (sd * 69621 + ns[i.toNat] + 11) % 2147483629 = s2 := ⟨_, rfl⟩
      rw [es] at hm0 hm1
      rw [show ((fun i j => V.int (i % j)) (sd * 69621 + ns[i.toNat] + 11) 2147483629) = V.int s2 from congrArg V.int es]
      have eh2 : (upd (upd H h (handO g (i + 1) m sd t)) h (handO g (i + 1) m s2 t)) h = some (handO g (i + 1) m s2 t) := upd_same
      have h2 : HandAt (upd (upd H h (handO g (i + 1) m sd t)) h (handO g (i + 1) m s2 t)) h g := by
        rw [upd_upd]
        exact hand_upd ha (by omega) (by omega) (by omega)
      have b2 : But h H (upd (upd H h (handO g (i + 1) m sd t)) h (handO g (i + 1) m s2 t)) := But.upd.trans But.upd
      -- if cell >= 10 ** 18: hand[2] = cell
      refine ⟨_, rfl, 10, 18, rfl, rfl, ⟨by decide, by decide, by decide⟩, _, _, rfl, rfl, _, rfl, ite2 (fun _ => ?_) (fun _ => ⟨_, rfl, b2, h2⟩)⟩
      refine ⟨_, rfl, _, rfl, h, _, _, 2, rfl, rfl, eh2, rfl, ?_⟩
      exact ⟨_, rfl, b2.trans But.upd, hand_upd h2 (by omega) (by omega) (by omega)⟩
    · rintro σ' H1 ⟨y2, rfl, b1, h1⟩
      obtain ⟨i, m, sd, t, eh, hi, hs1, hs2⟩ := h1.five
      -- if hand[2] > 0
      refine ⟨_, rfl, h, _, 2, _, rfl, rfl, SqL.of eh, atI_nat (j := 2) rfl, _, _, rfl, rfl, _, rfl, ite2 (fun c => ?_) (fun _ => ?_)⟩
      · refine ⟨_, rfl, h, _, 2, _, rfl, rfl, SqL.of eh, atI_nat (j := 2) rfl, .inl ⟨_, rfl, _, rfl, _, _, rfl, rfl, hn, ?_⟩⟩
        refine ⟨_, rfl, h, _, 2, _, rfl, rfl, SqL.of eh, atI_nat (j := 2) rfl, _, rfl, _, _, rfl, rfl, ⟨hn, hn2⟩, _, rfl, h, _, _, 2, rfl, rfl, eh, rfl, ?_⟩
        exact ⟨_, rfl, k _ _ (b1.trans But.upd) (hand_upd h1 hi hs1 hs2) (Int.emod_nonneg _ (by omega)) (Int.emod_lt_of_pos _ hn)⟩
      · -- hand[4] = hand[4] + 1
        refine ⟨_, rfl, h, _, 4, _, rfl, rfl, SqL.of eh, atI_nat (j := 4) rfl, _, _, rfl, rfl, _, rfl, h, _, _, 4, rfl, rfl, eh, rfl, ?_⟩
        have eh1 : (upd H1 h (handO g i m sd (t + 1))) h = some (handO g i m sd (t + 1)) := upd_same
        have h3 : HandAt (upd H1 h (handO g i m sd (t + 1))) h g := hand_upd h1 hi hs1 hs2
        -- number = int(int(hand[3] + 7919 * hand[4]) * 48271) % 2147483647
        refine ⟨_, rfl, h, _, 3, _, rfl, rfl, SqL.of eh1, atI_nat (j := 3) rfl, _, rfl, h, _, 4, _, rfl, rfl, SqL.of eh1, atI_nat (j := 4) rfl, _, _, rfl, rfl, .inl ⟨by decide, by decide⟩, _, _, rfl, rfl, .inl ⟨_, rfl, _, _, rfl, rfl, .inr ⟨by decide, by decide⟩, .inl ⟨_, rfl, _, _, rfl, rfl, (by show (0 : Int) < 2147483647; decide), ?_⟩⟩⟩
        have hm0 := Int.emod_nonneg ((sd + 7919 * (t + 1)) * 48271) (show (2147483647 : Int) ≠ 0 by decide)
        have hm1 := Int.emod_lt_of_pos ((sd + 7919 * (t + 1)) * 48271) (show (0 : Int) < 2147483647 by decide)
        generalize ((sd + 7919 * (t + 1)) * 48271) % 2147483647 = x1 at hm0 hm1 ⊢
        refine ⟨_, rfl, _, rfl, _, _, rfl, rfl, ⟨by decide, by decide⟩, _, _, rfl, rfl, _, _, rfl, rfl, .inl ⟨by omega, by omega⟩, .inl ⟨_, rfl, _, _, rfl, rfl, (by show (0 : Int) < 2147483647; decide), ?_⟩⟩
        have hn0 := Int.emod_nonneg (x1 * (x1 / 1009 + 69621)) (show (2147483647 : Int) ≠ 0 by decide)
        have hn1 := Int.emod_lt_of_pos (x1 * (x1 / 1009 + 69621)) (show (0 : Int) < 2147483647 by decide)
        generalize (x1 * (x1 / 1009 + 69621)) % 2147483647 = x2 at hn0 hn1 ⊢
        refine ⟨_, rfl, _, rfl, _, _, rfl, rfl, ⟨by decide, by decide⟩, _, _, rfl, rfl, _, _, rfl, rfl, .inl ⟨by omega, by omega⟩, .inl ⟨_, rfl, _, _, rfl, rfl, (by show (0 : Int) < 2147483399; decide), ?_⟩⟩
        refine ⟨_, rfl, _, _, rfl, rfl, ⟨by decide, by decide⟩, .inl ⟨_, rfl, _, rfl, _, _, rfl, rfl, hn, ?_⟩⟩
        exact k _ _ (b1.trans But.upd) h3 (Int.emod_nonneg _ (by omega)) (Int.emod_lt_of_pos _ hn)
end
section
variable {P : Program} {w : World} {K : PySem.W.Frag} {mg : Str → Option Value} {base : Heap} {A : Adr}
theorem cut_mem {xs : List V} {lo hi : Option Int} {v : V} (h : v ∈ cutV xs lo hi) : v ∈ xs := by
  unfold cutV at h
  first
    | exact List.mem_of_mem_drop (List.mem_of_mem_take h)
    | exact List.mem_of_mem_take (List.mem_of_mem_drop h)
theorem take_map_more {xs : List V} {f : V → Int} {i : Nat} {x : V} (h : xs[i]? = some x) : ((xs.take (i + 1)).map f).map V.int = ((xs.take i).map f).map V.int ++ [V.int (f x)] := by
  rw [List.take_add_one, h, List.map_append, List.map_append]
  rfl
theorem len_cut {xs : List V} {lo hi : Option Int} : (cutV xs lo hi).length ≤ xs.length := by
  unfold cutV
  first
    | (rw [List.length_take, List.length_drop]; omega)
    | (rw [List.length_drop, List.length_take]; omega)
def vInt : V → Int
  | .int n => n
  | _ => 0
def spHand (K : PySem.W.Frag) : Sp := fun vs H Q _ => ∃ (a : Addr) (ns : List Int), vs = [.ref a] ∧ SqL K H a (ns.map V.int) ∧ ns.length ≤ 63 ∧ ∀ (H' : Hp) (h g : Addr), Same H H' → H h = none → H g = none → HandAt H' h g → Q (.ref h) H'
theorem ok_law_hand (T : Top K mg A) : FnOk P w K mg base CX0 1 A.a_law_hand A.d_law_hand P_law_hand (spHand K) := by
  refine T.F_law_hand.ok sc_law_hand (fun vs H Q E h => ?_) (fun cdv A outer s H vs Q E hr h => ?_)
  · obtain ⟨a, ns, rfl, _⟩ := h
    rfl
  · obtain ⟨a, ns, rfl, ha, hn, k⟩ := h
    refine ⟨_, (pss_cons (ps_setLc (i := 1) (own := [("_law_cell", 2)]) (by rfl) sc_law_hand.nd rfl rfl (sw_true rfl rfl rfl (by decide +kernel)) (pi_list (pe_slice sl_list (pv 0) po_none (po_some pe_int))) (blkOk_by (own := [("_law_cell", 2)]) (N := N_law_hand) (sc := defScope s_law_hand) (by decide +kernel)) (fun _ _ _ _ _ => (pg_name (i := 2) sc_law_hand.nd rfl (.inl rfl))) (fun _ _ _ _ _ => pts_nil) (fun _ _ _ _ _ => (pe_callB call_abs (by rfl) T.z_abs (by decide +kernel) (pa_cons (pe_callTy call_int1 (by rfl) T.z_int (by decide +kernel) (pa_cons (pv 2) pa_nil)) pa_nil))))
    (pss_one (ps_ret (pe_lst (pa_cons (pv 1) (pa_cons pe_int (pa_cons pe_int (pa_cons (pe_op op_add pe_int (pe_callB call_len_seq (by rfl) T.z_len (by decide +kernel) (pa_cons (pv 1) pa_nil))) (pa_cons pe_int pa_nil))))))))), ?_⟩
    refine ⟨_, rfl, _, rfl, a, _, rfl, ha, fun p np => ?_⟩
    have sp : Same H (upd H p (.lst (cutV (ns.map V.int) none (some 63)))) := same_upd np
    refine ⟨p, rfl, ⟨_, SqL.of upd_same⟩, fun D hD => ?_⟩
    have hpD : p ≠ D := fun e => by
      rw [← e, upd_same] at hD
      cases hD
    have hDn := sp.free hD
    refine lc_list (K := K) (a := p) (xs := cutV (ns.map V.int) none (some 63)) (fun i H' => Same H H' ∧ H' p = some (.lst (cutV (ns.map V.int) none (some 63))) ∧ ∃ zs : List Int, H' D = some (.lst (zs.map V.int)) ∧ zs.length ≤ i)
      ⟨same_to sp hDn, by rw [upd_ne hpD]; exact upd_same, [], upd_same, Nat.le_refl _⟩ (fun i H' _ h => SqL.of h.2.1) ?_ ?_
    · rintro i x H' hi ⟨s1, p1, zs, d1, l1⟩
      obtain ⟨n, _, rfl⟩ := List.mem_map.mp (cut_mem (List.mem_of_getElem? hi))
      have hi2 : i < 63 := by
        have q := (List.getElem?_eq_some_iff.mp hi).1
        have q2 := len_cut (xs := ns.map V.int) (lo := none) (hi := some 63)
        rw [List.length_map] at q2
        omega
      refine ⟨rfl, ?_⟩
      refine ⟨_, rfl, .inl ⟨_, rfl, _, rfl, _, d1, ?_, same_to s1 hDn, ?_, zs ++ [if n < 0 then -n else n], ?_, ?_⟩⟩
      · rw [List.length_map]
        exact small1000 (by omega)
      · rw [upd_ne hpD]
        exact p1
      · rw [upd_same, List.map_append]
        rfl
      · rw [List.length_append, List.length_singleton]
        omega
    · rintro H' ⟨s1, p1, zs, d1, l1⟩
      have lz : zs.length ≤ 63 := by
        have q2 := len_cut (xs := ns.map V.int) (lo := none) (hi := some 63)
        rw [List.length_map] at q2
        omega
      -- return [given, 0, 0, 1 + len(given), 0]
      refine ⟨_, rfl, _, rfl, D, _, rfl, .inl (SqL.of d1), 1, _, rfl, rfl, (by show 5 ≤ sizeLine; decide), fun h hh => ?_⟩
      have hhD : h ≠ D := fun e => by
        rw [e, d1] at hh
        cases hh
      refine k _ h D (same_to s1 (s1.free hh)) (s1.free hh) hDn ⟨⟨zs, by rw [upd_ne hhD.symm]; exact d1⟩, ⟨0, 0, 1 + (zs.length : Int), 0, ?_, Int.le_refl _, by omega, by omega⟩, hhD⟩
      rw [upd_same, List.length_map]
      rfl
def spAny (K : PySem.W.Frag) : Sp := fun vs H Q _ => ∃ (h g l : Addr) (xs : List V), vs = [.ref h, .ref l] ∧ HandAt H h g ∧ SqL K H l xs ∧ (∀ H', But h H H' → SqL K H' l xs) ∧ 0 < xs.length ∧ xs.length ≤ 100000 ∧ ∀ (H' : Hp) (j : Nat) (v : V), But h H H' → HandAt H' h g → xs[j]? = some v → Q v H'
theorem ok_law_pick (T : Top K mg A) : FnOk P w K mg base CX0 2 A.a_law_pick A.d_law_pick P_law_pick (spAny K) := by
  refine T.F_law_pick.ok sc_law_pick (fun vs H Q E h => ?_) (fun cdv A outer s H vs Q E hr h => ?_)
  · obtain ⟨h, g, l, xs, rfl, _⟩ := h
    rfl
  · obtain ⟨h, g, l, xs, rfl, ha, hl, hst, h0, h1, k⟩ := h
    refine ⟨_, (pss_one (ps_ret (pe_ix ix_list (pv 1) (pe_call (ok_law_draw T) (hr.mono (by decide)) (by rfl) T.g_law_draw T.F_law_draw.kp T.b_law_draw .nil pass0 (pa_cons (pv 0) (pa_cons (pe_callB call_len_seq (by rfl) T.z_len (by decide +kernel) (pa_cons (pv 1) pa_nil)) pa_nil))) (fun _ _ => rfl)))), ?_⟩
    refine ⟨_, rfl, _, rfl, _, rfl, l, _, rfl, .inl hl, h, g, _, rfl, ha, by omega, by omega, fun H' d hb hh d0 d1 => ?_⟩
    have hj : d.toNat < xs.length := by omega
    exact ⟨l, xs, d, _, rfl, rfl, hst H' hb, at_of (by omega) (List.getElem?_eq_getElem hj), k H' _ _ hb hh (List.getElem?_eq_getElem hj)⟩
end
theorem But.kp {h : Addr} {H H' : Hp} (b : But h H H') : Kp h H H' := fun q o hq e => (b q hq).trans e
theorem HandAt.same {h g : Addr} {H H' : Hp} (s : Same H H') (a : HandAt H h g) : HandAt H' h g :=
  ⟨by obtain ⟨ns, e⟩ := a.cells; exact ⟨ns, s _ _ e⟩, by obtain ⟨i, m, s', t, e, q⟩ := a.five; exact ⟨i, m, s', t, s _ _ e, q⟩, a.ne⟩
theorem HandAt.some {h g : Addr} {H : Hp} (a : HandAt H h g) : ∃ ys, H h = some (.lst ys) := by
  obtain ⟨i, m, s', t, e, q⟩ := a.five
  exact ⟨_, e⟩
theorem HandAt.ne_none {h g p : Addr} {H : Hp} (a : HandAt H h g) (hp : H p = none) : p ≠ h := by
  obtain ⟨o, e⟩ := a.some
  exact (ne_of_none e hp).symm
theorem cut_lo {xs : List V} {n : Nat} (h : n ≤ xs.length) : cutV xs none (some (n : Int)) = xs.take n := by
  unfold cutV
  rw [HT.sIx_none, HT.sIx_nat, Nat.min_eq_left h]
  rfl
theorem cut_hi {xs : List V} {n : Nat} (h : n ≤ xs.length) : cutV xs (some (n : Int)) none = xs.drop n := by
  unfold cutV
  rw [HT.sIx_none, HT.sIx_nat, Nat.min_eq_left h]
  exact List.take_of_length_le (by rw [List.length_drop]; omega)
theorem Is.kp {h g : Addr} {H H' : Hp} {v : V} {d : Td} (t : Is h H v d) (k : Kp h H H') (a : HandAt H h g) : Is h H' v d := t.mv (.of k) a.some
theorem IsL.kp {h g : Addr} {H H' : Hp} {v : List V} {d : List Td} (t : IsL h H v d) (k : Kp h H H') (a : HandAt H h g) : IsL h H' v d := t.mv (.of k) a.some
/-- a new tuple, a new list, told as data -/
theorem Is.newT {h : Addr} {H : Hp} {p : Addr} {xs : List V} {ds : List Td} (l : IsL h H xs ds) (np : H p = none) : Is h (upd H p (.tup xs)) (.ref p) (.tup ds) := .tup upd_same (l.same (same_upd np))
theorem Is.newL {h g : Addr} {H : Hp} {p : Addr} {xs : List V} (np : H p = none) (a : HandAt H h g) : Is h (upd H p (.lst xs)) (.ref p) .oth := .lst upd_same (a.ne_none np)

/-! ### what many laws want -/
/-- one by one -/
inductive All2 {α β : Type} (R : α → β → Prop) : List α → List β → Prop where
  | nil : All2 R [] []
  | cons {a : α} {b : β} {as : List α} {bs : List β} : R a b → All2 R as bs → All2 R (a :: as) (b :: bs)
section
variable {α β : Type} {R R' : α → β → Prop}
theorem All2.imp (f : ∀ a b, R a b → R' a b) : ∀ {as : List α} {bs : List β}, All2 R as bs → All2 R' as bs
  | _, _, .nil => .nil
  | _, _, .cons h t => .cons (f _ _ h) (t.imp f)
theorem All2.snoc : ∀ {as : List α} {bs : List β} {a : α} {b : β}, All2 R as bs → R a b → All2 R (as ++ [a]) (bs ++ [b])
  | _, _, _, _, .nil, h => .cons h .nil
  | _, _, _, _, .cons h t, h' => .cons h (t.snoc h')
theorem All2.len : ∀ {as : List α} {bs : List β}, All2 R as bs → as.length = bs.length
  | _, _, .nil => rfl
  | _, _, .cons _ t => by rw [List.length_cons, List.length_cons, t.len]
theorem All2.get : ∀ {as : List α} {bs : List β}, All2 R as bs → ∀ {i : Nat} {b : β}, bs[i]? = some b → ∃ a, as[i]? = some a ∧ R a b
  | _, _, .cons h _, 0, _, e => by
    cases e
    exact ⟨_, rfl, h⟩
  | _, _, .cons _ t, i + 1, _, e => t.get (i := i) e
theorem All2.getL : ∀ {as : List α} {bs : List β}, All2 R as bs → ∀ {i : Nat} {a : α}, as[i]? = some a → ∃ b, bs[i]? = some b ∧ R a b
  | _, _, .cons h _, 0, _, e => by
    cases e
    exact ⟨_, rfl, h⟩
  | _, _, .cons _ t, i + 1, _, e => t.getL (i := i) e
theorem All2.take : ∀ {as : List α} {bs : List β}, All2 R as bs → ∀ n : Nat, All2 R (as.take n) (bs.take n)
  | _, _, _, 0 => .nil
  | _, _, .nil, _ + 1 => .nil
  | _, _, .cons h t, n + 1 => .cons h (t.take n)
theorem All2.drop : ∀ {as : List α} {bs : List β}, All2 R as bs → ∀ n : Nat, All2 R (as.drop n) (bs.drop n)
  | _, _, h, 0 => h
  | _, _, .nil, _ + 1 => .nil
  | _, _, .cons _ t, n + 1 => t.drop n
theorem All2.mem : ∀ {as : List α} {bs : List β}, All2 R as bs → ∀ {b : β}, b ∈ bs → ∃ a ∈ as, R a b
  | _, _, .cons h t, b, m => by
    rcases List.mem_cons.mp m with e | m
    · subst e
      exact ⟨_, List.mem_cons_self, h⟩
    · obtain ⟨a, h1, h2⟩ := t.mem m
      exact ⟨a, List.mem_cons_of_mem _ h1, h2⟩
theorem All2.append : ∀ {as : List α} {bs : List β} {as' : List α} {bs' : List β}, All2 R as bs → All2 R as' bs' → All2 R (as ++ as') (bs ++ bs')
  | _, _, _, _, .nil, h => h
  | _, _, _, _, .cons h t, h' => .cons h (t.append h')
end
/-! ### comprehensions whose items are known -/
def LP (H : Hp) (D : Addr) (vals : List V) (i : Nat) (H' : Hp) : Prop := Same H H' ∧ H' D = some (.lst (vals.take i))
theorem LP.start {H : Hp} {D : Addr} {vals : List V} (nD : H D = none) : LP H D vals 0 (upd H D (.lst [])) := ⟨same_upd nD, upd_same⟩
theorem lcPut {H0 H1 H4 : Hp} {D : Addr} {vals : List V} {i : Nat} {y : V} (nD : H0 D = none) (p : LP H0 D vals i H1) (s : Same H1 H4) (hy : vals[i]? = some y) (few : vals.length ≤ 100000) :
    ∃ acc, H4 D = some (.lst acc) ∧ acc.length < sizeLine ∧ LP H0 D vals (i + 1) (upd H4 D (.lst (acc ++ [y]))) := by
  refine ⟨_, s _ _ p.2, ?_, same_to (p.1.trans s) nD, ?_⟩
  · rw [List.length_take]
    exact Nat.lt_of_le_of_lt (Nat.le_trans (Nat.min_le_right _ _) few) (by decide)
  · rw [upd_same, List.take_add_one, hy]
    rfl
theorem map_at {α β : Type} {f : α → β} {l : List α} {i : Nat} {x : α} (h : l[i]? = some x) : (l.map f)[i]? = some (f x) := by
  rw [List.getElem?_map, h]
  rfl
theorem take_all {α : Type} {l : List α} {n : Nat} (h : n = l.length) : l.take n = l := List.take_of_length_le (by omega)
/-- a new object -/
theorem newS {H : Hp} {o : HO} {Q : VK} (k : ∀ (H' : Hp) (p : Addr), H p = none → Same H H' → H' p = some o → Q (.ref p) H') : ∀ p, H p = none → Q (.ref p) (upd H p o) := fun p n => k _ p n (same_upd n) upd_same
theorem lay_all : ∀ {ds : List PyData}, (∀ x ∈ ds, PyData.canLay0 x = true) → PyData.canLayAll0 ds = true
  | [], _ => rfl
  | x :: ds, h => by
    show (PyData.canLay0 x && PyData.canLayAll0 ds) = true
    rw [h x List.mem_cons_self, lay_all fun y hy => h y (List.mem_cons_of_mem _ hy)]
    rfl
theorem dep_all {n : Nat} : ∀ {ds : List PyData}, (∀ x ∈ ds, PyData.depth x ≤ n) → PyData.depthAll ds ≤ n
  | [], _ => Nat.zero_le _
  | x :: ds, h => by
    show max (PyData.depth x) (PyData.depthAll ds) ≤ n
    exact Nat.max_le.mpr ⟨h x List.mem_cons_self, dep_all fun y hy => h y (List.mem_cons_of_mem _ hy)⟩
/-- data that may be laid, of a depth -/
structure Lay (d : PyData) (n : Nat) : Prop where
  lay : d.canLay0 = true
  dep : d.depth ≤ n
theorem Lay.sh {d : PyData} {n : Nat} (h : Lay d n) (hn : n ≤ 64) : SeqAt.shaped d = true := by
  unfold SeqAt.shaped
  rw [h.lay, decide_eq_true (Nat.le_trans h.dep hn)]
  rfl
theorem Lay.int (i : Int) : Lay (.int i) 0 := ⟨rfl, Nat.le_refl _⟩
theorem Lay.tup {ds : List PyData} {n : Nat} (h : ∀ x ∈ ds, Lay x n) : Lay (.tuple ds) (n + 1) := ⟨lay_all fun x hx => (h x hx).lay, Nat.succ_le_succ (dep_all fun x hx => (h x hx).dep)⟩
theorem Lay.lst {ds : List PyData} {n : Nat} (h : ∀ x ∈ ds, Lay x n) : Lay (.list ds) (n + 1) := ⟨lay_all fun x hx => (h x hx).lay, Nat.succ_le_succ (dep_all fun x hx => (h x hx).dep)⟩
theorem Lay.mono {d : PyData} {n m : Nat} (h : Lay d n) (hm : n ≤ m) : Lay d m := ⟨h.lay, Nat.le_trans h.dep hm⟩
theorem dpAll_of {α : Type} {K : PySem.W.Frag} {H : Hp} {R : α → V → Prop} {f : α → PyData} (g : ∀ a v, R a v → Dp K H v (f a)) : ∀ {as : List α} {vs : List V}, All2 R as vs → DpAll K H vs (as.map f)
  | _, _, .nil => .nil
  | _, _, .cons h t => .cons (g _ _ h) (dpAll_of g t)
theorem eqv_int {i j : Int} : PyData.eqv (.int i) (.int j) = decide (i = j) := by
  show (i == j) = decide (i = j)
  by_cases h : i = j <;> simp [h]
theorem eqvAll_map {α : Type} [DecidableEq α] {f : α → PyData} (h : ∀ a b, PyData.eqv (f a) (f b) = decide (a = b)) : ∀ as bs : List α, PyData.eqvAll (as.map f) (bs.map f) = decide (as = bs)
  | [], [] => rfl
  | [], _ :: _ => rfl
  | _ :: _, [] => rfl
  | a :: as, b :: bs => by
    show (PyData.eqv (f a) (f b) && PyData.eqvAll (as.map f) (bs.map f)) = _
    rw [h, eqvAll_map h as bs]
    by_cases h1 : a = b <;> by_cases h2 : as = bs <;> simp [h1, h2]
def intsD (ns : List Int) : List PyData := ns.map PyData.int
theorem eqv_ints (ns ms : List Int) : PyData.eqv (.list (intsD ns)) (.list (intsD ms)) = decide (ns = ms) := eqvAll_map (fun _ _ => eqv_int) ns ms
theorem eqv_intsT (ns ms : List Int) : PyData.eqv (.tuple (intsD ns)) (.tuple (intsD ms)) = decide (ns = ms) := eqvAll_map (fun _ _ => eqv_int) ns ms
theorem dp_ints {K : PySem.W.Frag} {H : Hp} : ∀ {ns : List Int}, DpAll K H (ns.map V.int) (intsD ns)
  | [] => .nil
  | n :: _ => .cons (.int n) dp_ints
theorem lay_intsL (ns : List Int) : Lay (.list (intsD ns)) 1 := Lay.lst fun x hx => by
  obtain ⟨i, _, rfl⟩ := List.mem_map.mp hx
  exact Lay.int i
theorem lay_intsT (ns : List Int) : Lay (.tuple (intsD ns)) 1 := Lay.tup fun x hx => by
  obtain ⟨i, _, rfl⟩ := List.mem_map.mp hx
  exact Lay.int i
def matD (m : List (List Int)) : PyData := .tuple (m.map fun r => .tuple (intsD r))
theorem eqv_mat (a b : List (List Int)) : PyData.eqv (matD a) (matD b) = decide (a = b) := eqvAll_map (f := fun r => .tuple (intsD r)) eqv_intsT a b
theorem lay_mat (a : List (List Int)) : Lay (matD a) 2 := Lay.tup fun x hx => by
  obtain ⟨r, _, rfl⟩ := List.mem_map.mp hx
  exact lay_intsT r
theorem ixN_at {n j : Nat} (h : j < n) : ixN n (j : Int) = some j := by
  unfold ixN
  rw [if_pos (by omega), if_pos (by omega), Int.toNat_natCast]
theorem flat_len {α : Type} {m : Nat} : ∀ {l : List (List α)}, (∀ r ∈ l, r.length ≤ m) → l.flatten.length ≤ l.length * m
  | [], _ => by simp
  | r :: l, h => by
    rw [List.flatten_cons, List.length_append, List.length_cons, Nat.add_mul, Nat.one_mul]
    have h1 := h r List.mem_cons_self
    have h2 := flat_len (l := l) fun x hx => h x (List.mem_cons_of_mem _ hx)
    omega
theorem take_flat {α : Type} {l : List (List α)} {i : Nat} {r : List α} (h : l[i]? = some r) : (l.take (i + 1)).flatten = (l.take i).flatten ++ r := by
  rw [List.take_add_one, h, List.flatten_append]
  congr 1
  show [r].flatten = r
  rw [List.flatten_cons, List.flatten_nil, List.append_nil]
theorem take_flat_le {α : Type} {l : List (List α)} (n : Nat) : ((l.take n).flatten).length ≤ l.flatten.length := by
  conv => rhs; rw [← List.take_append_drop n l, List.flatten_append, List.length_append]
  omega
theorem newH {H : Hp} {p : Addr} {o : HO} (n : H p = none) : ∃ H', upd H p o = H' ∧ Same H H' ∧ H' p = some o := ⟨_, rfl, same_upd n, upd_same⟩
theorem sl_at {H : Hp} {K : PySem.W.Frag} {b : Addr} {us : List V} {lo hi : Option Int} {Q : VK} (e : H b = some (.tup us)) (q : ∀ H' p, Same H H' → H' p = some (.tup (cutV us lo hi)) → Q (.ref p) H') : rSlA K (.ref b) lo hi H Q := by
  refine ⟨b, us, rfl, SqT.of e, fun ⟨z1, z2⟩ => q _ _ (fun _ _ z => z) ?_, fun _ p np => q _ _ (same_upd np) upd_same⟩
  rw [e]
  unfold cutV
  rw [z1, z2, List.drop_zero, Nat.sub_zero, List.take_length]
/-! ### matchings: (line, output, place) -/
theorem cut_one {xs : List V} : cutV xs (some (1 : Int)) none = xs.drop 1 := by
  cases xs with
  | nil => rfl
  | cons y r =>
    show cutV (y :: r) (some ((1 : Nat) : Int)) none = _
    unfold cutV
    rw [HT.sIx_none, HT.sIx_nat, Nat.min_eq_left (by rw [List.length_cons]; omega)]
    exact List.take_of_length_le (by rw [List.length_drop]; exact Nat.le_refl _)
theorem cat_at {H : Hp} {K : PySem.W.Frag} {a b : Addr} {xs ys : List V} {Q : VK} (e1 : H a = some (.tup xs)) (e2 : H b = some (.tup ys)) (l : xs.length + ys.length ≤ 1000) (q : ∀ H' p, Same H H' → H' p = some (.tup (xs ++ ys)) → Q (.ref p) H') : rCatA K (.ref a) (.ref b) H Q := by
  refine ⟨a, b, xs, ys, rfl, rfl, SqT.of e1, SqT.of e2, Nat.le_trans l (by decide), fun z => ?_, fun _ z => ?_, fun _ _ p np => q _ p (same_upd np) upd_same⟩
  · subst z
    exact q H b (fun _ _ e => e) e2
  · subst z
    exact q H a (fun _ _ e => e) (by rw [List.append_nil]; exact e1)
theorem cut_to {xs : List V} {n : Nat} (h : n ≤ xs.length) : cutV xs none (some (n : Int)) = xs.take n := by
  unfold cutV
  rw [HT.sIx_none, HT.sIx_nat, Nat.min_eq_left h]
  rfl
theorem cut_from {xs : List V} {n : Nat} (h : n ≤ xs.length) : cutV xs (some (n : Int)) none = xs.drop n := by
  unfold cutV
  rw [HT.sIx_none, HT.sIx_nat, Nat.min_eq_left h]
  exact List.take_of_length_le (by rw [List.length_drop]; exact Nat.le_refl _)

/-! ### pairs and pairings -/
/-- all its tuples are short -/
inductive Sh (B : Nat) : Td → Prop where
  | int (i : Int) : Sh B (.int i)
  | bl (b : Bool) : Sh B (.bl b)
  | non : Sh B .non
  | str (s : Str) : Sh B (.str s)
  | oth : Sh B .oth
  | tup {ds : List Td} : ds.length ≤ B → (∀ d ∈ ds, Sh B d) → Sh B (.tup ds)
theorem Sh.len {B : Nat} {ds : List Td} (s : Sh B (.tup ds)) : ds.length ≤ B := by
  cases s with
  | tup h _ => exact h
theorem Sh.item {B : Nat} {ds : List Td} {d : Td} (s : Sh B (.tup ds)) (h : d ∈ ds) : Sh B d := by
  cases s with
  | tup _ k => exact k d h
theorem Sh.mono {B B' : Nat} (h : B ≤ B') {d : Td} (s : Sh B d) : Sh B' d := by
  refine Sh.rec (motive := fun d _ => Sh B' d) (fun i => .int i) (fun b => .bl b) .non (fun s => .str s) .oth (fun e _ ih => .tup (Nat.le_trans e h) ih) s
/-! ### pairs and pairings -/
def pairB (n : Int) : Td → Bool
  | .tup [a, b] => inI 0 (n - 1) a && inI 0 (n - 1) b
  | _ => false
def pr1 : Td → Int
  | .tup [.int a, _] => a
  | _ => 0
def pr2 : Td → Int
  | .tup [_, .int b] => b
  | _ => 0
def apB (n : Int) : Td → Bool
  | .tup ds => ds.all (pairB n) && (decide ((ds.map pr1).Pairwise (· < ·)) && decide (ds.map pr2).Nodup)
  | _ => false
theorem apB_no {n : Int} {d : Td} (c : isT d = false) : apB n d = false := by
  cases d with
  | tup i => cases c
  | _ => rfl
theorem pairB_no {n : Int} {d : Td} (c : tupN 2 d = false) : pairB n d = false := by
  cases d with
  | tup ds =>
    match ds, c with
    | [], _ => rfl
    | [_], _ => rfl
    | [_, _], c => cases c
    | _ :: _ :: _ :: _, _ => rfl
  | _ => rfl
theorem two {h : Addr} {H : Hp} {x : V} {d : Td} (t : Is h H x d) (c : tupN 2 d = true) : ∃ a u v du dv, x = .ref a ∧ d = .tup [du, dv] ∧ H a = some (.tup [u, v]) ∧ Is h H u du ∧ Is h H v dv := by
  have ct : isT d = true := by
    cases d with
    | tup ds => rfl
    | _ => cases c
  obtain ⟨a, xs, ds, rfl, rfl, ha, hl⟩ := isT_of t ct
  have e : ds.length = 2 := by
    have q := of_decide_eq_true c
    omega
  match ds, e, hl with
  | [du, dv], _, .cons (v := u) a1 (.cons (v := v) a2 .nil) => exact ⟨a, u, v, du, dv, rfl, rfl, ha, a1, a2⟩
theorem inI_yes {lo hi : Int} {d : Td} (c : inI lo hi d = true) : ∃ i, d = .int i ∧ lo ≤ i ∧ i ≤ hi := by
  cases d with
  | int i =>
    have q : (decide (lo ≤ i) && decide (i ≤ hi)) = true := c
    rw [Bool.and_eq_true, decide_eq_true_iff, decide_eq_true_iff] at q
    exact ⟨i, rfl, q.1, q.2⟩
  | _ => cases c
theorem pairB_yes {n : Int} {d : Td} (c : pairB n d = true) : ∃ a b : Nat, d = .tup [.int (a : Int), .int (b : Int)] ∧ (a : Int) < n ∧ (b : Int) < n := by
  cases d with
  | tup ds =>
    match ds, c with
    | [], c => cases c
    | [_], c => cases c
    | [x, y], c =>
      have c : (inI 0 (n - 1) x && inI 0 (n - 1) y) = true := c
      rw [Bool.and_eq_true] at c
      obtain ⟨i, rfl, i0, i1⟩ := inI_yes c.1
      obtain ⟨j, rfl, j0, j1⟩ := inI_yes c.2
      refine ⟨i.toNat, j.toNat, ?_, by omega, by omega⟩
      rw [Int.toNat_of_nonneg i0, Int.toNat_of_nonneg j0]
    | _ :: _ :: _ :: _, c => cases c
  | _ => cases c
section
variable {P : Program} {w : World} {K : PySem.W.Frag} {mg : Str → Option Value} {base : Heap} {A : Adr}
def spPair : Sp := fun vs H Q _ => ∃ (n : Int) (x : V) (d : Td) (h : Addr), vs = [.int n, x] ∧ Is h H x d ∧ Q (.bl (pairB n d)) H
theorem ok_is_pair_below (T : Top K mg A) : FnOk P w K mg base CX0 4 A.a_is_pair_below A.d_is_pair_below P_is_pair_below spPair := by
  refine T.F_is_pair_below.ok sc_is_pair_below (fun vs H Q E h => ?_) (fun cdv A' outer s H vs Q E hr h => ?_)
  · obtain ⟨n, x, d, h, rfl, _⟩ := h
    rfl
  · obtain ⟨n, x, d, h, rfl, ht, k⟩ := h
    refine ⟨_, (pss_one (ps_ret (pe_and (pe_call (ok_is_tuple_of T) (hr.mono (by decide)) (by rfl) T.g_is_tuple_of T.F_is_tuple_of.kp T.b_is_tuple_of .nil pass0 (pa_cons pe_int (pa_cons (pv 1) pa_nil))) (pe_and (pe_call (ok_is_number_below T) (hr.mono (by decide)) (by rfl) T.g_is_number_below T.F_is_number_below.kp T.b_is_number_below .nil pass0 (pa_cons (pv 0) (pa_cons (pe_ix ix_tup (pv 1) pe_int (fun _ _ => rfl)) pa_nil))) (pe_one (pe_call (ok_is_number_below T) (hr.mono (by decide)) (by rfl) T.g_is_number_below T.F_is_number_below.kp T.b_is_number_below .nil pass0 (pa_cons (pv 0) (pa_cons (pe_ix ix_tup (pv 1) pe_int (fun _ _ => rfl)) pa_nil)))))))), ?_⟩
    refine ⟨_, rfl, 2, x, d, h, rfl, ht, _, rfl, ?_⟩
    cases c : tupN 2 d with
    | false =>
      rw [pairB_no c] at k
      exact iteF k
    | true =>
      obtain ⟨a, u, v, du, dv, rfl, rfl, ha, hu, hv⟩ := two ht c
      have k : Q (.bl (inI 0 (n - 1) du && inI 0 (n - 1) dv)) H := k
      refine iteT ⟨_, rfl, _, rfl, a, _, 0, _, rfl, rfl, SqT.of ha, atI_nat (j := 0) rfl, n, u, du, h, rfl, hu, _, rfl, ?_⟩
      cases c1 : inI 0 (n - 1) du with
      | false =>
        rw [c1] at k
        exact iteF k
      | true =>
        rw [c1] at k
        exact iteT ⟨_, rfl, _, rfl, a, _, 1, _, rfl, rfl, SqT.of ha, atI_nat (j := 1) rfl, n, v, dv, h, rfl, hv, k⟩
def spUnl (K : PySem.W.Frag) : Sp := fun vs H Q _ => ∃ (l : Addr) (ns : List Int), vs = [.ref l] ∧ SqL K H l (ns.map V.int) ∧ ns.length ≤ 4000 ∧ Q (.bl (decide ns.Nodup)) H
theorem ok_all_unlike (T : Top K mg A) : FnOk P w K mg base CX0 1 A.a_all_unlike A.d_all_unlike P_all_unlike (spUnl K) := by
  refine T.F_all_unlike.ok sc_all_unlike (fun vs H Q E h => ?_) (fun cdv A' outer s H vs Q E hr h => ?_)
  · obtain ⟨l, ns, rfl, _⟩ := h
    rfl
  · obtain ⟨l, ns, rfl, hl, few, k⟩ := h
    refine ⟨_, (pss_one (ps_ret (pe_cmpR op_eq (GL.pe_lenSetN (by rfl) T.z_len (by rfl) T.z_set (pv 0)) (pe_callB call_len_seq (by rfl) T.z_len (by decide +kernel) (pa_cons (pv 0) pa_nil)) (nomark _)))), ?_⟩
    refine ⟨_, rfl, l, ns, rfl, hl, few, _, rfl, l, _, rfl, .inl hl, rfl, ?_⟩
    have e : decide (((GL.met ns).length : Int) = ((ns.map V.int).length : Int)) = decide ns.Nodup := by
      rw [List.length_map]
      refine decide_eq_decide.mpr ⟨fun z => (GL.met_len ns).2.mp (by omega), fun z => ?_⟩
      rw [(GL.met_len ns).2.mpr z]
    rw [dec_int, e]
    exact k
theorem lt_le_nd {ns : List Int} : (ns.Pairwise (· ≤ ·) ∧ ns.Nodup) ↔ ns.Pairwise (· < ·) := by
  constructor
  · rintro ⟨a, b⟩
    refine (a.and b).imp fun {x y} h => ?_
    have := h.1
    have := h.2
    omega
  · intro a
    refine ⟨a.imp fun h => by omega, a.imp fun h => by omega⟩
def spApart : Sp := fun vs H Q _ => ∃ (n : Int) (x : V) (d : Td) (h : Addr), vs = [.int n, x] ∧ Is h H x d ∧ Sh 1000 d ∧ ∀ H', Same H H' → Q (.bl (apB n d)) H'
theorem ok_are_apart_below (T : Top K mg A) : FnOk P w K mg base CX0 5 A.a_are_apart_below A.d_are_apart_below P_are_apart_below spApart := by
  refine T.F_are_apart_below.ok sc_are_apart_below (fun vs H Q E h => ?_) (fun cdv A' outer s H vs Q E hr h => ?_)
  · obtain ⟨n, x, d, h, rfl, _⟩ := h
    rfl
  · obtain ⟨n, x, d, h, rfl, ht, hs, k⟩ := h
    obtain ⟨t, ty, _, _, e3⟩ := is_ty T ht
    refine ⟨_, (pss_cons (ps_if (PW.pt (pw_or (pt_not (pt_val (pe_callB call_isi (by rfl) T.z_isinstance (by decide +kernel) (pa_cons (pv 1) (pa_cons (pe_bltn (v := .ty "tuple") (by rfl) T.z_tuple (by decide +kernel) rfl) pa_nil))))) (pw_or1 (pt_not (pt_val (pe_callB (cr_all rfl) (by rfl) T.z_all (by decide +kernel) (pa_cons (pe_lc (own := [("pair", 6)]) (by rfl) sc_are_apart_below.nd (pi_tup (pv 1)) (blkOk_by (own := [("pair", 6)]) (N := N_are_apart_below) (sc := defScope s_are_apart_below) (by decide +kernel)) (fun _ _ _ _ _ => (pg_name (i := 6) sc_are_apart_below.nd rfl (.inl rfl))) (fun _ _ _ _ _ => pts_nil) (fun _ _ _ _ _ => (pe_call (ok_is_pair_below (P := P) (w := w) T) (hr.mono (by decide)) (by rfl) T.g_is_pair_below T.F_is_pair_below.kp T.b_is_pair_below .nil pass0 (pa_cons (pv 0) (pa_cons (pv 6) pa_nil))))) pa_nil))))))) (pss_one (ps_ret pe_bl)) pss_nil)
    (pss_cons (ps_setLc (i := 2) (own := [("line", 3), ("_", 4)]) (by rfl) sc_are_apart_below.nd rfl rfl (sw_true rfl rfl rfl (by decide +kernel)) (pi_tup (pv 1)) (blkOk_by (own := [("line", 3), ("_", 4)]) (N := N_are_apart_below) (sc := defScope s_are_apart_below) (by decide +kernel)) (fun _ _ _ _ _ => (show PG _ _ (gTup K 2 _) from (pg_tup rfl (pgs_cons (pg_name (i := 3) sc_are_apart_below.nd rfl (.inl rfl)) (pgs_cons (pg_name (i := 4) sc_are_apart_below.nd rfl (.inl rfl)) pgs_nil))))) (fun _ _ _ _ _ => pts_nil) (fun _ _ _ _ _ => (pv 3)))
    (pss_one (ps_ret (pe_and (pe_cmpR (op_eqD hr.units) (pv 2) (pe_callB cr_sortedI (by rfl) T.z_sorted (by decide +kernel) (pa_cons (pv 2) pa_nil)) (nomark _)) (pe_and (pe_call (ok_all_unlike T) (hr.mono (by decide)) (by rfl) T.g_all_unlike T.F_all_unlike.kp T.b_all_unlike .nil pass0 (pa_cons (pv 2) pa_nil)) (pe_one (pe_call (ok_all_unlike T) (hr.mono (by decide)) (by rfl) T.g_all_unlike T.F_all_unlike.kp T.b_all_unlike .nil pass0 (pa_cons (pe_lc (own := [("_", 4), ("output", 5)]) (by rfl) sc_are_apart_below.nd (pi_tup (pv 1)) (blkOk_by (own := [("_", 4), ("output", 5)]) (N := N_are_apart_below) (sc := defScope s_are_apart_below) (by decide +kernel)) (fun _ _ _ _ _ => (show PG _ _ (gTup K 2 _) from (pg_tup rfl (pgs_cons (pg_name (i := 4) sc_are_apart_below.nd rfl (.inl rfl)) (pgs_cons (pg_name (i := 5) sc_are_apart_below.nd rfl (.inl rfl)) pgs_nil))))) (fun _ _ _ _ _ => pts_nil) (fun _ _ _ _ _ => (pv 5))) pa_nil))))))))), ?_⟩
    refine ⟨_, rfl, _, _, _, _, _, rfl, .ty "tuple", ty, e3, _, rfl, ?_⟩
    cases c : isT d with
    | false =>
      have q := k H (fun _ _ e => e)
      rw [apB_no c] at q
      exact iteT q
    | true =>
      obtain ⟨a, xs, ds, rfl, rfl, ha, hl⟩ := isT_of ht c
      have hlen := hs.len
      refine iteF ?_
      refine ⟨_, rfl, a, rfl, ⟨_, SqT.of ha⟩, fun D nD => ?_⟩
      refine lc_tup (K := K) (a := a) (xs := xs) (LP H D ((ds.map (pairB n)).map V.bl)) (LP.start nD) (fun i H' _ q => SqT.of (q.1 _ _ ha)) ?_ ?_
      · rintro i x H' hx p
        obtain ⟨d, hd, hxd⟩ := hl.get hx
        refine ⟨rfl, ?_⟩
        refine ⟨_, rfl, _, rfl, n, x, d, h, rfl, hxd.same p.1, ?_⟩
        exact lcPut nD p (fun _ _ e => e) (map_at (map_at hd)) (by rw [List.length_map, List.length_map]; omega)
      · rintro H' ⟨s1, d1⟩
        rw [take_all (by rw [List.length_map, List.length_map]; exact hl.len)] at d1
        refine ⟨D, _, rfl, SqL.of d1, _, rfl, ?_⟩
        have eall : (ds.map (pairB n)).all id = ds.all (pairB n) := by
          rw [List.all_map]
          rfl
        rw [eall]
        cases c1 : ds.all (pairB n) with
        | false =>
          have q := k H' s1
          have e : apB n (.tup ds) = false := by
            show (ds.all (pairB n) && _) = false
            rw [c1]
            rfl
          rw [e] at q
          exact iteT q
        | true =>
          refine iteF ?_
          have e : apB n (.tup ds) = (decide ((ds.map pr1).Pairwise (· < ·)) && decide (ds.map pr2).Nodup) := by
            show (ds.all (pairB n) && _) = _
            rw [c1]
            rfl
          rw [e] at k
          clear e
          have hp : ∀ (i : Nat) (d : Td), ds[i]? = some d → ∃ a b : Nat, d = .tup [.int (a : Int), .int (b : Int)] := fun i d hd => by
            obtain ⟨a, b, e, _⟩ := pairB_yes (List.all_eq_true.mp c1 d (List.mem_of_getElem? hd))
            exact ⟨a, b, e⟩
          have hpx : ∀ (i : Nat) (x : V) (H' : Hp), xs[i]? = some x → Same H H' → ∃ (p : Addr) (d : Td), ds[i]? = some d ∧ x = .ref p ∧ H' p = some (.tup [.int (pr1 d), .int (pr2 d)]) := fun i x H' hx s => by
            obtain ⟨d, hd, hxd⟩ := hl.get hx
            obtain ⟨a, b, rfl⟩ := hp i d hd
            cases hxd with
            | tup e l =>
              cases l with
              | cons l1 l =>
                cases l with
                | cons l2 l =>
                  cases l
                  cases l1
                  cases l2
                  exact ⟨_, _, hd, rfl, s _ _ e⟩
          -- lines
          refine ⟨_, rfl, a, rfl, ⟨_, SqT.of (s1 _ _ ha)⟩, fun D2 nD2 => ?_⟩
          refine lc_tup (K := K) (a := a) (xs := xs) (LP H' D2 ((ds.map pr1).map V.int)) (LP.start nD2) (fun i H' _ q => SqT.of (q.1 _ _ (s1 _ _ ha))) ?_ ?_
          · rintro i x H2 hx p
            obtain ⟨q, d, hd, rfl, e⟩ := hpx i x H2 hx (s1.trans p.1)
            refine ⟨q, _, rfl, SqT.of e, rfl, _, _, rfl, _, _, rfl, rfl, rfl, ?_⟩
            refine ⟨_, rfl, ?_⟩
            exact lcPut nD2 p (fun _ _ e => e) (map_at (map_at hd)) (by rw [List.length_map, List.length_map]; omega)
          · rintro H2 ⟨s2, d2⟩
            rw [take_all (by rw [List.length_map, List.length_map]; exact hl.len)] at d2
            refine ⟨_, rfl, _, rfl, D2, _, rfl, SqL.of d2, fun ns' p perm srt np => ?_⟩
            have s3 := same_upd np (o := .lst (ns'.map V.int))
            have d3 := s3 _ _ d2
            have p3 : (upd H2 p (.lst (ns'.map V.int))) p = some (.lst (ns'.map V.int)) := upd_same
            generalize upd H2 p (.lst (ns'.map V.int)) = H3 at s3 d3 p3 ⊢
            have dl : Dp K H3 (.ref D2) (.list (intsD (ds.map pr1))) := .lst (SqL.of d3) dp_ints
            have dq : Dp K H3 (.ref p) (.list (intsD ns')) := .lst (SqL.of p3) dp_ints
            refine ⟨_, _, dl, dq, (lay_intsL _).sh (by decide), (lay_intsL _).sh (by decide), _, rfl, ?_⟩
            rw [eqv_ints]
            have s03 := (s1.trans s2).trans s3
            have el : (ds.map pr1).length = ds.length := List.length_map _
            by_cases c2 : ds.map pr1 = ns'
            · rw [decide_eq_true c2]
              rw [← c2] at srt
              refine iteT ?_
              refine ⟨_, rfl, D2, _, rfl, SqL.of d3, by omega, _, rfl, ?_⟩
              by_cases c3 : (ds.map pr1).Nodup
              · rw [decide_eq_true c3]
                rw [decide_eq_true (lt_le_nd.mp ⟨srt, c3⟩)] at k
                refine iteT ?_
                refine ⟨_, rfl, a, rfl, ⟨_, SqT.of (s03 _ _ ha)⟩, fun D4 nD4 => ?_⟩
                refine lc_tup (K := K) (a := a) (xs := xs) (LP H3 D4 ((ds.map pr2).map V.int)) (LP.start nD4) (fun i H' _ q => SqT.of (q.1 _ _ (s03 _ _ ha))) ?_ ?_
                · rintro i x H5 hx p
                  obtain ⟨q, d, hd, rfl, e⟩ := hpx i x H5 hx (s03.trans p.1)
                  refine ⟨q, _, rfl, SqT.of e, rfl, _, _, rfl, _, _, rfl, rfl, rfl, ?_⟩
                  refine ⟨_, rfl, ?_⟩
                  exact lcPut nD4 p (fun _ _ e => e) (map_at (map_at hd)) (by rw [List.length_map, List.length_map]; omega)
                · rintro H5 ⟨s5, d5⟩
                  rw [take_all (by rw [List.length_map, List.length_map]; exact hl.len)] at d5
                  exact ⟨D4, _, rfl, SqL.of d5, by rw [List.length_map]; omega, k _ (s03.trans s5)⟩
              · rw [decide_eq_false c3]
                have c4 : ¬ (ds.map pr1).Pairwise (· < ·) := fun z => c3 (lt_le_nd.mpr z).2
                rw [decide_eq_false c4] at k
                exact iteF (k _ s03)
            · rw [decide_eq_false c2]
              have c4 : ¬ (ds.map pr1).Pairwise (· < ·) := fun z => c2 (perm.symm.eq_of_pairwise (fun x y _ _ h1 h2 => Int.le_antisymm h1 h2) (lt_le_nd.mpr z).1 srt)
              rw [decide_eq_false c4] at k
              exact iteF (k _ s03)
end

/-! ### matrices of integers -/
def ent (m : List (List Int)) (i j : Nat) : Int := (m.getD i []).getD j 0
structure Dim (n : Nat) (m : List (List Int)) : Prop where
  len : m.length = n
  row : ∀ r ∈ m, r.length = n
def bump (m : List (List Int)) (l o : Nat) (t : Int) : List (List Int) := m.set l ((m.getD l []).set o (ent m l o + t))
theorem getD_at {α : Type} {d : α} {l : List α} {i : Nat} (h : i < l.length) : l[i]? = some (l.getD i d) := by
  rw [List.getD_eq_getElem?_getD, List.getElem?_eq_getElem h]
  rfl
theorem getD_of {α : Type} {d x : α} {l : List α} {i : Nat} (h : l[i]? = some x) : l.getD i d = x := by
  rw [List.getD_eq_getElem?_getD, h]
  rfl
theorem Dim.at {n : Nat} {m : List (List Int)} (d : Dim n m) {i : Nat} (hi : i < n) : m[i]? = some (m.getD i []) ∧ (m.getD i []).length = n := by
  have h : i < m.length := by rw [d.len]; exact hi
  have e : m[i]? = some (m.getD i []) := getD_at h
  exact ⟨e, d.row _ (List.mem_of_getElem? e)⟩
theorem Dim.ent {n : Nat} {m : List (List Int)} (d : Dim n m) {i j : Nat} (hi : i < n) (hj : j < n) : (m.getD i [])[j]? = some (ent m i j) := getD_at (by rw [(d.at hi).2]; exact hj)
theorem Dim.bump {n : Nat} {m : List (List Int)} (d : Dim n m) {l o : Nat} {t : Int} (hl : l < n) : Dim n (bump m l o t) := by
  refine ⟨by unfold KX.bump; rw [List.length_set]; exact d.len, fun r hr => ?_⟩
  unfold KX.bump at hr
  rcases List.mem_or_eq_of_mem_set hr with h | h
  · exact d.row r h
  · rw [h, List.length_set]
    exact (d.at hl).2
theorem ent_bump {n : Nat} {m : List (List Int)} (d : Dim n m) {l o : Nat} {t : Int} (hl : l < n) (ho : o < n) {i j : Nat} (hi : i < n) (hj : j < n) : ent (bump m l o t) i j = ent m i j + (if i = l ∧ j = o then t else 0) := by
  have hm := d.len
  have lm : l < m.length := by omega
  unfold KX.bump
  by_cases e : i = l
  · subst e
    have e1 : (m.set i ((m.getD i []).set o (ent m i o + t))).getD i [] = (m.getD i []).set o (ent m i o + t) := getD_of (by rw [List.getElem?_set_self lm])
    show ((m.set i ((m.getD i []).set o (ent m i o + t))).getD i []).getD j 0 = _
    rw [e1]
    have hlen := (d.at hi).2
    by_cases e2 : j = o
    · subst e2
      rw [if_pos ⟨rfl, rfl⟩]
      exact getD_of (by rw [List.getElem?_set_self (by omega)])
    · rw [if_neg (fun z => e2 z.2), Int.add_zero]
      exact getD_of (by rw [List.getElem?_set_ne (fun z => e2 z.symm)]; exact d.ent hi hj)
  · rw [if_neg (fun z => e z.1), Int.add_zero]
    show ((m.set l ((m.getD l []).set o (ent m l o + t))).getD i []).getD j 0 = _
    have e1 : (m.set l ((m.getD l []).set o (ent m l o + t))).getD i [] = m.getD i [] := getD_of (by rw [List.getElem?_set_ne (fun z => e z.symm)]; exact (d.at hi).1)
    rw [e1]
    rfl
theorem mat_ext {n : Nat} {a b : List (List Int)} (da : Dim n a) (db : Dim n b) (h : ∀ i j, i < n → j < n → ent a i j = ent b i j) : a = b := by
  refine List.ext_getElem? fun i => ?_
  by_cases hi : i < n
  · rw [(da.at hi).1, (db.at hi).1]
    congr 1
    refine List.ext_getElem? fun j => ?_
    by_cases hj : j < n
    · rw [da.ent hi hj, db.ent hi hj, h i j hi hj]
    · rw [List.getElem?_eq_none (by rw [(da.at hi).2]; omega), List.getElem?_eq_none (by rw [(db.at hi).2]; omega)]
  · rw [List.getElem?_eq_none (by rw [da.len]; omega), List.getElem?_eq_none (by rw [db.len]; omega)]
def bumps (m : List (List Int)) (t : Int) (ps : List (Nat × Nat)) : List (List Int) := ps.foldl (fun m p => bump m p.1 p.2 t) m
def PsOk (n : Nat) (ps : List (Nat × Nat)) : Prop := ∀ p ∈ ps, p.1 < n ∧ p.2 < n
theorem Dim.bumps {n : Nat} {t : Int} : ∀ {ps : List (Nat × Nat)} {m : List (List Int)}, Dim n m → PsOk n ps → Dim n (bumps m t ps)
  | [], _, d, _ => d
  | p :: ps, m, d, h => Dim.bumps (ps := ps) (m := KX.bump m p.1 p.2 t) (d.bump (h p List.mem_cons_self).1) fun q hq => h q (List.mem_cons_of_mem _ hq)
theorem ent_bumps {n : Nat} {t : Int} {i j : Nat} (hi : i < n) (hj : j < n) : ∀ {ps : List (Nat × Nat)} {m : List (List Int)}, Dim n m → PsOk n ps → ent (bumps m t ps) i j = ent m i j + t * (ps.count (i, j) : Nat)
  | [], m, d, _ => by
    show ent m i j = ent m i j + t * ((0 : Nat) : Int)
    simp
  | p :: ps, m, d, h => by
    have hp := h p List.mem_cons_self
    show ent (bumps (bump m p.1 p.2 t) t ps) i j = _
    rw [ent_bumps hi hj (d.bump hp.1) (fun q hq => h q (List.mem_cons_of_mem _ hq)), ent_bump d hp.1 hp.2 hi hj, List.count_cons]
    by_cases e : p = (i, j)
    · subst e
      rw [if_pos ⟨rfl, rfl⟩, if_pos (by simp)]
      rw [Int.natCast_add, Int.mul_add]
      have : t * ((1 : Nat) : Int) = t := by simp
      omega
    · rw [if_neg (fun z => e (by rw [z.1, z.2])), if_neg (by simpa using e)]
      simp
def zeros (n : Nat) : List (List Int) := List.replicate n (List.replicate n 0)
theorem dim_zeros (n : Nat) : Dim n (zeros n) := ⟨List.length_replicate, fun r hr => by rw [List.eq_of_mem_replicate hr, List.length_replicate]⟩
theorem ent_zeros {n i j : Nat} (hi : i < n) (hj : j < n) : ent (zeros n) i j = 0 := by
  have e := (dim_zeros n).ent hi hj
  have e1 : (zeros n).getD i [] = List.replicate n 0 := getD_of (by unfold zeros; rw [List.getElem?_replicate, if_pos hi])
  rw [e1, List.getElem?_replicate, if_pos hj] at e
  exact (Option.some.inj e).symm
/-- all is taken away just if just so much was put in -/
theorem bumps_bal {n : Nat} {m : List (List Int)} {ps : List (Nat × Nat)} (d : Dim n m) (h : PsOk n ps) : (∀ r ∈ bumps m (-1) ps, ∀ x ∈ r, x = 0) ↔ bumps (zeros n) 1 ps = m := by
  have d1 := d.bumps (t := -1) h
  have d2 := (dim_zeros n).bumps (t := 1) h
  constructor
  · intro z
    refine mat_ext d2 d fun i j hi hj => ?_
    have e1 := ent_bumps (t := -1) hi hj d h
    have e2 := ent_bumps (t := 1) hi hj (dim_zeros n) h
    rw [ent_zeros hi hj] at e2
    have e3 := z _ (List.mem_of_getElem? (d1.at hi).1) _ (List.mem_of_getElem? (d1.ent hi hj))
    omega
  · intro z r hr x hx
    obtain ⟨i, hi⟩ := List.getElem?_of_mem hr
    have li := (List.getElem?_eq_some_iff.mp hi).1
    rw [d1.len] at li
    have er := Option.some.inj ((d1.at li).1.symm.trans hi)
    obtain ⟨j, hj⟩ := List.getElem?_of_mem hx
    have lj := (List.getElem?_eq_some_iff.mp hj).1
    rw [d1.row r hr] at lj
    have ex := d1.ent li lj
    rw [er, hj] at ex
    have e1 := ent_bumps (t := -1) li lj d h
    have e2 := ent_bumps (t := 1) li lj (dim_zeros n) h
    rw [ent_zeros li lj, z] at e2
    have ex := Option.some.inj ex
    omega
/-- a matrix on the heap: a list of lists, all new over H0 -/
structure MatAt (H0 H : Hp) (D : Addr) (rs : List Addr) (m : List (List Int)) : Prop where
  top : H D = some (.lst (rs.map V.ref))
  rows : All2 (fun r row => H r = some (.lst (row.map V.int))) rs m
  nd : rs.Nodup
  no : D ∉ rs
  newD : H0 D = none
  new : ∀ r ∈ rs, H0 r = none
  same : Same H0 H
theorem rows_set {H : Hp} {r : Addr} {row : List Int} : ∀ {rs : List Addr} {m : List (List Int)} {l : Nat}, All2 (fun r row => H r = some (.lst (row.map V.int))) rs m → rs.Nodup → rs[l]? = some r → All2 (fun q w => (upd H r (.lst (row.map V.int))) q = some (.lst (w.map V.int))) rs (m.set l row)
  | _, _, _, .nil, _, e => by cases e
  | a :: as, b :: bs, 0, .cons h t, nd, e => by
    cases e
    rw [List.nodup_cons] at nd
    refine .cons upd_same ?_
    have f : ∀ {xs : List Addr} {ys : List (List Int)}, All2 (fun r row => H r = some (.lst (row.map V.int))) xs ys → (∀ x ∈ xs, x ≠ r) → All2 (fun q w => (upd H r (.lst (row.map V.int))) q = some (.lst (w.map V.int))) xs ys := by
      intro xs ys al hx
      induction al with
      | nil => exact .nil
      | cons h1 _ ih => exact .cons (by rw [upd_ne (hx _ List.mem_cons_self)]; exact h1) (ih fun x hm => hx x (List.mem_cons_of_mem _ hm))
    exact f t fun x hm z => nd.1 (by rw [← z]; exact hm)
  | a :: as, b :: bs, l + 1, .cons h t, nd, e => by
    rw [List.nodup_cons] at nd
    have e : as[l]? = some r := e
    have ne : a ≠ r := fun z => nd.1 (by rw [z]; exact List.mem_of_getElem? e)
    exact .cons (by rw [upd_ne ne]; exact h) (rows_set t nd.2 e)
theorem MatAt.put {H0 H : Hp} {D r : Addr} {rs : List Addr} {m : List (List Int)} {l : Nat} {row : List Int} (M : MatAt H0 H D rs m) (e : rs[l]? = some r) : MatAt H0 (upd H r (.lst (row.map V.int))) D rs (m.set l row) := by
  have hr := List.mem_of_getElem? e
  refine ⟨?_, rows_set M.rows M.nd e, M.nd, M.no, M.newD, M.new, fun b o h => ?_⟩
  · rw [upd_ne (fun z => M.no (by rw [z]; exact hr))]
    exact M.top
  · rw [upd_ne (fun z => by rw [z, M.new r hr] at h; cases h)]
    exact M.same b o h
theorem MatAt.row {H0 H : Hp} {D : Addr} {rs : List Addr} {m : List (List Int)} {n l : Nat} (M : MatAt H0 H D rs m) (d : Dim n m) (hl : l < n) : ∃ r, rs[l]? = some r ∧ H r = some (.lst ((m.getD l []).map V.int)) := M.rows.get (d.at hl).1
theorem MatAt.grow {H0 H H' : Hp} {D : Addr} {rs : List Addr} {m : List (List Int)} (M : MatAt H0 H D rs m) (s : Same H H') : MatAt H0 H' D rs m :=
  ⟨s _ _ M.top, M.rows.imp fun _ _ h => s _ _ h, M.nd, M.no, M.newD, M.new, M.same.trans s⟩
theorem set_map {α β : Type} {f : α → β} {l : List α} {i : Nat} {x : α} : (l.map f).set i (f x) = (l.set i x).map f := List.map_set.symm
theorem bumps_app {m : List (List Int)} {t : Int} {a b : List (Nat × Nat)} : bumps m t (a ++ b) = bumps (bumps m t a) t b := List.foldl_append
theorem rows_far {H : Hp} {p : Addr} {o : HO} : ∀ {rs : List Addr} {m : List (List Int)}, All2 (fun r row => H r = some (.lst (row.map V.int))) rs m → p ∉ rs → All2 (fun r row => (upd H p o) r = some (.lst (row.map V.int))) rs m
  | _, _, .nil, _ => .nil
  | r :: rs, _ :: _, .cons h t, n => .cons (by rw [upd_ne (fun z => n (by rw [z]; exact List.mem_cons_self))]; exact h) (rows_far t fun z => n (List.mem_cons_of_mem _ z))
theorem MatAt.start {H : Hp} {D : Addr} (nD : H D = none) : MatAt H (upd H D (.lst [])) D [] [] := ⟨upd_same, .nil, List.nodup_nil, List.not_mem_nil, nD, fun r hr => absurd hr List.not_mem_nil, same_upd nD⟩
theorem MatAt.snoc {H0 H : Hp} {D p : Addr} {rs : List Addr} {m : List (List Int)} {row : List Int} (M : MatAt H0 H D rs m) (np : H p = none) :
    MatAt H0 (upd (upd H p (.lst (row.map V.int))) D (.lst (rs.map V.ref ++ [.ref p]))) D (rs ++ [p]) (m ++ [row]) := by
  have pD : p ≠ D := fun z => by rw [z, M.top] at np; cases np
  have pr : p ∉ rs := fun z => by
    obtain ⟨i, hi⟩ := List.getElem?_of_mem z
    obtain ⟨w, _, e⟩ := M.rows.getL hi
    rw [np] at e
    cases e
  have s := same_upd np (o := .lst (row.map V.int))
  refine ⟨?_, ?_, ?_, ?_, M.newD, ?_, ?_⟩
  · rw [upd_same, List.map_append]
    rfl
  · refine All2.snoc (rows_far (M.rows.imp fun _ _ h => s _ _ h) M.no) ?_
    rw [upd_ne pD, upd_same]
  · rw [List.nodup_append]
    refine ⟨M.nd, by simp, fun a ha b hb => ?_⟩
    rw [List.mem_singleton] at hb
    intro z
    exact pr (by rw [← hb, ← z]; exact ha)
  · intro z
    rcases List.mem_append.mp z with z | z
    · exact M.no z
    · rw [List.mem_singleton] at z
      exact pD z.symm
  · intro r hr
    rcases List.mem_append.mp hr with z | z
    · exact M.new r z
    · rw [List.mem_singleton] at z
      rw [z]
      exact M.same.free np
  · exact same_to (M.same.trans s) M.newD
theorem MatAt.top' {H0 H : Hp} {D : Addr} {rs : List Addr} {m : List (List Int)} {i : Nat} {r : Addr} (M : MatAt H0 H D rs m) (e : rs[i]? = some r) : (rs.map V.ref)[i]? = some (.ref r) := by
  rw [List.getElem?_map, e]
  rfl
/-- a table: a tuple of tuples -/
def TabAt (H : Hp) (a : Addr) (m : List (List Int)) : Prop := ∃ vs, H a = some (.tup vs) ∧ All2 (fun row v => ∃ q, v = .ref q ∧ H q = some (.tup (row.map V.int))) m vs
theorem TabAt.same {H H' : Hp} {a : Addr} {m : List (List Int)} (t : TabAt H a m) (s : Same H H') : TabAt H' a m := by
  obtain ⟨vs, e, al⟩ := t
  refine ⟨vs, s _ _ e, al.imp fun row v ⟨q, e1, e2⟩ => ⟨q, e1, s _ _ e2⟩⟩
theorem TabAt.dp {K : PySem.W.Frag} {H : Hp} {a : Addr} {m : List (List Int)} (t : TabAt H a m) : Dp K H (.ref a) (matD m) := by
  obtain ⟨vs, e, al⟩ := t
  refine .tup (SqT.of e) (dpAll_of (f := fun r => .tuple (intsD r)) (fun row v ⟨q, e1, e2⟩ => ?_) al)
  rw [e1]
  exact .tup (SqT.of e2) dp_ints

def pairsOf : Td → List (Nat × Nat)
  | .tup es => es.map fun e => ((pr1 e).toNat, (pr2 e).toNat)
  | _ => []
theorem apB_yes {n : Int} {d : Td} (c : apB n d = true) : ∃ es, d = .tup es ∧ ∀ e ∈ es, pairB n e = true := by
  cases d with
  | tup es =>
    have c : (es.all (pairB n) && _) = true := c
    rw [Bool.and_eq_true] at c
    exact ⟨es, rfl, fun e he => List.all_eq_true.mp c.1 e he⟩
  | _ => cases c
theorem psOk_beat {n : Nat} {d : Td} (c : apB (n : Int) d = true) : PsOk n (pairsOf d) := by
  obtain ⟨es, rfl, h⟩ := apB_yes c
  intro p hp
  obtain ⟨e, he, rfl⟩ := List.mem_map.mp hp
  obtain ⟨a, b, rfl, ha, hb⟩ := pairB_yes (h e he)
  exact ⟨by show (a : Int).toNat < n; omega, by show (b : Int).toNat < n; omega⟩
theorem psOk_all {n : Nat} {ds : List Td} (c : ∀ d ∈ ds, apB (n : Int) d = true) : PsOk n (ds.flatMap pairsOf) := by
  intro p hp
  obtain ⟨d, hd, h⟩ := List.mem_flatMap.mp hp
  exact psOk_beat (c d hd) p h
theorem PsOk.take {n i : Nat} {ps : List (Nat × Nat)} (h : PsOk n ps) : PsOk n (ps.take i) := fun p hp => h p (List.mem_of_mem_take hp)
theorem PsOk.app {n : Nat} {a b : List (Nat × Nat)} (h1 : PsOk n a) (h2 : PsOk n b) : PsOk n (a ++ b) := fun p hp => (List.mem_append.mp hp).elim (h1 p) (h2 p)
theorem flat_take {α β : Type} {f : α → List β} {l : List α} {i : Nat} {x : α} (h : l[i]? = some x) : (l.take (i + 1)).flatMap f = (l.take i).flatMap f ++ f x := by
  rw [List.take_add_one, h, List.flatMap_append]
  congr 1
  show f x ++ [] = f x
  rw [List.append_nil]
/-- what is told for a beat: a pair of a number of times and a pairing -/
def TmAt (h : Addr) (H : Hp) (d : Td) (v : V) : Prop := ∃ q x, v = .ref q ∧ H q = some (.tup [.int 1, x]) ∧ Is h H x d
theorem TmAt.same {h : Addr} {H H' : Hp} {d : Td} {v : V} (t : TmAt h H d v) (s : Same H H') : TmAt h H' d v := let ⟨q, x, e, e1, e2⟩ := t; ⟨q, x, e, s _ _ e1, e2.same s⟩
def nzV (ns : List Int) : List V := ns.map fun x => V.bl (!decide (x = 0))
def TmB (h : Addr) (H0 H : Hp) (d : Td) (v : V) : Prop := ∃ q x, v = .ref q ∧ H q = some (.tup [.int 1, x]) ∧ Is h H0 x d
theorem TmB.same {h : Addr} {H0 H H' : Hp} {d : Td} {v : V} (t : TmB h H0 H d v) (s : Same H H') : TmB h H0 H' d v := let ⟨q, x, e, e1, e2⟩ := t; ⟨q, x, e, s _ _ e1, e2⟩
theorem TmB.far {h F : Addr} {H0 H : Hp} {d : Td} {v : V} {xs ys : List V} (t : TmB h H0 H d v) (e : H F = some (.lst xs)) : TmB h H0 (upd H F (.lst ys)) d v := let ⟨q, x, e0, e1, e2⟩ := t; ⟨q, x, e0, by rw [upd_ne (fun z => by rw [z, e] at e1; cases e1)]; exact e1, e2⟩
section
variable {P : Program} {w : World} {K : PySem.W.Frag} {mg : Str → Option Value} {base : Heap} {A : Adr}
def spTogether (r : Bool → Bool) : Sp := fun vs H Q _ => ∃ (tb tl h : Addr) (m : List (List Int)) (n : Nat) (us : List V) (ds : List Td), vs = [.ref tb, .ref tl] ∧ TabAt H tb m ∧ Dim n m ∧ n ≤ 12 ∧ H tl = some (.lst us) ∧ All2 (TmAt h H) ds us ∧ (∀ d ∈ ds, apB (n : Int) d = true) ∧
  ∀ H', Same H H' → Q (.bl (decide (bumps (zeros n) 1 (ds.flatMap pairsOf) = m))) H'
theorem ok_are_together (T : Top K mg A) : FnOk P w K mg base CX0 1 A.a_are_together A.d_are_together P_are_together (spTogether id) := by
  refine T.F_are_together.ok sc_are_together (fun vs H Q E h => ?_) (fun cdv A' outer s H vs Q E hr h => ?_)
  · obtain ⟨tb, tl, h, m, n, us, ds, rfl, _⟩ := h
    rfl
  · obtain ⟨tb, tl, h, m, n, us, ds, rfl, ⟨vs, etb, alt⟩, dm, few, etl, alu, good, k⟩ := h
    refine ⟨_, (pss_cons (ps_setLc (i := 2) (own := [("row", 7)]) (by rfl) sc_are_together.nd rfl rfl (sw_true rfl rfl rfl (by decide +kernel)) (pi_tup (pv 0)) (blkOk_by (own := [("row", 7)]) (N := N_are_together) (sc := defScope s_are_together) (by decide +kernel)) (fun _ _ _ _ _ => (pg_name (i := 7) sc_are_together.nd rfl (.inl rfl))) (fun _ _ _ _ _ => pts_nil) (fun _ _ _ _ _ => (pe_callTy (show CallR _ _ (Evl.rListS K) from call_list_of) (by rfl) T.z_list (by decide +kernel) (pa_cons (pv 7) pa_nil))))
    (pss_cons (ps_for PassesOwn.never rfl (pi_list (pv 1)) (pg_tup rfl (pgs_cons (pg_name (i := 3) sc_are_together.nd rfl (.inl rfl)) (pgs_cons (pg_name (i := 4) sc_are_together.nd rfl (.inl rfl)) pgs_nil))) (pss_one (ps_for PassesOwn.never rfl (pi_tup (pv 4)) (pg_tup rfl (pgs_cons (pg_name (i := 5) sc_are_together.nd rfl (.inl rfl)) (pgs_cons (pg_name (i := 6) sc_are_together.nd rfl (.inl rfl)) pgs_nil))) (pss_one (ps_augS (pe_ix ix_list (pv 2) (pv 5) (fun _ _ => rfl)) (pv 6) GC.get_listI (pv 3) ip_sub set_list)))))
    (pss_one (ps_ret (pe_not (pe_callB (cr_any rfl) (by rfl) T.z_any (by decide +kernel) (pa_cons (pe_lc2 (own := [("row", 7), ("number", 8)]) (vs1 := [8]) (by rfl) sc_are_together.nd (pi_list (pv 2)) (blkOk_by (own := [("row", 7), ("number", 8)]) (N := N_are_together) (sc := defScope s_are_together) (by decide +kernel)) (by decide) (fun _ _ _ _ _ => (pg_name (i := 7) sc_are_together.nd rfl (.inl rfl))) (fun _ _ _ _ _ => pts_nil) (fun _ _ _ _ _ => (show PI _ _ _ (iList K _) from pi_list (pv 7))) (fun _ _ _ _ _ => (pg_name (i := 8) sc_are_together.nd rfl (.inl rfl))) (fun _ _ _ _ _ => pts_nil) (fun _ _ _ _ _ => (pe_cmpR op_ne (pv 8) pe_int (nomark _)))) pa_nil))))))), ?_⟩
    refine ⟨_, rfl, tb, rfl, ⟨_, SqT.of etb⟩, fun D nD => ?_⟩
    refine lc_tup (K := K) (a := tb) (xs := vs) (fun i H' => ∃ rs, MatAt H H' D rs (m.take i)) ⟨[], MatAt.start nD⟩ (fun i H' _ ⟨_, M⟩ => SqT.of (M.same _ _ etb)) ?_ ?_
    · rintro i x H1 hx ⟨rs, M⟩
      obtain ⟨row, hrow, q, rfl, eq⟩ := alt.get hx
      refine ⟨rfl, ?_⟩
      refine ⟨_, rfl, q, _, rfl, .inr (SqT.of (M.same _ _ eq)), fun p np => ?_⟩
      refine ⟨_, by rw [upd_ne (fun z => by rw [← z, M.top] at np; cases np)]; exact M.top, ?_, rs ++ [p], ?_⟩
      · rw [List.length_map, M.rows.len, List.length_take, dm.len]
        exact Nat.lt_of_le_of_lt (Nat.le_trans (Nat.min_le_right _ _) few) (by decide)
      · rw [List.take_add_one, hrow]
        exact M.snoc np
    · rintro H1 ⟨rs, M⟩
      rw [← alt.len, List.take_length] at M
      have go : ∀ i j : Nat, ∀ d, ds[i]? = some d → PsOk n ((ds.take i).flatMap pairsOf ++ (pairsOf d).take j) := fun i j d hd =>
        PsOk.app (psOk_all fun e he => good e (List.mem_of_mem_take he)) (PsOk.take (psOk_beat (good d (List.mem_of_getElem? hd))))
      refine ⟨_, rfl, tl, rfl, ⟨_, SqL.of (M.same _ _ etl)⟩, for_list (xs := us) (fun i σ H' => ∃ (y3 y4 y5 y6 : Option V) (rs : List Addr), σ = [some (.ref tb), some (.ref tl), some (.ref D), y3, y4, y5, y6, none, none] ∧ MatAt H H' D rs (bumps m (-1) ((ds.take i).flatMap pairsOf)))
        ⟨_, _, _, _, rs, rfl, M⟩ (fun i σ H' _ ⟨_, _, _, _, _, _, M⟩ => SqL.of (M.same _ _ etl)) ?_ ?_⟩
      · rintro i x σ H2 hx ⟨y3, y4, y5, y6, rs, rfl, M⟩
        obtain ⟨d, hd, q, z, rfl, eq, iz⟩ := alu.get hx
        refine ⟨q, _, rfl, SqT.of (M.same _ _ eq), rfl, _, _, rfl, _, _, rfl, rfl, ?_⟩
        obtain ⟨es, rfl, hes⟩ := apB_yes (good d (List.mem_of_getElem? hd))
        obtain ⟨b, zs, es', rfl, ee, hb, hl⟩ := isT_of iz rfl
        cases ee
        refine ⟨_, rfl, b, rfl, ⟨_, SqT.of (M.same _ _ hb)⟩, for_tup (xs := zs) (fun j σ H' => ∃ (y5 y6 : Option V) (rs : List Addr), σ = [some (.ref tb), some (.ref tl), some (.ref D), some (.int 1), some (.ref b), y5, y6, none, none] ∧ MatAt H H' D rs (bumps m (-1) ((ds.take i).flatMap pairsOf ++ (pairsOf (.tup es)).take j)))
          ⟨y5, y6, rs, rfl, by rw [List.take_zero, List.append_nil]; exact M⟩ (fun i σ H' _ ⟨_, _, _, _, M⟩ => SqT.of (M.same _ _ hb)) ?_ ?_⟩
        · rintro j v σ H3 hv ⟨y5, y6, rs, rfl, M⟩
          obtain ⟨e, he, iv⟩ := hl.get hv
          obtain ⟨l, o, rfl, hl1, ho1⟩ := pairB_yes (hes e (List.mem_of_getElem? he))
          have hl2 : l < n := by omega
          have ho2 : o < n := by omega
          obtain ⟨b2, ws, fs, rfl, ef, hb2, hw⟩ := isT_of iv rfl
          cases ef
          cases hw with
          | cons w1 hw =>
            cases hw with
            | cons w2 hw =>
              cases hw
              cases w1
              cases w2
              have D2 := dm.bumps (t := -1) (go i j _ hd)
              obtain ⟨r, hr, er⟩ := M.row D2 hl2
              refine ⟨b2, _, rfl, SqT.of (M.same _ _ hb2), rfl, _, _, rfl, _, _, rfl, rfl, ?_⟩
              refine ⟨_, rfl, _, rfl, D, _, _, _, rfl, rfl, SqL.of M.top, atI_nat (M.top' hr), _, rfl, r, _, _, o, _, rfl, rfl, er, rfl, map_at (D2.ent hl2 ho2), _, rfl, _, _, rfl, rfl, r, _, _, o, rfl, rfl, er, ?_, ?_⟩
              · rw [List.length_map, (D2.at hl2).2]
                exact ixN_at ho2
              · refine ⟨_, _, rs, rfl, ?_⟩
                have et : (pairsOf (.tup es)).take (j + 1) = (pairsOf (.tup es)).take j ++ [(l, o)] := by
                  rw [List.take_add_one]
                  congr 1
                  show (es.map fun e => ((pr1 e).toNat, (pr2 e).toNat))[j]?.toList = _
                  rw [map_at he]
                  rfl
                rw [et, ← List.append_assoc, bumps_app (b := [(l, o)])]
                have q := M.put (row := (List.getD (bumps m (-1) ((ds.take i).flatMap pairsOf ++ (pairsOf (.tup es)).take j)) l []).set o (ent (bumps m (-1) ((ds.take i).flatMap pairsOf ++ (pairsOf (.tup es)).take j)) l o - 1)) hr
                rw [← set_map] at q
                exact q
        · rintro σ H3 ⟨y5, y6, rs, rfl, M⟩
          refine ⟨_, _, _, _, rs, rfl, ?_⟩
          rw [flat_take hd]
          have e : zs.length = (pairsOf (.tup es)).length := by
            rw [hl.len]
            exact (List.length_map _).symm
          rw [take_all e] at M
          exact M
      · rintro σ H2 ⟨y3, y4, y5, y6, rs, rfl, M⟩
        rw [← alu.len, List.take_length] at M
        have pk := psOk_all good
        have D2 := dm.bumps (t := -1) pk
        have bal := bumps_bal dm pk
        generalize bumps m (-1) (ds.flatMap pairsOf) = m2 at M D2 bal
        refine ⟨_, rfl, D, rfl, ⟨_, SqL.of M.top⟩, fun F nF => ?_⟩
        have ml := D2.len
        have fl : m2.flatten.length ≤ 144 := by
          have h1 := flat_len (m := 12) (l := m2) fun r hr => by rw [D2.row r hr]; exact few
          have h2 : m2.length * 12 ≤ 12 * 12 := Nat.mul_le_mul_right _ (by omega)
          omega
        refine GC.lc2_it walk_list (fun i H' => Same H2 H' ∧ H' F = some (.lst (nzV ((m2.take i).flatten)))) ⟨same_upd nF, upd_same⟩ (fun i H' _ p => SqL.of (p.1 _ _ M.top)) ?_ ?_
        · rintro i x H3 H3' hi p ⟨rfl, hx⟩
          rw [List.getElem?_map] at hx
          obtain ⟨r, hr, rfl⟩ := Option.map_eq_some_iff.mp hx
          obtain ⟨row, hrow, er⟩ := M.rows.getL hr
          refine ⟨rfl, ?_⟩
          refine ⟨_, rfl, r, rfl, ⟨_, SqL.of (p.1 _ _ er)⟩, ?_⟩
          refine GC.lc2_in walk_list (fun j H' => Same H2 H' ∧ H' F = some (.lst (nzV ((m2.take i).flatten ++ row.take j)))) (by rw [List.take_zero, List.append_nil]; exact p) (fun j H' _ p => SqL.of (p.1 _ _ er)) ?_ ?_
          · rintro j x H4 H4' hj p4 ⟨rfl, hx⟩
            rw [List.getElem?_map] at hx
            obtain ⟨v, hv, rfl⟩ := Option.map_eq_some_iff.mp hx
            refine ⟨rfl, ?_⟩
            refine ⟨_, rfl, rfl, ?_⟩
            refine ⟨_, p4.2, ?_, same_to p4.1 nF, ?_⟩
            · unfold nzV
              rw [List.length_map, List.length_append, List.length_take]
              have h1 := take_flat_le (l := m2) i
              have h2 := D2.row row (List.mem_of_getElem? hrow)
              have z : sizeLine ≥ 1000000 := by decide
              omega
            · rw [upd_same, List.take_add_one, hv, ← List.append_assoc]
              unfold nzV
              rw [List.map_append (l₂ := (some v).toList), dec_int]
              rfl
          · rintro H4 p4
            have p4 : Same H2 H4 ∧ H4 F = some (.lst (nzV ((m2.take i).flatten ++ row.take (row.map V.int).length))) := p4
            rw [take_all (l := row) (by rw [List.length_map])] at p4
            rw [take_flat hrow]
            exact p4
        · rintro H3 p
          rw [take_all (by rw [List.length_map]; exact M.rows.len)] at p
          have e : nzV m2.flatten = (m2.flatten.map fun x => !decide (x = 0)).map V.bl := by
            unfold nzV
            rw [List.map_map]
            rfl
          rw [e] at p
          refine ⟨F, _, rfl, SqL.of p.2, _, rfl, ?_⟩
          have q := k H3 (M.same.trans p.1)
          have eb : (!(m2.flatten.map fun x => !decide (x = 0)).any id) = decide (bumps (zeros n) 1 (ds.flatMap pairsOf) = m) := by
            rw [Bool.eq_iff_iff, decide_eq_true_iff, ← bal, Bool.not_eq_true', List.any_eq_false]
            constructor
            · intro z r hr x hx
              have := z _ (List.mem_map_of_mem (List.mem_flatten.mpr ⟨r, hr, hx⟩))
              simpa using this
            · intro z b hb
              obtain ⟨x, hx, rfl⟩ := List.mem_map.mp hb
              obtain ⟨r, hr, hxr⟩ := List.mem_flatten.mp hx
              rw [z r hr x hxr]
              decide
          rw [eb]
          exact q
end

structure TabOk (n : Nat) (m : List (List Int)) : Prop where
  dim : Dim n m
  one : 1 ≤ n
  few : n ≤ 12
  ent : ∀ r ∈ m, ∀ x ∈ r, 0 ≤ x ∧ x ≤ 300
def roundB (n : Nat) (m : List (List Int)) (b : Int) : Td → Bool
  | .tup ds => decide ((ds.length : Int) = b) && (ds.all (apB n) && decide (bumps (zeros n) 1 (ds.flatMap pairsOf) = m))
  | _ => false
theorem roundB_no {n : Nat} {m : List (List Int)} {b : Int} {d : Td} (c : tupN b d = false) : roundB n m b d = false := by
  cases d with
  | tup ds =>
    show (decide ((ds.length : Int) = b) && _) = false
    rw [show decide ((ds.length : Int) = b) = false from c]
    rfl
  | _ => rfl
theorem tup_of {h : Addr} {H : Hp} {x : V} {b : Int} {d : Td} (t : Is h H x d) (c : tupN b d = true) : ∃ a xs ds, x = .ref a ∧ d = .tup ds ∧ H a = some (.tup xs) ∧ IsL h H xs ds ∧ (ds.length : Int) = b := by
  have ct : isT d = true := by
    cases d with
    | tup ds => rfl
    | _ => cases c
  obtain ⟨a, xs, ds, rfl, rfl, ha, hl⟩ := isT_of t ct
  exact ⟨a, xs, ds, rfl, rfl, ha, hl, of_decide_eq_true c⟩
theorem all_true {α : Type} {l : List α} : ((l.map fun _ => true).all id) = true := by
  rw [List.all_eq_true]
  intro b hb
  obtain ⟨_, _, rfl⟩ := List.mem_map.mp hb
  rfl
section
variable {P : Program} {w : World} {K : PySem.W.Frag} {mg : Str → Option Value} {base : Heap} {A : Adr}
def spTRow : Sp := fun vs H Q _ => ∃ (q : Addr) (n : Nat) (row : List Int), vs = [.int (n : Int), .ref q] ∧ H q = some (.tup (row.map V.int)) ∧ row.length = n ∧ n ≤ 12 ∧ (∀ x ∈ row, 0 ≤ x ∧ x ≤ 300) ∧ ∀ H', Same H H' → Q (.bl true) H'
theorem ok_is_table_row (T : Top K mg A) : FnOk P w K mg base CX0 3 A.a_is_table_row A.d_is_table_row P_is_table_row spTRow := by
  refine T.F_is_table_row.ok sc_is_table_row (fun vs H Q E h => ?_) (fun cdv A' outer s H vs Q E hr h => ?_)
  · obtain ⟨q, n, row, rfl, _⟩ := h
    rfl
  · obtain ⟨q, n, row, rfl, hq, hn, few, hx, k⟩ := h
    refine ⟨_, (pss_one (ps_ret (pe_and (pe_call (ok_is_tuple_of T) (hr.mono (by decide)) (by rfl) T.g_is_tuple_of T.F_is_tuple_of.kp T.b_is_tuple_of .nil pass0 (pa_cons (pv 0) (pa_cons (pv 1) pa_nil))) (pe_one (pe_callB (cr_all rfl) (by rfl) T.z_all (by decide +kernel) (pa_cons (pe_lc (own := [("number", 2)]) (by rfl) sc_is_table_row.nd (pi_tup (pv 1)) (blkOk_by (own := [("number", 2)]) (N := N_is_table_row) (sc := defScope s_is_table_row) (by decide +kernel)) (fun _ _ _ _ _ => (pg_name (i := 2) sc_is_table_row.nd rfl (.inl rfl))) (fun _ _ _ _ _ => pts_nil) (fun _ _ _ _ _ => (pe_call (ok_is_integer_from (P := P) (w := w) T) (hr.mono (by decide)) (by rfl) T.g_is_integer_from T.F_is_integer_from.kp T.b_is_integer_from .nil pass0 (pa_cons pe_int (pa_cons (pe_glob (v := .int 300) rfl (T.k_GREATEST_ENTRY).choose_spec ⟨_, rfl⟩) (pa_cons (pv 2) pa_nil)))))) pa_nil)))))), ?_⟩
    have iq : Is 0 H (.ref q) (.tup (row.map Td.int)) := .tup hq IsL.ints
    refine ⟨_, rfl, _, rfl, _, _, _, _, rfl, iq, _, rfl, ?_⟩
    rw [show tupN (n : Int) (.tup (row.map Td.int)) = true from decide_eq_true (by rw [List.length_map]; omega)]
    refine iteT ⟨_, rfl, q, rfl, ⟨_, SqT.of hq⟩, fun D nD => ?_⟩
    refine lc_tup (K := K) (a := q) (xs := row.map V.int) (LP H D ((row.map fun _ => true).map V.bl)) (LP.start nD) (fun i H' _ p => SqT.of (p.1 _ _ hq)) ?_ ?_
    · rintro i x H' hi p
      rw [List.getElem?_map] at hi
      obtain ⟨v, hv, rfl⟩ := Option.map_eq_some_iff.mp hi
      obtain ⟨v0, v1⟩ := hx v (List.mem_of_getElem? hv)
      refine ⟨rfl, ?_⟩
      refine ⟨_, rfl, 0, 300, _, _, 0, rfl, .int v, ?_⟩
      rw [show inI 0 300 (.int v) = true from by show (decide _ && decide _) = true; rw [decide_eq_true v0, decide_eq_true v1]; rfl]
      exact lcPut nD p (fun _ _ e => e) (map_at (map_at hv)) (by rw [List.length_map, List.length_map]; omega)
    · rintro H' ⟨s1, d1⟩
      rw [take_all (by rw [List.length_map, List.length_map, List.length_map])] at d1
      refine ⟨D, _, rfl, SqL.of d1, ?_⟩
      rw [all_true]
      exact k H' s1
def spTab (r : V) : Sp := fun vs H Q _ => ∃ (tb : Addr) (n : Nat) (m : List (List Int)), vs = [.ref tb] ∧ TabAt H tb m ∧ TabOk n m ∧ ∀ H', Same H H' → Q r H'
theorem ok_is_table (T : Top K mg A) : FnOk P w K mg base CX0 4 A.a_is_table A.d_is_table P_is_table (spTab (.bl true)) := by
  refine T.F_is_table.ok sc_is_table (fun vs H Q E h => ?_) (fun cdv A' outer s H vs Q E hr h => ?_)
  · obtain ⟨q, n, row, rfl, _⟩ := h
    rfl
  · obtain ⟨tb, n, m, rfl, ⟨us, etb, al⟩, ok, k⟩ := h
    refine ⟨_, (pss_cons (ps_if (PW.pt (pw_or (pt_not (pt_val (pe_callB call_isi (by rfl) T.z_isinstance (by decide +kernel) (pa_cons (pv 0) (pa_cons (pe_bltn (v := .ty "tuple") (by rfl) T.z_tuple (by decide +kernel) rfl) pa_nil))))) (pw_or1 (pt_not (pt_chain op_le op_le pe_int (pe_callB call_len_seq (by rfl) T.z_len (by decide +kernel) (pa_cons (pv 0) pa_nil)) (pe_glob (v := .int 12) rfl (T.k_MOST_LINES).choose_spec ⟨_, rfl⟩)))))) (pss_one (ps_ret pe_bl)) pss_nil)
    (pss_one (ps_ret (pe_callB (cr_all rfl) (by rfl) T.z_all (by decide +kernel) (pa_cons (pe_lc (own := [("row", 1)]) (by rfl) sc_is_table.nd (pi_tup (pv 0)) (blkOk_by (own := [("row", 1)]) (N := N_is_table) (sc := defScope s_is_table) (by decide +kernel)) (fun _ _ _ _ _ => (pg_name (i := 1) sc_is_table.nd rfl (.inl rfl))) (fun _ _ _ _ _ => pts_nil) (fun _ _ _ _ _ => (pe_call (ok_is_table_row (P := P) (w := w) T) (hr.mono (by decide)) (by rfl) T.g_is_table_row T.F_is_table_row.kp T.b_is_table_row .nil pass0 (pa_cons (pe_callB (show CallR _ _ (Evl.rLenS K) from call_len_seq) (by rfl) T.z_len (by decide +kernel) (pa_cons (pv 0) pa_nil)) (pa_cons (pv 1) pa_nil))))) pa_nil))))), ?_⟩
    have lu : us.length = n := by rw [← al.len]; exact ok.dim.len
    have one := ok.one
    have few := ok.few
    refine ⟨_, rfl, _, _, _, _, _, rfl, .ty "tuple", .base (.tup etb), kitQ (a := "tuple") (b := "tuple") (r := true) (by decide +kernel) rfl, _, rfl, iteF ?_⟩
    refine ⟨_, rfl, _, _, rfl, .inr (SqT.of etb), _, _, rfl, rfl, _, rfl, ?_⟩
    rw [decide_eq_true (by omega)]
    refine iteT ⟨_, _, rfl, rfl, _, rfl, ?_⟩
    rw [decide_eq_true (by omega)]
    refine iteF ?_
    refine ⟨_, rfl, tb, rfl, ⟨_, SqT.of etb⟩, fun D nD => ?_⟩
    refine lc_tup (K := K) (a := tb) (xs := us) (LP H D ((m.map fun _ => true).map V.bl)) (LP.start nD) (fun i H' _ p => SqT.of (p.1 _ _ etb)) ?_ ?_
    · rintro i x H' hi p
      obtain ⟨row, hrow, q, rfl, eq⟩ := al.get hi
      have hm := List.mem_of_getElem? hrow
      refine ⟨rfl, ?_⟩
      refine ⟨_, rfl, tb, us, rfl, .inr (SqT.of (p.1 _ _ etb)), _, rfl, q, n, row, ?_, p.1 _ _ eq, ok.dim.row _ hm, few, ok.ent _ hm, fun H2 s2 => ?_⟩
      · rw [lu]
        rfl
      · exact lcPut nD p s2 (map_at (map_at hrow)) (by rw [List.length_map, List.length_map, ok.dim.len]; omega)
    · rintro H' ⟨s1, d1⟩
      rw [take_all (by rw [List.length_map, List.length_map]; exact al.len.symm)] at d1
      refine ⟨D, _, rfl, SqL.of d1, ?_⟩
      rw [all_true]
      exact k H' s1
theorem ok_check_table (T : Top K mg A) : FnOk P w K mg base CX0 5 A.a_check_table A.d_check_table P_check_table (spTab .non) := by
  refine T.F_check_table.ok sc_check_table (fun vs H Q E h => ?_) (fun cdv A' outer s H vs Q E hr h => ?_)
  · obtain ⟨q, n, row, rfl, _⟩ := h
    rfl
  · obtain ⟨tb, n, m, rfl, ht, ok, k⟩ := h
    refine ⟨_, (pss_one (ps_if (pt_not (pt_val (pe_call (ok_is_table T) (hr.mono (by decide)) (by rfl) T.g_is_table T.F_is_table.kp T.b_is_table .nil pass0 (pa_cons (pv 0) pa_nil)))) (pss_one ps_never) pss_nil)), ?_⟩
    exact ⟨_, rfl, tb, n, m, rfl, ht, ok, fun H' s => ⟨_, rfl, iteF (k H' s)⟩⟩
def spBeats : Sp := fun vs H Q _ => ∃ (b : Int), vs = [.int b] ∧ 0 ≤ b ∧ b ≤ 300 ∧ Q .non H
theorem ok_check_beats (T : Top K mg A) : FnOk P w K mg base CX0 3 A.a_check_beats A.d_check_beats P_check_beats spBeats := by
  refine T.F_check_beats.ok sc_check_beats (fun vs H Q E h => ?_) (fun cdv A' outer s H vs Q E hr h => ?_)
  · obtain ⟨b, rfl, _⟩ := h
    rfl
  · obtain ⟨b, rfl, b0, b1, k⟩ := h
    refine ⟨_, (pss_one (ps_if (pt_not (pt_val (pe_call (ok_is_integer_from T) (hr.mono (by decide)) (by rfl) T.g_is_integer_from T.F_is_integer_from.kp T.b_is_integer_from .nil pass0 (pa_cons pe_int (pa_cons (pe_glob (v := .int 300) rfl (T.k_MOST_BEATS_OF_A_ROUND).choose_spec ⟨_, rfl⟩) (pa_cons (pv 0) pa_nil)))))) (pss_one ps_never) pss_nil)), ?_⟩
    refine ⟨_, rfl, 0, 300, _, _, 0, rfl, .int b, _, rfl, ?_⟩
    rw [show inI 0 300 (.int b) = true from by show (decide _ && decide _) = true; rw [decide_eq_true b0, decide_eq_true b1]; rfl]
    exact iteF k
def spRound : Sp := fun vs H Q _ => ∃ (tb h : Addr) (n : Nat) (m : List (List Int)) (b : Int) (x : V) (d : Td), vs = [.ref tb, .int b, x] ∧ TabAt H tb m ∧ TabOk n m ∧ 0 ≤ b ∧ b ≤ 300 ∧ Is h H x d ∧ Sh 1000 d ∧ ∀ H', Same H H' → Q (.bl (roundB n m b d)) H'
theorem ok_is_round (T : Top K mg A) : FnOk P w K mg base CX0 6 A.a_is_round A.d_is_round P_is_round spRound := by
  refine T.F_is_round.ok sc_is_round (fun vs H Q E h => ?_) (fun cdv A' outer s H vs Q E hr h => ?_)
  · obtain ⟨tb, h, n, m, b, x, d, rfl, _⟩ := h
    rfl
  · obtain ⟨tb, h, n, m, b, x, d, rfl, ht, ok, b0, b1, hx, hs, k⟩ := h
    refine ⟨_, (pss_cons (ps_expr (pe_call (ok_check_table T) (hr.mono (by decide)) (by rfl) T.g_check_table T.F_check_table.kp T.b_check_table .nil pass0 (pa_cons (pv 0) pa_nil)))
    (pss_cons (ps_expr (pe_call (ok_check_beats T) (hr.mono (by decide)) (by rfl) T.g_check_beats T.F_check_beats.kp T.b_check_beats .nil pass0 (pa_cons (pv 1) pa_nil)))
    (pss_cons (ps_if (PW.pt (pw_or (pt_not (pt_val (pe_call (ok_is_tuple_of T) (hr.mono (by decide)) (by rfl) T.g_is_tuple_of T.F_is_tuple_of.kp T.b_is_tuple_of .nil pass0 (pa_cons (pv 1) (pa_cons (pv 2) pa_nil))))) (pw_or1 (pt_not (pt_val (pe_callB (cr_all rfl) (by rfl) T.z_all (by decide +kernel) (pa_cons (pe_lc (own := [("matching", 3)]) (by rfl) sc_is_round.nd (pi_tup (pv 2)) (blkOk_by (own := [("matching", 3)]) (N := N_is_round) (sc := defScope s_is_round) (by decide +kernel)) (fun _ _ _ _ _ => (pg_name (i := 3) sc_is_round.nd rfl (.inl rfl))) (fun _ _ _ _ _ => pts_nil) (fun _ _ _ _ _ => (pe_call (ok_are_apart_below (P := P) (w := w) T) (hr.mono (by decide)) (by rfl) T.g_are_apart_below T.F_are_apart_below.kp T.b_are_apart_below .nil pass0 (pa_cons (pe_callB (show CallR _ _ (Evl.rLenS K) from call_len_seq) (by rfl) T.z_len (by decide +kernel) (pa_cons (pv 0) pa_nil)) (pa_cons (pv 3) pa_nil))))) pa_nil))))))) (pss_one (ps_ret pe_bl)) pss_nil)
    (pss_one (ps_ret (pe_call (ok_are_together T) (hr.mono (by decide)) (by rfl) T.g_are_together T.F_are_together.kp T.b_are_together .nil pass0 (pa_cons (pv 0) (pa_cons (pe_lc (own := [("matching", 3)]) (by rfl) sc_is_round.nd (pi_tup (pv 2)) (blkOk_by (own := [("matching", 3)]) (N := N_is_round) (sc := defScope s_is_round) (by decide +kernel)) (fun _ _ _ _ _ => (pg_name (i := 3) sc_is_round.nd rfl (.inl rfl))) (fun _ _ _ _ _ => pts_nil) (fun _ _ _ _ _ => (pe_tup (pa_cons pe_int (pa_cons (pv 3) pa_nil))))) pa_nil)))))))), ?_⟩
    refine ⟨_, rfl, tb, n, m, rfl, ht, ok, fun H1 s1 => ?_⟩
    refine ⟨_, rfl, b, rfl, b0, b1, ?_⟩
    have hx1 := hx.same s1
    refine ⟨_, rfl, _, rfl, b, x, d, h, rfl, hx1, _, rfl, ?_⟩
    cases c : tupN b d with
    | false =>
      have q := k H1 s1
      rw [roundB_no c] at q
      exact iteT q
    | true =>
      refine iteF ?_
      obtain ⟨a, xs, ds, rfl, rfl, ha, hl, eb⟩ := tup_of hx1 c
      have hlen := hs.len
      obtain ⟨us, etb, alt⟩ := ht.same s1
      have lu : us.length = n := by rw [← alt.len]; exact ok.dim.len
      refine ⟨_, rfl, a, rfl, ⟨_, SqT.of ha⟩, fun D nD => ?_⟩
      refine lc_tup (K := K) (a := a) (xs := xs) (LP H1 D ((ds.map (apB n)).map V.bl)) (LP.start nD) (fun i H' _ p => SqT.of (p.1 _ _ ha)) ?_ ?_
      · rintro i x H' hi p
        obtain ⟨e, he, ie⟩ := hl.get hi
        refine ⟨rfl, ?_⟩
        refine ⟨_, rfl, tb, us, rfl, .inr (SqT.of (p.1 _ _ etb)), _, rfl, n, x, e, h, ?_, ie.same p.1, hs.item (List.mem_of_getElem? he), fun H2 s2 => ?_⟩
        · rw [lu]
          rfl
        · exact lcPut nD p s2 (map_at (map_at he)) (by rw [List.length_map, List.length_map]; omega)
      · rintro H2 ⟨s2, d2⟩
        rw [take_all (by rw [List.length_map, List.length_map]; exact hl.len)] at d2
        refine ⟨D, _, rfl, SqL.of d2, _, rfl, ?_⟩
        rw [show (ds.map (apB n)).all id = ds.all (apB n) by rw [List.all_map]; rfl]
        have e : roundB n m b (.tup ds) = (ds.all (apB n) && decide (bumps (zeros n) 1 (ds.flatMap pairsOf) = m)) := by
          show (decide ((ds.length : Int) = b) && _) = _
          rw [decide_eq_true eb]
          rfl
        rw [e] at k
        cases c1 : ds.all (apB n) with
        | false =>
          rw [c1] at k
          exact iteT (k _ (s1.trans s2))
        | true =>
          rw [c1, Bool.true_and] at k
          refine iteF ?_
          refine ⟨_, rfl, _, rfl, a, rfl, ⟨_, SqT.of (s2 _ _ ha)⟩, fun F nF => ?_⟩
          refine lc_tup (K := K) (a := a) (xs := xs) (fun i H' => ∃ us, Same H2 H' ∧ H' F = some (.lst us) ∧ All2 (TmB h H2 H') (ds.take i) us) ⟨[], same_upd nF, upd_same, .nil⟩ (fun i H' _ ⟨_, s3, _⟩ => SqT.of (s3 _ _ (s2 _ _ ha))) ?_ ?_
          · rintro i x H' hi ⟨ws, s3, e3, al3⟩
            obtain ⟨e, he, ie⟩ := hl.get hi
            refine ⟨rfl, ?_⟩
            refine ⟨_, rfl, (by show 2 ≤ sizeLine; decide), fun p np => ?_⟩
            obtain ⟨H4, eH, s4, e4⟩ := newH np (o := .tup [.int 1, x])
            rw [eH]
            have hw := al3.len
            rw [List.length_take] at hw
            refine ⟨ws, s4 _ _ e3, by have z : sizeLine ≥ 1000000 := by decide
                                      omega, ws ++ [.ref p], same_to (s3.trans s4) nF, upd_same, ?_⟩
            rw [List.take_add_one, he]
            exact ((al3.imp fun _ _ t => t.same s4).snoc ⟨p, x, rfl, e4, ie.same s2⟩).imp fun _ _ t => t.far (s4 _ _ e3)
          · rintro H3 ⟨ws, s3, e3, al3⟩
            rw [take_all hl.len] at al3
            exact ⟨tb, F, h, m, n, ws, ds, rfl, (ht.same s1).same (s2.trans s3), ok.dim, ok.few, e3, al3.imp fun d v ⟨q, x, e1, e2, e3⟩ => ⟨q, x, e1, e2, e3.same s3⟩, fun d hd => List.all_eq_true.mp c1 d hd, fun H4 s4 => k _ ((s1.trans (s2.trans s3)).trans s4)⟩
end

theorem zip_chain : ∀ ns : List Int, ((List.zipWith (fun a b => decide (a < b)) ns (ns.drop 1)).all id) = decide (ns.Pairwise (· < ·))
  | [] => rfl
  | [_] => by simp
  | a :: b :: r => by
    have ih := zip_chain (b :: r)
    show (decide (a < b) && ((List.zipWith (fun a b => decide (a < b)) (b :: r) ((b :: r).drop 1)).all id)) = _
    rw [ih, Bool.eq_iff_iff, Bool.and_eq_true, decide_eq_true_iff, decide_eq_true_iff, decide_eq_true_iff, List.pairwise_cons (a := a)]
    constructor
    · rintro ⟨h1, h2⟩
      refine ⟨fun x hx => ?_, h2⟩
      rcases List.mem_cons.mp hx with e | hx
      · rw [e]
        exact h1
      · have := (List.pairwise_cons.mp h2).1 x hx
        omega
    · rintro ⟨h1, h2⟩
      exact ⟨h1 b List.mem_cons_self, h2⟩
theorem count_nd (ns : List Int) : (!((ns.map fun x => decide ((1 : Int) < (ns.count x : Nat))).any id)) = decide ns.Nodup := by
  rw [Bool.eq_iff_iff, decide_eq_true_iff, Bool.not_eq_true', List.any_eq_false, List.nodup_iff_count]
  constructor
  · intro h a
    by_cases m : a ∈ ns
    · have q := h _ (List.mem_map_of_mem m)
      simp at q
      omega
    · rw [List.count_eq_zero_of_not_mem m]
      omega
  · intro h b hb
    obtain ⟨x, _, rfl⟩ := List.mem_map.mp hb
    have := h x
    simp
    omega
section
variable {P : Program} {w : World} {K : PySem.W.Frag} {mg : Str → Option Value} {base : Heap} {A : Adr}
def spLInt : Sp := fun vs H Q _ => ∃ (x : V) (d : Td) (h : Addr) (lo hi : Int), vs = [x, .int lo, .int hi] ∧ Is h H x d ∧ Q (.bl (inI lo hi d)) H
theorem ok_law_is_int (T : Top K mg A) : FnOk P w K mg base CX0 1 A.a_law_is_int A.d_law_is_int P_law_is_int spLInt := by
  refine T.F_law_is_int.ok sc_law_is_int (fun vs H Q E h => ?_) (fun cdv A' outer s H vs Q E hr h => ?_)
  · obtain ⟨x, d, h, lo, hi, rfl, _⟩ := h
    rfl
  · obtain ⟨x, d, h, lo, hi, rfl, ht, k⟩ := h
    obtain ⟨t, ty, e1, e2, _⟩ := is_ty T ht
    refine ⟨_, (pss_one (ps_ret (pe_and (pe_callB call_isi (by rfl) T.z_isinstance (by decide +kernel) (pa_cons (pv 0) (pa_cons (pe_bltn (v := .ty "int") (by rfl) T.z_int (by decide +kernel) rfl) pa_nil))) (pe_and (pe_not (pe_callB call_isi (by rfl) T.z_isinstance (by decide +kernel) (pa_cons (pv 0) (pa_cons (pe_bltn (v := .ty "bool") (by rfl) T.z_bool (by decide +kernel) rfl) pa_nil)))) (pe_one (pe_chain op_le op_le (pv 1) (pv 0) (pv 2))))))), ?_⟩
    refine ⟨_, rfl, _, _, _, _, _, rfl, .ty "int", ty, e1, (isI d || isBl d), rfl, ?_⟩
    cases c : isI d with
    | true =>
      obtain ⟨i, rfl, rfl⟩ := is_int ht c
      refine iteT ?_
      refine ⟨_, rfl, _, _, _, _, _, rfl, .ty "bool", ty, e2, _, rfl, _, rfl, iteT ?_⟩
      refine ⟨_, rfl, _, rfl, _, _, rfl, rfl, _, rfl, ?_⟩
      by_cases c : lo ≤ i
      · simp only [inI, decide_eq_true c, Bool.true_and] at k
        rw [decide_eq_true c]
        refine iteT ⟨_, rfl, _, _, rfl, rfl, k⟩
      · simp only [inI, decide_eq_false c, Bool.false_and] at k
        rw [decide_eq_false c]
        exact iteF k
    | false =>
      rw [inI_no c] at k
      cases c2 : isBl d with
      | false => exact iteF k
      | true =>
        refine iteT ?_
        refine ⟨_, rfl, _, _, _, _, _, rfl, .ty "bool", ty, e2, _, rfl, _, rfl, ?_⟩
        rw [c2]
        exact iteF k
theorem ok_law_is_pairing (T : Top K mg A) : FnOk P w K mg base CX0 5 A.a_law_is_pairing A.d_law_is_pairing P_law_is_pairing spApart := by
  refine T.F_law_is_pairing.ok sc_law_is_pairing (fun vs H Q E h => ?_) (fun cdv A' outer s H vs Q E hr h => ?_)
  · obtain ⟨n, x, d, h, rfl, _⟩ := h
    rfl
  · obtain ⟨n, x, d, h, rfl, ht, hs, k⟩ := h
    obtain ⟨t, ty, _, _, e3⟩ := is_ty T ht
    refine ⟨_, (pss_cons (ps_if (pt_not (pt_val (pe_callB call_isi (by rfl) T.z_isinstance (by decide +kernel) (pa_cons (pv 1) (pa_cons (pe_bltn (v := .ty "tuple") (by rfl) T.z_tuple (by decide +kernel) rfl) pa_nil))))) (pss_one (ps_ret pe_bl)) pss_nil)
    (pss_cons (ps_for PassesOwn.never rfl (pi_tup (pv 1)) (pg_name (i := 2) sc_law_is_pairing.nd rfl (.inl rfl)) (pss_one (ps_if (PW.pt (pw_or (pt_not (pt_val (pe_callB call_isi (by rfl) T.z_isinstance (by decide +kernel) (pa_cons (pv 2) (pa_cons (pe_bltn (v := .ty "tuple") (by rfl) T.z_tuple (by decide +kernel) rfl) pa_nil))))) (pw_or (pt_cmpR op_ne (pe_callB call_len_seq (by rfl) T.z_len (by decide +kernel) (pa_cons (pv 2) pa_nil)) pe_int (nomark _)) (pw_or1 (pt_not (pt_val (pe_callB (cr_all rfl) (by rfl) T.z_all (by decide +kernel) (pa_cons (pe_lc (own := [("_law_one", 6)]) (by rfl) sc_law_is_pairing.nd (pi_tup (pv 2)) (blkOk_by (own := [("_law_one", 6)]) (N := N_law_is_pairing) (sc := defScope s_law_is_pairing) (by decide +kernel)) (fun _ _ _ _ _ => (pg_name (i := 6) sc_law_is_pairing.nd rfl (.inl rfl))) (fun _ _ _ _ _ => pts_nil) (fun _ _ _ _ _ => (pe_call (ok_law_is_int (P := P) (w := w) T) (hr.mono (by decide)) (by rfl) T.g_law_is_int T.F_law_is_int.kp T.b_law_is_int .nil pass0 (pa_cons (pv 6) (pa_cons pe_int (pa_cons (pe_op op_sub (pv 0) pe_int) pa_nil)))))) pa_nil)))))))) (pss_one (ps_ret pe_bl)) pss_nil)))
    (pss_cons (ps_if (pt_not (pt_val (pe_callB (cr_all rfl) (by rfl) T.z_all (by decide +kernel) (pa_cons (pe_lc (own := [("_law_one", 6), ("_law_other", 7)]) (by rfl) sc_law_is_pairing.nd (RZ.pi_zipA (by rfl) T.z_zip (pa_cons (pv 1) (pa_cons (pe_slice sl_tupA (pv 1) (po_some pe_int) po_none) pa_nil))) (blkOk_by (own := [("_law_one", 6), ("_law_other", 7)]) (N := N_law_is_pairing) (sc := defScope s_law_is_pairing) (by decide +kernel)) (fun _ _ _ _ _ => (show PG _ _ (gTup K 2 _) from (pg_tup rfl (pgs_cons (pg_name (i := 6) sc_law_is_pairing.nd rfl (.inl rfl)) (pgs_cons (pg_name (i := 7) sc_law_is_pairing.nd rfl (.inl rfl)) pgs_nil))))) (fun _ _ _ _ _ => pts_nil) (fun _ _ _ _ _ => (pe_cmpR op_lt (pe_ix (show IxR _ (rIxT K) from ix_tup) (pv 6) pe_int (fun _ _ => rfl)) (pe_ix (show IxR _ (rIxT K) from ix_tup) (pv 7) pe_int (fun _ _ => rfl)) (nomark _)))) pa_nil)))) (pss_one (ps_ret pe_bl)) pss_nil)
    (pss_cons (ps_set (i := 3) sc_law_is_pairing.nd rfl (.inr rfl) (pe_lc (own := [("_law_line", 4), ("_law_output", 5)]) (by rfl) sc_law_is_pairing.nd (pi_tup (pv 1)) (blkOk_by (own := [("_law_line", 4), ("_law_output", 5)]) (N := N_law_is_pairing) (sc := defScope s_law_is_pairing) (by decide +kernel)) (fun _ _ _ _ _ => (show PG _ _ (gTup K 2 _) from (pg_tup rfl (pgs_cons (pg_name (i := 4) sc_law_is_pairing.nd rfl (.inl rfl)) (pgs_cons (pg_name (i := 5) sc_law_is_pairing.nd rfl (.inl rfl)) pgs_nil))))) (fun _ _ _ _ _ => pts_nil) (fun _ _ _ _ _ => (pv 5))))
    (pss_one (ps_ret (pe_not (pe_callB (cr_any rfl) (by rfl) T.z_any (by decide +kernel) (pa_cons (pe_lc (own := [("_law_output", 5)]) (by rfl) sc_law_is_pairing.nd (pi_list (pv 3)) (blkOk_by (own := [("_law_output", 5)]) (N := N_law_is_pairing) (sc := defScope s_law_is_pairing) (by decide +kernel)) (fun _ _ _ _ _ => (pg_name (i := 5) sc_law_is_pairing.nd rfl (.inl rfl))) (fun _ _ _ _ _ => pts_nil) (fun _ _ _ _ _ => (pe_cmpR op_gt (show PE _ _ (tBM K "list" (rCntI K) _ _) from pe_bm PySem.F.plainAttrs_list PySem.F.slot_list_count PySem.F.type_list_count mt_lcount (pv 3) (pa_cons (pv 5) pa_nil)) pe_int (nomark _)))) pa_nil))))))))), ?_⟩
    refine ⟨_, rfl, _, _, _, _, _, rfl, .ty "tuple", ty, e3, _, rfl, ?_⟩
    cases c : isT d with
    | false =>
      have q := k H (fun _ _ e => e)
      rw [apB_no c] at q
      exact iteT q
    | true =>
      obtain ⟨a, xs, ds, rfl, rfl, ha, hl⟩ := isT_of ht c
      have hlen := hs.len
      refine iteF ?_
      have badE : ∀ i d, ds[i]? = some d → pairB n d = false → apB n (.tup ds) = false := fun i d hd c => by
        show (ds.all (pairB n) && _) = false
        rw [show ds.all (pairB n) = false from List.all_eq_false.mpr ⟨d, List.mem_of_getElem? hd, by rw [c]; exact Bool.false_ne_true⟩]
        rfl
      refine ⟨_, rfl, a, rfl, ⟨_, SqT.of ha⟩, for_tup (xs := xs) (fun i σ H' => ∃ (y2 : Option V), σ = [some (.int n), some (.ref a), y2, none, none, none, none, none] ∧ Same H H' ∧ ∀ j d, j < i → ds[j]? = some d → pairB n d = true)
        ⟨none, rfl, fun _ _ e => e, fun j _ hj => absurd hj (Nat.not_lt_zero _)⟩ (fun i σ H' _ ⟨_, _, s1, _⟩ => SqT.of (s1 _ _ ha)) ?_ ?_⟩
      · rintro i x σ H1 hx ⟨y2, rfl, s1, al⟩
        obtain ⟨d, hd, hxd⟩ := hl.get hx
        have hxd := hxd.same s1
        obtain ⟨t, ty, _, _, e3⟩ := is_ty T hxd
        have bad : pairB n d = false → ∀ H2, Same H1 H2 → Q (.bl false) H2 := fun c H2 s2 => by
          have q := k H2 (s1.trans s2)
          rw [badE i d hd c] at q
          exact q
        refine ⟨_, rfl, _, _, _, _, _, rfl, .ty "tuple", ty, e3, _, rfl, ?_⟩
        cases c1 : isT d with
        | false => exact iteT (bad (pairB_no (tupN_no c1)) _ fun _ _ e => e)
        | true =>
          refine iteF ?_
          obtain ⟨b, ys, es, rfl, rfl, hb, hl2⟩ := isT_of hxd c1
          have hlen2 := (hs.item (List.mem_of_getElem? hd)).len
          refine ⟨_, rfl, _, _, rfl, .inr (SqT.of hb), rfl, _, rfl, ?_⟩
          rw [dec_int, hl2.len]
          by_cases c2 : es.length = 2
          · rw [decide_eq_true (by omega)]
            refine iteF ?_
            refine ⟨_, rfl, b, rfl, ⟨_, SqT.of hb⟩, fun D nD => ?_⟩
            refine lc_tup (K := K) (a := b) (xs := ys) (LP H1 D ((es.map (inI 0 (n - 1))).map V.bl)) (LP.start nD) (fun i H' _ p => SqT.of (p.1 _ _ hb)) ?_ ?_
            · rintro j y H2 hy p
              obtain ⟨e, he, ie⟩ := hl2.get hy
              refine ⟨rfl, ?_⟩
              refine ⟨_, rfl, _, rfl, _, _, rfl, rfl, y, e, h, 0, n - 1, rfl, ie.same p.1, ?_⟩
              exact lcPut nD p (fun _ _ e => e) (map_at (map_at he)) (by rw [List.length_map, List.length_map]; omega)
            · rintro H2 ⟨s2, d2⟩
              rw [take_all (by rw [List.length_map, List.length_map]; exact hl2.len)] at d2
              refine ⟨D, _, rfl, SqL.of d2, _, rfl, ?_⟩
              have ep : (es.map (inI 0 (n - 1))).all id = pairB n (.tup es) := by
                match es, c2 with
                | [x, y], _ =>
                  show (inI 0 (n - 1) x && (inI 0 (n - 1) y && true)) = (inI 0 (n - 1) x && inI 0 (n - 1) y)
                  rw [Bool.and_true]
              rw [ep]
              cases c3 : pairB n (.tup es) with
              | false => exact iteT (bad c3 _ s2)
              | true =>
                refine iteF ⟨_, rfl, s1.trans s2, fun j e hj he => ?_⟩
                by_cases q : j = i
                · subst q
                  rw [hd] at he
                  cases he
                  exact c3
                · exact al j e (by omega) he
          · rw [decide_eq_false (by omega)]
            exact iteT (bad (pairB_no (decide_eq_false (by omega))) _ fun _ _ e => e)
      · rintro σ H1 ⟨y2, rfl, s1, al⟩
        have good : ds.all (pairB n) = true := by
          rw [List.all_eq_true]
          intro d hd
          obtain ⟨i, hi⟩ := List.getElem?_of_mem hd
          exact al i d (by rw [hl.len]; exact (List.getElem?_eq_some_iff.mp hi).1) hi
        have e : apB n (.tup ds) = (decide ((ds.map pr1).Pairwise (· < ·)) && decide (ds.map pr2).Nodup) := by
          show (ds.all (pairB n) && _) = _
          rw [good]
          rfl
        rw [e] at k
        clear e
        have hp : ∀ (i : Nat) (d : Td), ds[i]? = some d → ∃ a b : Nat, d = .tup [.int (a : Int), .int (b : Int)] := fun i d hd => by
          obtain ⟨a, b, e, _⟩ := pairB_yes (List.all_eq_true.mp good d (List.mem_of_getElem? hd))
          exact ⟨a, b, e⟩
        have hpx : ∀ (i : Nat) (x : V) (H' : Hp), xs[i]? = some x → Same H H' → ∃ (p : Addr) (d : Td), ds[i]? = some d ∧ x = .ref p ∧ H' p = some (.tup [.int (pr1 d), .int (pr2 d)]) := fun i x H' hx s => by
          obtain ⟨d, hd, hxd⟩ := hl.get hx
          obtain ⟨a, b, rfl⟩ := hp i d hd
          cases hxd with
          | tup e l =>
            cases l with
            | cons l1 l =>
              cases l with
              | cons l2 l =>
                cases l
                cases l1
                cases l2
                exact ⟨_, _, hd, rfl, s _ _ e⟩
        refine ⟨_, rfl, _, rfl, 1, rfl, ?_⟩
        unfold tNoPart
        refine sl_at (s1 _ _ ha) fun H2 p s2 e2 => ?_
        rw [cut_one] at e2
        have s02 := s1.trans s2
        refine ⟨a, p, _, _, rfl, .inr ⟨SqT.of (s02 _ _ ha), SqT.of e2, fun D nD => ?_⟩⟩
        have zl : (List.zipWith (fun a b => decide (a < b)) (ds.map pr1) ((ds.map pr1).drop 1)).length = min xs.length (xs.drop 1).length := by
          rw [List.length_zipWith, List.length_drop, List.length_drop, List.length_map, hl.len]
        refine lc_it (GE.walk_zipT rfl) (LP H2 D ((List.zipWith (fun a b => decide (a < b)) (ds.map pr1) ((ds.map pr1).drop 1)).map V.bl)) (LP.start nD) (fun i H' _ z => ⟨SqT.of (z.1 _ _ (s02 _ _ ha)), SqT.of (z.1 _ _ e2)⟩) ?_ ?_
        · rintro i x H3 H3' hi pp ⟨q, x1, x2, rfl, nq, rfl, ex1, ex2⟩
          have ex1 : xs[i]? = some x1 := ex1
          have ex2 : (xs.drop 1)[i]? = some x2 := ex2
          rw [List.getElem?_drop] at ex2
          obtain ⟨H4, eH, s4, e4⟩ := newH nq (o := .tup [x1, x2])
          rw [eH]
          obtain ⟨p1, d1, hd1, rfl, f1⟩ := hpx i x1 H4 ex1 ((s02.trans pp.1).trans s4)
          obtain ⟨p2, d2, hd2, rfl, f2⟩ := hpx (1 + i) x2 H4 ex2 ((s02.trans pp.1).trans s4)
          refine ⟨q, _, rfl, SqT.of e4, rfl, _, _, rfl, _, _, rfl, rfl, rfl, ?_⟩
          refine ⟨_, rfl, p1, _, 0, _, rfl, rfl, SqT.of f1, atI_nat (j := 0) rfl, _, rfl, p2, _, 0, _, rfl, rfl, SqT.of f2, atI_nat (j := 0) rfl, _, _, rfl, rfl, ?_⟩
          refine lcPut nD pp s4 (map_at ?_) (by rw [List.length_map, zl]; have := hl.len; omega)
          rw [List.getElem?_zipWith, map_at hd1, List.getElem?_drop, map_at hd2]
        · rintro H3 ⟨s3, d3⟩
          rw [take_all (by rw [List.length_map, zl])] at d3
          refine ⟨D, _, rfl, SqL.of d3, _, rfl, ?_⟩
          rw [zip_chain]
          have s03 := s02.trans s3
          cases c2 : decide ((ds.map pr1).Pairwise (· < ·)) with
          | false =>
            rw [c2] at k
            exact iteT (k _ s03)
          | true =>
            rw [c2, Bool.true_and] at k
            refine iteF ?_
            refine ⟨_, rfl, a, rfl, ⟨_, SqT.of (s03 _ _ ha)⟩, fun F nF => ?_⟩
            refine lc_tup (K := K) (a := a) (xs := xs) (LP H3 F ((ds.map pr2).map V.int)) (LP.start nF) (fun i H' _ q => SqT.of (q.1 _ _ (s03 _ _ ha))) ?_ ?_
            · rintro i x H4 hx pp
              obtain ⟨q, d, hd, rfl, e⟩ := hpx i x H4 hx (s03.trans pp.1)
              refine ⟨q, _, rfl, SqT.of e, rfl, _, _, rfl, _, _, rfl, rfl, rfl, ?_⟩
              refine ⟨_, rfl, ?_⟩
              exact lcPut nF pp (fun _ _ e => e) (map_at (map_at hd)) (by rw [List.length_map, List.length_map]; omega)
            · rintro H4 ⟨s4, d4⟩
              rw [take_all (by rw [List.length_map, List.length_map]; exact hl.len)] at d4
              refine ⟨_, rfl, F, rfl, ⟨_, SqL.of d4⟩, fun G nG => ?_⟩
              refine lc_list (K := K) (a := F) (xs := (ds.map pr2).map V.int) (LP H4 G (((ds.map pr2).map fun x => decide ((1 : Int) < ((ds.map pr2).count x : Nat))).map V.bl)) (LP.start nG) (fun i H' _ q => SqL.of (q.1 _ _ d4)) ?_ ?_
              · rintro i x H5 hx pp
                rw [List.getElem?_map] at hx
                obtain ⟨v, hv, rfl⟩ := Option.map_eq_some_iff.mp hx
                refine ⟨rfl, ?_⟩
                have d5 := pp.1 _ _ d4
                refine ⟨_, rfl, .inl ⟨rfl, _, SqL.of d5⟩, _, rfl, F, _, v, rfl, rfl, SqL.of d5, _, _, rfl, rfl, ?_⟩
                exact lcPut nG pp (fun _ _ e => e) (map_at (map_at hv)) (by rw [List.length_map, List.length_map, List.length_map]; omega)
              · rintro H5 ⟨s5, d5⟩
                rw [take_all (by simp only [List.length_map])] at d5
                refine ⟨G, _, rfl, SqL.of d5, _, rfl, ?_⟩
                rw [count_nd]
                exact k _ ((s03.trans s4).trans s5)
end

theorem rep_zero {n : Nat} : (List.replicate (n : Int).toNat [V.int 0]).flatten = (List.replicate n (0 : Int)).map V.int := by
  rw [Int.toNat_natCast]
  induction n with
  | zero => rfl
  | succ n ih =>
    rw [List.replicate_succ, List.flatten_cons, ih, List.replicate_succ, List.map_cons]
    rfl
theorem zeros_take {n i : Nat} (h : i < n) : (zeros n).take (i + 1) = (zeros n).take i ++ [List.replicate n 0] := by
  rw [List.take_add_one]
  congr 1
  unfold zeros
  rw [List.getElem?_replicate, if_pos h]
  rfl
/-- rows of a table as they are made -/
def RwAt (H : Hp) (row : List Int) (v : V) : Prop := ∃ q, v = .ref q ∧ H q = some (.tup (row.map V.int))
theorem RwAt.same {H H' : Hp} {row : List Int} {v : V} (t : RwAt H row v) (s : Same H H') : RwAt H' row v := let ⟨q, e, e1⟩ := t; ⟨q, e, s _ _ e1⟩
theorem RwAt.far {H : Hp} {F : Addr} {row : List Int} {v : V} {xs ys : List V} (t : RwAt H row v) (e : H F = some (.lst xs)) : RwAt (upd H F (.lst ys)) row v := let ⟨q, e0, e1⟩ := t; ⟨q, e0, by rw [upd_ne (fun z => by rw [z, e] at e1; cases e1)]; exact e1⟩
section
variable {P : Program} {w : World} {K : PySem.W.Frag} {mg : Str → Option Value} {base : Heap} {A : Adr}
def spCounted : Sp := fun vs H Q _ => ∃ (tl h : Addr) (n : Nat) (us : List V) (ds : List Td), vs = [.int (n : Int), .ref tl] ∧ n ≤ 12 ∧ H tl = some (.lst us) ∧ All2 (TmAt h H) ds us ∧ (∀ d ∈ ds, apB (n : Int) d = true) ∧
  ∀ H' tb, Same H H' → TabAt H' tb (bumps (zeros n) 1 (ds.flatMap pairsOf)) → Q (.ref tb) H'
theorem ok_law_counted (T : Top K mg A) : FnOk P w K mg base CX0 1 A.a_law_counted A.d_law_counted P_law_counted spCounted := by
  refine T.F_law_counted.ok sc_law_counted (fun vs H Q E h => ?_) (fun cdv A' outer s H vs Q E hr h => ?_)
  · obtain ⟨tl, h, n, us, ds, rfl, _⟩ := h
    rfl
  · obtain ⟨tl, h, n, us, ds, rfl, few, etl, alu, good, k⟩ := h
    refine ⟨_, (pss_cons (ps_setLc (i := 3) (own := [("_law_line", 2)]) (by rfl) sc_law_counted.nd rfl rfl (sw_true rfl rfl rfl (by decide +kernel)) (pi_range1 rfl T.z_range (pa_cons (pv 0) pa_nil)) (blkOk_by (own := [("_law_line", 2)]) (N := N_law_counted) (sc := defScope s_law_counted) (by decide +kernel)) (fun _ _ _ _ _ => (pg_name (i := 2) sc_law_counted.nd rfl (.inl rfl))) (fun _ _ _ _ _ => pts_nil) (fun _ _ _ _ _ => (pe_op op_rep (pe_lst (pa_cons pe_int pa_nil)) (pv 0))))
    (pss_cons (ps_for PassesOwn.never rfl (pi_list (pv 1)) (pg_tup rfl (pgs_cons (pg_name (i := 4) sc_law_counted.nd rfl (.inl rfl)) (pgs_cons (pg_name (i := 5) sc_law_counted.nd rfl (.inl rfl)) pgs_nil))) (pss_one (ps_for PassesOwn.never rfl (pi_tup (pv 5)) (pg_tup rfl (pgs_cons (pg_name (i := 2) sc_law_counted.nd rfl (.inl rfl)) (pgs_cons (pg_name (i := 6) sc_law_counted.nd rfl (.inl rfl)) pgs_nil))) (pss_one (ps_asg (pe_op op_add (pe_ix ix_list (pe_ix ix_list (pv 3) (pv 2) (fun _ _ => rfl)) (pv 6) (fun _ _ => rfl)) (pv 4)) (pg_sub (pe_ix ix_list (pv 3) (pv 2) (fun _ _ => rfl)) (pv 6) set_list))))))
    (pss_one (ps_ret (pe_callTy call_tuple_of (by rfl) T.z_tuple (by decide +kernel) (pa_cons (pe_lc (own := [("_law_row", 7)]) (by rfl) sc_law_counted.nd (pi_list (pv 3)) (blkOk_by (own := [("_law_row", 7)]) (N := N_law_counted) (sc := defScope s_law_counted) (by decide +kernel)) (fun _ _ _ _ _ => (pg_name (i := 7) sc_law_counted.nd rfl (.inl rfl))) (fun _ _ _ _ _ => pts_nil) (fun _ _ _ _ _ => (pe_callTy (show CallR _ _ (GC.rTupK K) from call_tuple_of) (by rfl) T.z_tuple (by decide +kernel) (pa_cons (pv 7) pa_nil)))) pa_nil)))))), ?_⟩
    refine ⟨_, rfl, n, rfl, by omega, by omega, fun D nD => ?_⟩
    refine lc_range (lo := 0) (n := (n : Int).toNat) (fun i H' => ∃ rs, MatAt H H' D rs ((zeros n).take i)) ⟨[], MatAt.start nD⟩ ?_ ?_
    · rintro i H1 hi ⟨rs, M⟩
      have hi : i < n := by omega
      refine ⟨rfl, ?_⟩
      refine ⟨(by show 1 ≤ sizeLine; decide), fun p1 n1 => ?_⟩
      obtain ⟨H2, eH, s2, e2⟩ := newH n1 (o := .lst [.int 0])
      rw [eH]
      refine ⟨_, rfl, p1, n, _, rfl, rfl, e2, by omega, by omega, ?_, fun p2 n2 => ?_⟩
      · rw [Int.toNat_natCast]
        show 1 * n ≤ sizeLine
        have z : sizeLine ≥ 1000000 := by decide
        omega
      have M2 := M.grow s2
      have hl := M2.rows.len
      rw [List.length_take] at hl
      refine ⟨_, by rw [upd_ne (fun z => by rw [← z, M2.top] at n2; cases n2)]; exact M2.top, ?_, rs ++ [p2], ?_⟩
      · rw [List.length_map]
        have z : sizeLine ≥ 1000000 := by decide
        omega
      · rw [zeros_take hi, rep_zero]
        exact M2.snoc n2
    · rintro H1 ⟨rs, M⟩
      rw [take_all (by unfold zeros; rw [List.length_replicate]; omega)] at M
      have dm := dim_zeros n
      have go : ∀ i j : Nat, ∀ d, ds[i]? = some d → PsOk n ((ds.take i).flatMap pairsOf ++ (pairsOf d).take j) := fun i j d hd =>
        PsOk.app (psOk_all fun e he => good e (List.mem_of_mem_take he)) (PsOk.take (psOk_beat (good d (List.mem_of_getElem? hd))))
      refine ⟨_, rfl, tl, rfl, ⟨_, SqL.of (M.same _ _ etl)⟩, for_list (xs := us) (fun i σ H' => ∃ (y2 y4 y5 y6 : Option V) (rs : List Addr), σ = [some (.int (n : Int)), some (.ref tl), y2, some (.ref D), y4, y5, y6, none] ∧ MatAt H H' D rs (bumps (zeros n) 1 ((ds.take i).flatMap pairsOf)))
        ⟨_, _, _, _, rs, rfl, M⟩ (fun i σ H' _ ⟨_, _, _, _, _, _, M⟩ => SqL.of (M.same _ _ etl)) ?_ ?_⟩
      · rintro i x σ H2 hx ⟨y2, y4, y5, y6, rs, rfl, M⟩
        obtain ⟨d, hd, q, z, rfl, eq, iz⟩ := alu.get hx
        refine ⟨q, _, rfl, SqT.of (M.same _ _ eq), rfl, _, _, rfl, _, _, rfl, rfl, ?_⟩
        obtain ⟨es, rfl, hes⟩ := apB_yes (good d (List.mem_of_getElem? hd))
        obtain ⟨b, zs, es', rfl, ee, hb, hl⟩ := isT_of iz rfl
        cases ee
        refine ⟨_, rfl, b, rfl, ⟨_, SqT.of (M.same _ _ hb)⟩, for_tup (xs := zs) (fun j σ H' => ∃ (y2 y6 : Option V) (rs : List Addr), σ = [some (.int (n : Int)), some (.ref tl), y2, some (.ref D), some (.int 1), some (.ref b), y6, none] ∧ MatAt H H' D rs (bumps (zeros n) 1 ((ds.take i).flatMap pairsOf ++ (pairsOf (.tup es)).take j)))
          ⟨y2, y6, rs, rfl, by rw [List.take_zero, List.append_nil]; exact M⟩ (fun i σ H' _ ⟨_, _, _, _, M⟩ => SqT.of (M.same _ _ hb)) ?_ ?_⟩
        · rintro j v σ H3 hv ⟨y2, y6, rs, rfl, M⟩
          obtain ⟨e, he, iv⟩ := hl.get hv
          obtain ⟨l, o, rfl, hl1, ho1⟩ := pairB_yes (hes e (List.mem_of_getElem? he))
          have hl2 : l < n := by omega
          have ho2 : o < n := by omega
          obtain ⟨b2, ws, fs, rfl, ef, hb2, hw⟩ := isT_of iv rfl
          cases ef
          cases hw with
          | cons w1 hw =>
            cases hw with
            | cons w2 hw =>
              cases hw
              cases w1
              cases w2
              have D2 := dm.bumps (t := 1) (go i j _ hd)
              obtain ⟨r, hr, er⟩ := M.row D2 hl2
              refine ⟨b2, _, rfl, SqT.of (M.same _ _ hb2), rfl, _, _, rfl, _, _, rfl, rfl, ?_⟩
              refine ⟨_, rfl, _, rfl, D, _, _, _, rfl, rfl, SqL.of M.top, atI_nat (M.top' hr), _, rfl, r, _, _, _, rfl, rfl, SqL.of er, atI_nat (map_at (D2.ent hl2 ho2)), _, rfl, _, _, rfl, rfl, ?_⟩
              refine ⟨_, rfl, _, rfl, D, _, _, _, rfl, rfl, SqL.of M.top, atI_nat (M.top' hr), _, rfl, r, _, _, o, rfl, rfl, er, ?_, ?_⟩
              · rw [List.length_map, (D2.at hl2).2]
                exact ixN_at ho2
              · refine ⟨_, _, rs, rfl, ?_⟩
                have et : (pairsOf (.tup es)).take (j + 1) = (pairsOf (.tup es)).take j ++ [(l, o)] := by
                  rw [List.take_add_one]
                  congr 1
                  show (es.map fun e => ((pr1 e).toNat, (pr2 e).toNat))[j]?.toList = _
                  rw [map_at he]
                  rfl
                rw [et, ← List.append_assoc, bumps_app (b := [(l, o)])]
                have q := M.put (row := (List.getD (bumps (zeros n) 1 ((ds.take i).flatMap pairsOf ++ (pairsOf (.tup es)).take j)) l []).set o (ent (bumps (zeros n) 1 ((ds.take i).flatMap pairsOf ++ (pairsOf (.tup es)).take j)) l o + 1)) hr
                rw [← set_map] at q
                exact q
        · rintro σ H3 ⟨y2, y6, rs, rfl, M⟩
          refine ⟨_, _, _, _, rs, rfl, ?_⟩
          rw [flat_take hd]
          have e : zs.length = (pairsOf (.tup es)).length := by
            rw [hl.len]
            exact (List.length_map _).symm
          rw [take_all e] at M
          exact M
      · rintro σ H2 ⟨y2, y4, y5, y6, rs, rfl, M⟩
        rw [← alu.len, List.take_length] at M
        have D2 := dm.bumps (t := 1) (psOk_all good)
        generalize bumps (zeros n) 1 (ds.flatMap pairsOf) = m2 at M D2 k
        have ml := D2.len
        refine ⟨_, rfl, D, rfl, ⟨_, SqL.of M.top⟩, fun F nF => ?_⟩
        refine lc_list (K := K) (a := D) (xs := rs.map V.ref) (fun i H' => ∃ us, Same H2 H' ∧ H' F = some (.lst us) ∧ All2 (RwAt H') (m2.take i) us) ⟨[], same_upd nF, upd_same, .nil⟩ (fun i H' _ ⟨_, s3, _⟩ => SqL.of (s3 _ _ M.top)) ?_ ?_
        · rintro i x H3 hx ⟨ws, s3, e3, al3⟩
          rw [List.getElem?_map] at hx
          obtain ⟨r, hr, rfl⟩ := Option.map_eq_some_iff.mp hx
          obtain ⟨row, hrow, er⟩ := M.rows.getL hr
          have hw := al3.len
          rw [List.length_take] at hw
          refine ⟨rfl, ?_⟩
          refine ⟨_, rfl, r, _, rfl, .inl ⟨SqL.of (s3 _ _ er), fun p np => ?_⟩⟩
          obtain ⟨H4, eH, s4, e4⟩ := newH np (o := .tup (row.map V.int))
          rw [eH]
          refine ⟨ws, s4 _ _ e3, by have z : sizeLine ≥ 1000000 := by decide
                                    omega, ws ++ [.ref p], same_to (s3.trans s4) nF, upd_same, ?_⟩
          rw [List.take_add_one, hrow]
          exact ((al3.imp fun _ _ t => t.same s4).snoc ⟨p, rfl, e4⟩).imp fun _ _ t => t.far (s4 _ _ e3)
        · rintro H3 ⟨ws, s3, e3, al3⟩
          rw [take_all (by rw [List.length_map]; exact M.rows.len)] at al3
          refine ⟨F, ws, rfl, .inl ⟨SqL.of e3, fun p np => ?_⟩⟩
          obtain ⟨H4, eH, s4, e4⟩ := newH np (o := .tup ws)
          rw [eH]
          exact k H4 p ((M.same.trans s3).trans s4) ⟨ws, e4, al3.imp fun _ _ t => t.same s4⟩
def spLRound : Sp := fun vs H Q _ => ∃ (tb h : Addr) (n : Nat) (m : List (List Int)) (b : Int) (x : V) (d : Td), vs = [.ref tb, .int b, x] ∧ TabAt H tb m ∧ TabOk n m ∧ Is h H x d ∧ Sh 1000 d ∧ ∀ H', Same H H' → Q (.bl (roundB n m b d)) H'
theorem ok_law_is_round (T : Top K mg A) : FnOk P w K mg base CX0 6 A.a_law_is_round A.d_law_is_round P_law_is_round spLRound := by
  refine T.F_law_is_round.ok sc_law_is_round (fun vs H Q E h => ?_) (fun cdv A' outer s H vs Q E hr h => ?_)
  · obtain ⟨tb, h, n, m, b, x, d, rfl, _⟩ := h
    rfl
  · obtain ⟨tb, h, n, m, b, x, d, rfl, ht, ok, hx, hs, k⟩ := h
    refine ⟨_, (pss_cons (ps_set (i := 3) sc_law_is_round.nd rfl (.inr rfl) (pe_callB call_len_seq (by rfl) T.z_len (by decide +kernel) (pa_cons (pv 0) pa_nil)))
    (pss_cons (ps_if (PW.pt (pw_or (pt_not (pt_val (pe_callB call_isi (by rfl) T.z_isinstance (by decide +kernel) (pa_cons (pv 2) (pa_cons (pe_bltn (v := .ty "tuple") (by rfl) T.z_tuple (by decide +kernel) rfl) pa_nil))))) (pw_or (pt_cmpR op_ne (pe_callB call_len_seq (by rfl) T.z_len (by decide +kernel) (pa_cons (pv 2) pa_nil)) (pv 1) (nomark _)) (pw_or1 (pt_not (pt_val (pe_callB (cr_all rfl) (by rfl) T.z_all (by decide +kernel) (pa_cons (pe_lc (own := [("_law_one", 4)]) (by rfl) sc_law_is_round.nd (pi_tup (pv 2)) (blkOk_by (own := [("_law_one", 4)]) (N := N_law_is_round) (sc := defScope s_law_is_round) (by decide +kernel)) (fun _ _ _ _ _ => (pg_name (i := 4) sc_law_is_round.nd rfl (.inl rfl))) (fun _ _ _ _ _ => pts_nil) (fun _ _ _ _ _ => (pe_call (ok_law_is_pairing (P := P) (w := w) T) (hr.mono (by decide)) (by rfl) T.g_law_is_pairing T.F_law_is_pairing.kp T.b_law_is_pairing .nil pass0 (pa_cons (pv 3) (pa_cons (pv 4) pa_nil))))) pa_nil)))))))) (pss_one (ps_ret pe_bl)) pss_nil)
    (pss_one (ps_ret (pe_cmpR (op_eqD hr.units) (pe_call (ok_law_counted T) (hr.mono (by decide)) (by rfl) T.g_law_counted T.F_law_counted.kp T.b_law_counted .nil pass0 (pa_cons (pv 3) (pa_cons (pe_lc (own := [("_law_one", 4)]) (by rfl) sc_law_is_round.nd (pi_tup (pv 2)) (blkOk_by (own := [("_law_one", 4)]) (N := N_law_is_round) (sc := defScope s_law_is_round) (by decide +kernel)) (fun _ _ _ _ _ => (pg_name (i := 4) sc_law_is_round.nd rfl (.inl rfl))) (fun _ _ _ _ _ => pts_nil) (fun _ _ _ _ _ => (pe_tup (pa_cons pe_int (pa_cons (pv 4) pa_nil))))) pa_nil))) (pv 0) (nomark _)))))), ?_⟩
    obtain ⟨us, etb, alt⟩ := id ht
    have lu : us.length = n := by rw [← alt.len]; exact ok.dim.len
    refine ⟨_, rfl, tb, us, rfl, .inr (SqT.of etb), ?_⟩
    rw [lu]
    obtain ⟨t, ty, _, _, e3⟩ := is_ty T hx
    refine ⟨_, rfl, _, _, _, _, _, rfl, .ty "tuple", ty, e3, _, rfl, ?_⟩
    cases c : isT d with
    | false =>
      have q := k H (fun _ _ e => e)
      rw [roundB_no (tupN_no c)] at q
      exact iteT q
    | true =>
      refine iteF ?_
      obtain ⟨a, xs, ds, rfl, rfl, ha, hl⟩ := isT_of hx c
      have hlen := hs.len
      refine ⟨_, rfl, _, _, rfl, .inr (SqT.of ha), _, rfl, rfl, _, rfl, ?_⟩
      rw [dec_int, hl.len]
      by_cases c2 : (ds.length : Int) = b
      · rw [decide_eq_true c2]
        refine iteF ?_
        refine ⟨_, rfl, a, rfl, ⟨_, SqT.of ha⟩, fun D nD => ?_⟩
        refine lc_tup (K := K) (a := a) (xs := xs) (LP H D ((ds.map (apB n)).map V.bl)) (LP.start nD) (fun i H' _ p => SqT.of (p.1 _ _ ha)) ?_ ?_
        · rintro i x H' hi p
          obtain ⟨e, he, ie⟩ := hl.get hi
          refine ⟨rfl, ?_⟩
          refine ⟨_, rfl, _, rfl, n, x, e, h, rfl, ie.same p.1, hs.item (List.mem_of_getElem? he), fun H2 s2 => ?_⟩
          exact lcPut nD p s2 (map_at (map_at he)) (by rw [List.length_map, List.length_map]; omega)
        · rintro H2 ⟨s2, d2⟩
          rw [take_all (by rw [List.length_map, List.length_map]; exact hl.len)] at d2
          refine ⟨D, _, rfl, SqL.of d2, _, rfl, ?_⟩
          rw [show (ds.map (apB n)).all id = ds.all (apB n) by rw [List.all_map]; rfl]
          have e : roundB n m b (.tup ds) = (ds.all (apB n) && decide (bumps (zeros n) 1 (ds.flatMap pairsOf) = m)) := by
            show (decide ((ds.length : Int) = b) && _) = _
            rw [decide_eq_true c2]
            rfl
          rw [e] at k
          cases c1 : ds.all (apB n) with
          | false =>
            rw [c1] at k
            exact iteT (k _ s2)
          | true =>
            rw [c1, Bool.true_and] at k
            refine iteF ?_
            refine ⟨_, rfl, _, rfl, a, rfl, ⟨_, SqT.of (s2 _ _ ha)⟩, fun F nF => ?_⟩
            refine lc_tup (K := K) (a := a) (xs := xs) (fun i H' => ∃ us, Same H2 H' ∧ H' F = some (.lst us) ∧ All2 (TmB h H2 H') (ds.take i) us) ⟨[], same_upd nF, upd_same, .nil⟩ (fun i H' _ ⟨_, s3, _⟩ => SqT.of (s3 _ _ (s2 _ _ ha))) ?_ ?_
            · rintro i x H' hi ⟨ws, s3, e3, al3⟩
              obtain ⟨e, he, ie⟩ := hl.get hi
              refine ⟨rfl, ?_⟩
              refine ⟨_, rfl, (by show 2 ≤ sizeLine; decide), fun p np => ?_⟩
              obtain ⟨H4, eH, s4, e4⟩ := newH np (o := .tup [.int 1, x])
              rw [eH]
              have hw := al3.len
              rw [List.length_take] at hw
              refine ⟨ws, s4 _ _ e3, by have z : sizeLine ≥ 1000000 := by decide
                                        omega, ws ++ [.ref p], same_to (s3.trans s4) nF, upd_same, ?_⟩
              rw [List.take_add_one, he]
              exact ((al3.imp fun _ _ t => t.same s4).snoc ⟨p, x, rfl, e4, ie.same s2⟩).imp fun _ _ t => t.far (s4 _ _ e3)
            · rintro H3 ⟨ws, s3, e3, al3⟩
              rw [take_all hl.len] at al3
              refine ⟨F, h, n, ws, ds, rfl, ok.few, e3, al3.imp fun d v ⟨q, x, e1, e2, e3⟩ => ⟨q, x, e1, e2, e3.same s3⟩, fun d hd => List.all_eq_true.mp c1 d hd, fun H4 tb2 s4 t4 => ?_⟩
              have s04 := (s2.trans s3).trans s4
              refine ⟨_, rfl, matD _, matD m, t4.dp, (ht.same s04).dp, (lay_mat _).sh (by decide), (lay_mat _).sh (by decide), ?_⟩
              rw [eqv_mat]
              exact k _ s04
      · rw [decide_eq_false c2]
        have q := k H (fun _ _ e => e)
        rw [roundB_no (d := .tup ds) (show tupN b (.tup ds) = false from decide_eq_false c2)] at q
        exact iteT q
end

section
variable {P : Program} {w : World} {K : PySem.W.Frag} {mg : Str → Option Value} {base : Heap} {A : Adr}
/-- a thing that can be told, its tuples short -/
def Gd (B : Nat) (h : Addr) (H : Hp) (v : V) : Prop := ∃ d, Is h H v d ∧ Sh B d
theorem Gd.same {B : Nat} {h : Addr} {H H' : Hp} {v : V} (t : Gd B h H v) (s : Same H H') : Gd B h H' v := let ⟨d, a, b⟩ := t; ⟨d, a.same s, b⟩
theorem Gd.kp {B : Nat} {h g : Addr} {H H' : Hp} {v : V} (t : Gd B h H v) (k : Kp h H H') (a : HandAt H h g) : Gd B h H' v := let ⟨d, i, b⟩ := t; ⟨d, i.kp k a, b⟩
theorem Gd.mono {B B' : Nat} (h : B ≤ B') {b : Addr} {H : Hp} {v : V} (t : Gd B b H v) : Gd B' b H v := let ⟨d, i, s⟩ := t; ⟨d, i, s.mono h⟩
theorem pick_at {xs : List V} {d : Int} (d0 : 0 ≤ d) (d1 : d < (xs.length : Int)) : ∃ v, atI xs d = some v ∧ v ∈ xs := by
  have h : d.toNat < xs.length := by omega
  have e : xs[d.toNat]? = some xs[d.toNat] := List.getElem?_eq_getElem h
  refine ⟨_, ?_, List.mem_of_getElem? e⟩
  have z := atI_nat e
  rw [Int.toNat_of_nonneg d0] at z
  exact z
theorem Sh.nil {B : Nat} : Sh B (.tup []) := .tup (Nat.zero_le _) fun d hd => by cases hd
theorem Sh.one {B : Nat} (hB : 1 ≤ B) {d : Td} (s : Sh B d) : Sh B (.tup [d]) := .tup hB fun e he => by
  rw [List.mem_singleton.mp he]
  exact s
theorem Sh.two {B : Nat} (hB : 2 ≤ B) {d e : Td} (s : Sh B d) (t : Sh B e) : Sh B (.tup [d, e]) := .tup hB fun f hf => by
  simp only [List.mem_cons, List.not_mem_nil, or_false] at hf
  rcases hf with z | z <;> subst z <;> assumption
theorem shAll {B : Nat} {ds : List Td} (hl : ds.length ≤ B) (h : ∀ d ∈ ds, Sh B d) : Sh B (.tup ds) := .tup hl h
theorem IsL.take {h : Addr} {H : Hp} : ∀ {vs : List V} {ds : List Td} (n : Nat), IsL h H vs ds → IsL h H (vs.take n) (ds.take n)
  | _, _, 0, _ => .nil
  | _, _, _ + 1, .nil => .nil
  | _, _, n + 1, .cons a t => .cons a (t.take n)
theorem IsL.drop {h : Addr} {H : Hp} : ∀ {vs : List V} {ds : List Td} (n : Nat), IsL h H vs ds → IsL h H (vs.drop n) (ds.drop n)
  | _, _, 0, t => t
  | _, _, _ + 1, .nil => .nil
  | _, _, n + 1, .cons _ t => t.drop n
theorem IsL.rev {h : Addr} {H : Hp} : ∀ {vs : List V} {ds : List Td}, IsL h H vs ds → IsL h H vs.reverse ds.reverse
  | _, _, .nil => .nil
  | _, _, .cons a t => by
    rw [List.reverse_cons, List.reverse_cons]
    exact t.rev.append (.cons a .nil)
def spDeep : Sp := fun vs H Q _ => ∃ (h g : Addr), vs = [.ref h] ∧ HandAt H h g ∧ ∀ (H' : Hp) (v : V), Kp h H H' → HandAt H' h g → Gd 1 h H' v → Q v H'
theorem ok_law_deep (T : Top K mg A) : FnOk P w K mg base CX0 3 A.a_law_deep A.d_law_deep P_law_deep spDeep := by
  refine T.F_law_deep.ok sc_law_deep (fun vs H Q E h => ?_) (fun cdv A' outer s H vs Q E hr h => ?_)
  · obtain ⟨h, g, rfl, _⟩ := h
    rfl
  · obtain ⟨h, g, rfl, ha, k⟩ := h
    refine ⟨_, (pss_cons (ps_set (i := 1) sc_law_deep.nd rfl (.inl rfl) (pe_ix ix_list (pe_lst (pa_cons pe_non (pa_cons (pe_tup pa_nil) (pa_cons pe_int (pa_cons pe_str pa_nil))))) (pe_call (ok_law_draw T) (hr.mono (by decide)) (by rfl) T.g_law_draw T.F_law_draw.kp T.b_law_draw .nil pass0 (pa_cons (pv 0) (pa_cons pe_int pa_nil))) (fun _ _ => rfl)))
    (pss_cons (ps_for PassesOwn.never rfl (pi_range1 rfl T.z_range (pa_cons (pe_op op_add pe_int (pe_call (ok_law_draw T) (hr.mono (by decide)) (by rfl) T.g_law_draw T.F_law_draw.kp T.b_law_draw .nil pass0 (pa_cons (pv 0) (pa_cons pe_int pa_nil)))) pa_nil)) (pg_name (i := 2) sc_law_deep.nd rfl (.inl rfl)) (pss_one (ps_set (i := 1) sc_law_deep.nd rfl (.inl rfl) (pe_ix ix_list (pe_lst (pa_cons (pe_tup (pa_cons (pv 1) pa_nil)) (pa_cons (pe_lst (pa_cons (pv 1) pa_nil)) pa_nil))) (pe_call (ok_law_draw T) (hr.mono (by decide)) (by rfl) T.g_law_draw T.F_law_draw.kp T.b_law_draw .nil pass0 (pa_cons (pv 0) (pa_cons pe_int pa_nil))) (fun _ _ => rfl)))))
    (pss_one (ps_ret (pv 1))))), ?_⟩
    refine ⟨Nat.zero_le _, fun p1 n1 => ?_⟩
    obtain ⟨H1, eH, s1, e1⟩ := newH n1 (o := .tup [])
    rw [eH]
    refine ⟨(by show 4 ≤ sizeLine; decide), fun l nl => ?_⟩
    obtain ⟨H2, eH, s2, e2⟩ := newH nl (o := .lst [.non, .ref p1, .int 0, .str "a"])
    rw [eH]
    have s02 := s1.trans s2
    have a2 := ha.same s02
    have hl := (ha.same s1).ne_none nl
    refine ⟨_, rfl, h, g, 4, rfl, a2, by decide, by decide, fun H3 d b3 a3 d0 d1 => ?_⟩
    obtain ⟨v, ev, mv⟩ := pick_at (xs := [.non, .ref p1, .int 0, .str "a"]) d0 d1
    refine ⟨l, _, d, v, rfl, rfl, SqL.of (by rw [b3 l hl]; exact e2), ev, ?_⟩
    have g3 : Gd 1 h H3 v := by
      refine Gd.kp ?_ b3.kp a2
      simp only [List.mem_cons, List.not_mem_nil, or_false] at mv
      rcases mv with e | e | e | e <;> subst e
      · exact ⟨_, .non, .non⟩
      · exact ⟨.tup [], .tup (s2 _ _ e1) .nil, .nil⟩
      · exact ⟨_, .int 0, .int 0⟩
      · exact ⟨_, .str _, .str _⟩
    have k3 : Kp h H H3 := Kp.trans (kp_of s02 h) b3.kp
    refine ⟨_, rfl, h, g, 28, rfl, a3, by decide, by decide, fun H4 d b4 a4 d0 d1 => ?_⟩
    refine ⟨_, _, rfl, rfl, _, rfl, by omega, by omega, ?_⟩
    refine for_range (lo := 0) (n := (2 + d).toNat) (fun i σ H' => ∃ (u : V) (y2 : Option V), σ = [some (.ref h), some u, y2] ∧ Kp h H H' ∧ HandAt H' h g ∧ Gd 1 h H' u)
      ⟨v, none, rfl, k3.trans b4.kp, a4, g3.kp b4.kp a3⟩ ?_ ?_
    · rintro i σ H4 hi ⟨u, y2, rfl, k4, h4, g4⟩
      refine ⟨_, rfl, (by show 1 ≤ sizeLine; decide), fun p np => ?_⟩
      obtain ⟨H5, eH, s5, e5⟩ := newH np (o := .tup [u])
      rw [eH]
      refine ⟨_, rfl, (by show 1 ≤ sizeLine; decide), fun q nq => ?_⟩
      obtain ⟨H6, eH, s6, e6⟩ := newH nq (o := .lst [u])
      rw [eH]
      refine ⟨(by show 2 ≤ sizeLine; decide), fun l nl => ?_⟩
      obtain ⟨H7, eH, s7, e7⟩ := newH nl (o := .lst [.ref p, .ref q])
      rw [eH]
      have s47 := (s5.trans s6).trans s7
      have h7 := h4.same s47
      have hl := ((h4.same s5).same s6).ne_none nl
      have hq := (h4.same s5).ne_none nq
      refine ⟨_, rfl, h, g, 2, rfl, h7, by decide, by decide, fun H8 e b8 h8 e0 e1 => ?_⟩
      obtain ⟨v, ev, mv⟩ := pick_at (xs := [.ref p, .ref q]) e0 e1
      refine ⟨l, _, e, v, rfl, rfl, SqL.of (by rw [b8 l hl]; exact e7), ev, ?_⟩
      refine ⟨v, _, rfl, (k4.same s47).trans b8.kp, h8, Gd.kp ?_ b8.kp h7⟩
      obtain ⟨du, iu, su⟩ := g4
      simp only [List.mem_cons, List.not_mem_nil, or_false] at mv
      rcases mv with e | e <;> subst e
      · exact ⟨.tup [du], .tup (s7 _ _ (s6 _ _ e5)) (.cons (iu.same s47) .nil), su.one (Nat.le_refl _)⟩
      · exact ⟨.oth, .lst (s7 _ _ e6) hq, .oth⟩
    · rintro σ H4 ⟨u, y2, rfl, k4, h4, g4⟩
      exact ⟨_, rfl, k H4 u k4 h4 g4⟩
theorem HandAt.far {h g p : Addr} {H : Hp} {o : HO} (a : HandAt H h g) (h1 : p ≠ h) (h2 : p ≠ g) : HandAt (upd H p o) h g := ⟨by obtain ⟨ns, e⟩ := a.cells; exact ⟨ns, by rw [upd_ne h2.symm]; exact e⟩, by obtain ⟨i, m, s, t, e, r⟩ := a.five; exact ⟨i, m, s, t, by rw [upd_ne h1.symm]; exact e, r⟩, a.ne⟩
def pD (p : Nat × Nat) : Td := .tup [.int (p.1 : Int), .int (p.2 : Int)]
structure Prs (n : Nat) (ps : List (Nat × Nat)) : Prop where
  asc : ps.Pairwise fun p q => p.1 < q.1
  nd : (ps.map (·.2)).Nodup
  ok : PsOk n ps
  len : ps.length ≤ n
def PrAt (H : Hp) (p : Nat × Nat) (v : V) : Prop := ∃ q, v = .ref q ∧ H q = some (.tup [.int (p.1 : Int), .int (p.2 : Int)])
theorem PrAt.isL {h : Addr} {H : Hp} : ∀ {ps : List (Nat × Nat)} {vs : List V}, All2 (PrAt H) ps vs → IsL h H vs (ps.map pD)
  | _, _, .nil => .nil
  | _, _, .cons ⟨q, e, e1⟩ t => by
    rw [e]
    exact .cons (.tup e1 (.cons (.int _) (.cons (.int _) .nil))) (PrAt.isL t)
theorem erase_nd {α : Type} : ∀ {ls : List α} {k : Nat} {x : α}, ls.Nodup → ls[k]? = some x → x ∉ ls.eraseIdx k ∧ (ls.eraseIdx k).Nodup ∧ (∀ y ∈ ls.eraseIdx k, y ∈ ls) ∧ (ls.eraseIdx k).length + 1 = ls.length
  | a :: ls, 0, x, nd, e => by
    cases e
    rw [List.nodup_cons] at nd
    exact ⟨nd.1, nd.2, fun y hy => List.mem_cons_of_mem _ hy, rfl⟩
  | a :: ls, k + 1, x, nd, e => by
    rw [List.nodup_cons] at nd
    have e : ls[k]? = some x := e
    obtain ⟨h1, h2, h3, h4⟩ := erase_nd nd.2 e
    show x ∉ a :: ls.eraseIdx k ∧ (a :: ls.eraseIdx k).Nodup ∧ (∀ y ∈ a :: ls.eraseIdx k, y ∈ a :: ls) ∧ (a :: ls.eraseIdx k).length + 1 = (a :: ls).length
    refine ⟨fun z => ?_, List.nodup_cons.mpr ⟨fun z => nd.1 (h3 a z), h2⟩, fun y hy => ?_, by rw [List.length_cons, List.length_cons, h4]⟩
    · rcases List.mem_cons.mp z with z | z
      · exact nd.1 (by rw [← z]; exact List.mem_of_getElem? e)
      · exact h1 z
    · rcases List.mem_cons.mp hy with z | z
      · rw [z]
        exact List.mem_cons_self
      · exact List.mem_cons_of_mem _ (h3 y z)
theorem map_erase {α β : Type} {f : α → β} : ∀ {ls : List α} {k : Nat}, (ls.map f).eraseIdx k = (ls.eraseIdx k).map f
  | [], _ => rfl
  | _ :: _, 0 => rfl
  | a :: ls, k + 1 => by
    show f a :: (ls.map f).eraseIdx k = f a :: (ls.eraseIdx k).map f
    rw [map_erase]
theorem PrAt.far {H : Hp} {F : Addr} {p : Nat × Nat} {v : V} {o : HO} {xs : List V} (t : PrAt H p v) (e : H F = some (.lst xs)) : PrAt (upd H F o) p v := let ⟨q, e0, e1⟩ := t; ⟨q, e0, by rw [upd_ne (fun z => by rw [z, e] at e1; cases e1)]; exact e1⟩
theorem PrAt.same {H H' : Hp} {p : Nat × Nat} {v : V} (t : PrAt H p v) (s : Same H H') : PrAt H' p v := let ⟨q, e0, e1⟩ := t; ⟨q, e0, s _ _ e1⟩
theorem PrAt.but {h g : Addr} {H H' : Hp} {p : Nat × Nat} {v : V} (t : PrAt H p v) (b : But h H H') (a : HandAt H h g) : PrAt H' p v := let ⟨q, e0, e1⟩ := t; ⟨q, e0, by
  obtain ⟨_, _, _, _, e, _⟩ := a.five
  rw [b q (fun z => by rw [z, e] at e1; cases e1)]
  exact e1⟩
def natsV (ls : List Nat) : List V := ls.map fun (x : Nat) => V.int (x : Int)
def spPairing : Sp := fun vs H Q _ => ∃ (h g : Addr) (n : Nat), vs = [.ref h, .int (n : Int)] ∧ HandAt H h g ∧ n ≤ 12 ∧ ∀ (H' : Hp) (p : Addr) (us : List V) (ps : List (Nat × Nat)), Kp h H H' → HandAt H' h g → H' p = some (.tup us) → All2 (PrAt H') ps us → Prs n ps → Q (.ref p) H'
theorem ok_law_pairing (T : Top K mg A) : FnOk P w K mg base CX0 2 A.a_law_pairing A.d_law_pairing P_law_pairing spPairing := by
  refine T.F_law_pairing.ok sc_law_pairing (fun vs H Q E h => ?_) (fun cdv A' outer s H vs Q E hr h => ?_)
  · obtain ⟨h, g, n, rfl, _⟩ := h
    rfl
  · obtain ⟨h, g, n, rfl, ha, few, k⟩ := h
    refine ⟨_, (pss_cons (ps_par (by rfl) sc_law_pairing.nd (i := 2) (j := 3) rfl rfl (by decide) rfl rfl (pa_cons (pe_listRg rfl (by rfl) T.z_list (prg_1 (by rfl) T.z_range (pv 1))) (pa_cons (pe_lst pa_nil) pa_nil)) (by rfl))
    (pss_cons (ps_for PassesOwn.never rfl (pi_range1 rfl T.z_range (pa_cons (pv 1) pa_nil)) (pg_name (i := 4) sc_law_pairing.nd rfl (.inl rfl)) (pss_cons (ps_set (i := 5) sc_law_pairing.nd rfl (.inl rfl) (pe_bm PySem.F.plainAttrs_list PySem.F.slot_list_pop PySem.F.type_list_pop mt_popAt (pv 2) (pa_cons (pe_call (ok_law_draw T) (hr.mono (by decide)) (by rfl) T.g_law_draw T.F_law_draw.kp T.b_law_draw .nil pass0 (pa_cons (pv 0) (pa_cons (pe_callB call_len_seq (by rfl) T.z_len (by decide +kernel) (pa_cons (pv 2) pa_nil)) pa_nil))) pa_nil)))
    (pss_one (ps_if (pt_cmpR op_gt (pe_call (ok_law_draw T) (hr.mono (by decide)) (by rfl) T.g_law_draw T.F_law_draw.kp T.b_law_draw .nil pass0 (pa_cons (pv 0) (pa_cons pe_int pa_nil))) pe_int (nomark _)) (pss_one (ps_expr (pe_bm PySem.F.plainAttrs_list PySem.F.slot_list_append PySem.F.type_list_append mt_append (pv 3) (pa_cons (pe_tup (pa_cons (pv 4) (pa_cons (pv 5) pa_nil))) pa_nil)))) pss_nil))))
    (pss_one (ps_ret (pe_callTy call_tuple_of (by rfl) T.z_tuple (by decide +kernel) (pa_cons (pv 3) pa_nil)))))), ?_⟩
    refine ⟨_, rfl, n, rfl, by unfold RgOk; omega, fun L nL => ?_⟩
    have erg : rgV 0 (n : Int) = natsV (List.range n) := by
      unfold rgV natsV
      rw [show ((n : Int) - 0).toNat = n by omega]
      refine List.map_congr_left fun x _ => ?_
      show V.int (0 + (x : Int)) = _
      rw [Int.zero_add]
    rw [erg]
    obtain ⟨H1, eH, s1, e1⟩ := newH nL (o := .lst (natsV (List.range n)))
    rw [eH]
    refine ⟨(by show 0 ≤ sizeLine; decide), fun F nF => ?_⟩
    obtain ⟨H2, eH, s2, e2⟩ := newH nF (o := .lst [])
    rw [eH]
    have s02 := s1.trans s2
    have Lh := ha.ne_none nL
    have Fh := (ha.same s1).ne_none nF
    have LF : L ≠ F := fun z => by rw [← z, e1] at nF; cases nF
    have nF0 := s1.free nF
    have gL : g ≠ L := let ⟨_, e⟩ := ha.cells; ne_of_none e nL
    have gF : g ≠ F := let ⟨_, e⟩ := ha.cells; ne_of_none e nF0
    refine ⟨_, _, rfl, ?_⟩
    refine ⟨_, rfl, n, rfl, by omega, by omega, ?_⟩
    refine for_range (lo := 0) (n := (n : Int).toNat) (fun i σ H' => ∃ (y4 y5 : Option V) (ls : List Nat) (ps : List (Nat × Nat)) (us : List V), σ = [some (.ref h), some (.int (n : Int)), some (.ref L), some (.ref F), y4, y5] ∧ Kp h H H' ∧ HandAt H' h g ∧ H' L = some (.lst (natsV ls)) ∧ H' F = some (.lst us) ∧ All2 (PrAt H') ps us ∧
        ls.length + i = n ∧ ls.Nodup ∧ (∀ x ∈ ls, x < n) ∧ ps.Pairwise (fun p q => p.1 < q.1) ∧ (∀ p ∈ ps, p.1 < i ∧ p.2 < n ∧ p.2 ∉ ls) ∧ (ps.map (·.2)).Nodup ∧ ps.length ≤ i)
      ⟨none, none, List.range n, [], [], rfl, kp_of s02 h, ha.same s02, s2 _ _ e1, e2, .nil, by rw [List.length_range]; rfl, List.nodup_range, fun x hx => List.mem_range.mp hx, .nil, fun p hp => absurd hp List.not_mem_nil, List.nodup_nil, Nat.le_refl _⟩ ?_ ?_
    · rintro i σ H3 hi ⟨y4, y5, ls, ps, us, rfl, k3, a3, eL, eF, al, hlen, nd, lt, asc, pk, pnd, pl⟩
      have hi : i < n := by omega
      refine ⟨_, rfl, .inl ⟨rfl, _, SqL.of eL⟩, _, rfl, _, rfl, L, _, rfl, .inl (SqL.of eL), ?_⟩
      have ll : (natsV ls).length = ls.length := List.length_map _
      rw [ll]
      refine ⟨h, g, ls.length, rfl, a3, by omega, by omega, fun H4 d b4 a4 d0 d1 => ?_⟩
      obtain ⟨j, rfl⟩ : ∃ j : Nat, d = (j : Int) := ⟨d.toNat, by omega⟩
      have hj : j < ls.length := by omega
      have ex : ls[j]? = some ls[j] := List.getElem?_eq_getElem hj
      generalize ls[j] = x at ex
      obtain ⟨x1, x2, x3, x4⟩ := erase_nd nd ex
      have eL4 : H4 L = some (.lst (natsV ls)) := (b4 L Lh).trans eL
      have eF4 : H4 F = some (.lst us) := (b4 F Fh).trans eF
      have si : seqIndex? (j : Int) (natsV ls).length = some j := (ixN_seq (ixN_at (by rw [ll]; exact hj))).1
      refine ⟨L, _, j, j, .int (x : Int), rfl, rfl, eL4, by omega, by omega, si, map_at ex, ?_⟩
      rw [show (natsV ls).eraseIdx j = natsV (ls.eraseIdx j) from map_erase]
      have k4 : Kp h H (upd H4 L (.lst (natsV (ls.eraseIdx j)))) := fun q o hq e => by
        rw [upd_ne (ne_of_none e nL)]
        exact (k3.trans b4.kp) q o hq e
      obtain ⟨H5, eH5⟩ : ∃ H5, upd H4 L (.lst (natsV (ls.eraseIdx j))) = H5 := ⟨_, rfl⟩
      have a5 : HandAt H5 h g := by rw [← eH5]; exact a4.far Lh gL.symm
      have eL5 : H5 L = some (.lst (natsV (ls.eraseIdx j))) := by rw [← eH5]; exact upd_same
      have eF5 : H5 F = some (.lst us) := by rw [← eH5, upd_ne LF.symm]; exact eF4
      have al5 : All2 (PrAt H5) ps us := by rw [← eH5]; exact (al.imp fun _ _ t => t.but b4 a3).imp fun _ _ t => t.far eL4
      rw [eH5] at k4 ⊢
      refine ⟨_, rfl, h, g, 3, rfl, a5, by decide, by decide, fun H6 e b6 a6 _ _ => ?_⟩
      have eL6 := (b6 L Lh).trans eL5
      have eF6 := (b6 F Fh).trans eF5
      have al6 : All2 (PrAt H6) ps us := al5.imp fun _ _ t => t.but b6 a5
      have k6 := k4.trans b6.kp
      have xn : ∀ p ∈ ps, p.2 ≠ x := fun p hp z => (pk p hp).2.2 (by rw [z]; exact List.mem_of_getElem? ex)
      refine ⟨_, _, rfl, rfl, _, rfl, ite2 (fun c => ?_) (fun c => ?_)⟩
      · refine ⟨_, rfl, .inl ⟨rfl, _, SqL.of eF6⟩, _, rfl, _, rfl, (by show 2 ≤ sizeLine; decide), fun p np => ?_⟩
        obtain ⟨H7, eH, s7, e7⟩ := newH np (o := .tup [.int (0 + (i : Int)), .int (x : Int)])
        rw [eH]
        rw [Int.zero_add] at e7
        have lu := al.len
        refine ⟨F, us, .ref p, rfl, rfl, s7 _ _ eF6, by have z : sizeLine ≥ 1000000 := by decide
                                                        omega, ?_⟩
        refine ⟨_, _, ls.eraseIdx j, ps ++ [(i, x)], us ++ [.ref p], rfl, fun q o hq e => ?_, (a6.same s7).far Fh gF.symm, ?_, upd_same, ?_, by omega, x2, fun y hy => lt y (x3 y hy), ?_, ?_, ?_, by rw [List.length_append]; show ps.length + 1 ≤ i + 1; omega⟩
        · rw [upd_ne (ne_of_none e nF0)]
          exact s7 _ _ (k6 q o hq e)
        · rw [upd_ne LF]
          exact s7 _ _ eL6
        · exact ((al6.imp fun _ _ t => t.same s7).snoc ⟨p, rfl, e7⟩).imp fun _ _ t => t.far (s7 _ _ eF6)
        · rw [List.pairwise_append]
          refine ⟨asc, List.pairwise_singleton _ _, fun p hp q hq => ?_⟩
          rw [List.mem_singleton] at hq
          rw [hq]
          exact (pk p hp).1
        · intro p hp
          rcases List.mem_append.mp hp with z | z
          · obtain ⟨y1, y2, y3⟩ := pk p z
            exact ⟨by omega, y2, fun z => y3 (x3 _ z)⟩
          · rw [List.mem_singleton] at z
            rw [z]
            exact ⟨by show i < i + 1; omega, lt x (List.mem_of_getElem? ex), x1⟩
        · rw [List.map_append, List.nodup_append]
          refine ⟨pnd, by simp, fun a ha b hb => ?_⟩
          obtain ⟨p, hp, rfl⟩ := List.mem_map.mp ha
          rw [List.map_cons, List.map_nil, List.mem_singleton] at hb
          rw [hb]
          exact xn p hp
      · exact ⟨_, _, ls.eraseIdx j, ps, us, rfl, k6, a6, eL6, eF6, al6, by omega, x2, fun y hy => lt y (x3 y hy), asc, fun p hp => ⟨by have := (pk p hp).1; omega, (pk p hp).2.1, fun z => (pk p hp).2.2 (x3 _ z)⟩, pnd, by omega⟩
    · rintro σ H3 ⟨y4, y5, ls, ps, us, rfl, k3, a3, eL, eF, al, hlen, nd, lt, asc, pk, pnd, pl⟩
      refine ⟨_, rfl, F, us, rfl, .inl ⟨SqL.of eF, fun p np => ?_⟩⟩
      obtain ⟨H4, eH, s4, e4⟩ := newH np (o := .tup us)
      rw [eH]
      exact k H4 p us ps (k3.same s4) (a3.same s4) e4 (al.imp fun _ _ t => t.same s4) ⟨asc, pnd, fun p hp => ⟨by have := (pk p hp).1; omega, (pk p hp).2.1⟩, by omega⟩
end

theorem sh_take {B n : Nat} {es : List Td} (s : Sh B (.tup es)) : ∀ d ∈ es.take n, Sh B d := fun d hd => s.item (List.mem_of_mem_take hd)
theorem sh_drop {B n : Nat} {es : List Td} (s : Sh B (.tup es)) : ∀ d ∈ es.drop n, Sh B d := fun d hd => s.item (List.mem_of_mem_drop hd)
/-- one thing at a place exchanged -/
theorem sh_mid {B n : Nat} {es : List Td} {x : Td} (s : Sh B (.tup es)) (hx : Sh (B + 1) x) : Sh (B + 1) (.tup (es.take n ++ [x] ++ es.drop (n + 1))) := by
  have hl := s.len
  refine shAll (by simp only [List.length_append, List.length_take, List.length_drop, List.length_cons, List.length_nil]; omega) fun d hd => ?_
  rcases List.mem_append.mp hd with z | z
  · rcases List.mem_append.mp z with z | z
    · exact (sh_take s d z).mono (Nat.le_succ _)
    · rw [List.mem_singleton] at z
      rw [z]
      exact hx
  · exact (sh_drop s d z).mono (Nat.le_succ _)
theorem sh_out {B n : Nat} {es : List Td} (s : Sh B (.tup es)) : Sh (B + 1) (.tup (es.take n ++ es.drop (n + 1))) := by
  have hl := s.len
  refine shAll (by simp only [List.length_append, List.length_take, List.length_drop]; omega) fun d hd => ?_
  rcases List.mem_append.mp hd with z | z
  · exact (sh_take s d z).mono (Nat.le_succ _)
  · exact (sh_drop s d z).mono (Nat.le_succ _)
theorem sh_more {B : Nat} {es : List Td} {x : Td} (s : Sh B (.tup es)) (hx : Sh (B + 1) x) : Sh (B + 1) (.tup (es ++ [x])) := by
  have hl := s.len
  refine shAll (by simp only [List.length_append, List.length_cons, List.length_nil]; omega) fun d hd => ?_
  rcases List.mem_append.mp hd with z | z
  · exact (s.item z).mono (Nat.le_succ _)
  · rw [List.mem_singleton] at z
    rw [z]
    exact hx
theorem sh_rev {B : Nat} {es : List Td} (s : Sh B (.tup es)) : Sh (B + 1) (.tup es.reverse) := by
  have hl := s.len
  refine shAll (by rw [List.length_reverse]; omega) fun d hd => (s.item (List.mem_reverse.mp hd)).mono (Nat.le_succ _)
section
variable {P : Program} {w : World} {K : PySem.W.Frag} {mg : Str → Option Value} {base : Heap} {A : Adr}
theorem upd_keep {H H' : Hp} {p q : Addr} {o u : HO} {xs : List V} (e : upd H p o = H') (hp : H p = some (.lst xs)) (hq : H q = some u) (ne : u ≠ .lst xs) : H' q = some u := by
  rw [← e, upd_ne (fun z => by rw [z, hp] at hq; exact ne (Option.some.inj hq).symm)]
  exact hq
def spBB : Sp := fun vs H Q _ => ∃ (h g a : Addr) (n B : Nat) (es : List Td), vs = [.ref h, .int (n : Int), .ref a] ∧ HandAt H h g ∧ 1 ≤ n ∧ n ≤ 12 ∧ 2 ≤ B ∧ B ≤ 400 ∧ Is h H (.ref a) (.tup es) ∧ Sh B (.tup es) ∧ (∀ e ∈ es, tupN 2 e = true) ∧
  ∀ (H' : Hp) (v : V), Kp h H H' → HandAt H' h g → Gd (B + 1) h H' v → Q v H'
theorem ok_law_bent_beat (T : Top K mg A) : FnOk P w K mg base CX0 4 A.a_law_bent_beat A.d_law_bent_beat P_law_bent_beat spBB := by
  refine T.F_law_bent_beat.ok sc_law_bent_beat (fun vs H Q E h => ?_) (fun cdv A' outer s H vs Q E hr h => ?_)
  · obtain ⟨h, g, a, n, B, es, rfl, _⟩ := h
    rfl
  · obtain ⟨h, g, a, n, B, es, rfl, ha, n1, n2, B1, B2, it, sh, pr, k⟩ := h
    refine ⟨_, (pss_cons (ps_set (i := 3) sc_law_bent_beat.nd rfl (.inl rfl) (pe_call (ok_law_pick T) (hr.mono (by decide)) (by rfl) T.g_law_pick T.F_law_pick.kp T.b_law_pick .nil pass0 (pa_cons (pv 0) (pa_cons (pe_lst (pa_cons (pv 1) (pa_cons (pe_un un_neg pe_int) (pa_cons pe_bl (pa_cons pe_non (pa_cons pe_str (pa_cons (pe_call (ok_law_draw T) (hr.mono (by decide)) (by rfl) T.g_law_draw T.F_law_draw.kp T.b_law_draw .nil pass0 (pa_cons (pv 0) (pa_cons (pv 1) pa_nil))) (pa_cons (pe_call (ok_law_deep T) (hr.mono (by decide)) (by rfl) T.g_law_deep T.F_law_deep.kp T.b_law_deep .nil pass0 (pa_cons (pv 0) pa_nil)) pa_nil)))))))) pa_nil))))
    (pss_cons (ps_if (pt_cmpR op_eq (pe_callB call_len_seq (by rfl) T.z_len (by decide +kernel) (pa_cons (pv 2) pa_nil)) pe_int (nomark _)) (pss_one (ps_ret (pe_call (ok_law_pick T) (hr.mono (by decide)) (by rfl) T.g_law_pick T.F_law_pick.kp T.b_law_pick .nil pass0 (pa_cons (pv 0) (pa_cons (pe_lst (pa_cons (pe_tup (pa_cons (pe_tup (pa_cons pe_int (pa_cons pe_int pa_nil))) pa_nil)) (pa_cons (pe_tup (pa_cons (pe_tup (pa_cons pe_int (pa_cons (pv 3) pa_nil))) pa_nil)) (pa_cons pe_non (pa_cons (pe_lst pa_nil) (pa_cons (pe_tup pa_nil) pa_nil)))))) pa_nil))))) pss_nil)
    (pss_cons (ps_set (i := 4) sc_law_bent_beat.nd rfl (.inl rfl) (pe_call (ok_law_draw T) (hr.mono (by decide)) (by rfl) T.g_law_draw T.F_law_draw.kp T.b_law_draw .nil pass0 (pa_cons (pv 0) (pa_cons (pe_callB call_len_seq (by rfl) T.z_len (by decide +kernel) (pa_cons (pv 2) pa_nil)) pa_nil))))
    (pss_cons (ps_asg (pe_ix ix_tup (pv 2) (pv 4) (fun _ _ => rfl)) (pg_tup rfl (pgs_cons (pg_name (i := 5) sc_law_bent_beat.nd rfl (.inl rfl)) (pgs_cons (pg_name (i := 6) sc_law_bent_beat.nd rfl (.inl rfl)) pgs_nil))))
    (pss_cons (ps_set (i := 7) sc_law_bent_beat.nd rfl (.inl rfl) (pe_lst (pa_cons (pe_op op_catA (pe_slice sl_tupA (pv 2) po_none (po_some (pv 4))) (pe_slice sl_tupA (pv 2) (po_some (pe_op op_add (pv 4) pe_int)) po_none)) (pa_cons (pe_op op_catA (pv 2) (pe_tup (pa_cons (pe_ix ix_tup (pv 2) (pv 4) (fun _ _ => rfl)) pa_nil))) (pa_cons (GL.pe_revT (pv 2)) (pa_cons (pe_callTy call_list_of (by rfl) T.z_list (by decide +kernel) (pa_cons (pv 2) pa_nil)) pa_nil))))))
    (pss_cons (ps_expr (pe_bm PySem.F.plainAttrs_list PySem.F.slot_list_append PySem.F.type_list_append mt_append (pv 7) (pa_cons (pe_op op_catA (pe_op op_catA (pe_slice sl_tupA (pv 2) po_none (po_some (pv 4))) (pe_tup (pa_cons (pe_tup (pa_cons (pv 5) (pa_cons (pv 3) pa_nil))) pa_nil))) (pe_slice sl_tupA (pv 2) (po_some (pe_op op_add (pv 4) pe_int)) po_none)) pa_nil)))
    (pss_cons (ps_expr (pe_bm PySem.F.plainAttrs_list PySem.F.slot_list_append PySem.F.type_list_append mt_append (pv 7) (pa_cons (pe_op op_catA (pe_op op_catA (pe_slice sl_tupA (pv 2) po_none (po_some (pv 4))) (pe_tup (pa_cons (pe_tup (pa_cons (pv 3) (pa_cons (pv 6) pa_nil))) pa_nil))) (pe_slice sl_tupA (pv 2) (po_some (pe_op op_add (pv 4) pe_int)) po_none)) pa_nil)))
    (pss_one (ps_ret (pe_call (ok_law_pick T) (hr.mono (by decide)) (by rfl) T.g_law_pick T.F_law_pick.kp T.b_law_pick .nil pass0 (pa_cons (pv 0) (pa_cons (pe_op op_cat (pv 7) (pe_lst (pa_cons (pe_op op_catA (pe_op op_catA (pe_slice sl_tupA (pv 2) po_none (po_some (pv 4))) (pe_tup (pa_cons (pe_lst (pa_cons (pv 5) (pa_cons (pv 6) pa_nil))) pa_nil))) (pe_slice sl_tupA (pv 2) (po_some (pe_op op_add (pv 4) pe_int)) po_none)) (pa_cons (pe_ix ix_tup (pv 2) (pv 4) (fun _ _ => rfl)) (pa_cons pe_non pa_nil))))) pa_nil)))))))))))), ?_⟩
    unfold tNoPart
    refine ⟨_, rfl, _, rfl, 1, rfl, _, rfl, _, rfl, h, g, n, rfl, ha, by omega, by omega, fun G1 c b1 a1 _ _ => ?_⟩
    refine ⟨_, rfl, h, g, rfl, a1, fun G2 u k2 a2 g2 => ⟨(by show 7 ≤ sizeLine; decide), fun l nl => ?_⟩⟩
    obtain ⟨G3, eH, s3, e3⟩ := newH nl (o := .lst [.int (n : Int), .int (-1), .bl true, .non, .str "0", .int c, u])
    rw [show upd G2 l (.lst [.int (n : Int), (fun i => V.int (-i)) (1 : Int), .bl true, .non, .str "0", .int c, u]) = upd G2 l (.lst [.int (n : Int), .int (-1), .bl true, .non, .str "0", .int c, u]) from rfl, eH]
    have lh := a2.ne_none nl
    have a3 := a2.same s3
    refine ⟨h, g, l, _, rfl, a3, SqL.of e3, fun H' b => SqL.of (by rw [b l lh]; exact e3), by show 0 < 7; decide, by show 7 ≤ 100000; decide, fun B0 j od b4 ha hv => ?_⟩
    have k0 : Kp h H B0 := ((Kp.trans b1.kp k2).same s3).trans b4.kp
    have god : Gd 1 h B0 od := by
      have g3 : Gd 1 h G3 u := g2.same s3
      refine Gd.kp ?_ b4.kp a3
      have mv := List.mem_of_getElem? hv
      simp only [List.mem_cons, List.not_mem_nil, or_false] at mv
      rcases mv with e | e | e | e | e | e | e <;> subst e
      · exact ⟨_, .int _, .int _⟩
      · exact ⟨_, .int _, .int _⟩
      · exact ⟨_, .bl _, .bl _⟩
      · exact ⟨_, .non, .non⟩
      · exact ⟨_, .str _, .str _⟩
      · exact ⟨_, .int _, .int _⟩
      · exact g3
    have it := it.kp k0 ‹HandAt H h g›
    clear b1 a1 k2 a2 g2 nl eH s3 e3 lh a3 b4 hv
    obtain ⟨dod, iod, sod⟩ := god
    obtain ⟨a', xs, es', e0, ed, ea, il⟩ := isT_of it rfl
    cases e0
    cases ed
    have lx := il.len
    have lB := sh.len
    refine ⟨_, rfl, a, xs, rfl, .inr (SqT.of ea), rfl, _, rfl, ?_⟩
    rw [dec_int]
    by_cases c0 : xs.length = 0
    · rw [decide_eq_true (by omega)]
      refine iteT ?_
      have S : Same B0 B0 := fun _ _ e => e

      refine ⟨_, rfl, ?_⟩
      refine ⟨(by show 2 ≤ sizeLine; decide), fun p1 n1 => ?_⟩
      obtain ⟨G1, eH, s1, e1⟩ := newH n1 (o := .tup [.int 0, .int 0])
      rw [eH]
      have S := S.trans s1
      have ha := ha.same s1
      refine ⟨(by show 1 ≤ sizeLine; decide), fun p2 n2 => ?_⟩
      obtain ⟨G2, eH, s2, e2⟩ := newH n2 (o := .tup [.ref p1])
      rw [eH]
      have S := S.trans s2
      have ha := ha.same s2
      have e1 := s2 _ _ e1
      refine ⟨_, rfl, ?_⟩
      refine ⟨(by show 2 ≤ sizeLine; decide), fun p3 n3 => ?_⟩
      obtain ⟨G3, eH, s3, e3⟩ := newH n3 (o := .tup [.int 0, od])
      rw [eH]
      have S := S.trans s3
      have ha := ha.same s3
      have e1 := s3 _ _ e1
      have e2 := s3 _ _ e2
      refine ⟨(by show 1 ≤ sizeLine; decide), fun p4 n4 => ?_⟩
      obtain ⟨G4, eH, s4, e4⟩ := newH n4 (o := .tup [.ref p3])
      rw [eH]
      have S := S.trans s4
      have ha := ha.same s4
      have e1 := s4 _ _ e1
      have e2 := s4 _ _ e2
      have e3 := s4 _ _ e3
      have ha4 := ha
      refine ⟨(by show 0 ≤ sizeLine; decide), fun p5 n5 => ?_⟩
      obtain ⟨G5, eH, s5, e5⟩ := newH n5 (o := .lst [])
      rw [eH]
      have S := S.trans s5
      have ha := ha.same s5
      have e1 := s5 _ _ e1
      have e2 := s5 _ _ e2
      have e3 := s5 _ _ e3
      have e4 := s5 _ _ e4
      refine ⟨(by show 0 ≤ sizeLine; decide), fun p6 n6 => ?_⟩
      obtain ⟨G6, eH, s6, e6⟩ := newH n6 (o := .tup [])
      rw [eH]
      have S := S.trans s6
      have ha := ha.same s6
      have e1 := s6 _ _ e1
      have e2 := s6 _ _ e2
      have e3 := s6 _ _ e3
      have e4 := s6 _ _ e4
      have e5 := s6 _ _ e5
      have ha6 := ha
      refine ⟨(by show 5 ≤ sizeLine; decide), fun p7 n7 => ?_⟩
      obtain ⟨G7, eH, s7, e7⟩ := newH n7 (o := .lst [.ref p2, .ref p4, .non, .ref p5, .ref p6])
      rw [eH]
      have S := S.trans s7
      have ha := ha.same s7
      have e1 := s7 _ _ e1
      have e2 := s7 _ _ e2
      have e3 := s7 _ _ e3
      have e4 := s7 _ _ e4
      have e5 := s7 _ _ e5
      have e6 := s7 _ _ e6
      have lh := (show HandAt _ h g from ha6).ne_none n7
      refine ⟨h, g, p7, _, rfl, ha, SqL.of e7, fun H' b => SqL.of (by rw [b p7 lh]; exact e7), by show 0 < 5; decide, by show 5 ≤ 100000; decide, fun H2 j v b2 h2 hv => ?_⟩
      refine k H2 v ((k0.same S).trans b2.kp) h2 (Gd.kp ?_ b2.kp ha)
      have mv := List.mem_of_getElem? hv
      simp only [List.mem_cons, List.not_mem_nil, or_false] at mv
      rcases mv with e | e | e | e | e <;> subst e
      · exact ⟨.tup [.tup [.int 0, .int 0]], .tup e2 (.cons (.tup e1 (.cons (.int 0) (.cons (.int 0) .nil))) .nil), (Sh.two (by omega) (.int 0) (.int 0)).one (by omega)⟩
      · exact ⟨.tup [.tup [.int 0, dod]], .tup e4 (.cons (.tup e3 (.cons (.int 0) (.cons (iod.same S) .nil))) .nil), (Sh.two (by omega) (.int 0) (sod.mono (by omega))).one (by omega)⟩
      · exact ⟨.non, .non, .non⟩
      · exact ⟨.oth, .lst e5 (ha4.ne_none n5), .oth⟩
      · exact ⟨.tup [], .tup e6 .nil, Sh.nil⟩
    · rw [decide_eq_false (by omega)]
      refine iteF ?_
      refine ⟨_, rfl, _, rfl, a, xs, rfl, .inr (SqT.of ea), h, g, (xs.length : Int), rfl, ha, by omega, by omega, fun C0 d b5 ha5 d0 d1 => ?_⟩
      have k0 := k0.trans b5.kp
      have il := il.kp b5.kp ha
      have iod := iod.kp b5.kp ha
      have ea : C0 a = some (.tup xs) := by
        obtain ⟨_, _, _, _, e, _⟩ := ha.five
        rw [b5 a (fun z => by rw [z, e] at ea; cases ea)]
        exact ea
      have ha := ha5
      clear b5 ha5
      obtain ⟨d, rfl⟩ : ∃ m : Nat, d = (m : Int) := ⟨d.toNat, by omega⟩
      have hd : d < xs.length := by omega
      obtain ⟨v, hv⟩ : ∃ v, xs[d]? = some v := ⟨_, List.getElem?_eq_getElem hd⟩
      obtain ⟨e, he, ie⟩ := il.get hv
      have hem := List.mem_of_getElem? he
      obtain ⟨b, u1, u2, d1, d2, rfl, rfl, eb, i1, i2⟩ := two ie (pr e hem)
      refine ⟨_, rfl, _, rfl, a, _, d, _, rfl, rfl, SqT.of ea, atI_nat hv, b, _, rfl, SqT.of eb, rfl, _, _, rfl, _, _, rfl, rfl, ?_⟩
      have S : Same C0 C0 := fun _ _ e => e
      have hto : cutV xs none (some (d : Int)) = xs.take d := cut_to (by omega)
      have hfrom : cutV xs (some ((d : Int) + 1)) none = xs.drop (d + 1) := by
        rw [show (d : Int) + 1 = ((d + 1 : Nat) : Int) by omega]
        exact cut_from (by omega)
      have sd := sh.item hem
      have s1' : Sh (B + 1) d1 := (sd.item List.mem_cons_self).mono (Nat.le_succ _)
      have s2' : Sh (B + 1) d2 := (sd.item (List.mem_cons_of_mem _ List.mem_cons_self)).mono (Nat.le_succ _)
      have sod' : Sh (B + 1) dod := sod.mono (by omega)

      refine ⟨_, rfl, _, rfl, _, rfl, ?_⟩
      refine sl_at ea fun G1 p1 s1 e1 => ?_
      have e1 : G1 p1 = some (.tup (xs.take d)) := by
        have z := e1
        first | exact (hto ▸ z) | exact (hfrom ▸ z)
      have S := S.trans s1
      have ha := ha.same s1
      have ea := s1 _ _ ea
      have eb := s1 _ _ eb
      refine ⟨_, rfl, _, rfl, _, _, rfl, rfl, _, rfl, ?_⟩
      refine sl_at ea fun G2 p2 s2 e2 => ?_
      have e2 : G2 p2 = some (.tup (xs.drop (d + 1))) := by
        have z := e2
        first | exact (hto ▸ z) | exact (hfrom ▸ z)
      have S := S.trans s2
      have ha := ha.same s2
      have ea := s2 _ _ ea
      have eb := s2 _ _ eb
      have e1 := s2 _ _ e1
      refine cat_at e1 e2 (by simp only [List.length_append, List.length_take, List.length_drop, List.length_cons, List.length_nil]; omega) fun G3 p3 s3 e3 => ?_
      have S := S.trans s3
      have ha := ha.same s3
      have ea := s3 _ _ ea
      have eb := s3 _ _ eb
      have e1 := s3 _ _ e1
      have e2 := s3 _ _ e2
      refine ⟨_, rfl, _, rfl, _, rfl, a, _, d, _, rfl, rfl, SqT.of ea, atI_nat hv, ?_⟩
      refine ⟨(by show 1 ≤ sizeLine; decide), fun p4 n4 => ?_⟩
      obtain ⟨G4, eH, s4, e4⟩ := newH n4 (o := .tup [.ref b])
      rw [eH]
      have S := S.trans s4
      have ha := ha.same s4
      have ea := s4 _ _ ea
      have eb := s4 _ _ eb
      have e1 := s4 _ _ e1
      have e2 := s4 _ _ e2
      have e3 := s4 _ _ e3
      refine cat_at ea e4 (by simp only [List.length_append, List.length_take, List.length_drop, List.length_cons, List.length_nil]; omega) fun G5 p5 s5 e5 => ?_
      have S := S.trans s5
      have ha := ha.same s5
      have ea := s5 _ _ ea
      have eb := s5 _ _ eb
      have e1 := s5 _ _ e1
      have e2 := s5 _ _ e2
      have e3 := s5 _ _ e3
      have e4 := s5 _ _ e4
      refine ⟨_, rfl, a, xs, rfl, SqT.of ea, fun p6 n6 => ?_⟩
      obtain ⟨G6, eH, s6, e6⟩ := newH n6 (o := .tup xs.reverse)
      rw [eH]
      have S := S.trans s6
      have ha := ha.same s6
      have ea := s6 _ _ ea
      have eb := s6 _ _ eb
      have e1 := s6 _ _ e1
      have e2 := s6 _ _ e2
      have e3 := s6 _ _ e3
      have e4 := s6 _ _ e4
      have e5 := s6 _ _ e5
      have haL := ha
      refine ⟨_, rfl, a, xs, rfl, .inr (SqT.of ea), fun p7 n7 => ?_⟩
      obtain ⟨G7, eH, s7, e7⟩ := newH n7 (o := .lst xs)
      rw [eH]
      have q4h := haL.ne_none n7
      have S := S.trans s7
      have ha := ha.same s7
      have ea := s7 _ _ ea
      have eb := s7 _ _ eb
      have e1 := s7 _ _ e1
      have e2 := s7 _ _ e2
      have e3 := s7 _ _ e3
      have e4 := s7 _ _ e4
      have e5 := s7 _ _ e5
      have e6 := s7 _ _ e6
      have e70 := e7
      have haS := ha
      have SS := S
      refine ⟨(by show 4 ≤ sizeLine; decide), fun p8 n8 => ?_⟩
      obtain ⟨G8, eH, s8, e8⟩ := newH n8 (o := .lst [.ref p3, .ref p5, .ref p6, .ref p7])
      rw [eH]
      have S := S.trans s8
      have ha := ha.same s8
      have ea := s8 _ _ ea
      have eb := s8 _ _ eb
      have e1 := s8 _ _ e1
      have e2 := s8 _ _ e2
      have e3 := s8 _ _ e3
      have e4 := s8 _ _ e4
      have e5 := s8 _ _ e5
      have e6 := s8 _ _ e6
      have e7 := s8 _ _ e7
      have Lh := haS.ne_none n8
      have Lg : p8 ≠ g := fun z => by
        obtain ⟨ns, eg⟩ := haS.cells
        rw [← z, n8] at eg
        cases eg
      have nL0 := SS.free n8
      refine ⟨_, rfl, .inl ⟨rfl, _, SqL.of e8⟩, ?_⟩
      refine ⟨_, rfl, _, rfl, _, rfl, ?_⟩
      refine sl_at ea fun G9 p9 s9 e9 => ?_
      have e9 : G9 p9 = some (.tup (xs.take d)) := by
        have z := e9
        first | exact (hto ▸ z) | exact (hfrom ▸ z)
      have S := S.trans s9
      have ha := ha.same s9
      have ea := s9 _ _ ea
      have eb := s9 _ _ eb
      have e1 := s9 _ _ e1
      have e2 := s9 _ _ e2
      have e3 := s9 _ _ e3
      have e4 := s9 _ _ e4
      have e5 := s9 _ _ e5
      have e6 := s9 _ _ e6
      have e7 := s9 _ _ e7
      have e8 := s9 _ _ e8
      refine ⟨_, rfl, _, rfl, ?_⟩
      refine ⟨(by show 2 ≤ sizeLine; decide), fun p10 n10 => ?_⟩
      obtain ⟨G10, eH, s10, e10⟩ := newH n10 (o := .tup [u1, od])
      rw [eH]
      have S := S.trans s10
      have ha := ha.same s10
      have ea := s10 _ _ ea
      have eb := s10 _ _ eb
      have e1 := s10 _ _ e1
      have e2 := s10 _ _ e2
      have e3 := s10 _ _ e3
      have e4 := s10 _ _ e4
      have e5 := s10 _ _ e5
      have e6 := s10 _ _ e6
      have e7 := s10 _ _ e7
      have e8 := s10 _ _ e8
      have e9 := s10 _ _ e9
      refine ⟨(by show 1 ≤ sizeLine; decide), fun p11 n11 => ?_⟩
      obtain ⟨G11, eH, s11, e11⟩ := newH n11 (o := .tup [.ref p10])
      rw [eH]
      have S := S.trans s11
      have ha := ha.same s11
      have ea := s11 _ _ ea
      have eb := s11 _ _ eb
      have e1 := s11 _ _ e1
      have e2 := s11 _ _ e2
      have e3 := s11 _ _ e3
      have e4 := s11 _ _ e4
      have e5 := s11 _ _ e5
      have e6 := s11 _ _ e6
      have e7 := s11 _ _ e7
      have e8 := s11 _ _ e8
      have e9 := s11 _ _ e9
      have e10 := s11 _ _ e10
      refine cat_at e9 e11 (by simp only [List.length_append, List.length_take, List.length_drop, List.length_cons, List.length_nil]; omega) fun G12 p12 s12 e12 => ?_
      have S := S.trans s12
      have ha := ha.same s12
      have ea := s12 _ _ ea
      have eb := s12 _ _ eb
      have e1 := s12 _ _ e1
      have e2 := s12 _ _ e2
      have e3 := s12 _ _ e3
      have e4 := s12 _ _ e4
      have e5 := s12 _ _ e5
      have e6 := s12 _ _ e6
      have e7 := s12 _ _ e7
      have e8 := s12 _ _ e8
      have e9 := s12 _ _ e9
      have e10 := s12 _ _ e10
      have e11 := s12 _ _ e11
      refine ⟨_, rfl, _, rfl, _, _, rfl, rfl, _, rfl, ?_⟩
      refine sl_at ea fun G13 p13 s13 e13 => ?_
      have e13 : G13 p13 = some (.tup (xs.drop (d + 1))) := by
        have z := e13
        first | exact (hto ▸ z) | exact (hfrom ▸ z)
      have S := S.trans s13
      have ha := ha.same s13
      have ea := s13 _ _ ea
      have eb := s13 _ _ eb
      have e1 := s13 _ _ e1
      have e2 := s13 _ _ e2
      have e3 := s13 _ _ e3
      have e4 := s13 _ _ e4
      have e5 := s13 _ _ e5
      have e6 := s13 _ _ e6
      have e7 := s13 _ _ e7
      have e8 := s13 _ _ e8
      have e9 := s13 _ _ e9
      have e10 := s13 _ _ e10
      have e11 := s13 _ _ e11
      have e12 := s13 _ _ e12
      refine cat_at e12 e13 (by simp only [List.length_append, List.length_take, List.length_drop, List.length_cons, List.length_nil]; omega) fun G14 p14 s14 e14 => ?_
      have S := S.trans s14
      have ha := ha.same s14
      have ea := s14 _ _ ea
      have eb := s14 _ _ eb
      have e1 := s14 _ _ e1
      have e2 := s14 _ _ e2
      have e3 := s14 _ _ e3
      have e4 := s14 _ _ e4
      have e5 := s14 _ _ e5
      have e6 := s14 _ _ e6
      have e7 := s14 _ _ e7
      have e8 := s14 _ _ e8
      have e9 := s14 _ _ e9
      have e10 := s14 _ _ e10
      have e11 := s14 _ _ e11
      have e12 := s14 _ _ e12
      have e13 := s14 _ _ e13
      refine ⟨p8, _, _, rfl, rfl, e8, (by show 4 < sizeLine; decide), ?_⟩
      obtain ⟨G15, eM⟩ : ∃ G, upd G14 p8 (.lst [.ref p3, .ref p5, .ref p6, .ref p7, .ref p14]) = G := ⟨_, rfl⟩
      have S : Same C0 G15 := by
        rw [← eM]
        exact same_to S nL0
      have ha : HandAt G15 h g := by
        rw [← eM]
        exact ha.far Lh Lg
      have ea := upd_keep eM e8 ea (by intro z; cases z)
      have eb := upd_keep eM e8 eb (by intro z; cases z)
      have e1 := upd_keep eM e8 e1 (by intro z; cases z)
      have e2 := upd_keep eM e8 e2 (by intro z; cases z)
      have e3 := upd_keep eM e8 e3 (by intro z; cases z)
      have e4 := upd_keep eM e8 e4 (by intro z; cases z)
      have e5 := upd_keep eM e8 e5 (by intro z; cases z)
      have e6 := upd_keep eM e8 e6 (by intro z; cases z)
      have e7 : G15 p7 = some (.lst xs) := by
        rw [← eM, upd_ne (ne_of_none e70 n8)]
        exact e7
      have e9 := upd_keep eM e8 e9 (by intro z; cases z)
      have e10 := upd_keep eM e8 e10 (by intro z; cases z)
      have e11 := upd_keep eM e8 e11 (by intro z; cases z)
      have e12 := upd_keep eM e8 e12 (by intro z; cases z)
      have e13 := upd_keep eM e8 e13 (by intro z; cases z)
      have e14 := upd_keep eM e8 e14 (by intro z; cases z)
      have e8 : G15 p8 = some (.lst [.ref p3, .ref p5, .ref p6, .ref p7, .ref p14]) := by
        rw [← eM]
        exact upd_same
      rw [show upd G14 p8 (.lst ([.ref p3, .ref p5, .ref p6, .ref p7] ++ [.ref p14])) = G15 from eM]
      clear eM
      refine ⟨_, rfl, .inl ⟨rfl, _, SqL.of e8⟩, ?_⟩
      refine ⟨_, rfl, _, rfl, _, rfl, ?_⟩
      refine sl_at ea fun G16 p16 s16 e16 => ?_
      have e16 : G16 p16 = some (.tup (xs.take d)) := by
        have z := e16
        first | exact (hto ▸ z) | exact (hfrom ▸ z)
      have S := S.trans s16
      have ha := ha.same s16
      have ea := s16 _ _ ea
      have eb := s16 _ _ eb
      have e1 := s16 _ _ e1
      have e2 := s16 _ _ e2
      have e3 := s16 _ _ e3
      have e4 := s16 _ _ e4
      have e5 := s16 _ _ e5
      have e6 := s16 _ _ e6
      have e7 := s16 _ _ e7
      have e8 := s16 _ _ e8
      have e9 := s16 _ _ e9
      have e10 := s16 _ _ e10
      have e11 := s16 _ _ e11
      have e12 := s16 _ _ e12
      have e13 := s16 _ _ e13
      have e14 := s16 _ _ e14
      refine ⟨_, rfl, _, rfl, ?_⟩
      refine ⟨(by show 2 ≤ sizeLine; decide), fun p17 n17 => ?_⟩
      obtain ⟨G17, eH, s17, e17⟩ := newH n17 (o := .tup [od, u2])
      rw [eH]
      have S := S.trans s17
      have ha := ha.same s17
      have ea := s17 _ _ ea
      have eb := s17 _ _ eb
      have e1 := s17 _ _ e1
      have e2 := s17 _ _ e2
      have e3 := s17 _ _ e3
      have e4 := s17 _ _ e4
      have e5 := s17 _ _ e5
      have e6 := s17 _ _ e6
      have e7 := s17 _ _ e7
      have e8 := s17 _ _ e8
      have e9 := s17 _ _ e9
      have e10 := s17 _ _ e10
      have e11 := s17 _ _ e11
      have e12 := s17 _ _ e12
      have e13 := s17 _ _ e13
      have e14 := s17 _ _ e14
      have e16 := s17 _ _ e16
      refine ⟨(by show 1 ≤ sizeLine; decide), fun p18 n18 => ?_⟩
      obtain ⟨G18, eH, s18, e18⟩ := newH n18 (o := .tup [.ref p17])
      rw [eH]
      have S := S.trans s18
      have ha := ha.same s18
      have ea := s18 _ _ ea
      have eb := s18 _ _ eb
      have e1 := s18 _ _ e1
      have e2 := s18 _ _ e2
      have e3 := s18 _ _ e3
      have e4 := s18 _ _ e4
      have e5 := s18 _ _ e5
      have e6 := s18 _ _ e6
      have e7 := s18 _ _ e7
      have e8 := s18 _ _ e8
      have e9 := s18 _ _ e9
      have e10 := s18 _ _ e10
      have e11 := s18 _ _ e11
      have e12 := s18 _ _ e12
      have e13 := s18 _ _ e13
      have e14 := s18 _ _ e14
      have e16 := s18 _ _ e16
      have e17 := s18 _ _ e17
      refine cat_at e16 e18 (by simp only [List.length_append, List.length_take, List.length_drop, List.length_cons, List.length_nil]; omega) fun G19 p19 s19 e19 => ?_
      have S := S.trans s19
      have ha := ha.same s19
      have ea := s19 _ _ ea
      have eb := s19 _ _ eb
      have e1 := s19 _ _ e1
      have e2 := s19 _ _ e2
      have e3 := s19 _ _ e3
      have e4 := s19 _ _ e4
      have e5 := s19 _ _ e5
      have e6 := s19 _ _ e6
      have e7 := s19 _ _ e7
      have e8 := s19 _ _ e8
      have e9 := s19 _ _ e9
      have e10 := s19 _ _ e10
      have e11 := s19 _ _ e11
      have e12 := s19 _ _ e12
      have e13 := s19 _ _ e13
      have e14 := s19 _ _ e14
      have e16 := s19 _ _ e16
      have e17 := s19 _ _ e17
      have e18 := s19 _ _ e18
      refine ⟨_, rfl, _, rfl, _, _, rfl, rfl, _, rfl, ?_⟩
      refine sl_at ea fun G20 p20 s20 e20 => ?_
      have e20 : G20 p20 = some (.tup (xs.drop (d + 1))) := by
        have z := e20
        first | exact (hto ▸ z) | exact (hfrom ▸ z)
      have S := S.trans s20
      have ha := ha.same s20
      have ea := s20 _ _ ea
      have eb := s20 _ _ eb
      have e1 := s20 _ _ e1
      have e2 := s20 _ _ e2
      have e3 := s20 _ _ e3
      have e4 := s20 _ _ e4
      have e5 := s20 _ _ e5
      have e6 := s20 _ _ e6
      have e7 := s20 _ _ e7
      have e8 := s20 _ _ e8
      have e9 := s20 _ _ e9
      have e10 := s20 _ _ e10
      have e11 := s20 _ _ e11
      have e12 := s20 _ _ e12
      have e13 := s20 _ _ e13
      have e14 := s20 _ _ e14
      have e16 := s20 _ _ e16
      have e17 := s20 _ _ e17
      have e18 := s20 _ _ e18
      have e19 := s20 _ _ e19
      refine cat_at e19 e20 (by simp only [List.length_append, List.length_take, List.length_drop, List.length_cons, List.length_nil]; omega) fun G21 p21 s21 e21 => ?_
      have S := S.trans s21
      have ha := ha.same s21
      have ea := s21 _ _ ea
      have eb := s21 _ _ eb
      have e1 := s21 _ _ e1
      have e2 := s21 _ _ e2
      have e3 := s21 _ _ e3
      have e4 := s21 _ _ e4
      have e5 := s21 _ _ e5
      have e6 := s21 _ _ e6
      have e7 := s21 _ _ e7
      have e8 := s21 _ _ e8
      have e9 := s21 _ _ e9
      have e10 := s21 _ _ e10
      have e11 := s21 _ _ e11
      have e12 := s21 _ _ e12
      have e13 := s21 _ _ e13
      have e14 := s21 _ _ e14
      have e16 := s21 _ _ e16
      have e17 := s21 _ _ e17
      have e18 := s21 _ _ e18
      have e19 := s21 _ _ e19
      have e20 := s21 _ _ e20
      refine ⟨p8, _, _, rfl, rfl, e8, (by show 5 < sizeLine; decide), ?_⟩
      obtain ⟨G22, eM⟩ : ∃ G, upd G21 p8 (.lst [.ref p3, .ref p5, .ref p6, .ref p7, .ref p14, .ref p21]) = G := ⟨_, rfl⟩
      have S : Same C0 G22 := by
        rw [← eM]
        exact same_to S nL0
      have ha : HandAt G22 h g := by
        rw [← eM]
        exact ha.far Lh Lg
      have ea := upd_keep eM e8 ea (by intro z; cases z)
      have eb := upd_keep eM e8 eb (by intro z; cases z)
      have e1 := upd_keep eM e8 e1 (by intro z; cases z)
      have e2 := upd_keep eM e8 e2 (by intro z; cases z)
      have e3 := upd_keep eM e8 e3 (by intro z; cases z)
      have e4 := upd_keep eM e8 e4 (by intro z; cases z)
      have e5 := upd_keep eM e8 e5 (by intro z; cases z)
      have e6 := upd_keep eM e8 e6 (by intro z; cases z)
      have e7 : G22 p7 = some (.lst xs) := by
        rw [← eM, upd_ne (ne_of_none e70 n8)]
        exact e7
      have e9 := upd_keep eM e8 e9 (by intro z; cases z)
      have e10 := upd_keep eM e8 e10 (by intro z; cases z)
      have e11 := upd_keep eM e8 e11 (by intro z; cases z)
      have e12 := upd_keep eM e8 e12 (by intro z; cases z)
      have e13 := upd_keep eM e8 e13 (by intro z; cases z)
      have e14 := upd_keep eM e8 e14 (by intro z; cases z)
      have e16 := upd_keep eM e8 e16 (by intro z; cases z)
      have e17 := upd_keep eM e8 e17 (by intro z; cases z)
      have e18 := upd_keep eM e8 e18 (by intro z; cases z)
      have e19 := upd_keep eM e8 e19 (by intro z; cases z)
      have e20 := upd_keep eM e8 e20 (by intro z; cases z)
      have e21 := upd_keep eM e8 e21 (by intro z; cases z)
      have e8 : G22 p8 = some (.lst [.ref p3, .ref p5, .ref p6, .ref p7, .ref p14, .ref p21]) := by
        rw [← eM]
        exact upd_same
      rw [show upd G21 p8 (.lst ([.ref p3, .ref p5, .ref p6, .ref p7, .ref p14] ++ [.ref p21])) = G22 from eM]
      clear eM
      refine ⟨_, rfl, _, rfl, ?_⟩
      refine ⟨_, rfl, _, rfl, _, rfl, ?_⟩
      refine sl_at ea fun G23 p23 s23 e23 => ?_
      have e23 : G23 p23 = some (.tup (xs.take d)) := by
        have z := e23
        first | exact (hto ▸ z) | exact (hfrom ▸ z)
      have S := S.trans s23
      have ha := ha.same s23
      have ea := s23 _ _ ea
      have eb := s23 _ _ eb
      have e1 := s23 _ _ e1
      have e2 := s23 _ _ e2
      have e3 := s23 _ _ e3
      have e4 := s23 _ _ e4
      have e5 := s23 _ _ e5
      have e6 := s23 _ _ e6
      have e7 := s23 _ _ e7
      have e8 := s23 _ _ e8
      have e9 := s23 _ _ e9
      have e10 := s23 _ _ e10
      have e11 := s23 _ _ e11
      have e12 := s23 _ _ e12
      have e13 := s23 _ _ e13
      have e14 := s23 _ _ e14
      have e16 := s23 _ _ e16
      have e17 := s23 _ _ e17
      have e18 := s23 _ _ e18
      have e19 := s23 _ _ e19
      have e20 := s23 _ _ e20
      have e21 := s23 _ _ e21
      refine ⟨_, rfl, _, rfl, ?_⟩
      have haP := ha
      refine ⟨(by show 2 ≤ sizeLine; decide), fun p24 n24 => ?_⟩
      obtain ⟨G24, eH, s24, e24⟩ := newH n24 (o := .lst [u1, u2])
      rw [eH]
      have S := S.trans s24
      have ha := ha.same s24
      have ea := s24 _ _ ea
      have eb := s24 _ _ eb
      have e1 := s24 _ _ e1
      have e2 := s24 _ _ e2
      have e3 := s24 _ _ e3
      have e4 := s24 _ _ e4
      have e5 := s24 _ _ e5
      have e6 := s24 _ _ e6
      have e7 := s24 _ _ e7
      have e8 := s24 _ _ e8
      have e9 := s24 _ _ e9
      have e10 := s24 _ _ e10
      have e11 := s24 _ _ e11
      have e12 := s24 _ _ e12
      have e13 := s24 _ _ e13
      have e14 := s24 _ _ e14
      have e16 := s24 _ _ e16
      have e17 := s24 _ _ e17
      have e18 := s24 _ _ e18
      have e19 := s24 _ _ e19
      have e20 := s24 _ _ e20
      have e21 := s24 _ _ e21
      have e23 := s24 _ _ e23
      have i3h := haP.ne_none n24
      refine ⟨(by show 1 ≤ sizeLine; decide), fun p25 n25 => ?_⟩
      obtain ⟨G25, eH, s25, e25⟩ := newH n25 (o := .tup [.ref p24])
      rw [eH]
      have S := S.trans s25
      have ha := ha.same s25
      have ea := s25 _ _ ea
      have eb := s25 _ _ eb
      have e1 := s25 _ _ e1
      have e2 := s25 _ _ e2
      have e3 := s25 _ _ e3
      have e4 := s25 _ _ e4
      have e5 := s25 _ _ e5
      have e6 := s25 _ _ e6
      have e7 := s25 _ _ e7
      have e8 := s25 _ _ e8
      have e9 := s25 _ _ e9
      have e10 := s25 _ _ e10
      have e11 := s25 _ _ e11
      have e12 := s25 _ _ e12
      have e13 := s25 _ _ e13
      have e14 := s25 _ _ e14
      have e16 := s25 _ _ e16
      have e17 := s25 _ _ e17
      have e18 := s25 _ _ e18
      have e19 := s25 _ _ e19
      have e20 := s25 _ _ e20
      have e21 := s25 _ _ e21
      have e23 := s25 _ _ e23
      have e24 := s25 _ _ e24
      refine cat_at e23 e25 (by simp only [List.length_append, List.length_take, List.length_drop, List.length_cons, List.length_nil]; omega) fun G26 p26 s26 e26 => ?_
      have S := S.trans s26
      have ha := ha.same s26
      have ea := s26 _ _ ea
      have eb := s26 _ _ eb
      have e1 := s26 _ _ e1
      have e2 := s26 _ _ e2
      have e3 := s26 _ _ e3
      have e4 := s26 _ _ e4
      have e5 := s26 _ _ e5
      have e6 := s26 _ _ e6
      have e7 := s26 _ _ e7
      have e8 := s26 _ _ e8
      have e9 := s26 _ _ e9
      have e10 := s26 _ _ e10
      have e11 := s26 _ _ e11
      have e12 := s26 _ _ e12
      have e13 := s26 _ _ e13
      have e14 := s26 _ _ e14
      have e16 := s26 _ _ e16
      have e17 := s26 _ _ e17
      have e18 := s26 _ _ e18
      have e19 := s26 _ _ e19
      have e20 := s26 _ _ e20
      have e21 := s26 _ _ e21
      have e23 := s26 _ _ e23
      have e24 := s26 _ _ e24
      have e25 := s26 _ _ e25
      refine ⟨_, rfl, _, rfl, _, _, rfl, rfl, _, rfl, ?_⟩
      refine sl_at ea fun G27 p27 s27 e27 => ?_
      have e27 : G27 p27 = some (.tup (xs.drop (d + 1))) := by
        have z := e27
        first | exact (hto ▸ z) | exact (hfrom ▸ z)
      have S := S.trans s27
      have ha := ha.same s27
      have ea := s27 _ _ ea
      have eb := s27 _ _ eb
      have e1 := s27 _ _ e1
      have e2 := s27 _ _ e2
      have e3 := s27 _ _ e3
      have e4 := s27 _ _ e4
      have e5 := s27 _ _ e5
      have e6 := s27 _ _ e6
      have e7 := s27 _ _ e7
      have e8 := s27 _ _ e8
      have e9 := s27 _ _ e9
      have e10 := s27 _ _ e10
      have e11 := s27 _ _ e11
      have e12 := s27 _ _ e12
      have e13 := s27 _ _ e13
      have e14 := s27 _ _ e14
      have e16 := s27 _ _ e16
      have e17 := s27 _ _ e17
      have e18 := s27 _ _ e18
      have e19 := s27 _ _ e19
      have e20 := s27 _ _ e20
      have e21 := s27 _ _ e21
      have e23 := s27 _ _ e23
      have e24 := s27 _ _ e24
      have e25 := s27 _ _ e25
      have e26 := s27 _ _ e26
      refine cat_at e26 e27 (by simp only [List.length_append, List.length_take, List.length_drop, List.length_cons, List.length_nil]; omega) fun G28 p28 s28 e28 => ?_
      have S := S.trans s28
      have ha := ha.same s28
      have ea := s28 _ _ ea
      have eb := s28 _ _ eb
      have e1 := s28 _ _ e1
      have e2 := s28 _ _ e2
      have e3 := s28 _ _ e3
      have e4 := s28 _ _ e4
      have e5 := s28 _ _ e5
      have e6 := s28 _ _ e6
      have e7 := s28 _ _ e7
      have e8 := s28 _ _ e8
      have e9 := s28 _ _ e9
      have e10 := s28 _ _ e10
      have e11 := s28 _ _ e11
      have e12 := s28 _ _ e12
      have e13 := s28 _ _ e13
      have e14 := s28 _ _ e14
      have e16 := s28 _ _ e16
      have e17 := s28 _ _ e17
      have e18 := s28 _ _ e18
      have e19 := s28 _ _ e19
      have e20 := s28 _ _ e20
      have e21 := s28 _ _ e21
      have e23 := s28 _ _ e23
      have e24 := s28 _ _ e24
      have e25 := s28 _ _ e25
      have e26 := s28 _ _ e26
      have e27 := s28 _ _ e27
      refine ⟨_, rfl, _, rfl, a, _, d, _, rfl, rfl, SqT.of ea, atI_nat hv, ?_⟩
      refine ⟨(by show 3 ≤ sizeLine; decide), fun p29 n29 => ?_⟩
      obtain ⟨G29, eH, s29, e29⟩ := newH n29 (o := .lst [.ref p28, .ref b, .non])
      rw [eH]
      have S := S.trans s29
      have ha := ha.same s29
      have ea := s29 _ _ ea
      have eb := s29 _ _ eb
      have e1 := s29 _ _ e1
      have e2 := s29 _ _ e2
      have e3 := s29 _ _ e3
      have e4 := s29 _ _ e4
      have e5 := s29 _ _ e5
      have e6 := s29 _ _ e6
      have e7 := s29 _ _ e7
      have e8 := s29 _ _ e8
      have e9 := s29 _ _ e9
      have e10 := s29 _ _ e10
      have e11 := s29 _ _ e11
      have e12 := s29 _ _ e12
      have e13 := s29 _ _ e13
      have e14 := s29 _ _ e14
      have e16 := s29 _ _ e16
      have e17 := s29 _ _ e17
      have e18 := s29 _ _ e18
      have e19 := s29 _ _ e19
      have e20 := s29 _ _ e20
      have e21 := s29 _ _ e21
      have e23 := s29 _ _ e23
      have e24 := s29 _ _ e24
      have e25 := s29 _ _ e25
      have e26 := s29 _ _ e26
      have e27 := s29 _ _ e27
      have e28 := s29 _ _ e28
      have haQ := ha
      refine ⟨p8, p29, _, _, rfl, rfl, e8, e29, (by show 9 ≤ sizeLine; decide), fun p30 n30 => ?_⟩
      obtain ⟨G30, eH, s30, e30⟩ := newH n30 (o := .lst ([.ref p3, .ref p5, .ref p6, .ref p7, .ref p14, .ref p21] ++ [.ref p28, .ref b, .non]))
      rw [eH]
      have S := S.trans s30
      have ha := ha.same s30
      have ea := s30 _ _ ea
      have eb := s30 _ _ eb
      have e1 := s30 _ _ e1
      have e2 := s30 _ _ e2
      have e3 := s30 _ _ e3
      have e4 := s30 _ _ e4
      have e5 := s30 _ _ e5
      have e6 := s30 _ _ e6
      have e7 := s30 _ _ e7
      have e8 := s30 _ _ e8
      have e9 := s30 _ _ e9
      have e10 := s30 _ _ e10
      have e11 := s30 _ _ e11
      have e12 := s30 _ _ e12
      have e13 := s30 _ _ e13
      have e14 := s30 _ _ e14
      have e16 := s30 _ _ e16
      have e17 := s30 _ _ e17
      have e18 := s30 _ _ e18
      have e19 := s30 _ _ e19
      have e20 := s30 _ _ e20
      have e21 := s30 _ _ e21
      have e23 := s30 _ _ e23
      have e24 := s30 _ _ e24
      have e25 := s30 _ _ e25
      have e26 := s30 _ _ e26
      have e27 := s30 _ _ e27
      have e28 := s30 _ _ e28
      have e29 := s30 _ _ e29
      have l3h := haQ.ne_none n30
      refine ⟨h, g, p30, _, rfl, ha, SqL.of e30, fun H' b' => SqL.of (by rw [b' p30 l3h]; exact e30), by show 0 < 9; decide, by show 9 ≤ 100000; decide, fun H2 j v b2 h2 hv => ?_⟩
      refine k H2 v ((k0.same S).trans b2.kp) h2 (Gd.kp ?_ b2.kp ha)
      have mv := List.mem_of_getElem? hv
      simp only [List.cons_append, List.nil_append, List.mem_cons, List.not_mem_nil, or_false] at mv
      have il := il.same S
      have iod := iod.same S
      have i1 := i1.same S
      have i2 := i2.same S
      have ie := ie.same S
      rcases mv with e | e | e | e | e | e | e | e | e <;> subst e
      · exact ⟨_, .tup e3 ((il.take d).append (il.drop (d + 1))), sh_out sh⟩
      · exact ⟨_, .tup e5 (il.append (.cons ie .nil)), sh_more sh (sd.mono (Nat.le_succ _))⟩
      · exact ⟨_, .tup e6 il.rev, sh_rev sh⟩
      · exact ⟨.oth, .lst e7 q4h, .oth⟩
      · exact ⟨_, .tup e14 (((il.take d).append (.cons (.tup e10 (.cons i1 (.cons iod .nil))) .nil)).append (il.drop (d + 1))), sh_mid sh (Sh.two (by omega) s1' sod')⟩
      · exact ⟨_, .tup e21 (((il.take d).append (.cons (.tup e17 (.cons iod (.cons i2 .nil))) .nil)).append (il.drop (d + 1))), sh_mid sh (Sh.two (by omega) sod' s2')⟩
      · exact ⟨_, .tup e28 (((il.take d).append (.cons (.lst e24 i3h) .nil)).append (il.drop (d + 1))), sh_mid sh .oth⟩
      · exact ⟨_, ie, sd.mono (Nat.le_succ _)⟩
      · exact ⟨.non, .non, .non⟩
end

theorem tup_kp {h g p : Addr} {H H' : Hp} {xs : List V} (k : Kp h H H') (a : HandAt H h g) (e : H p = some (.tup xs)) : H' p = some (.tup xs) := by
  obtain ⟨_, _, _, _, e5, _⟩ := a.five
  exact k p _ (fun z => by rw [z, e5] at e; cases e) e
theorem sh_prs {n B : Nat} {ps : List (Nat × Nat)} (p : Prs n ps) (h : n ≤ B) (hB : 2 ≤ B) : Sh B (.tup (ps.map pD)) := by
  refine shAll (by rw [List.length_map]; exact Nat.le_trans p.len h) fun d hd => ?_
  obtain ⟨q, _, rfl⟩ := List.mem_map.mp hd
  exact Sh.two hB (.int _) (.int _)
section
variable {P : Program} {w : World} {K : PySem.W.Frag} {mg : Str → Option Value} {base : Heap} {A : Adr}
def spBent : Sp := fun vs H Q _ => ∃ (h g : Addr) (n B : Nat) (x : V) (d : Td), vs = [.ref h, .int (n : Int), x] ∧ HandAt H h g ∧ 1 ≤ n ∧ n ≤ 12 ∧ n ≤ B ∧ 2 ≤ B ∧ B ≤ 400 ∧ Is h H x d ∧ Sh B d ∧
  ∀ (H' : Hp) (v : V), Kp h H H' → HandAt H' h g → Gd (B + 1) h H' v → Q v H'
theorem ok_law_bent (T : Top K mg A) : FnOk P w K mg base CX0 5 A.a_law_bent A.d_law_bent P_law_bent spBent := by
  refine T.F_law_bent.ok sc_law_bent (fun vs H Q E h => ?_) (fun cdv A' outer s H vs Q E hr h => ?_)
  · obtain ⟨h, g, n, B, x, d, rfl, _⟩ := h
    rfl
  · obtain ⟨h, g, n, B, x, dx, rfl, ha, nn1, nn2, nB, B1, B2, it, sh, k⟩ := h
    obtain ⟨t, ty, _, _, e3⟩ := is_ty T it
    refine ⟨_, (pss_cons (ps_if (PW.pt (pw_or (pt_not (pt_val (pe_callB call_isi (by rfl) T.z_isinstance (by decide +kernel) (pa_cons (pv 2) (pa_cons (pe_bltn (v := .ty "tuple") (by rfl) T.z_tuple (by decide +kernel) rfl) pa_nil))))) (pw_or1 (pt_cmpR op_eq (pe_callB call_len_seq (by rfl) T.z_len (by decide +kernel) (pa_cons (pv 2) pa_nil)) pe_int (nomark _))))) (pss_one (ps_ret (pv 2))) pss_nil)
    (pss_cons (ps_set (i := 3) sc_law_bent.nd rfl (.inl rfl) (pe_call (ok_law_draw T) (hr.mono (by decide)) (by rfl) T.g_law_draw T.F_law_draw.kp T.b_law_draw .nil pass0 (pa_cons (pv 0) (pa_cons (pe_callB call_len_seq (by rfl) T.z_len (by decide +kernel) (pa_cons (pv 2) pa_nil)) pa_nil))))
    (pss_cons (ps_set (i := 4) sc_law_bent.nd rfl (.inl rfl) (pe_ix ix_tup (pv 2) (pv 3) (fun _ _ => rfl)))
    (pss_cons (ps_if (PW.pt (pw_or (pt_not (pt_val (pe_callB call_isi (by rfl) T.z_isinstance (by decide +kernel) (pa_cons (pv 4) (pa_cons (pe_bltn (v := .ty "tuple") (by rfl) T.z_tuple (by decide +kernel) rfl) pa_nil))))) (pw_or1 (pt_not (pt_val (pe_callB (cr_all rfl) (by rfl) T.z_all (by decide +kernel) (pa_cons (pe_lc (own := [("_law_pair", 6)]) (by rfl) sc_law_bent.nd (pi_tup (pv 4)) (blkOk_by (own := [("_law_pair", 6)]) (N := N_law_bent) (sc := defScope s_law_bent) (by decide +kernel)) (fun _ _ _ _ _ => (pg_name (i := 6) sc_law_bent.nd rfl (.inl rfl))) (fun _ _ _ _ _ => pts_nil) (fun _ _ _ _ _ => (pe_and (pe_callB (show CallR _ _ (rIsi K) from call_isi) (by rfl) T.z_isinstance (by decide +kernel) (pa_cons (pv 6) (pa_cons (pe_bltn (v := .ty "tuple") (by rfl) T.z_tuple (by decide +kernel) rfl) pa_nil))) (pe_one (pe_cmpR op_eq (pe_callB (show CallR _ _ (Evl.rLenS K) from call_len_seq) (by rfl) T.z_len (by decide +kernel) (pa_cons (pv 6) pa_nil)) pe_int (nomark _)))))) pa_nil))))))) (pss_one (ps_ret (pv 2))) pss_nil)
    (pss_cons (ps_set (i := 5) sc_law_bent.nd rfl (.inl rfl) (pe_lst (pa_cons (pe_op op_catA (pe_op op_catA (pe_slice sl_tupA (pv 2) po_none (po_some (pv 3))) (pe_tup (pa_cons (pe_call (ok_law_bent_beat T) (hr.mono (by decide)) (by rfl) T.g_law_bent_beat T.F_law_bent_beat.kp T.b_law_bent_beat .nil pass0 (pa_cons (pv 0) (pa_cons (pv 1) (pa_cons (pv 4) pa_nil)))) pa_nil))) (pe_slice sl_tupA (pv 2) (po_some (pe_op op_add (pv 3) pe_int)) po_none)) (pa_cons (pe_op op_catA (pe_slice sl_tupA (pv 2) po_none (po_some (pv 3))) (pe_slice sl_tupA (pv 2) (po_some (pe_op op_add (pv 3) pe_int)) po_none)) pa_nil))))
    (pss_cons (ps_set (i := 5) sc_law_bent.nd rfl (.inl rfl) (pe_op op_cat (pv 5) (pe_lst (pa_cons (GL.pe_revT (pv 2)) (pa_cons (pe_op op_catA (pv 2) (pe_tup (pa_cons (pe_tup pa_nil) pa_nil))) (pa_cons (pe_callTy call_list_of (by rfl) T.z_list (by decide +kernel) (pa_cons (pv 2) pa_nil)) (pa_cons (pe_op op_catA (pe_op op_catA (pe_slice sl_tupA (pv 2) po_none (po_some (pv 3))) (pe_tup (pa_cons (pe_call (ok_law_pairing T) (hr.mono (by decide)) (by rfl) T.g_law_pairing T.F_law_pairing.kp T.b_law_pairing .nil pass0 (pa_cons (pv 0) (pa_cons (pv 1) pa_nil))) pa_nil))) (pe_slice sl_tupA (pv 2) (po_some (pe_op op_add (pv 3) pe_int)) po_none)) pa_nil)))))))
    (pss_one (ps_ret (pe_call (ok_law_pick T) (hr.mono (by decide)) (by rfl) T.g_law_pick T.F_law_pick.kp T.b_law_pick .nil pass0 (pa_cons (pv 0) (pa_cons (pe_op op_cat (pv 5) (pe_lst (pa_cons (pe_ix ix_list (pv 5) pe_int (fun _ _ => rfl)) (pa_cons (pe_ix ix_list (pv 5) pe_int (fun _ _ => rfl)) (pa_cons pe_non pa_nil))))) pa_nil))))))))))), ?_⟩
    unfold tNoPart
    refine ⟨_, rfl, _, _, _, _, _, rfl, .ty "tuple", ty, e3, _, rfl, ?_⟩
    have same : ∀ H', Kp h H H' → HandAt H' h g → Q x H' := fun H' k' h' => k H' x k' h' (Gd.kp ⟨dx, it, sh.mono (Nat.le_succ _)⟩ k' ha)
    cases c : isT dx with
    | false => exact iteT ⟨_, rfl, same H (fun _ _ _ e => e) ha⟩
    | true =>
      obtain ⟨a, xs, es, rfl, rfl, ea, il⟩ := isT_of it c
      have lx := il.len
      have lB := sh.len
      refine iteF ?_
      refine ⟨_, rfl, a, xs, rfl, .inr (SqT.of ea), rfl, _, rfl, ?_⟩
      rw [dec_int]
      by_cases c0 : xs.length = 0
      · rw [decide_eq_true (by omega)]
        exact iteT ⟨_, rfl, same H (fun _ _ _ e => e) ha⟩
      · rw [decide_eq_false (by omega)]
        refine iteF ?_
        refine ⟨_, rfl, _, rfl, a, xs, rfl, .inr (SqT.of ea), h, g, (xs.length : Int), rfl, ha, by omega, by omega, fun C0 d b5 haC d0 d1 => ?_⟩
        have k0 := b5.kp
        have il := il.kp b5.kp ha
        have ea := tup_kp b5.kp ha ea
        have ha := haC
        clear b5
        obtain ⟨d, rfl⟩ : ∃ m : Nat, d = (m : Int) := ⟨d.toNat, by omega⟩
        have hd : d < xs.length := by omega
        obtain ⟨v, hv⟩ : ∃ v, xs[d]? = some v := ⟨_, List.getElem?_eq_getElem hd⟩
        obtain ⟨e, he, ie⟩ := il.get hv
        have hem := List.mem_of_getElem? he
        have sd := sh.item hem
        refine ⟨_, rfl, _, rfl, a, _, d, _, rfl, rfl, SqT.of ea, atI_nat hv, ?_⟩
        obtain ⟨t2, ty2, _, _, e32⟩ := is_ty T ie
        refine ⟨_, rfl, _, _, _, _, _, rfl, .ty "tuple", ty2, e32, _, rfl, ?_⟩
        cases c1 : isT e with
        | false => exact iteT ⟨_, rfl, same C0 k0 ha⟩
        | true =>
          obtain ⟨b, ys, fs, rfl, rfl, eb, jl⟩ := isT_of ie c1
          have ly := jl.len
          have lC := sd.len
          refine iteF ?_
          refine ⟨_, rfl, b, rfl, ⟨_, SqT.of eb⟩, fun D nD => ?_⟩
          refine lc_tup (K := K) (a := b) (xs := ys) (LP C0 D ((fs.map (tupN 2)).map V.bl)) (LP.start nD) (fun i H' _ p => SqT.of (p.1 _ _ eb)) ?_ ?_
          · rintro i y H2 hy p
            obtain ⟨f, hf, jf⟩ := jl.get hy
            have jf := jf.same p.1
            obtain ⟨t3, ty3, _, _, e33⟩ := is_ty T jf
            refine ⟨rfl, ?_⟩
            refine ⟨_, rfl, _, _, _, _, _, rfl, .ty "tuple", ty3, e33, _, rfl, ?_⟩
            cases c2 : isT f with
            | false => exact iteF (lcPut nD p (fun _ _ e => e) (by rw [← tupN_no (n := 2) c2]; exact map_at (map_at hf)) (by rw [List.length_map, List.length_map]; omega))
            | true =>
              obtain ⟨q, zs, hs, rfl, rfl, eq, ql⟩ := isT_of jf c2
              refine iteT ⟨_, rfl, _, _, rfl, .inr (SqT.of eq), rfl, ?_⟩
              rw [dec_int, ql.len]
              exact lcPut nD p (fun _ _ e => e) (map_at (map_at hf)) (by rw [List.length_map, List.length_map]; omega)
          · rintro C1 ⟨s2, d2⟩
            rw [take_all (by rw [List.length_map, List.length_map]; exact ly)] at d2
            refine ⟨D, _, rfl, SqL.of d2, _, rfl, ?_⟩
            have k0 := k0.same s2
            have ha := ha.same s2
            rw [show (fs.map (tupN 2)).all id = fs.all (tupN 2) by rw [List.all_map]; rfl]
            cases c2 : fs.all (tupN 2) with
            | false => exact iteT ⟨_, rfl, same C1 k0 ha⟩
            | true =>
              refine iteF ?_
              have il := il.same s2
              have ea := s2 _ _ ea
              have ie := ie.same s2
              have haC := ha
              have S : Kp h C1 C1 := fun _ _ _ e => e
              have hto : cutV xs none (some (d : Int)) = xs.take d := cut_to (by omega)
              have hfrom : cutV xs (some ((d : Int) + 1)) none = xs.drop (d + 1) := by
                rw [show (d : Int) + 1 = ((d + 1 : Nat) : Int) by omega]
                exact cut_from (by omega)

              refine ⟨_, rfl, _, rfl, _, rfl, ?_⟩
              refine sl_at ea fun G1 p1 s1 e1 => ?_
              have e1 : G1 p1 = some (.tup (xs.take d)) := by
                have z := e1
                first | exact (hto ▸ z) | exact (hfrom ▸ z)
              have S := S.same s1
              have ha := ha.same s1
              have ea := s1 _ _ ea
              refine ⟨_, rfl, _, rfl, _, rfl, h, g, b, n, B, fs, rfl, ha, nn1, nn2, B1, B2, ie.kp S haC, sd, List.all_eq_true.mp c2, fun X1 vb kb hb gb => ?_⟩
              have ea := tup_kp kb ha ea
              have e1 := tup_kp kb ha e1
              have S := S.trans kb
              have ha := hb
              obtain ⟨dvb, ivb, svb⟩ := gb
              have SX : Kp h X1 X1 := fun _ _ _ e => e
              have hX1 := ha
              refine ⟨(by show 1 ≤ sizeLine; decide), fun p2 n2 => ?_⟩
              obtain ⟨G2, eH, s2, e2⟩ := newH n2 (o := .tup [vb])
              rw [eH]
              have S := S.same s2
              have ha := ha.same s2
              have ea := s2 _ _ ea
              have e1 := s2 _ _ e1
              have SX := SX.same s2
              refine cat_at e1 e2 (by simp only [List.length_append, List.length_take, List.length_drop, List.length_cons, List.length_nil]; omega) fun G3 p3 s3 e3 => ?_
              have S := S.same s3
              have ha := ha.same s3
              have ea := s3 _ _ ea
              have e1 := s3 _ _ e1
              have e2 := s3 _ _ e2
              have SX := SX.same s3
              refine ⟨_, rfl, _, rfl, _, _, rfl, rfl, _, rfl, ?_⟩
              refine sl_at ea fun G4 p4 s4 e4 => ?_
              have e4 : G4 p4 = some (.tup (xs.drop (d + 1))) := by
                have z := e4
                first | exact (hto ▸ z) | exact (hfrom ▸ z)
              have S := S.same s4
              have ha := ha.same s4
              have ea := s4 _ _ ea
              have e1 := s4 _ _ e1
              have e2 := s4 _ _ e2
              have e3 := s4 _ _ e3
              have SX := SX.same s4
              refine cat_at e3 e4 (by simp only [List.length_append, List.length_take, List.length_drop, List.length_cons, List.length_nil]; omega) fun G5 p5 s5 e5 => ?_
              have S := S.same s5
              have ha := ha.same s5
              have ea := s5 _ _ ea
              have e1 := s5 _ _ e1
              have e2 := s5 _ _ e2
              have e3 := s5 _ _ e3
              have e4 := s5 _ _ e4
              have SX := SX.same s5
              refine ⟨_, rfl, _, rfl, _, rfl, ?_⟩
              refine sl_at ea fun G6 p6 s6 e6 => ?_
              have e6 : G6 p6 = some (.tup (xs.take d)) := by
                have z := e6
                first | exact (hto ▸ z) | exact (hfrom ▸ z)
              have S := S.same s6
              have ha := ha.same s6
              have ea := s6 _ _ ea
              have e1 := s6 _ _ e1
              have e2 := s6 _ _ e2
              have e3 := s6 _ _ e3
              have e4 := s6 _ _ e4
              have e5 := s6 _ _ e5
              have SX := SX.same s6
              refine ⟨_, rfl, _, rfl, _, _, rfl, rfl, _, rfl, ?_⟩
              refine sl_at ea fun G7 p7 s7 e7 => ?_
              have e7 : G7 p7 = some (.tup (xs.drop (d + 1))) := by
                have z := e7
                first | exact (hto ▸ z) | exact (hfrom ▸ z)
              have S := S.same s7
              have ha := ha.same s7
              have ea := s7 _ _ ea
              have e1 := s7 _ _ e1
              have e2 := s7 _ _ e2
              have e3 := s7 _ _ e3
              have e4 := s7 _ _ e4
              have e5 := s7 _ _ e5
              have e6 := s7 _ _ e6
              have SX := SX.same s7
              refine cat_at e6 e7 (by simp only [List.length_append, List.length_take, List.length_drop, List.length_cons, List.length_nil]; omega) fun G8 p8 s8 e8 => ?_
              have S := S.same s8
              have ha := ha.same s8
              have ea := s8 _ _ ea
              have e1 := s8 _ _ e1
              have e2 := s8 _ _ e2
              have e3 := s8 _ _ e3
              have e4 := s8 _ _ e4
              have e5 := s8 _ _ e5
              have e6 := s8 _ _ e6
              have e7 := s8 _ _ e7
              have SX := SX.same s8
              have haL := ha
              refine ⟨(by show 2 ≤ sizeLine; decide), fun p9 n9 => ?_⟩
              obtain ⟨G9, eH, s9, e9⟩ := newH n9 (o := .lst [.ref p5, .ref p8])
              rw [eH]
              have S := S.same s9
              have ha := ha.same s9
              have ea := s9 _ _ ea
              have e1 := s9 _ _ e1
              have e2 := s9 _ _ e2
              have e3 := s9 _ _ e3
              have e4 := s9 _ _ e4
              have e5 := s9 _ _ e5
              have e6 := s9 _ _ e6
              have e7 := s9 _ _ e7
              have e8 := s9 _ _ e8
              have SX := SX.same s9
              have L9h := haL.ne_none n9
              refine ⟨_, rfl, ?_⟩
              refine ⟨_, rfl, a, xs, rfl, SqT.of ea, fun p10 n10 => ?_⟩
              obtain ⟨G10, eH, s10, e10⟩ := newH n10 (o := .tup xs.reverse)
              rw [eH]
              have S := S.same s10
              have ha := ha.same s10
              have ea := s10 _ _ ea
              have e1 := s10 _ _ e1
              have e2 := s10 _ _ e2
              have e3 := s10 _ _ e3
              have e4 := s10 _ _ e4
              have e5 := s10 _ _ e5
              have e6 := s10 _ _ e6
              have e7 := s10 _ _ e7
              have e8 := s10 _ _ e8
              have e9 := s10 _ _ e9
              have SX := SX.same s10
              refine ⟨_, rfl, ?_⟩
              refine ⟨(by show 0 ≤ sizeLine; decide), fun p11 n11 => ?_⟩
              obtain ⟨G11, eH, s11, e11⟩ := newH n11 (o := .tup [])
              rw [eH]
              have S := S.same s11
              have ha := ha.same s11
              have ea := s11 _ _ ea
              have e1 := s11 _ _ e1
              have e2 := s11 _ _ e2
              have e3 := s11 _ _ e3
              have e4 := s11 _ _ e4
              have e5 := s11 _ _ e5
              have e6 := s11 _ _ e6
              have e7 := s11 _ _ e7
              have e8 := s11 _ _ e8
              have e10 := s11 _ _ e10
              have e9 := s11 _ _ e9
              have SX := SX.same s11
              refine ⟨(by show 1 ≤ sizeLine; decide), fun p12 n12 => ?_⟩
              obtain ⟨G12, eH, s12, e12⟩ := newH n12 (o := .tup [.ref p11])
              rw [eH]
              have S := S.same s12
              have ha := ha.same s12
              have ea := s12 _ _ ea
              have e1 := s12 _ _ e1
              have e2 := s12 _ _ e2
              have e3 := s12 _ _ e3
              have e4 := s12 _ _ e4
              have e5 := s12 _ _ e5
              have e6 := s12 _ _ e6
              have e7 := s12 _ _ e7
              have e8 := s12 _ _ e8
              have e10 := s12 _ _ e10
              have e11 := s12 _ _ e11
              have e9 := s12 _ _ e9
              have SX := SX.same s12
              refine cat_at ea e12 (by simp only [List.length_append, List.length_take, List.length_drop, List.length_cons, List.length_nil]; omega) fun G13 p13 s13 e13 => ?_
              have S := S.same s13
              have ha := ha.same s13
              have ea := s13 _ _ ea
              have e1 := s13 _ _ e1
              have e2 := s13 _ _ e2
              have e3 := s13 _ _ e3
              have e4 := s13 _ _ e4
              have e5 := s13 _ _ e5
              have e6 := s13 _ _ e6
              have e7 := s13 _ _ e7
              have e8 := s13 _ _ e8
              have e10 := s13 _ _ e10
              have e11 := s13 _ _ e11
              have e12 := s13 _ _ e12
              have e9 := s13 _ _ e9
              have SX := SX.same s13
              have haM := ha
              refine ⟨_, rfl, a, xs, rfl, .inr (SqT.of ea), fun p14 n14 => ?_⟩
              obtain ⟨G14, eH, s14, e14⟩ := newH n14 (o := .lst xs)
              rw [eH]
              have L14h := haM.ne_none n14
              have S := S.same s14
              have ha := ha.same s14
              have ea := s14 _ _ ea
              have e1 := s14 _ _ e1
              have e2 := s14 _ _ e2
              have e3 := s14 _ _ e3
              have e4 := s14 _ _ e4
              have e5 := s14 _ _ e5
              have e6 := s14 _ _ e6
              have e7 := s14 _ _ e7
              have e8 := s14 _ _ e8
              have e10 := s14 _ _ e10
              have e11 := s14 _ _ e11
              have e12 := s14 _ _ e12
              have e13 := s14 _ _ e13
              have e9 := s14 _ _ e9
              have SX := SX.same s14
              refine ⟨_, rfl, _, rfl, _, rfl, ?_⟩
              refine sl_at ea fun G15 p15 s15 e15 => ?_
              have e15 : G15 p15 = some (.tup (xs.take d)) := by
                have z := e15
                first | exact (hto ▸ z) | exact (hfrom ▸ z)
              have S := S.same s15
              have ha := ha.same s15
              have ea := s15 _ _ ea
              have e1 := s15 _ _ e1
              have e2 := s15 _ _ e2
              have e3 := s15 _ _ e3
              have e4 := s15 _ _ e4
              have e5 := s15 _ _ e5
              have e6 := s15 _ _ e6
              have e7 := s15 _ _ e7
              have e8 := s15 _ _ e8
              have e10 := s15 _ _ e10
              have e11 := s15 _ _ e11
              have e12 := s15 _ _ e12
              have e13 := s15 _ _ e13
              have e9 := s15 _ _ e9
              have e14 := s15 _ _ e14
              have SX := SX.same s15
              refine ⟨_, rfl, _, rfl, h, g, n, rfl, ha, nn2, fun X2 pp us ps kp hp epp alp prs => ?_⟩
              have ea := tup_kp kp ha ea
              have e1 := tup_kp kp ha e1
              have e2 := tup_kp kp ha e2
              have e3 := tup_kp kp ha e3
              have e4 := tup_kp kp ha e4
              have e5 := tup_kp kp ha e5
              have e6 := tup_kp kp ha e6
              have e7 := tup_kp kp ha e7
              have e8 := tup_kp kp ha e8
              have e10 := tup_kp kp ha e10
              have e11 := tup_kp kp ha e11
              have e12 := tup_kp kp ha e12
              have e13 := tup_kp kp ha e13
              have e15 := tup_kp kp ha e15
              have e9 := kp _ _ L9h e9
              have e14 := kp _ _ L14h e14
              have S := S.trans kp
              have ha := hp
              have SX := SX.trans kp
              have X2S : Same X2 X2 := fun _ _ e => e
              refine ⟨(by show 1 ≤ sizeLine; decide), fun p16 n16 => ?_⟩
              obtain ⟨G16, eH, s16, e16⟩ := newH n16 (o := .tup [.ref pp])
              rw [eH]
              have S := S.same s16
              have ha := ha.same s16
              have ea := s16 _ _ ea
              have e1 := s16 _ _ e1
              have e2 := s16 _ _ e2
              have e3 := s16 _ _ e3
              have e4 := s16 _ _ e4
              have e5 := s16 _ _ e5
              have e6 := s16 _ _ e6
              have e7 := s16 _ _ e7
              have e8 := s16 _ _ e8
              have e10 := s16 _ _ e10
              have e11 := s16 _ _ e11
              have e12 := s16 _ _ e12
              have e13 := s16 _ _ e13
              have e15 := s16 _ _ e15
              have epp := s16 _ _ epp
              have e9 := s16 _ _ e9
              have e14 := s16 _ _ e14
              have SX := SX.same s16
              have X2S := X2S.trans s16
              refine cat_at e15 e16 (by simp only [List.length_append, List.length_take, List.length_drop, List.length_cons, List.length_nil]; omega) fun G17 p17 s17 e17 => ?_
              have S := S.same s17
              have ha := ha.same s17
              have ea := s17 _ _ ea
              have e1 := s17 _ _ e1
              have e2 := s17 _ _ e2
              have e3 := s17 _ _ e3
              have e4 := s17 _ _ e4
              have e5 := s17 _ _ e5
              have e6 := s17 _ _ e6
              have e7 := s17 _ _ e7
              have e8 := s17 _ _ e8
              have e10 := s17 _ _ e10
              have e11 := s17 _ _ e11
              have e12 := s17 _ _ e12
              have e13 := s17 _ _ e13
              have e15 := s17 _ _ e15
              have epp := s17 _ _ epp
              have e16 := s17 _ _ e16
              have e9 := s17 _ _ e9
              have e14 := s17 _ _ e14
              have SX := SX.same s17
              have X2S := X2S.trans s17
              refine ⟨_, rfl, _, rfl, _, _, rfl, rfl, _, rfl, ?_⟩
              refine sl_at ea fun G18 p18 s18 e18 => ?_
              have e18 : G18 p18 = some (.tup (xs.drop (d + 1))) := by
                have z := e18
                first | exact (hto ▸ z) | exact (hfrom ▸ z)
              have S := S.same s18
              have ha := ha.same s18
              have ea := s18 _ _ ea
              have e1 := s18 _ _ e1
              have e2 := s18 _ _ e2
              have e3 := s18 _ _ e3
              have e4 := s18 _ _ e4
              have e5 := s18 _ _ e5
              have e6 := s18 _ _ e6
              have e7 := s18 _ _ e7
              have e8 := s18 _ _ e8
              have e10 := s18 _ _ e10
              have e11 := s18 _ _ e11
              have e12 := s18 _ _ e12
              have e13 := s18 _ _ e13
              have e15 := s18 _ _ e15
              have epp := s18 _ _ epp
              have e16 := s18 _ _ e16
              have e17 := s18 _ _ e17
              have e9 := s18 _ _ e9
              have e14 := s18 _ _ e14
              have SX := SX.same s18
              have X2S := X2S.trans s18
              refine cat_at e17 e18 (by simp only [List.length_append, List.length_take, List.length_drop, List.length_cons, List.length_nil]; omega) fun G19 p19 s19 e19 => ?_
              have S := S.same s19
              have ha := ha.same s19
              have ea := s19 _ _ ea
              have e1 := s19 _ _ e1
              have e2 := s19 _ _ e2
              have e3 := s19 _ _ e3
              have e4 := s19 _ _ e4
              have e5 := s19 _ _ e5
              have e6 := s19 _ _ e6
              have e7 := s19 _ _ e7
              have e8 := s19 _ _ e8
              have e10 := s19 _ _ e10
              have e11 := s19 _ _ e11
              have e12 := s19 _ _ e12
              have e13 := s19 _ _ e13
              have e15 := s19 _ _ e15
              have epp := s19 _ _ epp
              have e16 := s19 _ _ e16
              have e17 := s19 _ _ e17
              have e18 := s19 _ _ e18
              have e9 := s19 _ _ e9
              have e14 := s19 _ _ e14
              have SX := SX.same s19
              have X2S := X2S.trans s19
              have haN := ha
              refine ⟨(by show 4 ≤ sizeLine; decide), fun p20 n20 => ?_⟩
              obtain ⟨G20, eH, s20, e20⟩ := newH n20 (o := .lst [.ref p10, .ref p13, .ref p14, .ref p19])
              rw [eH]
              have S := S.same s20
              have ha := ha.same s20
              have ea := s20 _ _ ea
              have e1 := s20 _ _ e1
              have e2 := s20 _ _ e2
              have e3 := s20 _ _ e3
              have e4 := s20 _ _ e4
              have e5 := s20 _ _ e5
              have e6 := s20 _ _ e6
              have e7 := s20 _ _ e7
              have e8 := s20 _ _ e8
              have e10 := s20 _ _ e10
              have e11 := s20 _ _ e11
              have e12 := s20 _ _ e12
              have e13 := s20 _ _ e13
              have e15 := s20 _ _ e15
              have epp := s20 _ _ epp
              have e16 := s20 _ _ e16
              have e17 := s20 _ _ e17
              have e18 := s20 _ _ e18
              have e19 := s20 _ _ e19
              have e9 := s20 _ _ e9
              have e14 := s20 _ _ e14
              have SX := SX.same s20
              have X2S := X2S.trans s20
              have L20h := haN.ne_none n20
              have haO := ha
              refine ⟨p9, p20, _, _, rfl, rfl, e9, e20, (by show 6 ≤ sizeLine; decide), fun p21 n21 => ?_⟩
              obtain ⟨G21, eH, s21, e21⟩ := newH n21 (o := .lst ([.ref p5, .ref p8] ++ [.ref p10, .ref p13, .ref p14, .ref p19]))
              rw [eH]
              have S := S.same s21
              have ha := ha.same s21
              have ea := s21 _ _ ea
              have e1 := s21 _ _ e1
              have e2 := s21 _ _ e2
              have e3 := s21 _ _ e3
              have e4 := s21 _ _ e4
              have e5 := s21 _ _ e5
              have e6 := s21 _ _ e6
              have e7 := s21 _ _ e7
              have e8 := s21 _ _ e8
              have e10 := s21 _ _ e10
              have e11 := s21 _ _ e11
              have e12 := s21 _ _ e12
              have e13 := s21 _ _ e13
              have e15 := s21 _ _ e15
              have epp := s21 _ _ epp
              have e16 := s21 _ _ e16
              have e17 := s21 _ _ e17
              have e18 := s21 _ _ e18
              have e19 := s21 _ _ e19
              have e9 := s21 _ _ e9
              have e14 := s21 _ _ e14
              have e20 := s21 _ _ e20
              have SX := SX.same s21
              have X2S := X2S.trans s21
              have L21h := haO.ne_none n21
              refine ⟨_, rfl, _, rfl, _, rfl, p21, _, 0, _, rfl, rfl, SqL.of e21, atI_nat (j := 0) rfl, _, rfl, p21, _, 0, _, rfl, rfl, SqL.of e21, atI_nat (j := 0) rfl, ?_⟩
              refine ⟨(by show 3 ≤ sizeLine; decide), fun p22 n22 => ?_⟩
              obtain ⟨G22, eH, s22, e22⟩ := newH n22 (o := .lst [.ref p5, .ref p5, .non])
              rw [eH]
              have S := S.same s22
              have ha := ha.same s22
              have ea := s22 _ _ ea
              have e1 := s22 _ _ e1
              have e2 := s22 _ _ e2
              have e3 := s22 _ _ e3
              have e4 := s22 _ _ e4
              have e5 := s22 _ _ e5
              have e6 := s22 _ _ e6
              have e7 := s22 _ _ e7
              have e8 := s22 _ _ e8
              have e10 := s22 _ _ e10
              have e11 := s22 _ _ e11
              have e12 := s22 _ _ e12
              have e13 := s22 _ _ e13
              have e15 := s22 _ _ e15
              have epp := s22 _ _ epp
              have e16 := s22 _ _ e16
              have e17 := s22 _ _ e17
              have e18 := s22 _ _ e18
              have e19 := s22 _ _ e19
              have e9 := s22 _ _ e9
              have e14 := s22 _ _ e14
              have e20 := s22 _ _ e20
              have e21 := s22 _ _ e21
              have SX := SX.same s22
              have X2S := X2S.trans s22
              have haQ := ha
              refine ⟨p21, p22, _, _, rfl, rfl, e21, e22, (by show 9 ≤ sizeLine; decide), fun p23 n23 => ?_⟩
              obtain ⟨G23, eH, s23, e23⟩ := newH n23 (o := .lst (([.ref p5, .ref p8] ++ [.ref p10, .ref p13, .ref p14, .ref p19]) ++ [.ref p5, .ref p5, .non]))
              rw [eH]
              have S := S.same s23
              have ha := ha.same s23
              have ea := s23 _ _ ea
              have e1 := s23 _ _ e1
              have e2 := s23 _ _ e2
              have e3 := s23 _ _ e3
              have e4 := s23 _ _ e4
              have e5 := s23 _ _ e5
              have e6 := s23 _ _ e6
              have e7 := s23 _ _ e7
              have e8 := s23 _ _ e8
              have e10 := s23 _ _ e10
              have e11 := s23 _ _ e11
              have e12 := s23 _ _ e12
              have e13 := s23 _ _ e13
              have e15 := s23 _ _ e15
              have epp := s23 _ _ epp
              have e16 := s23 _ _ e16
              have e17 := s23 _ _ e17
              have e18 := s23 _ _ e18
              have e19 := s23 _ _ e19
              have e9 := s23 _ _ e9
              have e14 := s23 _ _ e14
              have e20 := s23 _ _ e20
              have e21 := s23 _ _ e21
              have SX := SX.same s23
              have X2S := X2S.trans s23
              have L5h := haQ.ne_none n23
              refine ⟨h, g, p23, _, rfl, ha, SqL.of e23, fun H' b' => SqL.of (by rw [b' p23 L5h]; exact e23), by show 0 < 9; decide, by show 9 ≤ 100000; decide, fun H2 j v b2 h2 hv => ?_⟩
              refine k H2 v ((k0.trans S).trans b2.kp) h2 (Gd.kp ?_ b2.kp ha)
              have mv := List.mem_of_getElem? hv
              simp only [List.cons_append, List.nil_append, List.mem_cons, List.not_mem_nil, or_false] at mv
              have il := il.kp S haC
              have ivb := ivb.kp SX hX1
              have alp := PrAt.isL (h := h) (alp.imp fun _ _ t => t.same X2S)
              rcases mv with e | e | e | e | e | e | e | e | e <;> subst e
              · exact ⟨_, .tup e5 (((il.take d).append (.cons ivb .nil)).append (il.drop (d + 1))), sh_mid sh svb⟩
              · exact ⟨_, .tup e8 ((il.take d).append (il.drop (d + 1))), sh_out sh⟩
              · exact ⟨_, .tup e10 il.rev, sh_rev sh⟩
              · exact ⟨_, .tup e13 (il.append (.cons (.tup e11 .nil) .nil)), sh_more sh Sh.nil⟩
              · exact ⟨.oth, .lst e14 L14h, .oth⟩
              · exact ⟨_, .tup e19 (((il.take d).append (.cons (.tup epp alp) .nil)).append (il.drop (d + 1))), sh_mid sh (sh_prs prs (by omega) (by omega))⟩
              · exact ⟨_, .tup e5 (((il.take d).append (.cons ivb .nil)).append (il.drop (d + 1))), sh_mid sh svb⟩
              · exact ⟨_, .tup e5 (((il.take d).append (.cons ivb .nil)).append (il.drop (d + 1))), sh_mid sh svb⟩
              · exact ⟨.non, .non, .non⟩
end

def dOf (pss : List (List (Nat × Nat))) : List Td := pss.map fun ps => .tup (ps.map pD)
theorem pairsOf_pD (ps : List (Nat × Nat)) : pairsOf (.tup (ps.map pD)) = ps := by
  show (ps.map pD).map (fun e => ((pr1 e).toNat, (pr2 e).toNat)) = ps
  rw [List.map_map]
  conv => rhs; rw [← List.map_id ps]
  refine List.map_congr_left fun p _ => ?_
  show ((p.1 : Int).toNat, (p.2 : Int).toNat) = p
  rw [Int.toNat_natCast, Int.toNat_natCast]
theorem inI_nat {n x : Nat} (h : x < n) : inI 0 ((n : Int) - 1) (.int (x : Int)) = true := by
  show (decide ((0 : Int) ≤ x) && decide ((x : Int) ≤ (n : Int) - 1)) = true
  rw [decide_eq_true (by omega), decide_eq_true (by omega)]
  rfl
theorem apB_prs {n : Nat} {ps : List (Nat × Nat)} (p : Prs n ps) : apB (n : Int) (.tup (ps.map pD)) = true := by
  show ((ps.map pD).all (pairB n) && (decide (((ps.map pD).map pr1).Pairwise (· < ·)) && decide ((ps.map pD).map pr2).Nodup)) = true
  have e1 : (ps.map pD).map pr1 = ps.map fun p => (p.1 : Int) := by rw [List.map_map]; rfl
  have e2 : (ps.map pD).map pr2 = ps.map fun p => (p.2 : Int) := by rw [List.map_map]; rfl
  rw [e1, e2]
  have h1 : (ps.map pD).all (pairB n) = true := by
    rw [List.all_eq_true]
    intro d hd
    obtain ⟨q, hq, rfl⟩ := List.mem_map.mp hd
    obtain ⟨a, b⟩ := p.ok q hq
    show (inI 0 ((n : Int) - 1) (.int (q.1 : Int)) && inI 0 ((n : Int) - 1) (.int (q.2 : Int))) = true
    rw [inI_nat a, inI_nat b]
    rfl
  have h2 : (ps.map fun p => (p.1 : Int)).Pairwise (· < ·) := by
    rw [List.pairwise_map]
    exact p.asc.imp fun h => by omega
  have h3 : (ps.map fun p => (p.2 : Int)).Nodup := by
    have := p.nd
    rw [List.Nodup, List.pairwise_map] at this ⊢
    exact this.imp fun h z => h (by omega)
  rw [h1, decide_eq_true h2, decide_eq_true h3]
  rfl
theorem count_le_len {ps : List (Nat × Nat)} {p : Nat × Nat} : ps.count p ≤ ps.length := List.count_le_length
theorem tabOk_of {n : Nat} {ps : List (Nat × Nat)} (h1 : 1 ≤ n) (h2 : n ≤ 12) (ok : PsOk n ps) (len : ps.length ≤ 300) : TabOk n (bumps (zeros n) 1 ps) := by
  have d := (dim_zeros n).bumps (t := 1) ok
  refine ⟨d, h1, h2, fun r hr x hx => ?_⟩
  obtain ⟨i, hi⟩ := List.getElem?_of_mem hr
  have li := (List.getElem?_eq_some_iff.mp hi).1
  rw [d.len] at li
  have er := Option.some.inj ((d.at li).1.symm.trans hi)
  obtain ⟨j, hj⟩ := List.getElem?_of_mem hx
  have lj := (List.getElem?_eq_some_iff.mp hj).1
  rw [d.row r hr] at lj
  have ex := d.ent li lj
  rw [er, hj] at ex
  have e2 := ent_bumps (t := 1) li lj (dim_zeros n) ok
  rw [ent_zeros li lj] at e2
  have ex := Option.some.inj ex
  have c : ps.count (i, j) ≤ ps.length := List.count_le_length
  omega
/-- a pairing on the heap -/
def ThAt (H : Hp) (ps : List (Nat × Nat)) (v : V) : Prop := ∃ q ws, v = .ref q ∧ H q = some (.tup ws) ∧ All2 (PrAt H) ps ws
theorem ThAt.same {H H' : Hp} {ps : List (Nat × Nat)} {v : V} (t : ThAt H ps v) (s : Same H H') : ThAt H' ps v := let ⟨q, ws, e, e1, al⟩ := t; ⟨q, ws, e, s _ _ e1, al.imp fun _ _ t => t.same s⟩
theorem ThAt.kp {h g : Addr} {H H' : Hp} {ps : List (Nat × Nat)} {v : V} (t : ThAt H ps v) (k : Kp h H H') (a : HandAt H h g) : ThAt H' ps v := let ⟨q, ws, e, e1, al⟩ := t; ⟨q, ws, e, tup_kp k a e1, al.imp fun _ _ ⟨r, e2, e3⟩ => ⟨r, e2, tup_kp k a e3⟩⟩
theorem ThAt.far {H : Hp} {F : Addr} {ps : List (Nat × Nat)} {v : V} {o : HO} {xs : List V} (t : ThAt H ps v) (e : H F = some (.lst xs)) : ThAt (upd H F o) ps v := let ⟨q, ws, e0, e1, al⟩ := t
  ⟨q, ws, e0, by rw [upd_ne (fun z => by rw [z, e] at e1; cases e1)]; exact e1, al.imp fun _ _ t => t.far e⟩
theorem ThAt.isL {h : Addr} {H : Hp} : ∀ {pss : List (List (Nat × Nat))} {vs : List V}, All2 (ThAt H) pss vs → IsL h H vs (dOf pss)
  | _, _, .nil => .nil
  | _, _, .cons ⟨q, ws, e, e1, al⟩ t => by
    rw [e]
    exact .cons (.tup e1 (PrAt.isL al)) (ThAt.isL t)
theorem TabAt.kp {h g : Addr} {H H' : Hp} {a : Addr} {m : List (List Int)} (t : TabAt H a m) (k : Kp h H H') (ha : HandAt H h g) : TabAt H' a m := by
  obtain ⟨vs, e, al⟩ := t
  exact ⟨vs, tup_kp k ha e, al.imp fun row v ⟨q, e1, e2⟩ => ⟨q, e1, tup_kp k ha e2⟩⟩
theorem flat_pairs (pss : List (List (Nat × Nat))) : (dOf pss).flatMap pairsOf = pss.flatten := by
  unfold dOf
  induction pss with
  | nil => rfl
  | cons ps pss ih =>
    rw [List.map_cons, List.flatMap_cons, ih, pairsOf_pD]
    rfl
section
variable {P : Program} {w : World} {K : PySem.W.Frag} {mg : Str → Option Value} {base : Heap} {A : Adr}
def spLaw (K : PySem.W.Frag) : Sp := fun vs H Q _ => ∃ (a : Addr) (ns : List Int), vs = [.ref a] ∧ SqL K H a (ns.map V.int) ∧ ns.length ≤ 63 ∧ ∀ H', Q (.bl true) H'
theorem ok_law (T : Top K mg A) : FnOk P w K mg base CX0 20 A.a_law A.d_law P_law (spLaw K) := by
  refine T.F_law.ok sc_law (fun vs H Q E h => ?_) (fun cdv A' outer s H vs Q E hr h => ?_)
  · obtain ⟨a, ns, rfl, _⟩ := h
    rfl
  · obtain ⟨sa, ns, rfl, hS, hn, kq⟩ := h
    refine ⟨_, (pss_cons (ps_set (i := 1) sc_law.nd rfl (.inr rfl) (pe_call (ok_law_hand T) (hr.mono (by decide)) (by rfl) T.g_law_hand T.F_law_hand.kp T.b_law_hand .nil pass0 (pa_cons (pv 0) pa_nil)))
    (pss_cons (ps_for PassesOwn.never rfl (pi_range1 rfl T.z_range (pa_cons pe_int pa_nil)) (pg_name (i := 2) sc_law.nd rfl (.inl rfl)) (pss_cons (ps_set (i := 3) sc_law.nd rfl (.inr rfl) (pe_op op_add pe_int (pe_call (ok_law_draw T) (hr.mono (by decide)) (by rfl) T.g_law_draw T.F_law_draw.kp T.b_law_draw .nil pass0 (pa_cons (pv 1) (pa_cons pe_int pa_nil)))))
    (pss_cons (ps_set (i := 4) sc_law.nd rfl (.inl rfl) (pe_callTy call_tuple_of (by rfl) T.z_tuple (by decide +kernel) (pa_cons (pe_lc (own := [("_law_beat", 11)]) (by rfl) sc_law.nd (pi_range1 rfl T.z_range (pa_cons (pe_call (ok_law_draw T) (hr.mono (by decide)) (by rfl) T.g_law_draw T.F_law_draw.kp T.b_law_draw .nil pass0 (pa_cons (pv 1) (pa_cons pe_int pa_nil))) pa_nil)) (blkOk_by (own := [("_law_beat", 11)]) (N := N_law) (sc := defScope s_law) (by decide +kernel)) (fun _ _ _ _ _ => (pg_name (i := 11) sc_law.nd rfl (.inl rfl))) (fun _ _ _ _ _ => pts_nil) (fun _ _ _ _ _ => (pe_call (ok_law_pairing (P := P) (w := w) T) (hr.mono (by decide)) (by rfl) T.g_law_pairing T.F_law_pairing.kp T.b_law_pairing .nil pass0 (pa_cons (pv 1) (pa_cons (pv 3) pa_nil))))) pa_nil)))
    (pss_cons (ps_par (by rfl) sc_law.nd (i := 5) (j := 6) rfl rfl (by decide) rfl rfl (pa_cons (pe_callB call_len_seq (by rfl) T.z_len (by decide +kernel) (pa_cons (pv 4) pa_nil)) (pa_cons (pe_call (ok_law_counted T) (hr.mono (by decide)) (by rfl) T.g_law_counted T.F_law_counted.kp T.b_law_counted .nil pass0 (pa_cons (pv 3) (pa_cons (pe_lc (own := [("_law_pairing_here", 12)]) (by rfl) sc_law.nd (pi_tup (pv 4)) (blkOk_by (own := [("_law_pairing_here", 12)]) (N := N_law) (sc := defScope s_law) (by decide +kernel)) (fun _ _ _ _ _ => (pg_name (i := 12) sc_law.nd rfl (.inl rfl))) (fun _ _ _ _ _ => pts_nil) (fun _ _ _ _ _ => (pe_tup (pa_cons pe_int (pa_cons (pv 12) pa_nil))))) pa_nil))) pa_nil)) (by rfl))
    (pss_cons (ps_if (pt_cmpR op_notBl (pe_call (ok_is_round T) (hr.mono (by decide)) (by rfl) T.g_is_round T.F_is_round.kp T.b_is_round .nil pass0 (pa_cons (pv 6) (pa_cons (pv 5) (pa_cons (pv 4) pa_nil)))) pe_bl (nomark _)) (pss_one (ps_ret pe_bl)) pss_nil)
    (pss_one (ps_for PassesOwn.never rfl (pi_range1 rfl T.z_range (pa_cons pe_int pa_nil)) (pg_name (i := 7) sc_law.nd rfl (.inl rfl)) (pss_cons (ps_set (i := 8) sc_law.nd rfl (.inl rfl) (pv 4))
    (pss_cons (ps_for PassesOwn.never rfl (pi_range1 rfl T.z_range (pa_cons (pe_call (ok_law_draw T) (hr.mono (by decide)) (by rfl) T.g_law_draw T.F_law_draw.kp T.b_law_draw .nil pass0 (pa_cons (pv 1) (pa_cons pe_int pa_nil))) pa_nil)) (pg_name (i := 9) sc_law.nd rfl (.inl rfl)) (pss_one (ps_set (i := 8) sc_law.nd rfl (.inl rfl) (pe_call (ok_law_bent T) (hr.mono (by decide)) (by rfl) T.g_law_bent T.F_law_bent.kp T.b_law_bent .nil pass0 (pa_cons (pv 1) (pa_cons (pv 3) (pa_cons (pv 8) pa_nil)))))))
    (pss_cons (ps_set (i := 10) sc_law.nd rfl (.inl rfl) (pe_call (ok_is_round T) (hr.mono (by decide)) (by rfl) T.g_is_round T.F_is_round.kp T.b_is_round .nil pass0 (pa_cons (pv 6) (pa_cons (pv 5) (pa_cons (pv 8) pa_nil)))))
    (pss_one (ps_if (PW.pt (pw_or (pt_not (pt_val (pe_callB call_isi (by rfl) T.z_isinstance (by decide +kernel) (pa_cons (pv 10) (pa_cons (pe_bltn (v := .ty "bool") (by rfl) T.z_bool (by decide +kernel) rfl) pa_nil))))) (pw_or1 (pt_cmpR (op_neD hr.units) (pv 10) (pe_call (ok_law_is_round T) (hr.mono (by decide)) (by rfl) T.g_law_is_round T.F_law_is_round.kp T.b_law_is_round .nil pass0 (pa_cons (pv 6) (pa_cons (pv 5) (pa_cons (pv 8) pa_nil)))) (nomark _))))) (pss_one (ps_ret pe_bl)) pss_nil))))))))))))
    (pss_one (ps_ret pe_bl)))), ?_⟩
    refine ⟨_, rfl, sa, ns, rfl, hS, hn, fun H1 h g s1 _ _ a1 => ?_⟩
    refine ⟨4, rfl, by decide, by decide, ?_⟩
    refine for_range (lo := 0) (n := (4 : Int).toNat) (fun i σ H' => ∃ y2 y3 y4 y5 y6 y7 y8 y9 y10 : Option V, σ = [some (.ref sa), some (.ref h), y2, y3, y4, y5, y6, y7, y8, y9, y10, none, none] ∧ HandAt H' h g) ⟨_, _, _, _, _, _, _, _, _, rfl, a1⟩ ?_ ?_
    · rintro i σ H2 hi ⟨y2, y3, y4, y5, y6, y7, y8, y9, y10, rfl, a2⟩
      -- many
      refine ⟨_, rfl, h, g, 6, rfl, a2, by decide, by decide, fun H3 d b3 a3 d0 d1 => ⟨1, d, rfl, rfl, ?_⟩⟩
      obtain ⟨n, en⟩ : ∃ n : Nat, 1 + d = (n : Int) := ⟨(1 + d).toNat, by omega⟩
      have n1 : 1 ≤ n := by omega
      have n2 : n ≤ 6 := by omega
      show tSeq _ _ _ ([some (.ref sa), some (.ref h), some (.int (0 + (i : Int))), some (.int (1 + d)), y4, y5, y6, y7, y8, y9, y10, none, none] : L2.St) _
      rw [en]
      clear en d0 d1
      -- thing
      refine ⟨_, rfl, h, g, 9, rfl, a3, by decide, by decide, fun H4 d b4 a4 d0 d1 => ?_⟩
      refine ⟨d, rfl, by omega, by omega, fun D nD => ?_⟩
      have Dh := a4.ne_none nD
      refine lc_range (lo := 0) (n := d.toNat) (fun i H' => ∃ pss us, Kp h H4 H' ∧ HandAt H' h g ∧ H' D = some (.lst us) ∧ All2 (ThAt H') pss us ∧ (∀ ps ∈ pss, Prs n ps) ∧ pss.length = i) ⟨[], [], kp_of (same_upd nD) h, a4.same (same_upd nD), upd_same, .nil, fun ps hp => absurd hp List.not_mem_nil, rfl⟩ ?_ ?_
      · rintro j H5 hj ⟨pss, us, k5, a5, e5, al5, ok5, l5⟩
        refine ⟨rfl, ?_⟩
        refine ⟨_, rfl, _, rfl, h, g, n, rfl, a5, by omega, fun H6 q ws ps k6 a6 eq al6 prs => ?_⟩
        have e6 := k6 _ _ Dh e5
        have lu := al5.len
        refine ⟨us, e6, by have z : sizeLine ≥ 1000000 := by decide
                           omega, pss ++ [ps], us ++ [.ref q], fun b o hb e => ?_, a6.far Dh (fun z => ?_), upd_same, ?_, fun p hp => ?_, by rw [List.length_append, l5]; rfl⟩
        · rw [upd_ne (ne_of_none e nD)]
          exact (k5.trans k6) b o hb e
        · obtain ⟨ns, eg⟩ := a6.cells
          obtain ⟨ns', eg'⟩ := a4.cells
          rw [z, eg'] at nD
          cases nD
        · exact ((al5.imp fun _ _ t => t.kp k6 a5).snoc ⟨q, ws, rfl, eq, al6⟩).imp fun _ _ t => t.far e6
        · rcases List.mem_append.mp hp with z | z
          · exact ok5 p z
          · rw [List.mem_singleton] at z
            rw [z]
            exact prs
      · rintro H5 ⟨pss, us, k5, a5, e5, al5, ok5, l5⟩
        refine ⟨D, us, rfl, .inl ⟨SqL.of e5, fun a na => ?_⟩⟩
        obtain ⟨H6, eH, s6, e6⟩ := newH na (o := .tup us)
        rw [eH]
        have a6 := a5.same s6
        have al6 := al5.imp fun _ _ t => t.same s6
        have il6 : IsL h H6 us (dOf pss) := ThAt.isL al6
        have lu := al5.len
        have lpss : pss.length ≤ 8 := by omega
        have ld : (dOf pss).length = pss.length := List.length_map _
        have good : ∀ d ∈ dOf pss, apB (n : Int) d = true := fun d hd => by
          obtain ⟨ps, hp, rfl⟩ := List.mem_map.mp hd
          exact apB_prs (ok5 ps hp)
        have shd : Sh 8 (.tup (dOf pss)) := shAll (by omega) fun d hd => by
          obtain ⟨ps, hp, rfl⟩ := List.mem_map.mp hd
          exact sh_prs (ok5 ps hp) (by omega) (by decide)
        -- beats, table
        refine ⟨_, rfl, a, us, rfl, .inr (SqT.of e6), ?_⟩
        refine ⟨_, rfl, _, rfl, a, rfl, ⟨_, SqT.of e6⟩, fun F nF => ?_⟩
        refine lc_tup (K := K) (a := a) (xs := us) (fun i H' => ∃ ws, Same H6 H' ∧ H' F = some (.lst ws) ∧ All2 (TmB h H6 H') ((dOf pss).take i) ws) ⟨[], same_upd nF, upd_same, .nil⟩ (fun i H' _ ⟨_, s3, _⟩ => SqT.of (s3 _ _ e6)) ?_ ?_
        · rintro i x H' hi ⟨ws, s3, e3, al3⟩
          obtain ⟨e, he, ie⟩ := il6.get hi
          refine ⟨rfl, ?_⟩
          refine ⟨_, rfl, (by show 2 ≤ sizeLine; decide), fun p np => ?_⟩
          obtain ⟨H4, eH, s4, e4⟩ := newH np (o := .tup [.int 1, x])
          rw [eH]
          have hw := al3.len
          rw [List.length_take] at hw
          refine ⟨ws, s4 _ _ e3, by have z : sizeLine ≥ 1000000 := by decide
                                    omega, ws ++ [.ref p], same_to (s3.trans s4) nF, upd_same, ?_⟩
          rw [List.take_add_one, he]
          exact ((al3.imp fun _ _ t => t.same s4).snoc ⟨p, x, rfl, e4, ie⟩).imp fun _ _ t => t.far (s4 _ _ e3)
        · rintro H7 ⟨ws, s7, e7, al7⟩
          rw [take_all il6.len] at al7
          refine ⟨F, h, n, ws, dOf pss, rfl, by omega, e7, al7.imp fun d v ⟨q, x, e1, e2, e3⟩ => ⟨q, x, e1, e2, e3.same s7⟩, good, fun H8 tb s8 t8 => ⟨_, _, rfl, ?_⟩⟩
          have s68 := s7.trans s8
          have a8 := a6.same s68
          have it8 : Is h H8 (.ref a) (.tup (dOf pss)) := .tup (s68 _ _ e6) (il6.same s68)
          have fl : pss.flatten.length ≤ 300 := by
            have z := flat_len (m := 6) (l := pss) fun r hr => Nat.le_trans (ok5 r hr).len n2
            omega
          have tok : TabOk n (bumps (zeros n) 1 ((dOf pss).flatMap pairsOf)) := tabOk_of n1 (by omega) (psOk_all good) (by rw [flat_pairs]; exact fl)
          have yes : roundB n (bumps (zeros n) 1 ((dOf pss).flatMap pairsOf)) (us.length : Int) (.tup (dOf pss)) = true := by
            show (decide _ && (_ && decide _)) = true
            rw [decide_eq_true (by omega), List.all_eq_true.mpr good, decide_eq_true rfl]
            rfl
          generalize bumps (zeros n) 1 ((dOf pss).flatMap pairsOf) = m at t8 tok yes
          refine ⟨_, rfl, _, rfl, _, rfl, tb, h, n, m, us.length, .ref a, _, rfl, t8, tok, by omega, by omega, it8, shd.mono (by decide), fun H9 s9 => ?_⟩
          rw [yes]
          refine ⟨_, _, rfl, rfl, _, rfl, iteF ?_⟩
          refine ⟨6, rfl, by decide, by decide, ?_⟩
          refine for_range (lo := 0) (n := (6 : Int).toNat) (fun j σ H' => ∃ y7 y8 y9 y10 : Option V, σ = [some (.ref sa), some (.ref h), some (.int (0 + (i : Int))), some (.int (n : Int)), some (.ref a), some (.int (us.length : Int)), some (.ref tb), y7, y8, y9, y10, none, none] ∧ HandAt H' h g ∧ Kp h H9 H') ⟨_, _, _, _, rfl, a8.same s9, fun _ _ _ e => e⟩ ?_ ?_
          · rintro j σ G2 hj ⟨y7, y8, y9, y10, rfl, c2, kk2⟩
            have c9 := a8.same s9
            refine ⟨_, rfl, ?_⟩
            refine ⟨_, rfl, h, g, 4, rfl, c2, by decide, by decide, fun G3 d b3 c3 d0 d1 => ?_⟩
            refine ⟨d, rfl, by omega, by omega, ?_⟩
            refine for_range (lo := 0) (n := d.toNat) (fun l σ H' => ∃ (y9 : Option V) (x : V) (dx : Td), σ = [some (.ref sa), some (.ref h), some (.int (0 + (i : Int))), some (.int (n : Int)), some (.ref a), some (.int (us.length : Int)), some (.ref tb), some (.int (0 + (j : Int))), some x, y9, y10, none, none] ∧ HandAt H' h g ∧ Kp h H9 H' ∧ Is h H' x dx ∧ Sh (8 + l) dx)
              ⟨_, _, _, rfl, c3, kk2.trans b3.kp, (it8.same s9).kp (kk2.trans b3.kp) c9, shd⟩ ?_ ?_
            · rintro l σ G4 hl ⟨y9, x, dx, rfl, c4, kk4, ix, sx⟩
              refine ⟨_, rfl, _, rfl, _, rfl, h, g, n, 8 + l, x, dx, rfl, c4, n1, by omega, by omega, by omega, by omega, ix, sx, fun G5 v k5 c5 ⟨dv, iv, sv⟩ => ?_⟩
              exact ⟨_, v, dv, rfl, c5, kk4.trans k5, iv, sv⟩
            · rintro σ G4 ⟨y9, x, dx, rfl, c4, kk4, ix, sx⟩
              have t4 := (t8.same s9).kp kk4 c9
              refine ⟨_, rfl, _, rfl, _, rfl, tb, h, n, m, us.length, x, dx, rfl, t4, tok, by omega, by omega, ix, sx.mono (by omega), fun G5 s5 => ?_⟩
              refine ⟨_, rfl, _, _, _, _, _, rfl, .ty "bool", .base (.bl _), kitQ (a := "bool") (b := "bool") (r := true) (by decide +kernel) rfl, _, rfl, iteF ?_⟩
              refine ⟨_, rfl, _, rfl, _, rfl, _, rfl, tb, h, n, m, us.length, x, dx, rfl, t4.same s5, tok, ix.same s5, sx.mono (by omega), fun G6 s6 => ?_⟩
              refine ⟨_, _, .bl _, .bl _, rfl, rfl, _, rfl, ?_⟩
              rw [SeqAt.eqv_refl _ rfl]
              exact iteF ⟨_, _, _, _, rfl, (c4.same s5).same s6, (kk4.same s5).same s6⟩
          · rintro σ G2 ⟨y7, y8, y9, y10, rfl, c2, kk2⟩
            exact ⟨_, _, _, _, _, _, _, _, _, rfl, c2⟩
    · rintro σ H2 ⟨y2, y3, y4, y5, y6, y7, y8, y9, y10, rfl, a2⟩
      exact kq H2
end

theorem end_mk {l : PySem.W.OpenLaw} {w : World} {K : PySem.W.Frag} {mg : Str → Option Value} {fa f_law : Addr} {kV dc pm cd ct : Value} {an : Option Addr} (E : ∃ A : Adr, Top K mg A ∧ A.d_law = PySem.W.fnOf "law" "law" (defArgs s_law) (defBody s_law) (defScope s_law) .none kV dc pm an cd ct ∧ A.a_law = f_law) (hfa : mg "law" = some (.ref fa)) :
    ∃ fd : FuncData, (∀ (s : Shared) (v : Value), BindsTo s fd ⟨[v], []⟩ [("_law_script", v)]) ∧ ∀ base : Heap, K.In base → base.Ns mainGlobals mg → FnOk l.prog w K mg base CX0 20 fa fd ["_law_script"] (spLaw K) := by
  obtain ⟨A, T, ed, ea⟩ := E
  have e := hfa.symm.trans T.g_law
  cases e
  exact ⟨A.d_law, fun s v => by rw [ed]; exact .of_eq rfl, fun base _ _ => ok_law T⟩
theorem top_end {l : PySem.W.OpenLaw} {w : World} {K : PySem.W.Frag} {h : Heap} {mg : Str → Option Value} {fa : Addr} (X : K.In h) (G : h.Ns mainGlobals mg) (hfa : mg "law" = some (.ref fa))
    {f_is_integer : Addr} {od_is_integer an_is_integer : Option Addr} {sl_is_integer : Array (Option Value)} {oc_is_integer kV_is_integer dc_is_integer pm_is_integer cd_is_integer ct_is_integer : Value}
    {f_is_integer_from : Addr} {od_is_integer_from an_is_integer_from : Option Addr} {sl_is_integer_from : Array (Option Value)} {oc_is_integer_from kV_is_integer_from dc_is_integer_from pm_is_integer_from cd_is_integer_from ct_is_integer_from : Value}
    {f_is_number_below : Addr} {od_is_number_below an_is_number_below : Option Addr} {sl_is_number_below : Array (Option Value)} {oc_is_number_below kV_is_number_below dc_is_number_below pm_is_number_below cd_is_number_below ct_is_number_below : Value}
    {f_is_tuple_of : Addr} {od_is_tuple_of an_is_tuple_of : Option Addr} {sl_is_tuple_of : Array (Option Value)} {oc_is_tuple_of kV_is_tuple_of dc_is_tuple_of pm_is_tuple_of cd_is_tuple_of ct_is_tuple_of : Value}
    {f_is_pair_below : Addr} {od_is_pair_below an_is_pair_below : Option Addr} {sl_is_pair_below : Array (Option Value)} {oc_is_pair_below kV_is_pair_below dc_is_pair_below pm_is_pair_below cd_is_pair_below ct_is_pair_below : Value}
    {f_all_unlike : Addr} {od_all_unlike an_all_unlike : Option Addr} {sl_all_unlike : Array (Option Value)} {oc_all_unlike kV_all_unlike dc_all_unlike pm_all_unlike cd_all_unlike ct_all_unlike : Value}
    {f_are_apart_below : Addr} {od_are_apart_below an_are_apart_below : Option Addr} {sl_are_apart_below : Array (Option Value)} {oc_are_apart_below kV_are_apart_below dc_are_apart_below pm_are_apart_below cd_are_apart_below ct_are_apart_below : Value}
    {f_is_table_row : Addr} {od_is_table_row an_is_table_row : Option Addr} {sl_is_table_row : Array (Option Value)} {oc_is_table_row kV_is_table_row dc_is_table_row pm_is_table_row cd_is_table_row ct_is_table_row : Value}
    {f_is_table : Addr} {od_is_table an_is_table : Option Addr} {sl_is_table : Array (Option Value)} {oc_is_table kV_is_table dc_is_table pm_is_table cd_is_table ct_is_table : Value}
    {f_check_table : Addr} {od_check_table an_check_table : Option Addr} {sl_check_table : Array (Option Value)} {oc_check_table kV_check_table dc_check_table pm_check_table cd_check_table ct_check_table : Value}
    {f_check_beats : Addr} {od_check_beats an_check_beats : Option Addr} {sl_check_beats : Array (Option Value)} {oc_check_beats kV_check_beats dc_check_beats pm_check_beats cd_check_beats ct_check_beats : Value}
    {f_are_together : Addr} {od_are_together an_are_together : Option Addr} {sl_are_together : Array (Option Value)} {oc_are_together kV_are_together dc_are_together pm_are_together cd_are_together ct_are_together : Value}
    {f_is_round : Addr} {od_is_round an_is_round : Option Addr} {sl_is_round : Array (Option Value)} {oc_is_round kV_is_round dc_is_round pm_is_round cd_is_round ct_is_round : Value}
    {f_law_hand : Addr} {od_law_hand an_law_hand : Option Addr} {sl_law_hand : Array (Option Value)} {oc_law_hand kV_law_hand dc_law_hand pm_law_hand cd_law_hand ct_law_hand : Value}
    {f_law_draw : Addr} {od_law_draw an_law_draw : Option Addr} {sl_law_draw : Array (Option Value)} {oc_law_draw kV_law_draw dc_law_draw pm_law_draw cd_law_draw ct_law_draw : Value}
    {f_law_pick : Addr} {od_law_pick an_law_pick : Option Addr} {sl_law_pick : Array (Option Value)} {oc_law_pick kV_law_pick dc_law_pick pm_law_pick cd_law_pick ct_law_pick : Value}
    {f_law_is_int : Addr} {od_law_is_int an_law_is_int : Option Addr} {sl_law_is_int : Array (Option Value)} {oc_law_is_int kV_law_is_int dc_law_is_int pm_law_is_int cd_law_is_int ct_law_is_int : Value}
    {f_law_is_pairing : Addr} {od_law_is_pairing an_law_is_pairing : Option Addr} {sl_law_is_pairing : Array (Option Value)} {oc_law_is_pairing kV_law_is_pairing dc_law_is_pairing pm_law_is_pairing cd_law_is_pairing ct_law_is_pairing : Value}
    {f_law_counted : Addr} {od_law_counted an_law_counted : Option Addr} {sl_law_counted : Array (Option Value)} {oc_law_counted kV_law_counted dc_law_counted pm_law_counted cd_law_counted ct_law_counted : Value}
    {f_law_is_round : Addr} {od_law_is_round an_law_is_round : Option Addr} {sl_law_is_round : Array (Option Value)} {oc_law_is_round kV_law_is_round dc_law_is_round pm_law_is_round cd_law_is_round ct_law_is_round : Value}
    {f_law_deep : Addr} {od_law_deep an_law_deep : Option Addr} {sl_law_deep : Array (Option Value)} {oc_law_deep kV_law_deep dc_law_deep pm_law_deep cd_law_deep ct_law_deep : Value}
    {f_law_pairing : Addr} {od_law_pairing an_law_pairing : Option Addr} {sl_law_pairing : Array (Option Value)} {oc_law_pairing kV_law_pairing dc_law_pairing pm_law_pairing cd_law_pairing ct_law_pairing : Value}
    {f_law_bent_beat : Addr} {od_law_bent_beat an_law_bent_beat : Option Addr} {sl_law_bent_beat : Array (Option Value)} {oc_law_bent_beat kV_law_bent_beat dc_law_bent_beat pm_law_bent_beat cd_law_bent_beat ct_law_bent_beat : Value}
    {f_law_bent : Addr} {od_law_bent an_law_bent : Option Addr} {sl_law_bent : Array (Option Value)} {oc_law_bent kV_law_bent dc_law_bent pm_law_bent cd_law_bent ct_law_bent : Value}
    {f_law : Addr} {od_law an_law : Option Addr} {sl_law : Array (Option Value)} {oc_law kV_law dc_law pm_law cd_law ct_law : Value}
    {t_MOST_LINES : Tok}
    {t_GREATEST_ENTRY : Tok}
    {t_MOST_BEATS_OF_A_ROUND : Tok}
    (a_is_integer : PySem.W.nsIn K mainGlobals "is_integer" = some (some (.ref f_is_integer)))
    (l_is_integer : K.lookup f_is_integer = some ⟨oc_is_integer, od_is_integer, .func (PySem.W.fnOf "is_integer" "is_integer" (defArgs s_is_integer) (defBody s_is_integer) (defScope s_is_integer) .none kV_is_integer dc_is_integer pm_is_integer an_is_integer cd_is_integer ct_is_integer), sl_is_integer⟩)
    (q_is_integer : PySem.W.codeIn K cd_is_integer "is_integer" = true)
    (p_is_integer : PySem.W.keepIn K (.ref f_is_integer) = true)
    (a_is_integer_from : PySem.W.nsIn K mainGlobals "is_integer_from" = some (some (.ref f_is_integer_from)))
    (l_is_integer_from : K.lookup f_is_integer_from = some ⟨oc_is_integer_from, od_is_integer_from, .func (PySem.W.fnOf "is_integer_from" "is_integer_from" (defArgs s_is_integer_from) (defBody s_is_integer_from) (defScope s_is_integer_from) .none kV_is_integer_from dc_is_integer_from pm_is_integer_from an_is_integer_from cd_is_integer_from ct_is_integer_from), sl_is_integer_from⟩)
    (q_is_integer_from : PySem.W.codeIn K cd_is_integer_from "is_integer_from" = true)
    (p_is_integer_from : PySem.W.keepIn K (.ref f_is_integer_from) = true)
    (a_is_number_below : PySem.W.nsIn K mainGlobals "is_number_below" = some (some (.ref f_is_number_below)))
    (l_is_number_below : K.lookup f_is_number_below = some ⟨oc_is_number_below, od_is_number_below, .func (PySem.W.fnOf "is_number_below" "is_number_below" (defArgs s_is_number_below) (defBody s_is_number_below) (defScope s_is_number_below) .none kV_is_number_below dc_is_number_below pm_is_number_below an_is_number_below cd_is_number_below ct_is_number_below), sl_is_number_below⟩)
    (q_is_number_below : PySem.W.codeIn K cd_is_number_below "is_number_below" = true)
    (p_is_number_below : PySem.W.keepIn K (.ref f_is_number_below) = true)
    (a_is_tuple_of : PySem.W.nsIn K mainGlobals "is_tuple_of" = some (some (.ref f_is_tuple_of)))
    (l_is_tuple_of : K.lookup f_is_tuple_of = some ⟨oc_is_tuple_of, od_is_tuple_of, .func (PySem.W.fnOf "is_tuple_of" "is_tuple_of" (defArgs s_is_tuple_of) (defBody s_is_tuple_of) (defScope s_is_tuple_of) .none kV_is_tuple_of dc_is_tuple_of pm_is_tuple_of an_is_tuple_of cd_is_tuple_of ct_is_tuple_of), sl_is_tuple_of⟩)
    (q_is_tuple_of : PySem.W.codeIn K cd_is_tuple_of "is_tuple_of" = true)
    (p_is_tuple_of : PySem.W.keepIn K (.ref f_is_tuple_of) = true)
    (a_is_pair_below : PySem.W.nsIn K mainGlobals "is_pair_below" = some (some (.ref f_is_pair_below)))
    (l_is_pair_below : K.lookup f_is_pair_below = some ⟨oc_is_pair_below, od_is_pair_below, .func (PySem.W.fnOf "is_pair_below" "is_pair_below" (defArgs s_is_pair_below) (defBody s_is_pair_below) (defScope s_is_pair_below) .none kV_is_pair_below dc_is_pair_below pm_is_pair_below an_is_pair_below cd_is_pair_below ct_is_pair_below), sl_is_pair_below⟩)
    (q_is_pair_below : PySem.W.codeIn K cd_is_pair_below "is_pair_below" = true)
    (p_is_pair_below : PySem.W.keepIn K (.ref f_is_pair_below) = true)
    (a_all_unlike : PySem.W.nsIn K mainGlobals "all_unlike" = some (some (.ref f_all_unlike)))
    (l_all_unlike : K.lookup f_all_unlike = some ⟨oc_all_unlike, od_all_unlike, .func (PySem.W.fnOf "all_unlike" "all_unlike" (defArgs s_all_unlike) (defBody s_all_unlike) (defScope s_all_unlike) .none kV_all_unlike dc_all_unlike pm_all_unlike an_all_unlike cd_all_unlike ct_all_unlike), sl_all_unlike⟩)
    (q_all_unlike : PySem.W.codeIn K cd_all_unlike "all_unlike" = true)
    (p_all_unlike : PySem.W.keepIn K (.ref f_all_unlike) = true)
    (a_are_apart_below : PySem.W.nsIn K mainGlobals "are_apart_below" = some (some (.ref f_are_apart_below)))
    (l_are_apart_below : K.lookup f_are_apart_below = some ⟨oc_are_apart_below, od_are_apart_below, .func (PySem.W.fnOf "are_apart_below" "are_apart_below" (defArgs s_are_apart_below) (defBody s_are_apart_below) (defScope s_are_apart_below) .none kV_are_apart_below dc_are_apart_below pm_are_apart_below an_are_apart_below cd_are_apart_below ct_are_apart_below), sl_are_apart_below⟩)
    (q_are_apart_below : PySem.W.codeIn K cd_are_apart_below "are_apart_below" = true)
    (p_are_apart_below : PySem.W.keepIn K (.ref f_are_apart_below) = true)
    (a_is_table_row : PySem.W.nsIn K mainGlobals "is_table_row" = some (some (.ref f_is_table_row)))
    (l_is_table_row : K.lookup f_is_table_row = some ⟨oc_is_table_row, od_is_table_row, .func (PySem.W.fnOf "is_table_row" "is_table_row" (defArgs s_is_table_row) (defBody s_is_table_row) (defScope s_is_table_row) .none kV_is_table_row dc_is_table_row pm_is_table_row an_is_table_row cd_is_table_row ct_is_table_row), sl_is_table_row⟩)
    (q_is_table_row : PySem.W.codeIn K cd_is_table_row "is_table_row" = true)
    (p_is_table_row : PySem.W.keepIn K (.ref f_is_table_row) = true)
    (a_is_table : PySem.W.nsIn K mainGlobals "is_table" = some (some (.ref f_is_table)))
    (l_is_table : K.lookup f_is_table = some ⟨oc_is_table, od_is_table, .func (PySem.W.fnOf "is_table" "is_table" (defArgs s_is_table) (defBody s_is_table) (defScope s_is_table) .none kV_is_table dc_is_table pm_is_table an_is_table cd_is_table ct_is_table), sl_is_table⟩)
    (q_is_table : PySem.W.codeIn K cd_is_table "is_table" = true)
    (p_is_table : PySem.W.keepIn K (.ref f_is_table) = true)
    (a_check_table : PySem.W.nsIn K mainGlobals "check_table" = some (some (.ref f_check_table)))
    (l_check_table : K.lookup f_check_table = some ⟨oc_check_table, od_check_table, .func (PySem.W.fnOf "check_table" "check_table" (defArgs s_check_table) (defBody s_check_table) (defScope s_check_table) .none kV_check_table dc_check_table pm_check_table an_check_table cd_check_table ct_check_table), sl_check_table⟩)
    (q_check_table : PySem.W.codeIn K cd_check_table "check_table" = true)
    (p_check_table : PySem.W.keepIn K (.ref f_check_table) = true)
    (a_check_beats : PySem.W.nsIn K mainGlobals "check_beats" = some (some (.ref f_check_beats)))
    (l_check_beats : K.lookup f_check_beats = some ⟨oc_check_beats, od_check_beats, .func (PySem.W.fnOf "check_beats" "check_beats" (defArgs s_check_beats) (defBody s_check_beats) (defScope s_check_beats) .none kV_check_beats dc_check_beats pm_check_beats an_check_beats cd_check_beats ct_check_beats), sl_check_beats⟩)
    (q_check_beats : PySem.W.codeIn K cd_check_beats "check_beats" = true)
    (p_check_beats : PySem.W.keepIn K (.ref f_check_beats) = true)
    (a_are_together : PySem.W.nsIn K mainGlobals "are_together" = some (some (.ref f_are_together)))
    (l_are_together : K.lookup f_are_together = some ⟨oc_are_together, od_are_together, .func (PySem.W.fnOf "are_together" "are_together" (defArgs s_are_together) (defBody s_are_together) (defScope s_are_together) .none kV_are_together dc_are_together pm_are_together an_are_together cd_are_together ct_are_together), sl_are_together⟩)
    (q_are_together : PySem.W.codeIn K cd_are_together "are_together" = true)
    (p_are_together : PySem.W.keepIn K (.ref f_are_together) = true)
    (a_is_round : PySem.W.nsIn K mainGlobals "is_round" = some (some (.ref f_is_round)))
    (l_is_round : K.lookup f_is_round = some ⟨oc_is_round, od_is_round, .func (PySem.W.fnOf "is_round" "is_round" (defArgs s_is_round) (defBody s_is_round) (defScope s_is_round) .none kV_is_round dc_is_round pm_is_round an_is_round cd_is_round ct_is_round), sl_is_round⟩)
    (q_is_round : PySem.W.codeIn K cd_is_round "is_round" = true)
    (p_is_round : PySem.W.keepIn K (.ref f_is_round) = true)
    (a_law_hand : PySem.W.nsIn K mainGlobals "_law_hand" = some (some (.ref f_law_hand)))
    (l_law_hand : K.lookup f_law_hand = some ⟨oc_law_hand, od_law_hand, .func (PySem.W.fnOf "_law_hand" "_law_hand" (defArgs s_law_hand) (defBody s_law_hand) (defScope s_law_hand) .none kV_law_hand dc_law_hand pm_law_hand an_law_hand cd_law_hand ct_law_hand), sl_law_hand⟩)
    (q_law_hand : PySem.W.codeIn K cd_law_hand "_law_hand" = true)
    (p_law_hand : PySem.W.keepIn K (.ref f_law_hand) = true)
    (a_law_draw : PySem.W.nsIn K mainGlobals "_law_draw" = some (some (.ref f_law_draw)))
    (l_law_draw : K.lookup f_law_draw = some ⟨oc_law_draw, od_law_draw, .func (PySem.W.fnOf "_law_draw" "_law_draw" (defArgs s_law_draw) (defBody s_law_draw) (defScope s_law_draw) .none kV_law_draw dc_law_draw pm_law_draw an_law_draw cd_law_draw ct_law_draw), sl_law_draw⟩)
    (q_law_draw : PySem.W.codeIn K cd_law_draw "_law_draw" = true)
    (p_law_draw : PySem.W.keepIn K (.ref f_law_draw) = true)
    (a_law_pick : PySem.W.nsIn K mainGlobals "_law_pick" = some (some (.ref f_law_pick)))
    (l_law_pick : K.lookup f_law_pick = some ⟨oc_law_pick, od_law_pick, .func (PySem.W.fnOf "_law_pick" "_law_pick" (defArgs s_law_pick) (defBody s_law_pick) (defScope s_law_pick) .none kV_law_pick dc_law_pick pm_law_pick an_law_pick cd_law_pick ct_law_pick), sl_law_pick⟩)
    (q_law_pick : PySem.W.codeIn K cd_law_pick "_law_pick" = true)
    (p_law_pick : PySem.W.keepIn K (.ref f_law_pick) = true)
    (a_law_is_int : PySem.W.nsIn K mainGlobals "_law_is_int" = some (some (.ref f_law_is_int)))
    (l_law_is_int : K.lookup f_law_is_int = some ⟨oc_law_is_int, od_law_is_int, .func (PySem.W.fnOf "_law_is_int" "_law_is_int" (defArgs s_law_is_int) (defBody s_law_is_int) (defScope s_law_is_int) .none kV_law_is_int dc_law_is_int pm_law_is_int an_law_is_int cd_law_is_int ct_law_is_int), sl_law_is_int⟩)
    (q_law_is_int : PySem.W.codeIn K cd_law_is_int "_law_is_int" = true)
    (p_law_is_int : PySem.W.keepIn K (.ref f_law_is_int) = true)
    (a_law_is_pairing : PySem.W.nsIn K mainGlobals "_law_is_pairing" = some (some (.ref f_law_is_pairing)))
    (l_law_is_pairing : K.lookup f_law_is_pairing = some ⟨oc_law_is_pairing, od_law_is_pairing, .func (PySem.W.fnOf "_law_is_pairing" "_law_is_pairing" (defArgs s_law_is_pairing) (defBody s_law_is_pairing) (defScope s_law_is_pairing) .none kV_law_is_pairing dc_law_is_pairing pm_law_is_pairing an_law_is_pairing cd_law_is_pairing ct_law_is_pairing), sl_law_is_pairing⟩)
    (q_law_is_pairing : PySem.W.codeIn K cd_law_is_pairing "_law_is_pairing" = true)
    (p_law_is_pairing : PySem.W.keepIn K (.ref f_law_is_pairing) = true)
    (a_law_counted : PySem.W.nsIn K mainGlobals "_law_counted" = some (some (.ref f_law_counted)))
    (l_law_counted : K.lookup f_law_counted = some ⟨oc_law_counted, od_law_counted, .func (PySem.W.fnOf "_law_counted" "_law_counted" (defArgs s_law_counted) (defBody s_law_counted) (defScope s_law_counted) .none kV_law_counted dc_law_counted pm_law_counted an_law_counted cd_law_counted ct_law_counted), sl_law_counted⟩)
    (q_law_counted : PySem.W.codeIn K cd_law_counted "_law_counted" = true)
    (p_law_counted : PySem.W.keepIn K (.ref f_law_counted) = true)
    (a_law_is_round : PySem.W.nsIn K mainGlobals "_law_is_round" = some (some (.ref f_law_is_round)))
    (l_law_is_round : K.lookup f_law_is_round = some ⟨oc_law_is_round, od_law_is_round, .func (PySem.W.fnOf "_law_is_round" "_law_is_round" (defArgs s_law_is_round) (defBody s_law_is_round) (defScope s_law_is_round) .none kV_law_is_round dc_law_is_round pm_law_is_round an_law_is_round cd_law_is_round ct_law_is_round), sl_law_is_round⟩)
    (q_law_is_round : PySem.W.codeIn K cd_law_is_round "_law_is_round" = true)
    (p_law_is_round : PySem.W.keepIn K (.ref f_law_is_round) = true)
    (a_law_deep : PySem.W.nsIn K mainGlobals "_law_deep" = some (some (.ref f_law_deep)))
    (l_law_deep : K.lookup f_law_deep = some ⟨oc_law_deep, od_law_deep, .func (PySem.W.fnOf "_law_deep" "_law_deep" (defArgs s_law_deep) (defBody s_law_deep) (defScope s_law_deep) .none kV_law_deep dc_law_deep pm_law_deep an_law_deep cd_law_deep ct_law_deep), sl_law_deep⟩)
    (q_law_deep : PySem.W.codeIn K cd_law_deep "_law_deep" = true)
    (p_law_deep : PySem.W.keepIn K (.ref f_law_deep) = true)
    (a_law_pairing : PySem.W.nsIn K mainGlobals "_law_pairing" = some (some (.ref f_law_pairing)))
    (l_law_pairing : K.lookup f_law_pairing = some ⟨oc_law_pairing, od_law_pairing, .func (PySem.W.fnOf "_law_pairing" "_law_pairing" (defArgs s_law_pairing) (defBody s_law_pairing) (defScope s_law_pairing) .none kV_law_pairing dc_law_pairing pm_law_pairing an_law_pairing cd_law_pairing ct_law_pairing), sl_law_pairing⟩)
    (q_law_pairing : PySem.W.codeIn K cd_law_pairing "_law_pairing" = true)
    (p_law_pairing : PySem.W.keepIn K (.ref f_law_pairing) = true)
    (a_law_bent_beat : PySem.W.nsIn K mainGlobals "_law_bent_beat" = some (some (.ref f_law_bent_beat)))
    (l_law_bent_beat : K.lookup f_law_bent_beat = some ⟨oc_law_bent_beat, od_law_bent_beat, .func (PySem.W.fnOf "_law_bent_beat" "_law_bent_beat" (defArgs s_law_bent_beat) (defBody s_law_bent_beat) (defScope s_law_bent_beat) .none kV_law_bent_beat dc_law_bent_beat pm_law_bent_beat an_law_bent_beat cd_law_bent_beat ct_law_bent_beat), sl_law_bent_beat⟩)
    (q_law_bent_beat : PySem.W.codeIn K cd_law_bent_beat "_law_bent_beat" = true)
    (p_law_bent_beat : PySem.W.keepIn K (.ref f_law_bent_beat) = true)
    (a_law_bent : PySem.W.nsIn K mainGlobals "_law_bent" = some (some (.ref f_law_bent)))
    (l_law_bent : K.lookup f_law_bent = some ⟨oc_law_bent, od_law_bent, .func (PySem.W.fnOf "_law_bent" "_law_bent" (defArgs s_law_bent) (defBody s_law_bent) (defScope s_law_bent) .none kV_law_bent dc_law_bent pm_law_bent an_law_bent cd_law_bent ct_law_bent), sl_law_bent⟩)
    (q_law_bent : PySem.W.codeIn K cd_law_bent "_law_bent" = true)
    (p_law_bent : PySem.W.keepIn K (.ref f_law_bent) = true)
    (a_law : PySem.W.nsIn K mainGlobals "law" = some (some (.ref f_law)))
    (l_law : K.lookup f_law = some ⟨oc_law, od_law, .func (PySem.W.fnOf "law" "law" (defArgs s_law) (defBody s_law) (defScope s_law) .none kV_law dc_law pm_law an_law cd_law ct_law), sl_law⟩)
    (q_law : PySem.W.codeIn K cd_law "law" = true)
    (p_law : PySem.W.keepIn K (.ref f_law) = true)
    (k_MOST_LINES : PySem.W.nsIn K mainGlobals "MOST_LINES" = some (some (.int 12 t_MOST_LINES)))
    (k_GREATEST_ENTRY : PySem.W.nsIn K mainGlobals "GREATEST_ENTRY" = some (some (.int 300 t_GREATEST_ENTRY)))
    (k_MOST_BEATS_OF_A_ROUND : PySem.W.nsIn K mainGlobals "MOST_BEATS_OF_A_ROUND" = some (some (.int 300 t_MOST_BEATS_OF_A_ROUND)))
    (z_abs : PySem.W.nsIn K mainGlobals "abs" = some none)
    (z_all : PySem.W.nsIn K mainGlobals "all" = some none)
    (z_any : PySem.W.nsIn K mainGlobals "any" = some none)
    (z_bool : PySem.W.nsIn K mainGlobals "bool" = some none)
    (z_int : PySem.W.nsIn K mainGlobals "int" = some none)
    (z_isinstance : PySem.W.nsIn K mainGlobals "isinstance" = some none)
    (z_len : PySem.W.nsIn K mainGlobals "len" = some none)
    (z_list : PySem.W.nsIn K mainGlobals "list" = some none)
    (z_range : PySem.W.nsIn K mainGlobals "range" = some none)
    (z_set : PySem.W.nsIn K mainGlobals "set" = some none)
    (z_sorted : PySem.W.nsIn K mainGlobals "sorted" = some none)
    (z_tuple : PySem.W.nsIn K mainGlobals "tuple" = some none)
    (z_zip : PySem.W.nsIn K mainGlobals "zip" = some none)
    : ∃ fd : FuncData, (∀ (s : Shared) (v : Value), BindsTo s fd ⟨[v], []⟩ [("_law_script", v)]) ∧ ∀ base : Heap, K.In base → base.Ns mainGlobals mg → FnOk l.prog w K mg base CX0 20 fa fd ["_law_script"] (spLaw K) :=
  end_mk (top_mk (l := l) (w := w) X G a_is_integer l_is_integer q_is_integer p_is_integer a_is_integer_from l_is_integer_from q_is_integer_from p_is_integer_from a_is_number_below l_is_number_below q_is_number_below p_is_number_below a_is_tuple_of l_is_tuple_of q_is_tuple_of p_is_tuple_of a_is_pair_below l_is_pair_below q_is_pair_below p_is_pair_below a_all_unlike l_all_unlike q_all_unlike p_all_unlike a_are_apart_below l_are_apart_below q_are_apart_below p_are_apart_below a_is_table_row l_is_table_row q_is_table_row p_is_table_row a_is_table l_is_table q_is_table p_is_table a_check_table l_check_table q_check_table p_check_table a_check_beats l_check_beats q_check_beats p_check_beats a_are_together l_are_together q_are_together p_are_together a_is_round l_is_round q_is_round p_is_round a_law_hand l_law_hand q_law_hand p_law_hand a_law_draw l_law_draw q_law_draw p_law_draw a_law_pick l_law_pick q_law_pick p_law_pick a_law_is_int l_law_is_int q_law_is_int p_law_is_int a_law_is_pairing l_law_is_pairing q_law_is_pairing p_law_is_pairing a_law_counted l_law_counted q_law_counted p_law_counted a_law_is_round l_law_is_round q_law_is_round p_law_is_round a_law_deep l_law_deep q_law_deep p_law_deep a_law_pairing l_law_pairing q_law_pairing p_law_pairing a_law_bent_beat l_law_bent_beat q_law_bent_beat p_law_bent_beat a_law_bent l_law_bent q_law_bent p_law_bent a_law l_law q_law p_law k_MOST_LINES k_GREATEST_ENTRY k_MOST_BEATS_OF_A_ROUND z_abs z_all z_any z_bool z_int z_isinstance z_len z_list z_range z_set z_sorted z_tuple z_zip) hfa

end KX
open PySem PySem.W PyProof.Rows in
set_option maxRecDepth 100000 in
set_option maxHeartbeats 0 in
theorem PySem.Challenge.cw_exactbeats_k62_whole_rounds_spoiled_holds : PySem.Challenge.rw_exactbeats_k62_whole_rounds_spoiled.Holds := by
  w_on; o_law; k_head; (case hw => w_witness2)
  k_fill
  refine L2.walk_of (l := PySem.Challenge.rw_exactbeats_k62_whole_rounds_spoiled) (n := 63) (k := 20) (x := "_law_script") (CX := fun _ => L2.CX0) (sp := fun w => KX.spLaw _) rfl (by decide) rfl ⟨rfl, by decide, by decide⟩ (fun w h Y => PySem.W.kIn_of Y) ?F (fun _ _ a ns hl _ hS => ⟨a, ns, rfl, hS, hl, fun _ => rfl⟩) (fun _ _ _ _ _ h => h)
  case F =>
    intro w mg fa h KX_ G hmg
    refine' KX.top_end KX_ G hmg ?a_is_integer ?l_is_integer ?q_is_integer ?p_is_integer ?a_is_integer_from ?l_is_integer_from ?q_is_integer_from ?p_is_integer_from ?a_is_number_below ?l_is_number_below ?q_is_number_below ?p_is_number_below ?a_is_tuple_of ?l_is_tuple_of ?q_is_tuple_of ?p_is_tuple_of ?a_is_pair_below ?l_is_pair_below ?q_is_pair_below ?p_is_pair_below ?a_all_unlike ?l_all_unlike ?q_all_unlike ?p_all_unlike ?a_are_apart_below ?l_are_apart_below ?q_are_apart_below ?p_are_apart_below ?a_is_table_row ?l_is_table_row ?q_is_table_row ?p_is_table_row ?a_is_table ?l_is_table ?q_is_table ?p_is_table ?a_check_table ?l_check_table ?q_check_table ?p_check_table ?a_check_beats ?l_check_beats ?q_check_beats ?p_check_beats ?a_are_together ?l_are_together ?q_are_together ?p_are_together ?a_is_round ?l_is_round ?q_is_round ?p_is_round ?a_law_hand ?l_law_hand ?q_law_hand ?p_law_hand ?a_law_draw ?l_law_draw ?q_law_draw ?p_law_draw ?a_law_pick ?l_law_pick ?q_law_pick ?p_law_pick ?a_law_is_int ?l_law_is_int ?q_law_is_int ?p_law_is_int ?a_law_is_pairing ?l_law_is_pairing ?q_law_is_pairing ?p_law_is_pairing ?a_law_counted ?l_law_counted ?q_law_counted ?p_law_counted ?a_law_is_round ?l_law_is_round ?q_law_is_round ?p_law_is_round ?a_law_deep ?l_law_deep ?q_law_deep ?p_law_deep ?a_law_pairing ?l_law_pairing ?q_law_pairing ?p_law_pairing ?a_law_bent_beat ?l_law_bent_beat ?q_law_bent_beat ?p_law_bent_beat ?a_law_bent ?l_law_bent ?q_law_bent ?p_law_bent ?a_law ?l_law ?q_law ?p_law ?k_MOST_LINES ?k_GREATEST_ENTRY ?k_MOST_BEATS_OF_A_ROUND ?z_abs ?z_all ?z_any ?z_bool ?z_int ?z_isinstance ?z_len ?z_list ?z_range ?z_set ?z_sorted ?z_tuple ?z_zip
    (case a_is_integer => k_is)
    (case l_is_integer => k_is)
    (case q_is_integer => k_is)
    (case p_is_integer => k_is)
    (case a_is_integer_from => k_is)
    (case l_is_integer_from => k_is)
    (case q_is_integer_from => k_is)
    (case p_is_integer_from => k_is)
    (case a_is_number_below => k_is)
    (case l_is_number_below => k_is)
    (case q_is_number_below => k_is)
    (case p_is_number_below => k_is)
    (case a_is_tuple_of => k_is)
    (case l_is_tuple_of => k_is)
    (case q_is_tuple_of => k_is)
    (case p_is_tuple_of => k_is)
    (case a_is_pair_below => k_is)
    (case l_is_pair_below => k_is)
    (case q_is_pair_below => k_is)
    (case p_is_pair_below => k_is)
    (case a_all_unlike => k_is)
    (case l_all_unlike => k_is)
    (case q_all_unlike => k_is)
    (case p_all_unlike => k_is)
    (case a_are_apart_below => k_is)
    (case l_are_apart_below => k_is)
    (case q_are_apart_below => k_is)
    (case p_are_apart_below => k_is)
    (case a_is_table_row => k_is)
    (case l_is_table_row => k_is)
    (case q_is_table_row => k_is)
    (case p_is_table_row => k_is)
    (case a_is_table => k_is)
    (case l_is_table => k_is)
    (case q_is_table => k_is)
    (case p_is_table => k_is)
    (case a_check_table => k_is)
    (case l_check_table => k_is)
    (case q_check_table => k_is)
    (case p_check_table => k_is)
    (case a_check_beats => k_is)
    (case l_check_beats => k_is)
    (case q_check_beats => k_is)
    (case p_check_beats => k_is)
    (case a_are_together => k_is)
    (case l_are_together => k_is)
    (case q_are_together => k_is)
    (case p_are_together => k_is)
    (case a_is_round => k_is)
    (case l_is_round => k_is)
    (case q_is_round => k_is)
    (case p_is_round => k_is)
    (case a_law_hand => k_is)
    (case l_law_hand => k_is)
    (case q_law_hand => k_is)
    (case p_law_hand => k_is)
    (case a_law_draw => k_is)
    (case l_law_draw => k_is)
    (case q_law_draw => k_is)
    (case p_law_draw => k_is)
    (case a_law_pick => k_is)
    (case l_law_pick => k_is)
    (case q_law_pick => k_is)
    (case p_law_pick => k_is)
    (case a_law_is_int => k_is)
    (case l_law_is_int => k_is)
    (case q_law_is_int => k_is)
    (case p_law_is_int => k_is)
    (case a_law_is_pairing => k_is)
    (case l_law_is_pairing => k_is)
    (case q_law_is_pairing => k_is)
    (case p_law_is_pairing => k_is)
    (case a_law_counted => k_is)
    (case l_law_counted => k_is)
    (case q_law_counted => k_is)
    (case p_law_counted => k_is)
    (case a_law_is_round => k_is)
    (case l_law_is_round => k_is)
    (case q_law_is_round => k_is)
    (case p_law_is_round => k_is)
    (case a_law_deep => k_is)
    (case l_law_deep => k_is)
    (case q_law_deep => k_is)
    (case p_law_deep => k_is)
    (case a_law_pairing => k_is)
    (case l_law_pairing => k_is)
    (case q_law_pairing => k_is)
    (case p_law_pairing => k_is)
    (case a_law_bent_beat => k_is)
    (case l_law_bent_beat => k_is)
    (case q_law_bent_beat => k_is)
    (case p_law_bent_beat => k_is)
    (case a_law_bent => k_is)
    (case l_law_bent => k_is)
    (case q_law_bent => k_is)
    (case p_law_bent => k_is)
    (case a_law => k_is)
    (case l_law => k_is)
    (case q_law => k_is)
    (case p_law => k_is)
    (case k_MOST_LINES => k_is)
    (case k_GREATEST_ENTRY => k_is)
    (case k_MOST_BEATS_OF_A_ROUND => k_is)
    (case z_abs => k_is)
    (case z_all => k_is)
    (case z_any => k_is)
    (case z_bool => k_is)
    (case z_int => k_is)
    (case z_isinstance => k_is)
    (case z_len => k_is)
    (case z_list => k_is)
    (case z_range => k_is)
    (case z_set => k_is)
    (case z_sorted => k_is)
    (case z_tuple => k_is)
    (case z_zip => k_is)
