import PyProof.Rows.All
import Wide.All
import OpenK.AllK
import Wide.FinOn
import HandS.ForMost
import HandS.IsInst
import HandS.More
import HandS.SetFor
import HandS.Evl
import HandS.Walk
import PyProof.Rows.CountFlat
import HandS.ForExc
import HandS.TryMany
import HandS.Small
import HandS.Style
import HandS.Lambda
import HandS.EndTab
import HandS.ExcIs
import KE.KNestM
import PyProof.InstEq
import HandS.Zip
import HandS.ExcField
import KE.KExcIs
import PySem.Challenge.RW_exactbeats_k07_whole_copies_of_ideal_swi
set_option Elab.async false
set_option linter.all false
set_option maxRecDepth 100000
set_option maxHeartbeats 4000000
/-! Rules that the layer lacks: an own exception made without arguments; what a lambda's call may raise. -/
namespace GX
open PySem PySem.Spec PyProof.Rows L2
section
variable {X : Cx}
/-- X(): an own exception class without an __init__ of its own, no argument -/
theorem pmk_own0 {C : Addr} {bmB : List Value} {B newId initId : String} {x : Str} {p pos : Pos} (FB : ExcBaseFacts B newId initId bmB) (hx : PySem.W.excIn X.K C bmB newId = true) (hm : X.mg x = some (.ref C)) (hk : PySem.W.keepIn X.K (.ref C) = true)
    (hR : Raises X (.ref C)) (hg : Gl X x) (hdb : (x == ("__debug__" : Str)) = false := by decide) : PMk X (.Call (.Name x p) [] [] pos) (fun _ H Q => Q (.ref C) none H) := by
  intro pins s σ H Q I h
  refine wpAny_Call_Name_kw (ld_glob I hg hm (PySem.W.callWith_K0 I.kIn hk ?_) hdb)
  obtain ⟨bm, N, nm, qn, bs, hdct, sn, sub, ab, col, dd, k0, k1, k2, k3, k5, mN, e1, e2, e3, tail⟩ := exc_obj I.kIn hx
  refine wpAny_call_exc_subT (rest := [] ++ []) FB tail e1 e2 e3 (fun h' e made => ?_)
  refine mk_of I made hR h ?_
  -- the new address is tracked by nothing
  cases q : H e with
  | none => rfl
  | some o =>
    have z := made.new
    obtain ⟨b, hb⟩ := objOk_get (I.hok e o q)
    rw [hb] at z
    cases z
/-- raising calls within a def's own body (or a lambda's) -/
theorem passX {E : XK} (h1 : X.stack = X.env :: X.outer) (h2 : X.env.frame = some X.env.locals) (h3 : X.ex = []) {E₁ : Value → Shared → Prop}
    (h4 : X.xe = fun e s' => wpAny (model X.prog X.w) X.A (leaving X.env e) (fun _ s'' => L2.CX X.prog X.w X.outer X.H_0 X.s_0 E e s'') E₁ s') : Passes (L2.CX X.prog X.w) X E :=
  passes_call (takes_of h1 h2 h3 h4) fun _ _ _ _ h => h
theorem takes_len {W : WX} (h : Takes X W) : Takes X (fun cls d σ H => σ.length = X.N.length → W cls d σ H) := fun u s' z => by
  obtain ⟨a, B, sI, pins, σ, H, cls, d, e1, I, r1, r2, r3, r4, r5, r6, r7⟩ := z
  exact h u s' ⟨a, B, sI, pins, σ, H, cls, d, e1, I, r1, r2, r3, r4, r5, r6, r7 I.len⟩
theorem call_isEg {a : Addr} {cls : Value} {d : Option Addr} {oe : Obj} {pn : List (Addr × Obj)} (hz : Zc cls d oe) (hf : ∃ vs, oe.data = Data.fields vs) :
    CallR (X.suite a ((a, oe) :: pn)) (.builtin "isinstance") (fun xs H Q => ∃ D, cls = .ref D ∧ d = none ∧ ExcC X.K D ∧ rIsE X.K D a xs H Q) := by
  intro pins s σ H xs us Q I r h
  obtain ⟨D, rfl, rfl, hE, h⟩ := h
  exact call_isE hE hz hf pins s σ H xs us Q I r h
/-- isinstance(e, c), e the error that the suite holds, with fields or without -/
theorem call_isEa {a : Addr} {cls : Value} {d : Option Addr} {oe : Obj} {pn : List (Addr × Obj)} (hz : Zc cls d oe) (hf : ∃ vs, oe.data = Data.fields vs) :
    CallR (X.suite a ((a, oe) :: pn)) (.builtin "isinstance") (fun xs H Q => ∃ D, cls = .ref D ∧ ExcC X.K D ∧ (d = none ∨ ∃ dd fs, d = some dd ∧ H dd = some (.xd fs)) ∧ rIsE X.K D a xs H Q) := by
  intro pins s σ H xs us Q I r h
  obtain ⟨D, rfl, C, hd, c, cv, b, rfl, hcv, e, q⟩ := h
  obtain ⟨u, u2, rfl, ru, ru2⟩ := r.two
  cases (show u = Value.ref a from ru)
  cases hcv _ ru2
  obtain ⟨there, _⟩ := I.pin (a, oe) (List.mem_append.mpr (.inl List.mem_cons_self))
  obtain ⟨vs, hv⟩ := hf
  have nc : PySem.W.notCls oe = true := by
    unfold PySem.W.notCls
    rw [hv]
  have od : ∃ od, PySem.W.InstAt s.heap a oe D od := by
    rcases hd with e1 | ⟨dd, fs, e1, e2⟩
    · subst e1
      exact ⟨none, there, hz.1, nc, by rw [hz.2]; trivial⟩
    · subst e1
      obtain ⟨mA, hns, _⟩ : ObjOk X.prog X.w H s.heap dd (.xd fs) := I.hok dd _ e2
      obtain ⟨od, ho, _⟩ := lookIn_ns hns
      exact ⟨some od, there, hz.1, nc, by rw [hz.2]; exact ho⟩
  obtain ⟨od, J⟩ := od
  have isC : (PySem.W.clsIn X.K D).isSome = true := by
    obtain ⟨cd, hc, _⟩ := PySem.W.any_some C.hd
    rw [hc] <;> rfl
  exact PySem.W.kia_one (PySem.W.kitx_exc isC C.hg C.hk C.hs C.ha C.hn C.ht C.hm) I.kIn J e (fun z => nomatch z) fun tk => ⟨.bl b, H, I.kept (t' := tk) fun _ _ z => z, rfl, q⟩
theorem exm_kit {K : PySem.W.Frag} {t c : Value} {b : Bool} (h : PySem.W.exmOne K t c = some b) : PySem.W.kitCls K t c = some b := by
  unfold PySem.W.exmOne at h
  split at h
  · exact h
  · cases h
theorem kit_yes {K : PySem.W.Frag} {t c : Value} (h : PySem.W.exmOne K t c = some true) : PySem.W.kitOne K t c = some true := by
  unfold PySem.W.kitOne
  split
  · rfl
  · exact exm_kit h
theorem kit_no {K : PySem.W.Frag} {D C : Addr} (h : PySem.W.exmOne K (.ref D) (.ref C) = some false) (self : PySem.W.subIn K (.ref C) (.ref C) = some true) (no : PySem.W.subIn K (.ref D) (.ref C) = some false) : PySem.W.kitOne K (.ref D) (.ref C) = some false := by
  unfold PySem.W.kitOne
  split
  · rename_i e
    have e2 : (Value.ref D) = .ref C := eq_of_beq e
    rw [e2, self] at no
    cases no
  · exact exm_kit h
theorem kit_bi {K : PySem.W.Frag} {D : Addr} {T : String} {b : Bool} (m : PySem.W.kitMeta T = true) (h : PySem.W.subIn K (.ref D) (.type T) = some b) : PySem.W.kitOne K (.ref D) (.type T) = some b := by
  unfold PySem.W.kitOne
  split
  · rename_i e
    have e2 : (Value.ref D) = .type T := eq_of_beq e
    cases e2
  · show (if PySem.W.kitMeta T = true then PySem.W.subIn K (.ref D) (.type T) else none) = some b
    rw [if_pos m]
    exact h
/-- a def of the text whose code is known -/
structure FunC (K : PySem.W.Frag) (x qual : Str) (st : Stmt) (f : Addr) (fd : FuncData) (c : Addr) : Prop where
  ex : ∃ oc od kV doc pm an ct osl, fd = PySem.W.fnOf x qual (defArgs st) (defBody st) (defScope st) .none kV doc pm an (.ref c) ct ∧ K.lookup f = some ⟨oc, od, .func fd, osl⟩ ∧ PySem.W.codeIn K (.ref c) qual = true
theorem FunC.ok {P : Program} {w : World} {K : PySem.W.Frag} {mg : Str → Option Value} {base : Heap} {x qual : Str} {st : Stmt} {f c : Addr} {fd : FuncData} {N ps : List Str} {k : Nat} {sp : Sp} (F : FunC K x qual st f fd c) (S : FnScope N ps (defScope st))
    (len : ∀ vs H Q E, sp vs H Q E → vs.length = ps.length)
    (hb : ∀ (A : Around) (outer : List Env) (s : Shared) (H : Hp) (vs : List V) (Q : VK) (E : XK), Room k (A.deeper (envOfC qual (defScope st) s.heap.objs.size f (.ref c))) → sp vs H Q E →
      ∃ t, PSs (cxOf L2.CX0 P w K mg base N qual (defScope st) f (.ref c) A outer s H E).nox (defBody st) t ∧ t { nx := fun _ H' => Q .non H', rt := Q } (L2.start N vs) H) : FnOk P w K mg base L2.CX0 (k + 1) f fd ps sp := by
  obtain ⟨oc, od, kV, doc, pm, an, ct, osl, rfl, lk, hcd⟩ := F.ex
  refine fn_of lk hcd S len fun A outer s H vs Q E hr h => ?_
  obtain ⟨t, h1, h2⟩ := hb A outer s H vs Q E hr h
  exact ⟨t, h1.nox, h2⟩
def tTru (K : PySem.W.Frag) (ta : TE) : L2.St → Hp → (Bool → Hp → Prop) → Prop := fun σ H Q => ta σ H fun x H' => ∃ k, TruV K x H' k ∧ Q k H'
def WL (n : Nat) (W : WX) : WX := fun cls d σ H => σ.length = n → W cls d σ H
def EE (n : Nat) (W : WX) : XK := fun cls d H => ∀ σ : L2.St, σ.length = n → W cls d σ H
/-- raising calls within a try's body -/
theorem passT (n : Nat) {W : WX} (tk : Takes X W) (hn : X.N.length = n := by rfl) : Passes (L2.CX X.prog X.w) X (EE n W) := passes_call (takes_len tk) fun cls d σ H h hl => h σ (hl.trans hn)
/-- f(lambda: e) -/
theorem pe_lam {T : List (Addr × Str)} {TT : (XK → Hp → VK → Prop) → Hp → VK → Prop} {x a : Str} {g c P : Addr} {fd : FuncData} {k : Nat} {st : Stmt} {Ng : List Str} {params : Arguments} {body : Expr} {scope : Scope} {t : XK → TE} {p lpos pos : Pos}
    (F : Fun X.K x x st g fd) (Sg : FnScope Ng [a] (defScope st)) (hg : Gl X x) (hm : X.mg x = some (.ref g)) (hb : Binds X.K fd [a] []) (hNg : Ng[0]? = some a) (hva : Vis (defScope st) a)
    (hG : ∀ cdv, LamX.GivesTo X Ng x (defScope st) g cdv (defBody st) a (X.env.qual ++ "<lambda>") TT) (TB : LamX.TabB X.base X.mg c P) (hcode : X.env.code = .ref c) (hmT : (P, X.env.qual ++ "<lambda>") ∈ T)
    (hu : ∀ p ∈ T, p.1 = P → p.2 = X.env.qual ++ "<lambda>") (hr : Room (k + 2) X.A) (L : LamX.LamS X.env.scope scope) (hdef : defaultsOf params X.env = ([], []))
    (hbind : ∀ (q : Str) (cl : List (Str × Addr)) (pm cv ctv : Value), bindArgs (PySem.W.kla_fn "<lambda>" q params body scope cl pm cv ctv) ⟨[], []⟩ = pure [])
    (hbody : ∀ (A : Around) (outer : List Env) (s : Shared) (H : Hp) (E : XK) (f c' : Addr), Room k (A.deeper (LamX.lamEnv X scope s.heap.objs.size f c')) → PE (LamX.lamCx X A outer s H E scope f c') body (t E))
    (h1 : (x == ("__debug__" : Str)) = false := by decide) (h2 : (a == ("__debug__" : Str)) = false := by decide) (h3 : (a == ("__classdict__" : Str)) = false := by decide) :
    PE X (.Call (.Name x p) [.Lambda params body scope lpos] [] pos) (LamX.tLam T TT t) := by
  obtain ⟨oc, od, kV, doc, pm, an, cdv, ct, osl, rfl, lk, hcd⟩ := F.ex
  exact LamX.pe_lamcall hg hm F.kp lk hcd hb Sg hNg hva (hG cdv) TB hcode hmT hu hr L hdef hbind hbody h1 h2 h3
end
end GX
namespace KX
open PySem PySem.Spec PyProof.Rows L2
section
variable {X : Cx}
/-- xs.count(True), xs a list of bools -/
def rCntB (K : PySem.W.Frag) : V → List V → Hp → VK → Prop := fun x xs H Q => ∃ (p : Addr) (bs : List Bool) (k : Bool), x = .ref p ∧ xs = [.bl k] ∧ SqL K H p (bs.map V.bl) ∧ Q (.int (bs.countP (fun b => b == k) : Nat)) H
theorem bools_of : ∀ {bs : List Bool} {its : List Value}, Vals (bs.map V.bl) its → its = bs.map Value.bool
  | [], _, .nil => rfl
  | b :: bs, _, .cons r t => by
    cases (show _ = Value.bool b from r)
    rw [bools_of t]
    rfl
theorem mt_count_bl : MtR X "list.count" (rCntB X.K) := by
  intro pins s σ H x xs v us Q I rx rxs h
  obtain ⟨p, bs, k, rfl, rfl, hs, q⟩ := h
  cases rx
  obtain ⟨u, rfl, ru⟩ := rxs.one
  cases (show u = Value.bool k from ru)
  obtain ⟨its, rv, ⟨⟨cls, dd, data, sl⟩, n, ho, hc, hdn, hd⟩, hlen⟩ := I.list hs
  simp only at hc hd
  subst hc hd
  have hi := bools_of rv
  refine call_meets PySem.F.slot_list_count ⟨_, ho, rfl⟩ PySem.F.entry_list_count (PySem.F.args_list_count_2 _ _)
    (SeqAt.list_countAt p its.toArray n dd sl (.bool k) (isBoolOf k)) ⟨ho, fun y hy => ?_, ?_⟩
  · have hy' : y ∈ its := by simpa using hy
    rw [hi] at hy'
    obtain ⟨b, _, rfl⟩ := List.mem_map.mp hy'
    exact PySem.SeqAt.EqAt.bool_bool b k
  · have ec : its.toArray.toList.countP (isBoolOf k) = bs.countP (fun b => b == k) := by
      show its.countP (isBoolOf k) = _
      rw [hi, List.countP_map]
      rfl
    refine ⟨.int (bs.countP (fun b => b == k) : Nat), H, I.tok _, ⟨s.toks, ?_⟩, q⟩
    show Value.int ((its.toArray.toList.countP (isBoolOf k) : Nat) : Int) s.toks = _
    rw [ec]
end
end KX

namespace KX
open PySem L2
/-! ### the text by places -/
def top (i : Nat) : Stmt := PySem.Challenge.pw_exactbeats_k07_whole_copies_of_ideal_swi.main.body.getD i (.Pass ⟨0, 0, 0, 0⟩)
abbrev s_wall : Stmt := top 0
abbrev N_wall : List Str := ["k"]
abbrev P_wall : List Str := ["k"]
theorem sc_wall : FnScope N_wall P_wall (defScope s_wall) := ⟨rfl, rfl, rfl, by decide +kernel, rfl, by decide +kernel, by decide +kernel⟩
abbrev s_is_integer : Stmt := top 9
abbrev N_is_integer : List Str := ["thing"]
abbrev P_is_integer : List Str := ["thing"]
theorem sc_is_integer : FnScope N_is_integer P_is_integer (defScope s_is_integer) := ⟨rfl, rfl, rfl, by decide +kernel, rfl, by decide +kernel, by decide +kernel⟩
abbrev s_is_integer_from : Stmt := top 10
abbrev N_is_integer_from : List Str := ["least", "greatest", "thing"]
abbrev P_is_integer_from : List Str := ["least", "greatest", "thing"]
theorem sc_is_integer_from : FnScope N_is_integer_from P_is_integer_from (defScope s_is_integer_from) := ⟨rfl, rfl, rfl, by decide +kernel, rfl, by decide +kernel, by decide +kernel⟩
abbrev s_is_number_below : Stmt := top 11
abbrev N_is_number_below : List Str := ["bound", "thing"]
abbrev P_is_number_below : List Str := ["bound", "thing"]
theorem sc_is_number_below : FnScope N_is_number_below P_is_number_below (defScope s_is_number_below) := ⟨rfl, rfl, rfl, by decide +kernel, rfl, by decide +kernel, by decide +kernel⟩
abbrev s_is_tuple_of : Stmt := top 12
abbrev N_is_tuple_of : List Str := ["many", "thing"]
abbrev P_is_tuple_of : List Str := ["many", "thing"]
theorem sc_is_tuple_of : FnScope N_is_tuple_of P_is_tuple_of (defScope s_is_tuple_of) := ⟨rfl, rfl, rfl, by decide +kernel, rfl, by decide +kernel, by decide +kernel⟩
abbrev s_check_lines : Stmt := top 16
abbrev N_check_lines : List Str := ["lines"]
abbrev P_check_lines : List Str := ["lines"]
theorem sc_check_lines : FnScope N_check_lines P_check_lines (defScope s_check_lines) := ⟨rfl, rfl, rfl, by decide +kernel, rfl, by decide +kernel, by decide +kernel⟩
abbrev s_is_cell_number : Stmt := top 17
abbrev N_is_cell_number : List Str := ["thing"]
abbrev P_is_cell_number : List Str := ["thing"]
theorem sc_is_cell_number : FnScope N_is_cell_number P_is_cell_number (defScope s_is_cell_number) := ⟨rfl, rfl, rfl, by decide +kernel, rfl, by decide +kernel, by decide +kernel⟩
abbrev s_is_rank : Stmt := top 20
abbrev N_is_rank : List Str := ["thing"]
abbrev P_is_rank : List Str := ["thing"]
theorem sc_is_rank : FnScope N_is_rank P_is_rank (defScope s_is_rank) := ⟨rfl, rfl, rfl, by decide +kernel, rfl, by decide +kernel, by decide +kernel⟩
abbrev s_is_key : Stmt := top 21
abbrev N_is_key : List Str := ["thing"]
abbrev P_is_key : List Str := ["thing"]
theorem sc_is_key : FnScope N_is_key P_is_key (defScope s_is_key) := ⟨rfl, rfl, rfl, by decide +kernel, rfl, by decide +kernel, by decide +kernel⟩
abbrev s_check_key : Stmt := top 22
abbrev N_check_key : List Str := ["key"]
abbrev P_check_key : List Str := ["key"]
theorem sc_check_key : FnScope N_check_key P_check_key (defScope s_check_key) := ⟨rfl, rfl, rfl, by decide +kernel, rfl, by decide +kernel, by decide +kernel⟩
abbrev s_how_many_less : Stmt := top 23
abbrev N_how_many_less : List Str := ["keys", "key", "low", "high", "middle"]
abbrev P_how_many_less : List Str := ["keys", "key"]
theorem sc_how_many_less : FnScope N_how_many_less P_how_many_less (defScope s_how_many_less) := ⟨rfl, rfl, rfl, by decide +kernel, rfl, by decide +kernel, by decide +kernel⟩
abbrev s_Ideal___init__ : Stmt := inClass (top 24) 0
abbrev N_Ideal___init__ : List Str := ["self", "outputs", "_"]
abbrev P_Ideal___init__ : List Str := ["self", "outputs"]
theorem sc_Ideal___init__ : FnScope N_Ideal___init__ P_Ideal___init__ (defScope s_Ideal___init__) := ⟨rfl, rfl, rfl, by decide +kernel, rfl, by decide +kernel, by decide +kernel⟩
abbrev s_Ideal__row : Stmt := inClass (top 24) 1
abbrev N_Ideal__row : List Str := ["self", "output"]
abbrev P_Ideal__row : List Str := ["self", "output"]
theorem sc_Ideal__row : FnScope N_Ideal__row P_Ideal__row (defScope s_Ideal__row) := ⟨rfl, rfl, rfl, by decide +kernel, rfl, by decide +kernel, by decide +kernel⟩
abbrev s_Ideal_push : Stmt := inClass (top 24) 2
abbrev N_Ideal_push : List Str := ["self", "output", "key", "row", "_", "number"]
abbrev P_Ideal_push : List Str := ["self", "output", "key"]
theorem sc_Ideal_push : FnScope N_Ideal_push P_Ideal_push (defScope s_Ideal_push) := ⟨rfl, rfl, rfl, by decide +kernel, rfl, by decide +kernel, by decide +kernel⟩
abbrev s_Ideal_due : Stmt := inClass (top 24) 3
abbrev N_Ideal_due : List Str := ["self", "output"]
abbrev P_Ideal_due : List Str := ["self", "output"]
theorem sc_Ideal_due : FnScope N_Ideal_due P_Ideal_due (defScope s_Ideal_due) := ⟨rfl, rfl, rfl, by decide +kernel, rfl, by decide +kernel, by decide +kernel⟩
abbrev s_Ideal_let_go : Stmt := inClass (top 24) 4
abbrev N_Ideal_let_go : List Str := ["self", "output", "row"]
abbrev P_Ideal_let_go : List Str := ["self", "output"]
theorem sc_Ideal_let_go : FnScope N_Ideal_let_go P_Ideal_let_go (defScope s_Ideal_let_go) := ⟨rfl, rfl, rfl, by decide +kernel, rfl, by decide +kernel, by decide +kernel⟩
abbrev s_Ideal_held : Stmt := inClass (top 24) 5
abbrev N_Ideal_held : List Str := ["self", "output"]
abbrev P_Ideal_held : List Str := ["self", "output"]
theorem sc_Ideal_held : FnScope N_Ideal_held P_Ideal_held (defScope s_Ideal_held) := ⟨rfl, rfl, rfl, by decide +kernel, rfl, by decide +kernel, by decide +kernel⟩
abbrev s_Ideal_ahead : Stmt := inClass (top 24) 6
abbrev N_Ideal_ahead : List Str := ["self", "output", "key"]
abbrev P_Ideal_ahead : List Str := ["self", "output", "key"]
theorem sc_Ideal_ahead : FnScope N_Ideal_ahead P_Ideal_ahead (defScope s_Ideal_ahead) := ⟨rfl, rfl, rfl, by decide +kernel, rfl, by decide +kernel, by decide +kernel⟩
abbrev s_Ideal_copy : Stmt := inClass (top 24) 7
abbrev N_Ideal_copy : List Str := ["self", "other", "row"]
abbrev P_Ideal_copy : List Str := ["self"]
theorem sc_Ideal_copy : FnScope N_Ideal_copy P_Ideal_copy (defScope s_Ideal_copy) := ⟨rfl, rfl, rfl, by decide +kernel, rfl, by decide +kernel, by decide +kernel⟩
abbrev s_law_hand : Stmt := top 26
abbrev N_law_hand : List Str := ["_law_script", "_law_given", "_law_cell"]
abbrev P_law_hand : List Str := ["_law_script"]
theorem sc_law_hand : FnScope N_law_hand P_law_hand (defScope s_law_hand) := ⟨rfl, rfl, rfl, by decide +kernel, rfl, by decide +kernel, by decide +kernel⟩
abbrev s_law_draw : Stmt := top 27
abbrev N_law_draw : List Str := ["_law_hand_here", "_law_many", "_law_cell", "_law_digit", "_law_number"]
abbrev P_law_draw : List Str := ["_law_hand_here", "_law_many"]
theorem sc_law_draw : FnScope N_law_draw P_law_draw (defScope s_law_draw) := ⟨rfl, rfl, rfl, by decide +kernel, rfl, by decide +kernel, by decide +kernel⟩
abbrev s_law_any : Stmt := top 28
abbrev N_law_any : List Str := ["_law_hand_here", "_law_some"]
abbrev P_law_any : List Str := ["_law_hand_here", "_law_some"]
theorem sc_law_any : FnScope N_law_any P_law_any (defScope s_law_any) := ⟨rfl, rfl, rfl, by decide +kernel, rfl, by decide +kernel, by decide +kernel⟩
abbrev s_law_key : Stmt := top 29
abbrev N_law_key : List Str := ["_law_hand_here", "_law_many", "_law_rank"]
abbrev P_law_key : List Str := ["_law_hand_here", "_law_many"]
theorem sc_law_key : FnScope N_law_key P_law_key (defScope s_law_key) := ⟨rfl, rfl, rfl, by decide +kernel, rfl, by decide +kernel, by decide +kernel⟩
abbrev s_law_inserted : Stmt := top 30
abbrev N_law_inserted : List Str := ["_law_row", "_law_key_here", "_law_at", "_law_one"]
abbrev P_law_inserted : List Str := ["_law_row", "_law_key_here"]
theorem sc_law_inserted : FnScope N_law_inserted P_law_inserted (defScope s_law_inserted) := ⟨rfl, rfl, rfl, by decide +kernel, rfl, by decide +kernel, by decide +kernel⟩
abbrev s_law : Stmt := top 31
abbrev N_law : List Str := ["_law_script", "_law_hand_here", "_law_outputs", "_law_output", "_law_every", "_law_turn", "_law_ideal", "_law_rows", "_law_kind", "_law_key_here", "_law_at", "_law_one", "_law_alike", "_law_other", "_law_more", "_law_row", "_law_rank", "_law_cell"]
abbrev P_law : List Str := ["_law_script"]
theorem sc_law : FnScope N_law P_law (defScope s_law) := ⟨rfl, rfl, rfl, by decide +kernel, rfl, by decide +kernel, by decide +kernel⟩
/-! ### what the top has left -/
structure Adr where
  a_wall : Addr
  d_wall : FuncData
  a_is_integer : Addr
  d_is_integer : FuncData
  a_is_integer_from : Addr
  d_is_integer_from : FuncData
  a_is_number_below : Addr
  d_is_number_below : FuncData
  a_is_tuple_of : Addr
  d_is_tuple_of : FuncData
  a_check_lines : Addr
  d_check_lines : FuncData
  a_is_cell_number : Addr
  d_is_cell_number : FuncData
  a_is_rank : Addr
  d_is_rank : FuncData
  a_is_key : Addr
  d_is_key : FuncData
  a_check_key : Addr
  d_check_key : FuncData
  a_how_many_less : Addr
  d_how_many_less : FuncData
  a_Ideal___init__ : Addr
  d_Ideal___init__ : FuncData
  a_Ideal__row : Addr
  d_Ideal__row : FuncData
  a_Ideal_push : Addr
  d_Ideal_push : FuncData
  a_Ideal_due : Addr
  d_Ideal_due : FuncData
  a_Ideal_let_go : Addr
  d_Ideal_let_go : FuncData
  a_Ideal_held : Addr
  d_Ideal_held : FuncData
  a_Ideal_ahead : Addr
  d_Ideal_ahead : FuncData
  a_Ideal_copy : Addr
  d_Ideal_copy : FuncData
  a_law_hand : Addr
  d_law_hand : FuncData
  a_law_draw : Addr
  d_law_draw : FuncData
  a_law_any : Addr
  d_law_any : FuncData
  a_law_key : Addr
  d_law_key : FuncData
  a_law_inserted : Addr
  d_law_inserted : FuncData
  a_law : Addr
  d_law : FuncData
  c_Ideal : Addr
structure Top (K : PySem.W.Frag) (mg : Str → Option Value) (A : Adr) : Prop where
  F_wall : Fun K "_wall" "_wall" s_wall A.a_wall A.d_wall
  g_wall : mg "_wall" = some (.ref A.a_wall)
  b_wall : Binds K A.d_wall P_wall []
  F_is_integer : Fun K "is_integer" "is_integer" s_is_integer A.a_is_integer A.d_is_integer
  g_is_integer : mg "is_integer" = some (.ref A.a_is_integer)
  b_is_integer : Binds K A.d_is_integer P_is_integer []
  F_is_integer_from : Fun K "is_integer_from" "is_integer_from" s_is_integer_from A.a_is_integer_from A.d_is_integer_from
  g_is_integer_from : mg "is_integer_from" = some (.ref A.a_is_integer_from)
  b_is_integer_from : Binds K A.d_is_integer_from P_is_integer_from []
  F_is_number_below : Fun K "is_number_below" "is_number_below" s_is_number_below A.a_is_number_below A.d_is_number_below
  g_is_number_below : mg "is_number_below" = some (.ref A.a_is_number_below)
  b_is_number_below : Binds K A.d_is_number_below P_is_number_below []
  F_is_tuple_of : Fun K "is_tuple_of" "is_tuple_of" s_is_tuple_of A.a_is_tuple_of A.d_is_tuple_of
  g_is_tuple_of : mg "is_tuple_of" = some (.ref A.a_is_tuple_of)
  b_is_tuple_of : Binds K A.d_is_tuple_of P_is_tuple_of []
  F_check_lines : Fun K "check_lines" "check_lines" s_check_lines A.a_check_lines A.d_check_lines
  g_check_lines : mg "check_lines" = some (.ref A.a_check_lines)
  b_check_lines : Binds K A.d_check_lines P_check_lines []
  F_is_cell_number : Fun K "is_cell_number" "is_cell_number" s_is_cell_number A.a_is_cell_number A.d_is_cell_number
  g_is_cell_number : mg "is_cell_number" = some (.ref A.a_is_cell_number)
  b_is_cell_number : Binds K A.d_is_cell_number P_is_cell_number []
  F_is_rank : Fun K "is_rank" "is_rank" s_is_rank A.a_is_rank A.d_is_rank
  g_is_rank : mg "is_rank" = some (.ref A.a_is_rank)
  b_is_rank : Binds K A.d_is_rank P_is_rank []
  F_is_key : Fun K "is_key" "is_key" s_is_key A.a_is_key A.d_is_key
  g_is_key : mg "is_key" = some (.ref A.a_is_key)
  b_is_key : Binds K A.d_is_key P_is_key []
  F_check_key : Fun K "check_key" "check_key" s_check_key A.a_check_key A.d_check_key
  g_check_key : mg "check_key" = some (.ref A.a_check_key)
  b_check_key : Binds K A.d_check_key P_check_key []
  F_how_many_less : Fun K "how_many_less" "how_many_less" s_how_many_less A.a_how_many_less A.d_how_many_less
  g_how_many_less : mg "how_many_less" = some (.ref A.a_how_many_less)
  b_how_many_less : Binds K A.d_how_many_less P_how_many_less []
  F_Ideal___init__ : Fun K "__init__" "Ideal.__init__" s_Ideal___init__ A.a_Ideal___init__ A.d_Ideal___init__
  b_Ideal___init__ : Binds K A.d_Ideal___init__ P_Ideal___init__ []
  F_Ideal__row : Fun K "_row" "Ideal._row" s_Ideal__row A.a_Ideal__row A.d_Ideal__row
  b_Ideal__row : Binds K A.d_Ideal__row P_Ideal__row []
  F_Ideal_push : Fun K "push" "Ideal.push" s_Ideal_push A.a_Ideal_push A.d_Ideal_push
  b_Ideal_push : Binds K A.d_Ideal_push P_Ideal_push []
  F_Ideal_due : Fun K "due" "Ideal.due" s_Ideal_due A.a_Ideal_due A.d_Ideal_due
  b_Ideal_due : Binds K A.d_Ideal_due P_Ideal_due []
  F_Ideal_let_go : Fun K "let_go" "Ideal.let_go" s_Ideal_let_go A.a_Ideal_let_go A.d_Ideal_let_go
  b_Ideal_let_go : Binds K A.d_Ideal_let_go P_Ideal_let_go []
  F_Ideal_held : Fun K "held" "Ideal.held" s_Ideal_held A.a_Ideal_held A.d_Ideal_held
  b_Ideal_held : Binds K A.d_Ideal_held P_Ideal_held []
  F_Ideal_ahead : Fun K "ahead" "Ideal.ahead" s_Ideal_ahead A.a_Ideal_ahead A.d_Ideal_ahead
  b_Ideal_ahead : Binds K A.d_Ideal_ahead P_Ideal_ahead []
  F_Ideal_copy : Fun K "copy" "Ideal.copy" s_Ideal_copy A.a_Ideal_copy A.d_Ideal_copy
  b_Ideal_copy : Binds K A.d_Ideal_copy P_Ideal_copy []
  F_law_hand : Fun K "_law_hand" "_law_hand" s_law_hand A.a_law_hand A.d_law_hand
  g_law_hand : mg "_law_hand" = some (.ref A.a_law_hand)
  b_law_hand : Binds K A.d_law_hand P_law_hand []
  F_law_draw : Fun K "_law_draw" "_law_draw" s_law_draw A.a_law_draw A.d_law_draw
  g_law_draw : mg "_law_draw" = some (.ref A.a_law_draw)
  b_law_draw : Binds K A.d_law_draw P_law_draw []
  F_law_any : Fun K "_law_any" "_law_any" s_law_any A.a_law_any A.d_law_any
  g_law_any : mg "_law_any" = some (.ref A.a_law_any)
  b_law_any : Binds K A.d_law_any P_law_any []
  F_law_key : Fun K "_law_key" "_law_key" s_law_key A.a_law_key A.d_law_key
  g_law_key : mg "_law_key" = some (.ref A.a_law_key)
  b_law_key : Binds K A.d_law_key P_law_key []
  F_law_inserted : Fun K "_law_inserted" "_law_inserted" s_law_inserted A.a_law_inserted A.d_law_inserted
  g_law_inserted : mg "_law_inserted" = some (.ref A.a_law_inserted)
  b_law_inserted : Binds K A.d_law_inserted P_law_inserted []
  F_law : Fun K "law" "law" s_law A.a_law A.d_law
  g_law : mg "law" = some (.ref A.a_law)
  b_law : Binds K A.d_law P_law []
  cl_Ideal : Cls K A.c_Ideal
  gc_Ideal : mg "Ideal" = some (.ref A.c_Ideal)
  mk_Ideal : Mk K A.c_Ideal A.a_Ideal___init__
  m_Ideal__row : Meth K A.c_Ideal "_row" A.a_Ideal__row
  m_Ideal_push : Meth K A.c_Ideal "push" A.a_Ideal_push
  m_Ideal_due : Meth K A.c_Ideal "due" A.a_Ideal_due
  m_Ideal_let_go : Meth K A.c_Ideal "let_go" A.a_Ideal_let_go
  m_Ideal_held : Meth K A.c_Ideal "held" A.a_Ideal_held
  m_Ideal_ahead : Meth K A.c_Ideal "ahead" A.a_Ideal_ahead
  m_Ideal_copy : Meth K A.c_Ideal "copy" A.a_Ideal_copy
  n_Ideal__rows : NoAttr K A.c_Ideal "_rows"
  em_Ideal : PySem.W.mroIn K A.c_Ideal (.type "object") = some true
  es_Ideal : PySem.W.findIn K (.ref A.c_Ideal) "__eq__" = some (some (.builtin "object.__eq__"))
  k_MOST_LINES : ∃ t, mg "MOST_LINES" = some (.int 12 t)
  k_GREATEST_CELL : ∃ t, mg "GREATEST_CELL" = some (.int 1000000000 t)
  k_GREATEST_RANK : ∃ t, mg "GREATEST_RANK" = some (.int 1000000000000000000 t)
  z_abs : mg "abs" = none
  z_bool : mg "bool" = none
  z_enumerate : mg "enumerate" = none
  z_int : mg "int" = none
  z_isinstance : mg "isinstance" = none
  z_len : mg "len" = none
  z_list : mg "list" = none
  z_range : mg "range" = none
  z_tuple : mg "tuple" = none
theorem top_mk {l : PySem.W.OpenLaw} {w : World} {K : PySem.W.Frag} {h : Heap} {mg : Str → Option Value} (X : K.In h) (G : h.Ns mainGlobals mg)
    {f_wall : Addr} {od_wall an_wall : Option Addr} {sl_wall : Array (Option Value)} {oc_wall kV_wall dc_wall pm_wall cd_wall ct_wall : Value}
    {f_is_integer : Addr} {od_is_integer an_is_integer : Option Addr} {sl_is_integer : Array (Option Value)} {oc_is_integer kV_is_integer dc_is_integer pm_is_integer cd_is_integer ct_is_integer : Value}
    {f_is_integer_from : Addr} {od_is_integer_from an_is_integer_from : Option Addr} {sl_is_integer_from : Array (Option Value)} {oc_is_integer_from kV_is_integer_from dc_is_integer_from pm_is_integer_from cd_is_integer_from ct_is_integer_from : Value}
    {f_is_number_below : Addr} {od_is_number_below an_is_number_below : Option Addr} {sl_is_number_below : Array (Option Value)} {oc_is_number_below kV_is_number_below dc_is_number_below pm_is_number_below cd_is_number_below ct_is_number_below : Value}
    {f_is_tuple_of : Addr} {od_is_tuple_of an_is_tuple_of : Option Addr} {sl_is_tuple_of : Array (Option Value)} {oc_is_tuple_of kV_is_tuple_of dc_is_tuple_of pm_is_tuple_of cd_is_tuple_of ct_is_tuple_of : Value}
    {f_check_lines : Addr} {od_check_lines an_check_lines : Option Addr} {sl_check_lines : Array (Option Value)} {oc_check_lines kV_check_lines dc_check_lines pm_check_lines cd_check_lines ct_check_lines : Value}
    {f_is_cell_number : Addr} {od_is_cell_number an_is_cell_number : Option Addr} {sl_is_cell_number : Array (Option Value)} {oc_is_cell_number kV_is_cell_number dc_is_cell_number pm_is_cell_number cd_is_cell_number ct_is_cell_number : Value}
    {f_is_rank : Addr} {od_is_rank an_is_rank : Option Addr} {sl_is_rank : Array (Option Value)} {oc_is_rank kV_is_rank dc_is_rank pm_is_rank cd_is_rank ct_is_rank : Value}
    {f_is_key : Addr} {od_is_key an_is_key : Option Addr} {sl_is_key : Array (Option Value)} {oc_is_key kV_is_key dc_is_key pm_is_key cd_is_key ct_is_key : Value}
    {f_check_key : Addr} {od_check_key an_check_key : Option Addr} {sl_check_key : Array (Option Value)} {oc_check_key kV_check_key dc_check_key pm_check_key cd_check_key ct_check_key : Value}
    {f_how_many_less : Addr} {od_how_many_less an_how_many_less : Option Addr} {sl_how_many_less : Array (Option Value)} {oc_how_many_less kV_how_many_less dc_how_many_less pm_how_many_less cd_how_many_less ct_how_many_less : Value}
    {f_Ideal___init__ : Addr} {od_Ideal___init__ an_Ideal___init__ : Option Addr} {sl_Ideal___init__ : Array (Option Value)} {oc_Ideal___init__ kV_Ideal___init__ dc_Ideal___init__ pm_Ideal___init__ cd_Ideal___init__ ct_Ideal___init__ : Value}
    {f_Ideal__row : Addr} {od_Ideal__row an_Ideal__row : Option Addr} {sl_Ideal__row : Array (Option Value)} {oc_Ideal__row kV_Ideal__row dc_Ideal__row pm_Ideal__row cd_Ideal__row ct_Ideal__row : Value}
    {f_Ideal_push : Addr} {od_Ideal_push an_Ideal_push : Option Addr} {sl_Ideal_push : Array (Option Value)} {oc_Ideal_push kV_Ideal_push dc_Ideal_push pm_Ideal_push cd_Ideal_push ct_Ideal_push : Value}
    {f_Ideal_due : Addr} {od_Ideal_due an_Ideal_due : Option Addr} {sl_Ideal_due : Array (Option Value)} {oc_Ideal_due kV_Ideal_due dc_Ideal_due pm_Ideal_due cd_Ideal_due ct_Ideal_due : Value}
    {f_Ideal_let_go : Addr} {od_Ideal_let_go an_Ideal_let_go : Option Addr} {sl_Ideal_let_go : Array (Option Value)} {oc_Ideal_let_go kV_Ideal_let_go dc_Ideal_let_go pm_Ideal_let_go cd_Ideal_let_go ct_Ideal_let_go : Value}
    {f_Ideal_held : Addr} {od_Ideal_held an_Ideal_held : Option Addr} {sl_Ideal_held : Array (Option Value)} {oc_Ideal_held kV_Ideal_held dc_Ideal_held pm_Ideal_held cd_Ideal_held ct_Ideal_held : Value}
    {f_Ideal_ahead : Addr} {od_Ideal_ahead an_Ideal_ahead : Option Addr} {sl_Ideal_ahead : Array (Option Value)} {oc_Ideal_ahead kV_Ideal_ahead dc_Ideal_ahead pm_Ideal_ahead cd_Ideal_ahead ct_Ideal_ahead : Value}
    {f_Ideal_copy : Addr} {od_Ideal_copy an_Ideal_copy : Option Addr} {sl_Ideal_copy : Array (Option Value)} {oc_Ideal_copy kV_Ideal_copy dc_Ideal_copy pm_Ideal_copy cd_Ideal_copy ct_Ideal_copy : Value}
    {f_law_hand : Addr} {od_law_hand an_law_hand : Option Addr} {sl_law_hand : Array (Option Value)} {oc_law_hand kV_law_hand dc_law_hand pm_law_hand cd_law_hand ct_law_hand : Value}
    {f_law_draw : Addr} {od_law_draw an_law_draw : Option Addr} {sl_law_draw : Array (Option Value)} {oc_law_draw kV_law_draw dc_law_draw pm_law_draw cd_law_draw ct_law_draw : Value}
    {f_law_any : Addr} {od_law_any an_law_any : Option Addr} {sl_law_any : Array (Option Value)} {oc_law_any kV_law_any dc_law_any pm_law_any cd_law_any ct_law_any : Value}
    {f_law_key : Addr} {od_law_key an_law_key : Option Addr} {sl_law_key : Array (Option Value)} {oc_law_key kV_law_key dc_law_key pm_law_key cd_law_key ct_law_key : Value}
    {f_law_inserted : Addr} {od_law_inserted an_law_inserted : Option Addr} {sl_law_inserted : Array (Option Value)} {oc_law_inserted kV_law_inserted dc_law_inserted pm_law_inserted cd_law_inserted ct_law_inserted : Value}
    {f_law : Addr} {od_law an_law : Option Addr} {sl_law : Array (Option Value)} {oc_law kV_law dc_law pm_law cd_law ct_law : Value}
    {c_Ideal : Addr}
    {t_MOST_LINES : Tok}
    {t_GREATEST_CELL : Tok}
    {t_GREATEST_RANK : Tok}
    (ac_Ideal : PySem.W.nsIn K mainGlobals "Ideal" = some (some (.ref c_Ideal)))
    (a_wall : PySem.W.nsIn K mainGlobals "_wall" = some (some (.ref f_wall)))
    (l_wall : K.lookup f_wall = some ⟨oc_wall, od_wall, .func (PySem.W.fnOf "_wall" "_wall" (defArgs s_wall) (defBody s_wall) (defScope s_wall) .none kV_wall dc_wall pm_wall an_wall cd_wall ct_wall), sl_wall⟩)
    (q_wall : PySem.W.codeIn K cd_wall "_wall" = true)
    (p_wall : PySem.W.keepIn K (.ref f_wall) = true)
    (a_is_integer : PySem.W.nsIn K mainGlobals "is_integer" = some (some (.ref f_is_integer)))
    (l_is_integer : K.lookup f_is_integer = some ⟨oc_is_integer, od_is_integer, .func (PySem.W.fnOf "is_integer" "is_integer" (defArgs s_is_integer) (defBody s_is_integer) (defScope s_is_integer) .none kV_is_integer dc_is_integer pm_is_integer an_is_integer cd_is_integer ct_is_integer), sl_is_integer⟩)
    (q_is_integer : PySem.W.codeIn K cd_is_integer "is_integer" = true)
    (p_is_integer : PySem.W.keepIn K (.ref f_is_integer) = true)
    (a_is_integer_from : PySem.W.nsIn K mainGlobals "is_integer_from" = some (some (.ref f_is_integer_from)))
    (l_is_integer_from : K.lookup f_is_integer_from = some ⟨oc_is_integer_from, od_is_integer_from, .func (PySem.W.fnOf "is_integer_from" "is_integer_from" (defArgs s_is_integer_from) (defBody s_is_integer_from) (defScope s_is_integer_from) .none kV_is_integer_from dc_is_integer_from pm_is_integer_from an_is_integer_from cd_is_integer_from ct_is_integer_from), sl_is_integer_from⟩)
    (q_is_integer_from : PySem.W.codeIn K cd_is_integer_from "is_integer_from" = true)
    (p_is_integer_from : PySem.W.keepIn K (.ref f_is_integer_from) = true)
    (a_is_number_below : PySem.W.nsIn K mainGlobals "is_number_below" = some (some (.ref f_is_number_below)))
    (l_is_number_below : K.lookup f_is_number_below = some ⟨oc_is_number_below, od_is_number_below, .func (PySem.W.fnOf "is_number_below" "is_number_below" (defArgs s_is_number_below) (defBody s_is_number_below) (defScope s_is_number_below) .none kV_is_number_below dc_is_number_below pm_is_number_below an_is_number_below cd_is_number_below ct_is_number_below), sl_is_number_below⟩)
    (q_is_number_below : PySem.W.codeIn K cd_is_number_below "is_number_below" = true)
    (p_is_number_below : PySem.W.keepIn K (.ref f_is_number_below) = true)
    (a_is_tuple_of : PySem.W.nsIn K mainGlobals "is_tuple_of" = some (some (.ref f_is_tuple_of)))
    (l_is_tuple_of : K.lookup f_is_tuple_of = some ⟨oc_is_tuple_of, od_is_tuple_of, .func (PySem.W.fnOf "is_tuple_of" "is_tuple_of" (defArgs s_is_tuple_of) (defBody s_is_tuple_of) (defScope s_is_tuple_of) .none kV_is_tuple_of dc_is_tuple_of pm_is_tuple_of an_is_tuple_of cd_is_tuple_of ct_is_tuple_of), sl_is_tuple_of⟩)
    (q_is_tuple_of : PySem.W.codeIn K cd_is_tuple_of "is_tuple_of" = true)
    (p_is_tuple_of : PySem.W.keepIn K (.ref f_is_tuple_of) = true)
    (a_check_lines : PySem.W.nsIn K mainGlobals "check_lines" = some (some (.ref f_check_lines)))
    (l_check_lines : K.lookup f_check_lines = some ⟨oc_check_lines, od_check_lines, .func (PySem.W.fnOf "check_lines" "check_lines" (defArgs s_check_lines) (defBody s_check_lines) (defScope s_check_lines) .none kV_check_lines dc_check_lines pm_check_lines an_check_lines cd_check_lines ct_check_lines), sl_check_lines⟩)
    (q_check_lines : PySem.W.codeIn K cd_check_lines "check_lines" = true)
    (p_check_lines : PySem.W.keepIn K (.ref f_check_lines) = true)
    (a_is_cell_number : PySem.W.nsIn K mainGlobals "is_cell_number" = some (some (.ref f_is_cell_number)))
    (l_is_cell_number : K.lookup f_is_cell_number = some ⟨oc_is_cell_number, od_is_cell_number, .func (PySem.W.fnOf "is_cell_number" "is_cell_number" (defArgs s_is_cell_number) (defBody s_is_cell_number) (defScope s_is_cell_number) .none kV_is_cell_number dc_is_cell_number pm_is_cell_number an_is_cell_number cd_is_cell_number ct_is_cell_number), sl_is_cell_number⟩)
    (q_is_cell_number : PySem.W.codeIn K cd_is_cell_number "is_cell_number" = true)
    (p_is_cell_number : PySem.W.keepIn K (.ref f_is_cell_number) = true)
    (a_is_rank : PySem.W.nsIn K mainGlobals "is_rank" = some (some (.ref f_is_rank)))
    (l_is_rank : K.lookup f_is_rank = some ⟨oc_is_rank, od_is_rank, .func (PySem.W.fnOf "is_rank" "is_rank" (defArgs s_is_rank) (defBody s_is_rank) (defScope s_is_rank) .none kV_is_rank dc_is_rank pm_is_rank an_is_rank cd_is_rank ct_is_rank), sl_is_rank⟩)
    (q_is_rank : PySem.W.codeIn K cd_is_rank "is_rank" = true)
    (p_is_rank : PySem.W.keepIn K (.ref f_is_rank) = true)
    (a_is_key : PySem.W.nsIn K mainGlobals "is_key" = some (some (.ref f_is_key)))
    (l_is_key : K.lookup f_is_key = some ⟨oc_is_key, od_is_key, .func (PySem.W.fnOf "is_key" "is_key" (defArgs s_is_key) (defBody s_is_key) (defScope s_is_key) .none kV_is_key dc_is_key pm_is_key an_is_key cd_is_key ct_is_key), sl_is_key⟩)
    (q_is_key : PySem.W.codeIn K cd_is_key "is_key" = true)
    (p_is_key : PySem.W.keepIn K (.ref f_is_key) = true)
    (a_check_key : PySem.W.nsIn K mainGlobals "check_key" = some (some (.ref f_check_key)))
    (l_check_key : K.lookup f_check_key = some ⟨oc_check_key, od_check_key, .func (PySem.W.fnOf "check_key" "check_key" (defArgs s_check_key) (defBody s_check_key) (defScope s_check_key) .none kV_check_key dc_check_key pm_check_key an_check_key cd_check_key ct_check_key), sl_check_key⟩)
    (q_check_key : PySem.W.codeIn K cd_check_key "check_key" = true)
    (p_check_key : PySem.W.keepIn K (.ref f_check_key) = true)
    (a_how_many_less : PySem.W.nsIn K mainGlobals "how_many_less" = some (some (.ref f_how_many_less)))
    (l_how_many_less : K.lookup f_how_many_less = some ⟨oc_how_many_less, od_how_many_less, .func (PySem.W.fnOf "how_many_less" "how_many_less" (defArgs s_how_many_less) (defBody s_how_many_less) (defScope s_how_many_less) .none kV_how_many_less dc_how_many_less pm_how_many_less an_how_many_less cd_how_many_less ct_how_many_less), sl_how_many_less⟩)
    (q_how_many_less : PySem.W.codeIn K cd_how_many_less "how_many_less" = true)
    (p_how_many_less : PySem.W.keepIn K (.ref f_how_many_less) = true)
    (a_Ideal___init__ : PySem.W.findIn K (.ref c_Ideal) "__init__" = some (some (.ref f_Ideal___init__)))
    (i_Ideal___init__ : PySem.W.isFn K (.ref f_Ideal___init__) = true)
    (l_Ideal___init__ : K.lookup f_Ideal___init__ = some ⟨oc_Ideal___init__, od_Ideal___init__, .func (PySem.W.fnOf "__init__" "Ideal.__init__" (defArgs s_Ideal___init__) (defBody s_Ideal___init__) (defScope s_Ideal___init__) .none kV_Ideal___init__ dc_Ideal___init__ pm_Ideal___init__ an_Ideal___init__ cd_Ideal___init__ ct_Ideal___init__), sl_Ideal___init__⟩)
    (q_Ideal___init__ : PySem.W.codeIn K cd_Ideal___init__ "Ideal.__init__" = true)
    (p_Ideal___init__ : PySem.W.keepIn K (.ref f_Ideal___init__) = true)
    (a_Ideal__row : PySem.W.findIn K (.ref c_Ideal) "_row" = some (some (.ref f_Ideal__row)))
    (i_Ideal__row : PySem.W.isFn K (.ref f_Ideal__row) = true)
    (l_Ideal__row : K.lookup f_Ideal__row = some ⟨oc_Ideal__row, od_Ideal__row, .func (PySem.W.fnOf "_row" "Ideal._row" (defArgs s_Ideal__row) (defBody s_Ideal__row) (defScope s_Ideal__row) .none kV_Ideal__row dc_Ideal__row pm_Ideal__row an_Ideal__row cd_Ideal__row ct_Ideal__row), sl_Ideal__row⟩)
    (q_Ideal__row : PySem.W.codeIn K cd_Ideal__row "Ideal._row" = true)
    (p_Ideal__row : PySem.W.keepIn K (.ref f_Ideal__row) = true)
    (a_Ideal_push : PySem.W.findIn K (.ref c_Ideal) "push" = some (some (.ref f_Ideal_push)))
    (i_Ideal_push : PySem.W.isFn K (.ref f_Ideal_push) = true)
    (l_Ideal_push : K.lookup f_Ideal_push = some ⟨oc_Ideal_push, od_Ideal_push, .func (PySem.W.fnOf "push" "Ideal.push" (defArgs s_Ideal_push) (defBody s_Ideal_push) (defScope s_Ideal_push) .none kV_Ideal_push dc_Ideal_push pm_Ideal_push an_Ideal_push cd_Ideal_push ct_Ideal_push), sl_Ideal_push⟩)
    (q_Ideal_push : PySem.W.codeIn K cd_Ideal_push "Ideal.push" = true)
    (p_Ideal_push : PySem.W.keepIn K (.ref f_Ideal_push) = true)
    (a_Ideal_due : PySem.W.findIn K (.ref c_Ideal) "due" = some (some (.ref f_Ideal_due)))
    (i_Ideal_due : PySem.W.isFn K (.ref f_Ideal_due) = true)
    (l_Ideal_due : K.lookup f_Ideal_due = some ⟨oc_Ideal_due, od_Ideal_due, .func (PySem.W.fnOf "due" "Ideal.due" (defArgs s_Ideal_due) (defBody s_Ideal_due) (defScope s_Ideal_due) .none kV_Ideal_due dc_Ideal_due pm_Ideal_due an_Ideal_due cd_Ideal_due ct_Ideal_due), sl_Ideal_due⟩)
    (q_Ideal_due : PySem.W.codeIn K cd_Ideal_due "Ideal.due" = true)
    (p_Ideal_due : PySem.W.keepIn K (.ref f_Ideal_due) = true)
    (a_Ideal_let_go : PySem.W.findIn K (.ref c_Ideal) "let_go" = some (some (.ref f_Ideal_let_go)))
    (i_Ideal_let_go : PySem.W.isFn K (.ref f_Ideal_let_go) = true)
    (l_Ideal_let_go : K.lookup f_Ideal_let_go = some ⟨oc_Ideal_let_go, od_Ideal_let_go, .func (PySem.W.fnOf "let_go" "Ideal.let_go" (defArgs s_Ideal_let_go) (defBody s_Ideal_let_go) (defScope s_Ideal_let_go) .none kV_Ideal_let_go dc_Ideal_let_go pm_Ideal_let_go an_Ideal_let_go cd_Ideal_let_go ct_Ideal_let_go), sl_Ideal_let_go⟩)
    (q_Ideal_let_go : PySem.W.codeIn K cd_Ideal_let_go "Ideal.let_go" = true)
    (p_Ideal_let_go : PySem.W.keepIn K (.ref f_Ideal_let_go) = true)
    (a_Ideal_held : PySem.W.findIn K (.ref c_Ideal) "held" = some (some (.ref f_Ideal_held)))
    (i_Ideal_held : PySem.W.isFn K (.ref f_Ideal_held) = true)
    (l_Ideal_held : K.lookup f_Ideal_held = some ⟨oc_Ideal_held, od_Ideal_held, .func (PySem.W.fnOf "held" "Ideal.held" (defArgs s_Ideal_held) (defBody s_Ideal_held) (defScope s_Ideal_held) .none kV_Ideal_held dc_Ideal_held pm_Ideal_held an_Ideal_held cd_Ideal_held ct_Ideal_held), sl_Ideal_held⟩)
    (q_Ideal_held : PySem.W.codeIn K cd_Ideal_held "Ideal.held" = true)
    (p_Ideal_held : PySem.W.keepIn K (.ref f_Ideal_held) = true)
    (a_Ideal_ahead : PySem.W.findIn K (.ref c_Ideal) "ahead" = some (some (.ref f_Ideal_ahead)))
    (i_Ideal_ahead : PySem.W.isFn K (.ref f_Ideal_ahead) = true)
    (l_Ideal_ahead : K.lookup f_Ideal_ahead = some ⟨oc_Ideal_ahead, od_Ideal_ahead, .func (PySem.W.fnOf "ahead" "Ideal.ahead" (defArgs s_Ideal_ahead) (defBody s_Ideal_ahead) (defScope s_Ideal_ahead) .none kV_Ideal_ahead dc_Ideal_ahead pm_Ideal_ahead an_Ideal_ahead cd_Ideal_ahead ct_Ideal_ahead), sl_Ideal_ahead⟩)
    (q_Ideal_ahead : PySem.W.codeIn K cd_Ideal_ahead "Ideal.ahead" = true)
    (p_Ideal_ahead : PySem.W.keepIn K (.ref f_Ideal_ahead) = true)
    (a_Ideal_copy : PySem.W.findIn K (.ref c_Ideal) "copy" = some (some (.ref f_Ideal_copy)))
    (i_Ideal_copy : PySem.W.isFn K (.ref f_Ideal_copy) = true)
    (l_Ideal_copy : K.lookup f_Ideal_copy = some ⟨oc_Ideal_copy, od_Ideal_copy, .func (PySem.W.fnOf "copy" "Ideal.copy" (defArgs s_Ideal_copy) (defBody s_Ideal_copy) (defScope s_Ideal_copy) .none kV_Ideal_copy dc_Ideal_copy pm_Ideal_copy an_Ideal_copy cd_Ideal_copy ct_Ideal_copy), sl_Ideal_copy⟩)
    (q_Ideal_copy : PySem.W.codeIn K cd_Ideal_copy "Ideal.copy" = true)
    (p_Ideal_copy : PySem.W.keepIn K (.ref f_Ideal_copy) = true)
    (a_law_hand : PySem.W.nsIn K mainGlobals "_law_hand" = some (some (.ref f_law_hand)))
    (l_law_hand : K.lookup f_law_hand = some ⟨oc_law_hand, od_law_hand, .func (PySem.W.fnOf "_law_hand" "_law_hand" (defArgs s_law_hand) (defBody s_law_hand) (defScope s_law_hand) .none kV_law_hand dc_law_hand pm_law_hand an_law_hand cd_law_hand ct_law_hand), sl_law_hand⟩)
    (q_law_hand : PySem.W.codeIn K cd_law_hand "_law_hand" = true)
    (p_law_hand : PySem.W.keepIn K (.ref f_law_hand) = true)
    (a_law_draw : PySem.W.nsIn K mainGlobals "_law_draw" = some (some (.ref f_law_draw)))
    (l_law_draw : K.lookup f_law_draw = some ⟨oc_law_draw, od_law_draw, .func (PySem.W.fnOf "_law_draw" "_law_draw" (defArgs s_law_draw) (defBody s_law_draw) (defScope s_law_draw) .none kV_law_draw dc_law_draw pm_law_draw an_law_draw cd_law_draw ct_law_draw), sl_law_draw⟩)
    (q_law_draw : PySem.W.codeIn K cd_law_draw "_law_draw" = true)
    (p_law_draw : PySem.W.keepIn K (.ref f_law_draw) = true)
    (a_law_any : PySem.W.nsIn K mainGlobals "_law_any" = some (some (.ref f_law_any)))
    (l_law_any : K.lookup f_law_any = some ⟨oc_law_any, od_law_any, .func (PySem.W.fnOf "_law_any" "_law_any" (defArgs s_law_any) (defBody s_law_any) (defScope s_law_any) .none kV_law_any dc_law_any pm_law_any an_law_any cd_law_any ct_law_any), sl_law_any⟩)
    (q_law_any : PySem.W.codeIn K cd_law_any "_law_any" = true)
    (p_law_any : PySem.W.keepIn K (.ref f_law_any) = true)
    (a_law_key : PySem.W.nsIn K mainGlobals "_law_key" = some (some (.ref f_law_key)))
    (l_law_key : K.lookup f_law_key = some ⟨oc_law_key, od_law_key, .func (PySem.W.fnOf "_law_key" "_law_key" (defArgs s_law_key) (defBody s_law_key) (defScope s_law_key) .none kV_law_key dc_law_key pm_law_key an_law_key cd_law_key ct_law_key), sl_law_key⟩)
    (q_law_key : PySem.W.codeIn K cd_law_key "_law_key" = true)
    (p_law_key : PySem.W.keepIn K (.ref f_law_key) = true)
    (a_law_inserted : PySem.W.nsIn K mainGlobals "_law_inserted" = some (some (.ref f_law_inserted)))
    (l_law_inserted : K.lookup f_law_inserted = some ⟨oc_law_inserted, od_law_inserted, .func (PySem.W.fnOf "_law_inserted" "_law_inserted" (defArgs s_law_inserted) (defBody s_law_inserted) (defScope s_law_inserted) .none kV_law_inserted dc_law_inserted pm_law_inserted an_law_inserted cd_law_inserted ct_law_inserted), sl_law_inserted⟩)
    (q_law_inserted : PySem.W.codeIn K cd_law_inserted "_law_inserted" = true)
    (p_law_inserted : PySem.W.keepIn K (.ref f_law_inserted) = true)
    (a_law : PySem.W.nsIn K mainGlobals "law" = some (some (.ref f_law)))
    (l_law : K.lookup f_law = some ⟨oc_law, od_law, .func (PySem.W.fnOf "law" "law" (defArgs s_law) (defBody s_law) (defScope s_law) .none kV_law dc_law pm_law an_law cd_law ct_law), sl_law⟩)
    (q_law : PySem.W.codeIn K cd_law "law" = true)
    (p_law : PySem.W.keepIn K (.ref f_law) = true)
    (pg_Ideal : PySem.W.plainGet K c_Ideal Str.empty = true)
    (hd_Ideal : PySem.W.hasDictIn K c_Ideal = true)
    (po_Ideal : PySem.W.plainOver K c_Ideal = true)
    (sa_Ideal : PySem.W.findIn K (.ref c_Ideal) "__setattr__" = some (some (.builtin "object.__setattr__")))
    (mk_Ideal : PySem.W.makesIn K c_Ideal = true)
    (kc_Ideal : PySem.W.keepIn K (.ref c_Ideal) = true)
    (n_Ideal__rows : PySem.W.findIn K (.ref c_Ideal) "_rows" = some none)
    (em_Ideal : PySem.W.mroIn K c_Ideal (.type "object") = some true)
    (es_Ideal : PySem.W.findIn K (.ref c_Ideal) "__eq__" = some (some (.builtin "object.__eq__")))
    (k_MOST_LINES : PySem.W.nsIn K mainGlobals "MOST_LINES" = some (some (.int 12 t_MOST_LINES)))
    (k_GREATEST_CELL : PySem.W.nsIn K mainGlobals "GREATEST_CELL" = some (some (.int 1000000000 t_GREATEST_CELL)))
    (k_GREATEST_RANK : PySem.W.nsIn K mainGlobals "GREATEST_RANK" = some (some (.int 1000000000000000000 t_GREATEST_RANK)))
    (z_abs : PySem.W.nsIn K mainGlobals "abs" = some none)
    (z_bool : PySem.W.nsIn K mainGlobals "bool" = some none)
    (z_enumerate : PySem.W.nsIn K mainGlobals "enumerate" = some none)
    (z_int : PySem.W.nsIn K mainGlobals "int" = some none)
    (z_isinstance : PySem.W.nsIn K mainGlobals "isinstance" = some none)
    (z_len : PySem.W.nsIn K mainGlobals "len" = some none)
    (z_list : PySem.W.nsIn K mainGlobals "list" = some none)
    (z_range : PySem.W.nsIn K mainGlobals "range" = some none)
    (z_tuple : PySem.W.nsIn K mainGlobals "tuple" = some none)
    : ∃ A : Adr, Top K mg A ∧ A.d_law = PySem.W.fnOf "law" "law" (defArgs s_law) (defBody s_law) (defScope s_law) .none kV_law dc_law pm_law an_law cd_law ct_law ∧ A.a_law = f_law := by
  have F_wall := fun_mk (st := s_wall) l_wall q_wall p_wall
  have F_is_integer := fun_mk (st := s_is_integer) l_is_integer q_is_integer p_is_integer
  have F_is_integer_from := fun_mk (st := s_is_integer_from) l_is_integer_from q_is_integer_from p_is_integer_from
  have F_is_number_below := fun_mk (st := s_is_number_below) l_is_number_below q_is_number_below p_is_number_below
  have F_is_tuple_of := fun_mk (st := s_is_tuple_of) l_is_tuple_of q_is_tuple_of p_is_tuple_of
  have F_check_lines := fun_mk (st := s_check_lines) l_check_lines q_check_lines p_check_lines
  have F_is_cell_number := fun_mk (st := s_is_cell_number) l_is_cell_number q_is_cell_number p_is_cell_number
  have F_is_rank := fun_mk (st := s_is_rank) l_is_rank q_is_rank p_is_rank
  have F_is_key := fun_mk (st := s_is_key) l_is_key q_is_key p_is_key
  have F_check_key := fun_mk (st := s_check_key) l_check_key q_check_key p_check_key
  have F_how_many_less := fun_mk (st := s_how_many_less) l_how_many_less q_how_many_less p_how_many_less
  have F_Ideal___init__ := fun_mk (st := s_Ideal___init__) l_Ideal___init__ q_Ideal___init__ p_Ideal___init__
  have F_Ideal__row := fun_mk (st := s_Ideal__row) l_Ideal__row q_Ideal__row p_Ideal__row
  have F_Ideal_push := fun_mk (st := s_Ideal_push) l_Ideal_push q_Ideal_push p_Ideal_push
  have F_Ideal_due := fun_mk (st := s_Ideal_due) l_Ideal_due q_Ideal_due p_Ideal_due
  have F_Ideal_let_go := fun_mk (st := s_Ideal_let_go) l_Ideal_let_go q_Ideal_let_go p_Ideal_let_go
  have F_Ideal_held := fun_mk (st := s_Ideal_held) l_Ideal_held q_Ideal_held p_Ideal_held
  have F_Ideal_ahead := fun_mk (st := s_Ideal_ahead) l_Ideal_ahead q_Ideal_ahead p_Ideal_ahead
  have F_Ideal_copy := fun_mk (st := s_Ideal_copy) l_Ideal_copy q_Ideal_copy p_Ideal_copy
  have F_law_hand := fun_mk (st := s_law_hand) l_law_hand q_law_hand p_law_hand
  have F_law_draw := fun_mk (st := s_law_draw) l_law_draw q_law_draw p_law_draw
  have F_law_any := fun_mk (st := s_law_any) l_law_any q_law_any p_law_any
  have F_law_key := fun_mk (st := s_law_key) l_law_key q_law_key p_law_key
  have F_law_inserted := fun_mk (st := s_law_inserted) l_law_inserted q_law_inserted p_law_inserted
  have F_law := fun_mk (st := s_law) l_law q_law p_law
  refine ⟨⟨f_wall, PySem.W.fnOf "_wall" "_wall" (defArgs s_wall) (defBody s_wall) (defScope s_wall) .none kV_wall dc_wall pm_wall an_wall cd_wall ct_wall, f_is_integer, PySem.W.fnOf "is_integer" "is_integer" (defArgs s_is_integer) (defBody s_is_integer) (defScope s_is_integer) .none kV_is_integer dc_is_integer pm_is_integer an_is_integer cd_is_integer ct_is_integer, f_is_integer_from, PySem.W.fnOf "is_integer_from" "is_integer_from" (defArgs s_is_integer_from) (defBody s_is_integer_from) (defScope s_is_integer_from) .none kV_is_integer_from dc_is_integer_from pm_is_integer_from an_is_integer_from cd_is_integer_from ct_is_integer_from, f_is_number_below, PySem.W.fnOf "is_number_below" "is_number_below" (defArgs s_is_number_below) (defBody s_is_number_below) (defScope s_is_number_below) .none kV_is_number_below dc_is_number_below pm_is_number_below an_is_number_below cd_is_number_below ct_is_number_below, f_is_tuple_of, PySem.W.fnOf "is_tuple_of" "is_tuple_of" (defArgs s_is_tuple_of) (defBody s_is_tuple_of) (defScope s_is_tuple_of) .none kV_is_tuple_of dc_is_tuple_of pm_is_tuple_of an_is_tuple_of cd_is_tuple_of ct_is_tuple_of, f_check_lines, PySem.W.fnOf "check_lines" "check_lines" (defArgs s_check_lines) (defBody s_check_lines) (defScope s_check_lines) .none kV_check_lines dc_check_lines pm_check_lines an_check_lines cd_check_lines ct_check_lines, f_is_cell_number, PySem.W.fnOf "is_cell_number" "is_cell_number" (defArgs s_is_cell_number) (defBody s_is_cell_number) (defScope s_is_cell_number) .none kV_is_cell_number dc_is_cell_number pm_is_cell_number an_is_cell_number cd_is_cell_number ct_is_cell_number, f_is_rank, PySem.W.fnOf "is_rank" "is_rank" (defArgs s_is_rank) (defBody s_is_rank) (defScope s_is_rank) .none kV_is_rank dc_is_rank pm_is_rank an_is_rank cd_is_rank ct_is_rank, f_is_key, PySem.W.fnOf "is_key" "is_key" (defArgs s_is_key) (defBody s_is_key) (defScope s_is_key) .none kV_is_key dc_is_key pm_is_key an_is_key cd_is_key ct_is_key, f_check_key, PySem.W.fnOf "check_key" "check_key" (defArgs s_check_key) (defBody s_check_key) (defScope s_check_key) .none kV_check_key dc_check_key pm_check_key an_check_key cd_check_key ct_check_key, f_how_many_less, PySem.W.fnOf "how_many_less" "how_many_less" (defArgs s_how_many_less) (defBody s_how_many_less) (defScope s_how_many_less) .none kV_how_many_less dc_how_many_less pm_how_many_less an_how_many_less cd_how_many_less ct_how_many_less, f_Ideal___init__, PySem.W.fnOf "__init__" "Ideal.__init__" (defArgs s_Ideal___init__) (defBody s_Ideal___init__) (defScope s_Ideal___init__) .none kV_Ideal___init__ dc_Ideal___init__ pm_Ideal___init__ an_Ideal___init__ cd_Ideal___init__ ct_Ideal___init__, f_Ideal__row, PySem.W.fnOf "_row" "Ideal._row" (defArgs s_Ideal__row) (defBody s_Ideal__row) (defScope s_Ideal__row) .none kV_Ideal__row dc_Ideal__row pm_Ideal__row an_Ideal__row cd_Ideal__row ct_Ideal__row, f_Ideal_push, PySem.W.fnOf "push" "Ideal.push" (defArgs s_Ideal_push) (defBody s_Ideal_push) (defScope s_Ideal_push) .none kV_Ideal_push dc_Ideal_push pm_Ideal_push an_Ideal_push cd_Ideal_push ct_Ideal_push, f_Ideal_due, PySem.W.fnOf "due" "Ideal.due" (defArgs s_Ideal_due) (defBody s_Ideal_due) (defScope s_Ideal_due) .none kV_Ideal_due dc_Ideal_due pm_Ideal_due an_Ideal_due cd_Ideal_due ct_Ideal_due, f_Ideal_let_go, PySem.W.fnOf "let_go" "Ideal.let_go" (defArgs s_Ideal_let_go) (defBody s_Ideal_let_go) (defScope s_Ideal_let_go) .none kV_Ideal_let_go dc_Ideal_let_go pm_Ideal_let_go an_Ideal_let_go cd_Ideal_let_go ct_Ideal_let_go, f_Ideal_held, PySem.W.fnOf "held" "Ideal.held" (defArgs s_Ideal_held) (defBody s_Ideal_held) (defScope s_Ideal_held) .none kV_Ideal_held dc_Ideal_held pm_Ideal_held an_Ideal_held cd_Ideal_held ct_Ideal_held, f_Ideal_ahead, PySem.W.fnOf "ahead" "Ideal.ahead" (defArgs s_Ideal_ahead) (defBody s_Ideal_ahead) (defScope s_Ideal_ahead) .none kV_Ideal_ahead dc_Ideal_ahead pm_Ideal_ahead an_Ideal_ahead cd_Ideal_ahead ct_Ideal_ahead, f_Ideal_copy, PySem.W.fnOf "copy" "Ideal.copy" (defArgs s_Ideal_copy) (defBody s_Ideal_copy) (defScope s_Ideal_copy) .none kV_Ideal_copy dc_Ideal_copy pm_Ideal_copy an_Ideal_copy cd_Ideal_copy ct_Ideal_copy, f_law_hand, PySem.W.fnOf "_law_hand" "_law_hand" (defArgs s_law_hand) (defBody s_law_hand) (defScope s_law_hand) .none kV_law_hand dc_law_hand pm_law_hand an_law_hand cd_law_hand ct_law_hand, f_law_draw, PySem.W.fnOf "_law_draw" "_law_draw" (defArgs s_law_draw) (defBody s_law_draw) (defScope s_law_draw) .none kV_law_draw dc_law_draw pm_law_draw an_law_draw cd_law_draw ct_law_draw, f_law_any, PySem.W.fnOf "_law_any" "_law_any" (defArgs s_law_any) (defBody s_law_any) (defScope s_law_any) .none kV_law_any dc_law_any pm_law_any an_law_any cd_law_any ct_law_any, f_law_key, PySem.W.fnOf "_law_key" "_law_key" (defArgs s_law_key) (defBody s_law_key) (defScope s_law_key) .none kV_law_key dc_law_key pm_law_key an_law_key cd_law_key ct_law_key, f_law_inserted, PySem.W.fnOf "_law_inserted" "_law_inserted" (defArgs s_law_inserted) (defBody s_law_inserted) (defScope s_law_inserted) .none kV_law_inserted dc_law_inserted pm_law_inserted an_law_inserted cd_law_inserted ct_law_inserted, f_law, PySem.W.fnOf "law" "law" (defArgs s_law) (defBody s_law) (defScope s_law) .none kV_law dc_law pm_law an_law cd_law ct_law, c_Ideal⟩, ?_, rfl, rfl⟩
  exact ⟨F_wall,
    PySem.W.mg_of X G a_wall,
    F_wall.binds (fun _ _ _ _ _ _ us hl => match us, hl with | [_], _ => rfl),
    F_is_integer,
    PySem.W.mg_of X G a_is_integer,
    F_is_integer.binds (fun _ _ _ _ _ _ us hl => match us, hl with | [_], _ => rfl),
    F_is_integer_from,
    PySem.W.mg_of X G a_is_integer_from,
    F_is_integer_from.binds (fun _ _ _ _ _ _ us hl => match us, hl with | [_, _, _], _ => rfl),
    F_is_number_below,
    PySem.W.mg_of X G a_is_number_below,
    F_is_number_below.binds (fun _ _ _ _ _ _ us hl => match us, hl with | [_, _], _ => rfl),
    F_is_tuple_of,
    PySem.W.mg_of X G a_is_tuple_of,
    F_is_tuple_of.binds (fun _ _ _ _ _ _ us hl => match us, hl with | [_, _], _ => rfl),
    F_check_lines,
    PySem.W.mg_of X G a_check_lines,
    F_check_lines.binds (fun _ _ _ _ _ _ us hl => match us, hl with | [_], _ => rfl),
    F_is_cell_number,
    PySem.W.mg_of X G a_is_cell_number,
    F_is_cell_number.binds (fun _ _ _ _ _ _ us hl => match us, hl with | [_], _ => rfl),
    F_is_rank,
    PySem.W.mg_of X G a_is_rank,
    F_is_rank.binds (fun _ _ _ _ _ _ us hl => match us, hl with | [_], _ => rfl),
    F_is_key,
    PySem.W.mg_of X G a_is_key,
    F_is_key.binds (fun _ _ _ _ _ _ us hl => match us, hl with | [_], _ => rfl),
    F_check_key,
    PySem.W.mg_of X G a_check_key,
    F_check_key.binds (fun _ _ _ _ _ _ us hl => match us, hl with | [_], _ => rfl),
    F_how_many_less,
    PySem.W.mg_of X G a_how_many_less,
    F_how_many_less.binds (fun _ _ _ _ _ _ us hl => match us, hl with | [_, _], _ => rfl),
    F_Ideal___init__,
    F_Ideal___init__.binds (fun _ _ _ _ _ _ us hl => match us, hl with | [_, _], _ => rfl),
    F_Ideal__row,
    F_Ideal__row.binds (fun _ _ _ _ _ _ us hl => match us, hl with | [_, _], _ => rfl),
    F_Ideal_push,
    F_Ideal_push.binds (fun _ _ _ _ _ _ us hl => match us, hl with | [_, _, _], _ => rfl),
    F_Ideal_due,
    F_Ideal_due.binds (fun _ _ _ _ _ _ us hl => match us, hl with | [_, _], _ => rfl),
    F_Ideal_let_go,
    F_Ideal_let_go.binds (fun _ _ _ _ _ _ us hl => match us, hl with | [_, _], _ => rfl),
    F_Ideal_held,
    F_Ideal_held.binds (fun _ _ _ _ _ _ us hl => match us, hl with | [_, _], _ => rfl),
    F_Ideal_ahead,
    F_Ideal_ahead.binds (fun _ _ _ _ _ _ us hl => match us, hl with | [_, _, _], _ => rfl),
    F_Ideal_copy,
    F_Ideal_copy.binds (fun _ _ _ _ _ _ us hl => match us, hl with | [_], _ => rfl),
    F_law_hand,
    PySem.W.mg_of X G a_law_hand,
    F_law_hand.binds (fun _ _ _ _ _ _ us hl => match us, hl with | [_], _ => rfl),
    F_law_draw,
    PySem.W.mg_of X G a_law_draw,
    F_law_draw.binds (fun _ _ _ _ _ _ us hl => match us, hl with | [_, _], _ => rfl),
    F_law_any,
    PySem.W.mg_of X G a_law_any,
    F_law_any.binds (fun _ _ _ _ _ _ us hl => match us, hl with | [_, _], _ => rfl),
    F_law_key,
    PySem.W.mg_of X G a_law_key,
    F_law_key.binds (fun _ _ _ _ _ _ us hl => match us, hl with | [_, _], _ => rfl),
    F_law_inserted,
    PySem.W.mg_of X G a_law_inserted,
    F_law_inserted.binds (fun _ _ _ _ _ _ us hl => match us, hl with | [_, _], _ => rfl),
    F_law,
    PySem.W.mg_of X G a_law,
    F_law.binds (fun _ _ _ _ _ _ us hl => match us, hl with | [_], _ => rfl),
    ⟨pg_Ideal, hd_Ideal, po_Ideal, sa_Ideal⟩,
    PySem.W.mg_of X G ac_Ideal,
    ⟨mk_Ideal, a_Ideal___init__, i_Ideal___init__, kc_Ideal⟩,
    ⟨a_Ideal__row, i_Ideal__row, p_Ideal__row⟩,
    ⟨a_Ideal_push, i_Ideal_push, p_Ideal_push⟩,
    ⟨a_Ideal_due, i_Ideal_due, p_Ideal_due⟩,
    ⟨a_Ideal_let_go, i_Ideal_let_go, p_Ideal_let_go⟩,
    ⟨a_Ideal_held, i_Ideal_held, p_Ideal_held⟩,
    ⟨a_Ideal_ahead, i_Ideal_ahead, p_Ideal_ahead⟩,
    ⟨a_Ideal_copy, i_Ideal_copy, p_Ideal_copy⟩,
    n_Ideal__rows,
    em_Ideal,
    es_Ideal,
    ⟨_, PySem.W.mg_of X G k_MOST_LINES⟩,
    ⟨_, PySem.W.mg_of X G k_GREATEST_CELL⟩,
    ⟨_, PySem.W.mg_of X G k_GREATEST_RANK⟩,
    PySem.W.mg_none_of X G z_abs,
    PySem.W.mg_none_of X G z_bool,
    PySem.W.mg_none_of X G z_enumerate,
    PySem.W.mg_none_of X G z_int,
    PySem.W.mg_none_of X G z_isinstance,
    PySem.W.mg_none_of X G z_len,
    PySem.W.mg_none_of X G z_list,
    PySem.W.mg_none_of X G z_range,
    PySem.W.mg_none_of X G z_tuple⟩

section
variable {P : Program} {w : World} {K : PySem.W.Frag} {mg : Str → Option Value} {base : Heap} {A : Adr}
/-! ### what counts as an integer -/
def IsI (K : PySem.W.Frag) (H : Hp) (x : V) (b : Bool) : Prop := ∃ t b1 b2, TyX K H x t ∧ PySem.W.kitOne K t (.type "int") = some b1 ∧ PySem.W.kitOne K t (.type "bool") = some b2 ∧ b = (b1 && !b2)
theorem isI_int {H : Hp} {i : Int} : IsI K H (.int i) true := ⟨.type "int", true, false, .base (.int _), kit_ty (by decide +kernel), kit_ty (by decide +kernel), rfl⟩
def spIsInteger (K : PySem.W.Frag) : Sp := fun vs H Q _ => ∃ x b, vs = [x] ∧ IsI K H x b ∧ Q (.bl b) H
theorem ok_is_integer (T : Top K mg A) : FnOk P w K mg base CX0 1 A.a_is_integer A.d_is_integer P_is_integer (spIsInteger K) := by
  refine T.F_is_integer.ok sc_is_integer (fun vs H Q E h => ?_) (fun cdv A outer s H vs Q E hr h => ?_)
  · obtain ⟨x, b, rfl, _⟩ := h
    rfl
  · obtain ⟨x, b, rfl, ⟨t, b1, b2, ty, e1, e2, rfl⟩, k⟩ := h
    refine ⟨_, (pss_one (ps_ret (pe_and (pe_callB call_isi (by rfl) T.z_isinstance (by decide +kernel) (pa_cons (pv 0) (pa_cons (pe_bltn (v := .ty "int") (by rfl) T.z_int (by decide +kernel) rfl) pa_nil))) (pe_one (pe_not (pe_callB call_isi (by rfl) T.z_isinstance (by decide +kernel) (pa_cons (pv 0) (pa_cons (pe_bltn (v := .ty "bool") (by rfl) T.z_bool (by decide +kernel) rfl) pa_nil)))))))), ?_⟩
    refine ⟨_, rfl, _, _, _, _, _, rfl, .ty "int", ty, e1, b1, rfl, ?_⟩
    cases b1 with
    | false => exact iteF k
    | true =>
      refine iteT ?_
      refine ⟨_, rfl, _, _, _, _, _, rfl, .ty "bool", ty, e2, b2, rfl, ?_⟩
      exact k
def spIIF (K : PySem.W.Frag) : Sp := fun vs H Q _ => ∃ (lo hi : Int) (x : V), vs = [.int lo, .int hi, x] ∧ ((∃ i, x = .int i ∧ Q (.bl (decide (lo ≤ i) && decide (i ≤ hi))) H) ∨ (IsI K H x false ∧ Q (.bl false) H))
theorem ok_is_integer_from (T : Top K mg A) : FnOk P w K mg base CX0 2 A.a_is_integer_from A.d_is_integer_from P_is_integer_from (spIIF K) := by
  refine T.F_is_integer_from.ok sc_is_integer_from (fun vs H Q E h => ?_) (fun cdv A outer s H vs Q E hr h => ?_)
  · obtain ⟨lo, hi, x, rfl, _⟩ := h
    rfl
  · obtain ⟨lo, hi, x, rfl, k⟩ := h
    refine ⟨_, (pss_one (ps_ret (pe_and (pe_call (ok_is_integer T) (hr.mono (by decide)) (by rfl) T.g_is_integer T.F_is_integer.kp T.b_is_integer .nil pass0 (pa_cons (pv 2) pa_nil)) (pe_one (pe_chain op_le op_le (pv 0) (pv 2) (pv 1)))))), ?_⟩
    refine ⟨_, rfl, x, ?_⟩
    rcases k with ⟨i, rfl, k⟩ | ⟨hI, k⟩
    · refine ⟨true, rfl, isI_int, true, rfl, iteT ?_⟩
      refine ⟨_, rfl, _, rfl, _, _, rfl, rfl, _, rfl, ?_⟩
      by_cases c : lo ≤ i
      · rw [decide_eq_true c] at k ⊢
        refine iteT ⟨_, rfl, _, _, rfl, rfl, k⟩
      · rw [decide_eq_false c] at k ⊢
        exact iteF k
    · exact ⟨false, rfl, hI, false, rfl, iteF k⟩
def spINB (K : PySem.W.Frag) : Sp := fun vs H Q _ => ∃ (n : Int) (x : V), vs = [.int n, x] ∧ ((∃ i, x = .int i ∧ Q (.bl (decide (0 ≤ i) && decide (i ≤ n - 1))) H) ∨ (IsI K H x false ∧ Q (.bl false) H))
theorem ok_is_number_below (T : Top K mg A) : FnOk P w K mg base CX0 3 A.a_is_number_below A.d_is_number_below P_is_number_below (spINB K) := by
  refine T.F_is_number_below.ok sc_is_number_below (fun vs H Q E h => ?_) (fun cdv A outer s H vs Q E hr h => ?_)
  · obtain ⟨n, x, rfl, _⟩ := h
    rfl
  · obtain ⟨n, x, rfl, k⟩ := h
    refine ⟨_, (pss_one (ps_ret (pe_call (ok_is_integer_from T) (hr.mono (by decide)) (by rfl) T.g_is_integer_from T.F_is_integer_from.kp T.b_is_integer_from .nil pass0 (pa_cons pe_int (pa_cons (pe_op op_sub (pv 0) pe_int) (pa_cons (pv 1) pa_nil)))))), ?_⟩
    exact ⟨_, rfl, _, _, rfl, rfl, _, rfl, _, _, _, rfl, k⟩
end

section
variable {P : Program} {w : World} {K : PySem.W.Frag} {mg : Str → Option Value} {base : Heap} {A : Adr}
/-! ### keys -/
theorem dec_int {a b : Int} : decide (V.int a = V.int b) = decide (a = b) := decide_eq_decide.mpr ⟨fun e => V.int.inj e, fun e => by rw [e]⟩
theorem dec_self {a : V} : decide (a = a) = true := decide_eq_true rfl
/-- the tuple of two ints at a -/
abbrev Tup2 (H : Hp) (a : Addr) (p : Int × Int) : Prop := H a = some (.tup [.int p.1, .int p.2])
def spITO (K : PySem.W.Frag) : Sp := fun vs H Q _ => ∃ (n : Int) (a : Addr) (xs : List V), vs = [.int n, .ref a] ∧ H a = some (.tup xs) ∧ Q (.bl (decide ((xs.length : Int) = n))) H
theorem ok_is_tuple_of (T : Top K mg A) : FnOk P w K mg base CX0 1 A.a_is_tuple_of A.d_is_tuple_of P_is_tuple_of (spITO K) := by
  refine T.F_is_tuple_of.ok sc_is_tuple_of (fun vs H Q E h => ?_) (fun cdv A outer s H vs Q E hr h => ?_)
  · obtain ⟨n, a, xs, rfl, _⟩ := h
    rfl
  · obtain ⟨n, a, xs, rfl, ha, k⟩ := h
    refine ⟨_, (pss_one (ps_ret (pe_and (pe_callB call_isi (by rfl) T.z_isinstance (by decide +kernel) (pa_cons (pv 1) (pa_cons (pe_bltn (v := .ty "tuple") (by rfl) T.z_tuple (by decide +kernel) rfl) pa_nil))) (pe_one (pe_cmpR op_eq (pe_callB call_len_seq (by rfl) T.z_len (by decide +kernel) (pa_cons (pv 1) pa_nil)) (pv 0) (nomark _)))))), ?_⟩
    refine ⟨_, rfl, _, _, _, _, _, rfl, .ty "tuple", .base (.tup ha), kit_ty (b := "tuple") (r := true) (by decide +kernel), true, rfl, iteT ?_⟩
    refine ⟨_, rfl, _, _, rfl, .inr (SqT.of ha), _, rfl, rfl, ?_⟩
    rw [dec_int]
    exact k
def spCheckLines : Sp := fun vs H Q _ => ∃ (n : Int), vs = [.int n] ∧ 1 ≤ n ∧ n ≤ 12 ∧ Q .non H
theorem ok_check_lines (T : Top K mg A) : FnOk P w K mg base CX0 3 A.a_check_lines A.d_check_lines P_check_lines spCheckLines := by
  refine T.F_check_lines.ok sc_check_lines (fun vs H Q E h => ?_) (fun cdv A outer s H vs Q E hr h => ?_)
  · obtain ⟨n, rfl, _⟩ := h
    rfl
  · obtain ⟨n, rfl, h1, h2, k⟩ := h
    obtain ⟨t, kt⟩ := T.k_MOST_LINES
    refine ⟨_, (pss_one (ps_if (pt_not (pt_val (pe_call (ok_is_integer_from T) (hr.mono (by decide)) (by rfl) T.g_is_integer_from T.F_is_integer_from.kp T.b_is_integer_from .nil pass0 (pa_cons pe_int (pa_cons (pe_glob (v := .int 12) rfl kt ⟨_, rfl⟩) (pa_cons (pv 0) pa_nil)))))) (pss_one ps_never) pss_nil)), ?_⟩
    refine ⟨_, rfl, _, _, _, rfl, .inl ⟨n, rfl, ?_⟩⟩
    rw [decide_eq_true h1, decide_eq_true h2]
    exact ⟨true, rfl, iteF k⟩
def spICN (K : PySem.W.Frag) : Sp := fun vs H Q _ => ∃ (n : Int), vs = [.int n] ∧ Q (.bl (decide (0 ≤ n) && decide (n ≤ 1000000000))) H
theorem ok_is_cell_number (T : Top K mg A) : FnOk P w K mg base CX0 3 A.a_is_cell_number A.d_is_cell_number P_is_cell_number (spICN K) := by
  refine T.F_is_cell_number.ok sc_is_cell_number (fun vs H Q E h => ?_) (fun cdv A outer s H vs Q E hr h => ?_)
  · obtain ⟨n, rfl, _⟩ := h
    rfl
  · obtain ⟨n, rfl, k⟩ := h
    obtain ⟨t, kt⟩ := T.k_GREATEST_CELL
    refine ⟨_, (pss_one (ps_ret (pe_call (ok_is_integer_from T) (hr.mono (by decide)) (by rfl) T.g_is_integer_from T.F_is_integer_from.kp T.b_is_integer_from .nil pass0 (pa_cons pe_int (pa_cons (pe_glob (v := .int 1000000000) rfl kt ⟨_, rfl⟩) (pa_cons (pv 0) pa_nil)))))), ?_⟩
    exact ⟨_, rfl, _, _, _, rfl, .inl ⟨n, rfl, k⟩⟩
def spIR (K : PySem.W.Frag) : Sp := fun vs H Q _ => ∃ (n : Int), vs = [.int n] ∧ Q (.bl (decide (-1000000000000000000 ≤ n) && decide (n ≤ 1000000000000000000))) H
theorem ok_is_rank (T : Top K mg A) : FnOk P w K mg base CX0 3 A.a_is_rank A.d_is_rank P_is_rank (spIR K) := by
  refine T.F_is_rank.ok sc_is_rank (fun vs H Q E h => ?_) (fun cdv A outer s H vs Q E hr h => ?_)
  · obtain ⟨n, rfl, _⟩ := h
    rfl
  · obtain ⟨n, rfl, k⟩ := h
    obtain ⟨t, kt⟩ := T.k_GREATEST_RANK
    refine ⟨_, (pss_one (ps_ret (pe_call (ok_is_integer_from T) (hr.mono (by decide)) (by rfl) T.g_is_integer_from T.F_is_integer_from.kp T.b_is_integer_from .nil pass0 (pa_cons (pe_un un_neg (pe_glob (v := .int 1000000000000000000) rfl kt ⟨_, rfl⟩)) (pa_cons (pe_glob (v := .int 1000000000000000000) rfl kt ⟨_, rfl⟩) (pa_cons (pv 0) pa_nil)))))), ?_⟩
    exact ⟨_, rfl, _, rfl, _, _, _, rfl, .inl ⟨n, rfl, k⟩⟩
/-- a key that holds: its rank and its cell's number lie within their bounds -/
def KeyOk (p : Int × Int) : Prop := -1000000000000000000 ≤ p.1 ∧ p.1 ≤ 1000000000000000000 ∧ 0 ≤ p.2 ∧ p.2 ≤ 1000000000
def spIK (K : PySem.W.Frag) : Sp := fun vs H Q _ => ∃ (a : Addr) (p : Int × Int), vs = [.ref a] ∧ Tup2 H a p ∧ KeyOk p ∧ Q (.bl true) H
theorem ok_is_key (T : Top K mg A) : FnOk P w K mg base CX0 4 A.a_is_key A.d_is_key P_is_key (spIK K) := by
  refine T.F_is_key.ok sc_is_key (fun vs H Q E h => ?_) (fun cdv A outer s H vs Q E hr h => ?_)
  · obtain ⟨a, p, rfl, _⟩ := h
    rfl
  · obtain ⟨a, p, rfl, ha, ⟨h1, h2, h3, h4⟩, k⟩ := h
    refine ⟨_, (pss_one (ps_ret (pe_and (pe_call (ok_is_tuple_of T) (hr.mono (by decide)) (by rfl) T.g_is_tuple_of T.F_is_tuple_of.kp T.b_is_tuple_of .nil pass0 (pa_cons pe_int (pa_cons (pv 0) pa_nil))) (pe_and (pe_call (ok_is_rank T) (hr.mono (by decide)) (by rfl) T.g_is_rank T.F_is_rank.kp T.b_is_rank .nil pass0 (pa_cons (pe_ix ix_tup (pv 0) pe_int (fun _ _ => rfl)) pa_nil)) (pe_one (pe_call (ok_is_cell_number T) (hr.mono (by decide)) (by rfl) T.g_is_cell_number T.F_is_cell_number.kp T.b_is_cell_number .nil pass0 (pa_cons (pe_ix ix_tup (pv 0) pe_int (fun _ _ => rfl)) pa_nil))))))), ?_⟩
    refine ⟨_, rfl, _, _, _, rfl, ha, true, rfl, iteT ?_⟩
    refine ⟨_, rfl, _, _, _, _, rfl, rfl, SqT.of ha, atI_nat (j := 0) rfl, _, rfl, ?_⟩
    rw [decide_eq_true h1, decide_eq_true h2]
    refine ⟨true, rfl, iteT ?_⟩
    refine ⟨_, rfl, _, _, _, _, rfl, rfl, SqT.of ha, atI_nat (j := 1) rfl, _, rfl, ?_⟩
    rw [decide_eq_true h3, decide_eq_true h4]
    exact k
def spCK (K : PySem.W.Frag) : Sp := fun vs H Q _ => ∃ (a : Addr) (p : Int × Int), vs = [.ref a] ∧ Tup2 H a p ∧ KeyOk p ∧ Q .non H
theorem ok_check_key (T : Top K mg A) : FnOk P w K mg base CX0 5 A.a_check_key A.d_check_key P_check_key (spCK K) := by
  refine T.F_check_key.ok sc_check_key (fun vs H Q E h => ?_) (fun cdv A outer s H vs Q E hr h => ?_)
  · obtain ⟨a, p, rfl, _⟩ := h
    rfl
  · obtain ⟨a, p, rfl, ha, hk, k⟩ := h
    refine ⟨_, (pss_one (ps_if (pt_not (pt_val (pe_call (ok_is_key T) (hr.mono (by decide)) (by rfl) T.g_is_key T.F_is_key.kp T.b_is_key .nil pass0 (pa_cons (pv 0) pa_nil)))) (pss_one ps_never) pss_nil)), ?_⟩
    exact ⟨_, rfl, _, _, rfl, ha, hk, true, rfl, iteF k⟩
/-! ### how many keys are less -/
def KeysAt (H : Hp) (kd : V → Int × Int) (xs : List V) : Prop := ∀ v ∈ xs, ∃ a, v = .ref a ∧ Tup2 H a (kd v)
theorem KeysAt.same {H H' : Hp} {kd : V → Int × Int} {xs : List V} (e : Same H H') (h : KeysAt H kd xs) : KeysAt H' kd xs := fun v hv => by
  obtain ⟨a, e1, e2⟩ := h v hv
  exact ⟨a, e1, e _ _ e2⟩
def ltK (kd : V → Int × Int) (k v : V) : Bool := HT.lexLt [(kd v).1, (kd v).2] [(kd k).1, (kd k).2]
def less (kd : V → Int × Int) (k : V) (xs : List V) : Nat := (xs.filter (ltK kd k)).length
theorem less_le (kd : V → Int × Int) (k : V) (xs : List V) : less kd k xs ≤ xs.length := List.length_filter_le _ _
theorem same_upd {H : Hp} {p : Addr} {o : HO} (h : H p = none) : Same H (upd H p o) := fun b x e => by
  rw [upd_ne (ne_of_none e h)]
  exact e
theorem same_to {H H1 : Hp} {p : Addr} {o : HO} (s : Same H H1) (h : H p = none) : Same H (upd H1 p o) := fun b x e => by
  rw [upd_ne (ne_of_none e h)]
  exact s _ _ e
theorem take_fil {xs : List V} {i : Nat} {x : V} (f : V → Bool) (h : xs[i]? = some x) : (xs.take (i + 1)).filter f = (xs.take i).filter f ++ (if f x = true then [x] else []) := by
  rw [List.take_add_one, h, List.filter_append]
  congr 1
  show List.filter f [x] = _
  by_cases c : f x = true
  · rw [if_pos c, List.filter_cons_of_pos c]
    rfl
  · rw [if_neg c, List.filter_cons_of_neg c]
    rfl
theorem fil_lt {xs : List V} {f : V → Bool} {i : Nat} (h : xs.length ≤ 100000) : ((xs.take i).filter f).length < sizeLine := by
  have h1 : ((xs.take i).filter f).length ≤ (xs.take i).length := List.length_filter_le _ _
  rw [List.length_take] at h1
  exact Nat.lt_of_le_of_lt (Nat.le_trans h1 (Nat.le_trans (Nat.min_le_right _ _) h)) (by decide)
theorem lt2 {a b c d : Int} : (HT.lexLt [a, b] [c, d] = true) ↔ (a < c ∨ (a = c ∧ b < d)) := by
  simp [HT.lexLt]
  by_cases h : a = c
  · rw [if_pos h]
    omega
  · rw [if_neg h]
    omega
/-- u < v -/
def LtV (kd : V → Int × Int) (u v : V) : Prop := (kd u).1 < (kd v).1 ∨ ((kd u).1 = (kd v).1 ∧ (kd u).2 < (kd v).2)
theorem ltK_iff {kd : V → Int × Int} {k v : V} : ltK kd k v = true ↔ LtV kd v k := lt2
def Pw (kd : V → Int × Int) (xs : List V) : Prop := xs.Pairwise (LtV kd)
theorem less_split {kd : V → Int × Int} {k : V} : ∀ {xs : List V}, Pw kd xs → (∀ v ∈ xs.take (less kd k xs), LtV kd v k) ∧ ∀ v ∈ xs.drop (less kd k xs), ¬ LtV kd v k
  | [], _ => ⟨fun v hv => by simp at hv, fun v hv => by simp at hv⟩
  | u :: r, h => by
    obtain ⟨h1, h2⟩ := List.pairwise_cons.mp h
    obtain ⟨i1, i2⟩ := less_split (k := k) h2
    by_cases c : LtV kd u k
    · have e : less kd k (u :: r) = less kd k r + 1 := by
        unfold less
        rw [List.filter_cons_of_pos (ltK_iff.mpr c), List.length_cons]
      rw [e, List.take_succ_cons, List.drop_succ_cons]
      refine ⟨fun v hv => ?_, i2⟩
      rcases List.mem_cons.mp hv with z | hv
      · rw [z]
        exact c
      · exact i1 v hv
    · have no : ∀ v ∈ r, ¬ LtV kd v k := fun v hv z => c (by
        have q := h1 v hv
        unfold LtV at q z ⊢
        omega)
      have e : less kd k (u :: r) = 0 := by
        unfold less
        rw [List.filter_cons_of_neg (fun z => c (ltK_iff.mp z)), List.filter_eq_nil_iff.mpr fun v hv z => no v hv (ltK_iff.mp z)]
        rfl
      rw [e]
      refine ⟨fun v hv => by simp at hv, fun v hv => ?_⟩
      rcases List.mem_cons.mp hv with z | hv
      · rw [z]
        exact c
      · exact no v hv
def spHML (K : PySem.W.Frag) : Sp := fun vs H Q _ => ∃ (l : Addr) (xs : List V) (kv : V) (kd : V → Int × Int), vs = [.ref l, kv] ∧ SqL K H l xs ∧ KeysAt H kd (kv :: xs) ∧ Pw kd xs ∧ xs.length ≤ 100000 ∧ ∀ H', Same H H' → Q (.int (less kd kv xs : Nat)) H'
theorem split_lo {kd : V → Int × Int} {k : V} {xs : List V} (h : Pw kd xs) {i : Nat} {v : V} (e : xs[i]? = some v) : (i < less kd k xs → ltK kd k v = true) ∧ (less kd k xs ≤ i → ltK kd k v = false) := by
  obtain ⟨h1, h2⟩ := less_split (k := k) h
  constructor
  · intro c
    refine ltK_iff.mpr (h1 v ?_)
    refine List.mem_of_getElem? (i := i) ?_
    rw [List.getElem?_take_of_lt c]
    exact e
  · intro c
    cases q : ltK kd k v with
    | false => rfl
    | true =>
      refine absurd (ltK_iff.mp q) (h2 v ?_)
      refine List.mem_of_getElem? (i := i - less kd k xs) ?_
      rw [List.getElem?_drop, show less kd k xs + (i - less kd k xs) = i by omega]
      exact e
theorem ok_how_many_less (T : Top K mg A) : FnOk P w K mg base CX0 1 A.a_how_many_less A.d_how_many_less P_how_many_less (spHML K) := by
  refine T.F_how_many_less.ok sc_how_many_less (fun vs H Q E h => ?_) (fun cdv A outer s H vs Q E hr h => ?_)
  · obtain ⟨l, xs, kv, kd, rfl, _⟩ := h
    rfl
  · obtain ⟨l, xs, kv, kd, rfl, hl, hk, hs, hn, k⟩ := h
    obtain ⟨ak, rfl, hak⟩ := hk kv (by simp)
    refine ⟨_, (pss_cons (ps_set (i := 2) sc_how_many_less.nd rfl (.inl rfl) pe_int)
    (pss_cons (ps_set (i := 3) sc_how_many_less.nd rfl (.inl rfl) (pe_callB call_len_seq (by rfl) T.z_len (by decide +kernel) (pa_cons (pv 0) pa_nil)))
    (pss_cons (ps_while PassesOwn.never (pt_cmpR op_lt (pv 2) (pv 3) (nomark _)) (pss_cons (ps_set (i := 4) sc_how_many_less.nd rfl (.inl rfl) (pe_op op_fdiv (pe_op op_add (pv 2) (pv 3)) pe_int))
    (pss_one (ps_if (pt_cmpR (op_ltT hr.units0) (pe_ix ix_list (pv 0) (pv 4) (fun _ _ => rfl)) (pv 1) (nomark _)) (pss_one (ps_set (i := 2) sc_how_many_less.nd rfl (.inl rfl) (pe_op op_add (pv 4) pe_int))) (pss_one (ps_set (i := 3) sc_how_many_less.nd rfl (.inl rfl) (pv 4)))))))
    (pss_one (ps_ret (pv 2)))))), ?_⟩
    refine ⟨_, rfl, l, xs, rfl, .inl hl, ?_⟩
    refine ⟨fun m σ H' => ∃ (lo hi : Nat) (y4 : Option V), σ = [some (.ref l), some (.ref ak), some (.int (lo : Int)), some (.int (hi : Int)), y4] ∧ H' = H ∧ lo ≤ less kd (.ref ak) xs ∧ less kd (.ref ak) xs ≤ hi ∧ hi ≤ xs.length ∧ m = hi - lo, ⟨_, 0, xs.length, none, rfl, rfl, Nat.zero_le _, less_le _ _ _, Nat.le_refl _, rfl⟩, ?_⟩
    rintro m σ H' ⟨lo, hi, y4, rfl, rfl, h1, h2, h3, rfl⟩
    refine ⟨_, rfl, _, rfl, _, _, rfl, rfl, _, rfl, ite2 (fun c => ?_) (fun c => ?_)⟩
    · have c := of_decide_eq_true c
      refine ⟨fun σ' H'' => ∃ (lo' hi' : Nat) (y4 : Option V), σ' = [some (.ref l), some (.ref ak), some (.int (lo' : Int)), some (.int (hi' : Int)), y4] ∧ H'' = H' ∧ lo' ≤ less kd (.ref ak) xs ∧ less kd (.ref ak) xs ≤ hi' ∧ hi' ≤ xs.length ∧ hi' - lo' < hi - lo, fun σ' H'' ⟨lo', hi', y, e1, e2, e3, e4, e5, e6⟩ => ⟨_, e6, lo', hi', y, e1, e2, e3, e4, e5, rfl⟩, ?_⟩
      refine ⟨_, rfl, _, rfl, _, _, rfl, rfl, _, _, rfl, rfl, ⟨by decide, by decide⟩, ?_⟩
      have em : ((lo : Int) + (hi : Int)) / 2 = (((lo + hi) / 2 : Nat) : Int) := by omega
      have hm : (lo + hi) / 2 < xs.length := by omega
      have ex : xs[(lo + hi) / 2]? = some xs[(lo + hi) / 2] := List.getElem?_eq_getElem hm
      obtain ⟨b, eb, hb⟩ := hk xs[(lo + hi) / 2] (List.mem_cons_of_mem _ (List.mem_of_getElem? ex))
      obtain ⟨g1, g2⟩ := split_lo (k := .ref ak) hs ex
      show tSeq _ _ _ ([some (.ref l), some (.ref ak), some (.int (lo : Int)), some (.int (hi : Int)), some (.int (((lo : Int) + (hi : Int)) / 2))] : L2.St) _
      rw [em]
      refine ⟨_, rfl, _, rfl, l, xs, _, xs[(lo + hi) / 2], rfl, rfl, hl, atI_nat ex, ?_⟩
      rw [eb] at hb g1 g2 ⊢
      refine ⟨_, rfl, b, ak, [(kd (.ref b)).1, (kd (.ref b)).2], [(kd (.ref ak)).1, (kd (.ref ak)).2], rfl, rfl, SqT.of hb, SqT.of hak, _, rfl, ?_⟩
      show (if ltK kd (.ref ak) (.ref b) = true then _ else _)
      by_cases c2 : (lo + hi) / 2 < less kd (.ref ak) xs
      · rw [g1 c2]
        refine iteT ?_
        refine ⟨_, rfl, _, _, rfl, rfl, (lo + hi) / 2 + 1, hi, _, rfl, rfl, by omega, h2, h3, by omega⟩
      · rw [g2 (by omega)]
        refine iteF ?_
        exact ⟨_, rfl, lo, (lo + hi) / 2, _, rfl, rfl, h1, by omega, by omega, by omega⟩
    · have c : ¬ ((lo : Int) < (hi : Int)) := fun z => c (decide_eq_true z)
      refine ⟨_, rfl, ?_⟩
      have e : lo = less kd (.ref ak) xs := by omega
      rw [e]
      exact k _ fun _ _ q => q
end

section
variable {P : Program} {w : World} {K : PySem.W.Frag} {mg : Str → Option Value} {base : Heap} {A : Adr}
/-! ### the hand: a list of five, [the script's numbers, place, rest, mix, turns] -/
theorem upd_upd {H : Hp} {a : Addr} {o u : HO} : upd (upd H a o) a u = upd H a u := by
  funext b
  by_cases h : b = a
  · subst h
    rw [upd_same, upd_same]
  · rw [upd_ne h, upd_ne h, upd_ne h]
def handO (g : Addr) (i m s t : Int) : HO := .lst [.ref g, .int i, .int m, .int s, .int t]
/-- the hand stands at h, its numbers at g -/
structure HandAt (H : Hp) (h g : Addr) : Prop where
  cells : ∃ ns : List Int, H g = some (.lst (ns.map V.int))
  five : ∃ i m s t, H h = some (handO g i m s t) ∧ 0 ≤ i ∧ -(2 ^ 64) < s ∧ s < 2 ^ 64
  ne : h ≠ g
/-- as H but at h -/
def But (h : Addr) (H H' : Hp) : Prop := ∀ b, b ≠ h → H' b = H b
theorem But.upd {h : Addr} {H : Hp} {o : HO} : But h H (upd H h o) := fun _ hb => upd_ne hb
theorem But.trans {h : Addr} {H H1 H2 : Hp} (a : But h H H1) (b : But h H1 H2) : But h H H2 := fun c hc => (b c hc).trans (a c hc)
theorem But.refl (h : Addr) (H : Hp) : But h H H := fun _ _ => rfl
theorem hand_upd {H : Hp} {h g : Addr} (a : HandAt H h g) {i m s t : Int} (hi : 0 ≤ i) (hs : -(2 ^ 64) < s) (hs2 : s < 2 ^ 64) : HandAt (upd H h (handO g i m s t)) h g :=
  ⟨by
    obtain ⟨ns, e⟩ := a.cells
    exact ⟨ns, by rw [upd_ne a.ne.symm]; exact e⟩, ⟨i, m, s, t, upd_same, hi, hs, hs2⟩, a.ne⟩
def spDraw : Sp := fun vs H Q _ => ∃ (h g : Addr) (n : Int), vs = [.ref h, .int n] ∧ HandAt H h g ∧ 0 < n ∧ n < 1073741824 ∧ ∀ (H' : Hp) (d : Int), But h H H' → HandAt H' h g → 0 ≤ d → d < n → Q (.int d) H'
theorem ixn5 {g : Addr} {i m s t : Int} {v : V} : ∀ j : Nat, [V.ref g, V.int i, V.int m, V.int s, V.int t][j]? = some v → atI [V.ref g, V.int i, V.int m, V.int s, V.int t] (j : Int) = some v := fun j h => atI_nat h
theorem ok_law_draw (T : Top K mg A) : FnOk P w K mg base CX0 1 A.a_law_draw A.d_law_draw P_law_draw spDraw := by
  refine T.F_law_draw.ok sc_law_draw (fun vs H Q E h => ?_) (fun cdv A outer s H vs Q E hr h => ?_)
  · obtain ⟨h, g, n, rfl, _⟩ := h
    rfl
  · obtain ⟨h, g, n, rfl, ha, hn, hn2, k⟩ := h
    obtain ⟨ns, eg⟩ := ha.cells
    obtain ⟨i, m, sd, t, eh, hi, hs1, hs2⟩ := ha.five
    have hne := ha.ne
    refine ⟨_, (Evl.pss_cut (ps_if (PW.pt (pw_and (pt_cmpR op_eq (pe_ix ix_list (pv 0) pe_int (fun _ _ => rfl)) pe_int (nomark _)) (pw_and1 (pt_cmpR op_lt (pe_ix ix_list (pv 0) pe_int (fun _ _ => rfl)) (pe_callB call_len_seq (by rfl) T.z_len (by decide +kernel) (pa_cons (pe_ix ix_list (pv 0) pe_int (fun _ _ => rfl)) pa_nil)) (nomark _))))) (pss_cons (ps_set (i := 2) sc_law_draw.nd rfl (.inl rfl) (pe_ix ix_list (pe_ix ix_list (pv 0) pe_int (fun _ _ => rfl)) (pe_ix ix_list (pv 0) pe_int (fun _ _ => rfl)) (fun _ _ => rfl)))
    (pss_cons (ps_asg (pe_op op_add (pe_ix ix_list (pv 0) pe_int (fun _ _ => rfl)) pe_int) (pg_sub (pv 0) pe_int set_list))
    (pss_cons (ps_asg (pe_op op_mod (pe_callTy call_int1 (by rfl) T.z_int (by decide +kernel) (pa_cons (pe_op op_add (pe_op op_add (pe_op op_mul (pe_ix ix_list (pv 0) pe_int (fun _ _ => rfl)) pe_int) (pv 2)) pe_int) pa_nil)) pe_int) (pg_sub (pv 0) pe_int set_list))
    (pss_one (ps_if (pt_cmpR op_ge (pv 2) (pe_op op_pow pe_int pe_int) (nomark _)) (pss_one (ps_asg (pv 2) (pg_sub (pv 0) pe_int set_list))) pss_nil))))) pss_nil)
    (pss_cons (ps_if (pt_cmpR op_gt (pe_ix ix_list (pv 0) pe_int (fun _ _ => rfl)) pe_int (nomark _)) (pss_cons (ps_set (i := 3) sc_law_draw.nd rfl (.inl rfl) (pe_op op_mod (pe_callTy call_int1 (by rfl) T.z_int (by decide +kernel) (pa_cons (pe_ix ix_list (pv 0) pe_int (fun _ _ => rfl)) pa_nil)) (pv 1)))
    (pss_cons (ps_asg (pe_op op_fdiv (pe_ix ix_list (pv 0) pe_int (fun _ _ => rfl)) (pv 1)) (pg_sub (pv 0) pe_int set_list))
    (pss_one (ps_ret (pv 3))))) pss_nil)
    (pss_cons (ps_asg (pe_op op_add (pe_ix ix_list (pv 0) pe_int (fun _ _ => rfl)) pe_int) (pg_sub (pv 0) pe_int set_list))
    (pss_cons (ps_set (i := 4) sc_law_draw.nd rfl (.inl rfl) (pe_op op_mod (pe_callTy call_int1 (by rfl) T.z_int (by decide +kernel) (pa_cons (pe_op op_mul (pe_callTy call_int1 (by rfl) T.z_int (by decide +kernel) (pa_cons (pe_op op_add (pe_ix ix_list (pv 0) pe_int (fun _ _ => rfl)) (pe_op op_mul pe_int (pe_ix ix_list (pv 0) pe_int (fun _ _ => rfl)))) pa_nil)) pe_int) pa_nil)) pe_int))
    (pss_cons (ps_set (i := 4) sc_law_draw.nd rfl (.inl rfl) (pe_op op_mod (pe_callTy call_int1 (by rfl) T.z_int (by decide +kernel) (pa_cons (pe_op op_mul (pv 4) (pe_op op_add (pe_op op_fdiv (pv 4) pe_int) pe_int)) pa_nil)) pe_int))
    (pss_cons (ps_set (i := 4) sc_law_draw.nd rfl (.inl rfl) (pe_op op_mod (pe_callTy call_int1 (by rfl) T.z_int (by decide +kernel) (pa_cons (pe_op op_mul (pv 4) (pe_op op_add (pe_op op_fdiv (pv 4) pe_int) pe_int)) pa_nil)) pe_int))
    (pss_one (ps_ret (pe_op op_mod (pe_callTy call_int1 (by rfl) T.z_int (by decide +kernel) (pa_cons (pe_op op_fdiv (pv 4) pe_int) pa_nil)) (pv 1)))))))))), ?_⟩
    refine ⟨fun σ' H' => ∃ y2, σ' = [some (.ref h), some (.int n), y2, none, none] ∧ But h H H' ∧ HandAt H' h g, ?_, ?_⟩
    · -- the first if
      have stay : ∃ y2, (start N_law_draw [V.ref h, V.int n]) = [some (.ref h), some (.int n), y2, none, none] ∧ But h H H ∧ HandAt H h g := ⟨none, rfl, But.refl h H, ha⟩
      refine ⟨_, rfl, h, _, 2, _, rfl, rfl, SqL.of eh, atI_nat (j := 2) rfl, rfl, _, rfl, ite2 (fun c1 => ?_) (fun _ => iteF stay)⟩
      refine ⟨_, rfl, h, _, 1, _, rfl, rfl, SqL.of eh, atI_nat (j := 1) rfl, _, rfl, h, _, 0, _, rfl, rfl, SqL.of eh, atI_nat (j := 0) rfl, g, _, rfl, .inl (SqL.of eg), _, _, rfl, rfl, _, rfl, ite2 (fun c2 => ?_) (fun _ => stay)⟩
      have c3 : i < (ns.length : Int) := by
        have q := of_decide_eq_true c2
        rw [List.length_map] at q
        exact q
      have hj : i.toNat < ns.length := by omega
      have ej : (ns.map V.int)[i.toNat]? = some (.int ns[i.toNat]) := by
        rw [List.getElem?_map, List.getElem?_eq_getElem hj]
        rfl
      -- cell = hand[0][hand[1]]
      refine ⟨_, rfl, h, _, 0, _, rfl, rfl, SqL.of eh, atI_nat (j := 0) rfl, _, rfl, h, _, 1, _, rfl, rfl, SqL.of eh, atI_nat (j := 1) rfl, g, _, i, _, rfl, rfl, SqL.of eg, at_of (by omega) ej, ?_⟩
      -- hand[1] = hand[1] + 1
      refine ⟨_, rfl, h, _, 1, _, rfl, rfl, SqL.of eh, atI_nat (j := 1) rfl, i, 1, rfl, rfl, _, rfl, h, _, _, 1, rfl, rfl, eh, rfl, ?_⟩
      have eh1 : (upd H h (handO g (i + 1) m sd t)) h = some (handO g (i + 1) m sd t) := upd_same
      -- hand[3] = int(hand[3] * 69621 + cell + 11) % 2147483629
      refine ⟨_, rfl, h, _, 3, _, rfl, rfl, SqL.of eh1, atI_nat (j := 3) rfl, _, _, rfl, rfl, .inl ⟨hs1, hs2⟩, _, rfl, _, _, rfl, rfl, _, _, rfl, rfl, .inl ⟨_, rfl, _, _, rfl, rfl, (by show (0 : Int) < 2147483629; decide), _, rfl, h, _, _, 3, rfl, rfl, eh1, rfl, ?_⟩⟩
      have hm0 := Int.emod_nonneg (sd * 69621 + ns[i.toNat] + 11) (show (2147483629 : Int) ≠ 0 by decide)
      have hm1 := Int.emod_lt_of_pos (sd * 69621 + ns[i.toNat] + 11) (show (0 : Int) < 2147483629 by decide)
      obtain ⟨s2, es⟩ : ∃ s2, (sd * 69621 + ns[i.toNat] + 11) % 2147483629 = s2 := ⟨_, rfl⟩
      rw [es] at hm0 hm1
      rw [show ((fun i j => V.int (i % j)) (sd * 69621 + ns[i.toNat] + 11) 2147483629) = V.int s2 from congrArg V.int es]
      have eh2 : (upd (upd H h (handO g (i + 1) m sd t)) h (handO g (i + 1) m s2 t)) h = some (handO g (i + 1) m s2 t) := upd_same
      have h2 : HandAt (upd (upd H h (handO g (i + 1) m sd t)) h (handO g (i + 1) m s2 t)) h g := by
        rw [upd_upd]
        exact hand_upd ha (by omega) (by omega) (by omega)
      have b2 : But h H (upd (upd H h (handO g (i + 1) m sd t)) h (handO g (i + 1) m s2 t)) := But.upd.trans But.upd
      -- if cell >= 10 ** 18: hand[2] = cell
      refine ⟨_, rfl, 10, 18, rfl, rfl, ⟨by decide, by decide, by decide⟩, _, _, rfl, rfl, _, rfl, ite2 (fun _ => ?_) (fun _ => ⟨_, rfl, b2, h2⟩)⟩
      refine ⟨_, rfl, _, rfl, h, _, _, 2, rfl, rfl, eh2, rfl, ?_⟩
      exact ⟨_, rfl, b2.trans But.upd, hand_upd h2 (by omega) (by omega) (by omega)⟩
    · rintro σ' H1 ⟨y2, rfl, b1, h1⟩
      obtain ⟨i, m, sd, t, eh, hi, hs1, hs2⟩ := h1.five
      -- if hand[2] > 0
      refine ⟨_, rfl, h, _, 2, _, rfl, rfl, SqL.of eh, atI_nat (j := 2) rfl, _, _, rfl, rfl, _, rfl, ite2 (fun c => ?_) (fun _ => ?_)⟩
      · refine ⟨_, rfl, h, _, 2, _, rfl, rfl, SqL.of eh, atI_nat (j := 2) rfl, .inl ⟨_, rfl, _, rfl, _, _, rfl, rfl, hn, ?_⟩⟩
        refine ⟨_, rfl, h, _, 2, _, rfl, rfl, SqL.of eh, atI_nat (j := 2) rfl, _, rfl, _, _, rfl, rfl, ⟨hn, hn2⟩, _, rfl, h, _, _, 2, rfl, rfl, eh, rfl, ?_⟩
        exact ⟨_, rfl, k _ _ (b1.trans But.upd) (hand_upd h1 hi hs1 hs2) (Int.emod_nonneg _ (by omega)) (Int.emod_lt_of_pos _ hn)⟩
      · -- hand[4] = hand[4] + 1
        refine ⟨_, rfl, h, _, 4, _, rfl, rfl, SqL.of eh, atI_nat (j := 4) rfl, _, _, rfl, rfl, _, rfl, h, _, _, 4, rfl, rfl, eh, rfl, ?_⟩
        have eh1 : (upd H1 h (handO g i m sd (t + 1))) h = some (handO g i m sd (t + 1)) := upd_same
        have h3 : HandAt (upd H1 h (handO g i m sd (t + 1))) h g := hand_upd h1 hi hs1 hs2
        -- number = int(int(hand[3] + 7919 * hand[4]) * 48271) % 2147483647
        refine ⟨_, rfl, h, _, 3, _, rfl, rfl, SqL.of eh1, atI_nat (j := 3) rfl, _, rfl, h, _, 4, _, rfl, rfl, SqL.of eh1, atI_nat (j := 4) rfl, _, _, rfl, rfl, .inl ⟨by decide, by decide⟩, _, _, rfl, rfl, .inl ⟨_, rfl, _, _, rfl, rfl, .inr ⟨by decide, by decide⟩, .inl ⟨_, rfl, _, _, rfl, rfl, (by show (0 : Int) < 2147483647; decide), ?_⟩⟩⟩
        have hm0 := Int.emod_nonneg ((sd + 7919 * (t + 1)) * 48271) (show (2147483647 : Int) ≠ 0 by decide)
        have hm1 := Int.emod_lt_of_pos ((sd + 7919 * (t + 1)) * 48271) (show (0 : Int) < 2147483647 by decide)
        generalize ((sd + 7919 * (t + 1)) * 48271) % 2147483647 = x1 at hm0 hm1 ⊢
        refine ⟨_, rfl, _, rfl, _, _, rfl, rfl, ⟨by decide, by decide⟩, _, _, rfl, rfl, _, _, rfl, rfl, .inl ⟨by omega, by omega⟩, .inl ⟨_, rfl, _, _, rfl, rfl, (by show (0 : Int) < 2147483647; decide), ?_⟩⟩
        have hn0 := Int.emod_nonneg (x1 * (x1 / 1009 + 69621)) (show (2147483647 : Int) ≠ 0 by decide)
        have hn1 := Int.emod_lt_of_pos (x1 * (x1 / 1009 + 69621)) (show (0 : Int) < 2147483647 by decide)
        generalize (x1 * (x1 / 1009 + 69621)) % 2147483647 = x2 at hn0 hn1 ⊢
        refine ⟨_, rfl, _, rfl, _, _, rfl, rfl, ⟨by decide, by decide⟩, _, _, rfl, rfl, _, _, rfl, rfl, .inl ⟨by omega, by omega⟩, .inl ⟨_, rfl, _, _, rfl, rfl, (by show (0 : Int) < 2147483399; decide), ?_⟩⟩
        refine ⟨_, rfl, _, _, rfl, rfl, ⟨by decide, by decide⟩, .inl ⟨_, rfl, _, rfl, _, _, rfl, rfl, hn, ?_⟩⟩
        exact k _ _ (b1.trans But.upd) h3 (Int.emod_nonneg _ (by omega)) (Int.emod_lt_of_pos _ hn)
end

section
variable {P : Program} {w : World} {K : PySem.W.Frag} {mg : Str → Option Value} {base : Heap} {A : Adr}
theorem cut_mem {xs : List V} {lo hi : Option Int} {v : V} (h : v ∈ cutV xs lo hi) : v ∈ xs := by
  unfold cutV at h
  first
    | exact List.mem_of_mem_drop (List.mem_of_mem_take h)
    | exact List.mem_of_mem_take (List.mem_of_mem_drop h)
theorem take_map_more {xs : List V} {f : V → Int} {i : Nat} {x : V} (h : xs[i]? = some x) : ((xs.take (i + 1)).map f).map V.int = ((xs.take i).map f).map V.int ++ [V.int (f x)] := by
  rw [List.take_add_one, h, List.map_append, List.map_append]
  rfl
theorem len_cut {xs : List V} {lo hi : Option Int} : (cutV xs lo hi).length ≤ xs.length := by
  unfold cutV
  first
    | (rw [List.length_take, List.length_drop]; omega)
    | (rw [List.length_drop, List.length_take]; omega)
def vInt : V → Int
  | .int n => n
  | _ => 0
def spHand (K : PySem.W.Frag) : Sp := fun vs H Q _ => ∃ (a : Addr) (ns : List Int), vs = [.ref a] ∧ SqL K H a (ns.map V.int) ∧ ns.length ≤ 63 ∧ ∀ (H' : Hp) (h g : Addr), Same H H' → H h = none → H g = none → HandAt H' h g → Q (.ref h) H'
theorem ok_law_hand (T : Top K mg A) : FnOk P w K mg base CX0 1 A.a_law_hand A.d_law_hand P_law_hand (spHand K) := by
  refine T.F_law_hand.ok sc_law_hand (fun vs H Q E h => ?_) (fun cdv A outer s H vs Q E hr h => ?_)
  · obtain ⟨a, ns, rfl, _⟩ := h
    rfl
  · obtain ⟨a, ns, rfl, ha, hn, k⟩ := h
    refine ⟨_, (pss_cons (ps_setLc (i := 1) (own := [("_law_cell", 2)]) (by rfl) sc_law_hand.nd rfl rfl (sw_true rfl rfl rfl (by decide +kernel)) (pi_list (pe_slice sl_list (pv 0) po_none (po_some pe_int))) (blkOk_by (own := [("_law_cell", 2)]) (N := N_law_hand) (sc := defScope s_law_hand) (by decide +kernel)) (fun _ _ _ _ _ => (pg_name (i := 2) sc_law_hand.nd rfl (.inl rfl))) (fun _ _ _ _ _ => pts_nil) (fun _ _ _ _ _ => (pe_callB call_abs (by rfl) T.z_abs (by decide +kernel) (pa_cons (pe_callTy call_int1 (by rfl) T.z_int (by decide +kernel) (pa_cons (pv 2) pa_nil)) pa_nil))))
    (pss_one (ps_ret (pe_lst (pa_cons (pv 1) (pa_cons pe_int (pa_cons pe_int (pa_cons (pe_op op_add pe_int (pe_callB call_len_seq (by rfl) T.z_len (by decide +kernel) (pa_cons (pv 1) pa_nil))) (pa_cons pe_int pa_nil))))))))), ?_⟩
    refine ⟨_, rfl, _, rfl, a, _, rfl, ha, fun p np => ?_⟩
    have sp : Same H (upd H p (.lst (cutV (ns.map V.int) none (some 63)))) := same_upd np
    refine ⟨p, rfl, ⟨_, SqL.of upd_same⟩, fun D hD => ?_⟩
    have hpD : p ≠ D := fun e => by
      rw [← e, upd_same] at hD
      cases hD
    have hDn := sp.free hD
    refine lc_list (K := K) (a := p) (xs := cutV (ns.map V.int) none (some 63)) (fun i H' => Same H H' ∧ H' p = some (.lst (cutV (ns.map V.int) none (some 63))) ∧ ∃ zs : List Int, H' D = some (.lst (zs.map V.int)) ∧ zs.length ≤ i)
      ⟨same_to sp hDn, by rw [upd_ne hpD]; exact upd_same, [], upd_same, Nat.le_refl _⟩ (fun i H' _ h => SqL.of h.2.1) ?_ ?_
    · rintro i x H' hi ⟨s1, p1, zs, d1, l1⟩
      obtain ⟨n, _, rfl⟩ := List.mem_map.mp (cut_mem (List.mem_of_getElem? hi))
      have hi2 : i < 63 := by
        have q := (List.getElem?_eq_some_iff.mp hi).1
        have q2 := len_cut (xs := ns.map V.int) (lo := none) (hi := some 63)
        rw [List.length_map] at q2
        omega
      refine ⟨rfl, ?_⟩
      refine ⟨_, rfl, .inl ⟨_, rfl, _, rfl, _, d1, ?_, same_to s1 hDn, ?_, zs ++ [if n < 0 then -n else n], ?_, ?_⟩⟩
      · rw [List.length_map]
        exact small1000 (by omega)
      · rw [upd_ne hpD]
        exact p1
      · rw [upd_same, List.map_append]
        rfl
      · rw [List.length_append, List.length_singleton]
        omega
    · rintro H' ⟨s1, p1, zs, d1, l1⟩
      have lz : zs.length ≤ 63 := by
        have q2 := len_cut (xs := ns.map V.int) (lo := none) (hi := some 63)
        rw [List.length_map] at q2
        omega
      -- return [given, 0, 0, 1 + len(given), 0]
      refine ⟨_, rfl, _, rfl, D, _, rfl, .inl (SqL.of d1), 1, _, rfl, rfl, (by show 5 ≤ sizeLine; decide), fun h hh => ?_⟩
      have hhD : h ≠ D := fun e => by
        rw [e, d1] at hh
        cases hh
      refine k _ h D (same_to s1 (s1.free hh)) (s1.free hh) hDn ⟨⟨zs, by rw [upd_ne hhD.symm]; exact d1⟩, ⟨0, 0, 1 + (zs.length : Int), 0, ?_, Int.le_refl _, by omega, by omega⟩, hhD⟩
      rw [upd_same, List.length_map]
      rfl
def spAny (K : PySem.W.Frag) : Sp := fun vs H Q _ => ∃ (h g l : Addr) (xs : List V), vs = [.ref h, .ref l] ∧ HandAt H h g ∧ SqL K H l xs ∧ (∀ H', But h H H' → SqL K H' l xs) ∧ 0 < xs.length ∧ xs.length ≤ 100000 ∧ ∀ (H' : Hp) (j : Nat) (v : V), But h H H' → HandAt H' h g → xs[j]? = some v → Q v H'
theorem ok_law_any (T : Top K mg A) : FnOk P w K mg base CX0 2 A.a_law_any A.d_law_any P_law_any (spAny K) := by
  refine T.F_law_any.ok sc_law_any (fun vs H Q E h => ?_) (fun cdv A outer s H vs Q E hr h => ?_)
  · obtain ⟨h, g, l, xs, rfl, _⟩ := h
    rfl
  · obtain ⟨h, g, l, xs, rfl, ha, hl, hst, h0, h1, k⟩ := h
    refine ⟨_, (pss_one (ps_ret (pe_ix ix_list (pv 1) (pe_call (ok_law_draw T) (hr.mono (by decide)) (by rfl) T.g_law_draw T.F_law_draw.kp T.b_law_draw .nil pass0 (pa_cons (pv 0) (pa_cons (pe_callB call_len_seq (by rfl) T.z_len (by decide +kernel) (pa_cons (pv 1) pa_nil)) pa_nil))) (fun _ _ => rfl)))), ?_⟩
    refine ⟨_, rfl, _, rfl, _, rfl, l, _, rfl, .inl hl, h, g, _, rfl, ha, by omega, by omega, fun H' d hb hh d0 d1 => ?_⟩
    have hj : d.toNat < xs.length := by omega
    exact ⟨l, xs, d, _, rfl, rfl, hst H' hb, at_of (by omega) (List.getElem?_eq_getElem hj), k H' _ _ hb hh (List.getElem?_eq_getElem hj)⟩
end

section
variable {P : Program} {w : World} {K : PySem.W.Frag} {mg : Str → Option Value} {base : Heap} {A : Adr}
/-! ### the ideal switch -/
def rowsV (n : Nat) (b : Nat → Addr) : List V := (List.range n).map fun j => V.ref (b j)
theorem rowsV_len (n : Nat) (b : Nat → Addr) : (rowsV n b).length = n := by
  unfold rowsV
  rw [List.length_map, List.length_range]
theorem rowsV_at {n : Nat} {b : Nat → Addr} {j : Nat} (h : j < n) : (rowsV n b)[j]? = some (.ref (b j)) := by
  unfold rowsV
  rw [List.getElem?_map, List.getElem?_range h]
  rfl
theorem rowsV_succ (n : Nat) (b : Nat → Addr) : rowsV (n + 1) b = rowsV n b ++ [.ref (b n)] := by
  unfold rowsV
  rw [List.range_succ, List.map_append]
  rfl
theorem rowsV_congr {n : Nat} {b b' : Nat → Addr} (h : ∀ j, j < n → b j = b' j) : rowsV n b = rowsV n b' := by
  unfold rowsV
  refine List.map_congr_left fun j hj => ?_
  rw [h j (List.mem_range.mp hj)]
structure RowsAt (C : Addr) (H : Hp) (x R : Addr) (n : Nat) (b : Nat → Addr) (c : Nat → List V) : Prop where
  ins : ∃ dx, H x = some (.ins C dx [("_rows", .ref R)])
  rows : H R = some (.lst (rowsV n b))
  row : ∀ j, j < n → H (b j) = some (.lst (c j))
/-- as H but at x, new objects apart -/
def Kp (x : Addr) (H H' : Hp) : Prop := ∀ q o, q ≠ x → H q = some o → H' q = some o
theorem Kp.same {x : Addr} {H H1 H2 : Hp} (a : Kp x H H1) (b : Same H1 H2) : Kp x H H2 := fun q o hq h => b _ _ (a q o hq h)
theorem kp_of {H H' : Hp} (a : Same H H') (x : Addr) : Kp x H H' := fun q o _ h => a q o h
theorem Kp.upd {x : Addr} {H H1 : Hp} {o : HO} (a : Kp x H H1) : Kp x H (upd H1 x o) := fun q u hq h => by
  rw [upd_ne hq]
  exact a q u hq h
def spInit (C : Addr) : Sp := fun vs H Q _ => ∃ (x dx : Addr) (n : Nat), vs = [.ref x, .int (n : Int)] ∧ 1 ≤ n ∧ n ≤ 12 ∧ H x = some (.ins C dx []) ∧
  ∀ (H' : Hp) (R : Addr) (b : Nat → Addr), Kp x H H' → H R = none → (∀ j, j < n → H (b j) = none ∧ b j ≠ R) → (∀ i j, i < n → j < n → b i = b j → i = j) → H' x = some (.ins C dx [("_rows", .ref R)]) →
    H' R = some (.lst (rowsV n b)) → (∀ j, j < n → H' (b j) = some (.lst [])) → Q .non H'
theorem ok_Ideal___init__ (T : Top K mg A) : FnOk P w K mg base CX0 4 A.a_Ideal___init__ A.d_Ideal___init__ P_Ideal___init__ (spInit A.c_Ideal) := by
  refine T.F_Ideal___init__.ok sc_Ideal___init__ (fun vs H Q E h => ?_) (fun cdv A' outer s H vs Q E hr h => ?_)
  · obtain ⟨x, dx, n, rfl, _⟩ := h
    rfl
  · obtain ⟨x, dx, n, rfl, h1, h2, hx, k⟩ := h
    refine ⟨_, (pss_cons (ps_expr (pe_call (ok_check_lines T) (hr.mono (by decide)) (by rfl) T.g_check_lines T.F_check_lines.kp T.b_check_lines .nil pass0 (pa_cons (pv 1) pa_nil)))
    (pss_one (ps_fld (pv 0) (pe_lc (own := [("_", 2)]) (by rfl) sc_Ideal___init__.nd (pi_range1 rfl T.z_range (pa_cons (pv 1) pa_nil)) (blkOk_by (own := [("_", 2)]) (N := N_Ideal___init__) (sc := defScope s_Ideal___init__) (by decide +kernel)) (fun _ _ _ _ _ => (pg_name (i := 2) sc_Ideal___init__.nd rfl (.inl rfl))) (fun _ _ _ _ _ => pts_nil) (fun _ _ _ _ _ => (pe_lst pa_nil))) (by rfl)))), ?_⟩
    refine ⟨_, rfl, (n : Int), rfl, by omega, by omega, ?_⟩
    refine ⟨_, rfl, (n : Int), rfl, by omega, by omega, fun D hD => ?_⟩
    have hxD : x ≠ D := ne_of_none hx hD
    refine lc_range (lo := 0) (n := (n : Int).toNat) (fun i H' => ∃ b : Nat → Addr, Same H H' ∧ H' D = some (.lst (rowsV i b)) ∧ (∀ j, j < i → H (b j) = none ∧ b j ≠ D ∧ H' (b j) = some (.lst [])) ∧ ∀ p q, p < i → q < i → b p = b q → p = q)
      ⟨fun _ => 0, same_upd hD, upd_same, fun j hj => absurd hj (Nat.not_lt_zero _), fun p q hp => absurd hp (Nat.not_lt_zero _)⟩ ?_ ?_
    · rintro i H' hi ⟨b, s1, d1, hb, inj⟩
      refine ⟨rfl, ?_⟩
      refine ⟨Nat.zero_le _, fun p hp => ?_⟩
      have hpD : p ≠ D := fun e => by
        rw [e, d1] at hp
        cases hp
      have s2 : Same H (upd H' p (.lst [])) := same_to s1 (s1.free hp)
      refine ⟨_, by rw [upd_ne hpD.symm]; exact d1, ?_, fun j => if j = i then p else b j, same_to s2 hD, ?_, ?_, ?_⟩
      · rw [rowsV_len]
        exact small1000 (by omega)
      · rw [upd_same, rowsV_succ, if_pos rfl]
        congr 2
        congr 1
        exact rowsV_congr fun j hj => (if_neg (Nat.ne_of_lt hj)).symm
      · intro j hj
        dsimp only
        by_cases e : j = i
        · rw [if_pos e]
          exact ⟨s1.free hp, hpD, by rw [upd_ne hpD, upd_same]⟩
        · rw [if_neg e]
          obtain ⟨a1, a2, a3⟩ := hb j (by omega)
          exact ⟨a1, a2, by rw [upd_ne a2, upd_ne (ne_of_none a3 hp)]; exact a3⟩
      · intro u v hu hv
        dsimp only
        by_cases e1 : u = i <;> by_cases e2 : v = i
        · intro _
          rw [e1, e2]
        · rw [if_pos e1, if_neg e2]
          intro e
          have a3 := (hb v (by omega)).2.2
          rw [← e, hp] at a3
          cases a3
        · rw [if_neg e1, if_pos e2]
          intro e
          have a3 := (hb u (by omega)).2.2
          rw [e, hp] at a3
          cases a3
        · rw [if_neg e1, if_neg e2]
          exact inj u v (by omega) (by omega)
    · rintro H' ⟨b, s1, d1, hb, inj⟩
      have en : (n : Int).toNat = n := Int.toNat_natCast n
      rw [en] at d1 hb inj
      have hx' := s1 _ _ hx
      refine ⟨_, rfl, x, _, dx, _, rfl, hx', T.cl_Ideal, T.n_Ideal__rows, (by show 0 < 1000; decide), ?_⟩
      refine k _ D b (kp_of s1 x).upd hD (fun j hj => ⟨(hb j hj).1, (hb j hj).2.1⟩) inj upd_same ?_ ?_
      · rw [upd_ne hxD.symm]
        exact d1
      · intro j hj
        have q := hb j hj
        rw [upd_ne (ne_of_none hx q.1).symm]
        exact q.2.2
def spRow (C : Addr) : Sp := fun vs H Q _ => ∃ (x R : Addr) (n : Nat) (b : Nat → Addr) (c : Nat → List V) (j : Nat), vs = [.ref x, .int (j : Int)] ∧ RowsAt C H x R n b c ∧ j < n ∧ Q (.ref (b j)) H
theorem ok_Ideal__row (T : Top K mg A) : FnOk P w K mg base CX0 4 A.a_Ideal__row A.d_Ideal__row P_Ideal__row (spRow A.c_Ideal) := by
  refine T.F_Ideal__row.ok sc_Ideal__row (fun vs H Q E h => ?_) (fun cdv A' outer s H vs Q E hr h => ?_)
  · obtain ⟨x, R, n, b, c, j, rfl, _⟩ := h
    rfl
  · obtain ⟨x, R, n, b, c, j, rfl, ⟨⟨dx, hx⟩, hR, hb⟩, hj, k⟩ := h
    refine ⟨_, (pss_cons (ps_if (pt_not (pt_val (pe_call (ok_is_number_below T) (hr.mono (by decide)) (by rfl) T.g_is_number_below T.F_is_number_below.kp T.b_is_number_below .nil pass0 (pa_cons (pe_callB call_len_seq (by rfl) T.z_len (by decide +kernel) (pa_cons (pe_fld (pv 0) rfl) pa_nil)) (pa_cons (pv 1) pa_nil))))) (pss_one ps_never) pss_nil)
    (pss_one (ps_ret (pe_ix ix_list (pe_fld (pv 0) rfl) (pv 1) (fun _ _ => rfl))))), ?_⟩
    refine ⟨_, rfl, x, _, dx, _, .ref R, rfl, hx, T.cl_Ideal, T.n_Ideal__rows, rfl, R, _, rfl, .inl (SqL.of hR), _, rfl, _, _, rfl, .inl ⟨(j : Int), rfl, ?_⟩⟩
    rw [rowsV_len, decide_eq_true (by omega), decide_eq_true (by omega)]
    refine ⟨true, rfl, iteF ?_⟩
    exact ⟨_, rfl, x, _, dx, _, .ref R, rfl, hx, T.cl_Ideal, T.n_Ideal__rows, rfl, _, rfl, R, _, _, _, rfl, rfl, SqL.of hR, atI_nat (rowsV_at hj), k⟩
def insK (kd : V → Int × Int) (k : V) (xs : List V) : List V := xs.take (less kd k xs) ++ [k] ++ xs.drop (less kd k xs)
theorem notin_any {xs : List V} {kd : V → Int × Int} {z : Int} (h : ∀ v ∈ xs, (kd v).2 ≠ z) : inV (.int z) (xs.map fun v => V.int (kd v).2) = false := by
  unfold inV
  rw [List.any_eq_false]
  intro y hy
  obtain ⟨v, hv, rfl⟩ := List.mem_map.mp hy
  intro e
  exact h v hv (by simpa [eqV] using e)
theorem flat_ints {xs : List V} {kd : V → Int × Int} : (xs.map fun v => V.int (kd v).2).all flatV = true := by
  rw [List.all_eq_true]
  intro y hy
  obtain ⟨v, _, rfl⟩ := List.mem_map.mp hy
  rfl
def spPush (C : Addr) : Sp := fun vs H Q _ => ∃ (x R : Addr) (n : Nat) (b : Nat → Addr) (c : Nat → List V) (j : Nat) (ka : Addr) (kd : V → Int × Int), vs = [.ref x, .int (j : Int), .ref ka] ∧ RowsAt C H x R n b c ∧ j < n ∧
  KeysAt H kd (.ref ka :: c j) ∧ Pw kd (c j) ∧ KeyOk (kd (.ref ka)) ∧ (c j).length < 100000 ∧ (∀ v ∈ c j, (kd v).2 ≠ (kd (.ref ka)).2) ∧
  ∀ H', Kp (b j) H H' → H' (b j) = some (.lst (insK kd (.ref ka) (c j))) → Q .non H'
theorem ok_Ideal_push (T : Top K mg A) : FnOk P w K mg base CX0 6 A.a_Ideal_push A.d_Ideal_push P_Ideal_push (spPush A.c_Ideal) := by
  refine T.F_Ideal_push.ok sc_Ideal_push (fun vs H Q E h => ?_) (fun cdv A' outer s H vs Q E hr h => ?_)
  · obtain ⟨x, R, n, b, c, j, ka, kd, rfl, _⟩ := h
    rfl
  · obtain ⟨x, R, n, b, c, j, ka, kd, rfl, hI, hj, hK, hsr, hok, hlen, hno, k⟩ := h
    obtain ⟨⟨dx, hx⟩, hR, hb⟩ := id hI
    have hbj := hb j hj
    obtain ⟨ka', e, hka⟩ := hK (.ref ka) List.mem_cons_self
    cases e
    refine ⟨_, (pss_cons (ps_set (i := 3) sc_Ideal_push.nd rfl (.inl rfl) (pe_meth (pv 0) T.cl_Ideal T.m_Ideal__row (ok_Ideal__row T) (hr.mono (by decide)) T.b_Ideal__row .nil pass0 (pa_cons (pv 1) pa_nil)))
    (pss_cons (ps_expr (pe_call (ok_check_key T) (hr.mono (by decide)) (by rfl) T.g_check_key T.F_check_key.kp T.b_check_key .nil pass0 (pa_cons (pv 2) pa_nil)))
    (pss_cons (ps_if (pt_cmpR op_in_seq (pe_ix ix_tup (pv 2) pe_int (fun _ _ => rfl)) (pe_lc (own := [("_", 4), ("number", 5)]) (by rfl) sc_Ideal_push.nd (pi_list (pv 3)) (blkOk_by (own := [("_", 4), ("number", 5)]) (N := N_Ideal_push) (sc := defScope s_Ideal_push) (by decide +kernel)) (fun _ _ _ _ _ => (show PG _ _ (gTup K 2 _) from (pg_tup rfl (pgs_cons (pg_name (i := 4) sc_Ideal_push.nd rfl (.inl rfl)) (pgs_cons (pg_name (i := 5) sc_Ideal_push.nd rfl (.inl rfl)) pgs_nil))))) (fun _ _ _ _ _ => pts_nil) (fun _ _ _ _ _ => (pv 5))) (by rfl)) (pss_one ps_never) pss_nil)
    (pss_one (ps_expr (pe_bm PySem.F.plainAttrs_list PySem.F.slot_list_insert PySem.F.type_list_insert mt_insert (pv 3) (pa_cons (pe_call (ok_how_many_less T) (hr.mono (by decide)) (by rfl) T.g_how_many_less T.F_how_many_less.kp T.b_how_many_less .nil pass0 (pa_cons (pv 3) (pa_cons (pv 2) pa_nil))) (pa_cons (pv 2) pa_nil)))))))), ?_⟩
    -- row = self._row(output); check_key(key)
    refine ⟨_, rfl, x, dx, _, rfl, hx, rfl, _, rfl, x, R, n, b, c, j, rfl, hI, hj, ?_⟩
    refine ⟨_, rfl, ka, _, rfl, hka, hok, ?_⟩
    -- key[1] in [number for _, number in row]
    refine ⟨_, rfl, ka, _, 1, _, rfl, rfl, SqT.of hka, atI_nat (j := 1) rfl, _, rfl, b j, rfl, ⟨_, SqL.of hbj⟩, fun D hD => ?_⟩
    have hbD : b j ≠ D := ne_of_none hbj hD
    refine lc_list (K := K) (a := b j) (xs := c j) (fun i H' => Same H H' ∧ H' D = some (.lst (((c j).take i).map fun v => V.int (kd v).2))) ⟨same_upd hD, upd_same⟩ (fun i H' _ h => SqL.of (h.1 _ _ hbj)) ?_ ?_
    · rintro i y H' hi ⟨s1, d1⟩
      obtain ⟨a, rfl, ha⟩ := hK y (List.mem_cons_of_mem _ (List.mem_of_getElem? hi))
      have ha' := s1 _ _ ha
      refine ⟨a, _, rfl, SqT.of ha', rfl, _, _, rfl, _, _, rfl, rfl, rfl, ?_⟩
      refine ⟨_, rfl, _, d1, ?_, same_to s1 hD, ?_⟩
      · rw [List.length_map, List.length_take]
        exact Nat.lt_of_le_of_lt (Nat.le_trans (Nat.min_le_right _ _) (Nat.le_of_lt hlen)) (by decide)
      · rw [upd_same, List.take_add_one, hi, List.map_append]
        rfl
    · rintro H' ⟨s1, d1⟩
      rw [List.take_length] at d1
      refine ⟨D, _, rfl, .inl (SqL.of d1), rfl, flat_ints, _, rfl, ?_⟩
      have e0 : inV (.int (kd (.ref ka)).2) ((c j).map fun v => V.int (kd v).2) = false := notin_any hno
      show (if (if false = true then _ else inV (V.int (kd (.ref ka)).2) _) = true then _ else _)
      rw [if_neg Bool.false_ne_true, e0]
      refine iteF ?_
      -- row.insert(how_many_less(row, key), key)
      have hbj' := s1 _ _ hbj
      refine ⟨_, rfl, .inl ⟨rfl, _, SqL.of hbj'⟩, _, rfl, _, rfl, b j, c j, .ref ka, kd, rfl, SqL.of hbj', hK.same s1, hsr, Nat.le_of_lt hlen, fun H2 s2 => ?_⟩
      have hle := less_le kd (.ref ka) (c j)
      refine ⟨_, rfl, b j, c j, _, .ref ka, rfl, rfl, s2 _ _ hbj', Nat.lt_trans hlen (by decide), by omega, by omega, ?_⟩
      refine k _ (kp_of (s1.trans s2) (b j)).upd ?_
      rw [upd_same, Int.toNat_natCast]
      rfl
def spGo (C : Addr) : Sp := fun vs H Q _ => ∃ (x R : Addr) (n : Nat) (b : Nat → Addr) (c : Nat → List V) (j : Nat) (v : V) (rest : List V), vs = [.ref x, .int (j : Int)] ∧ RowsAt C H x R n b c ∧ j < n ∧ c j = v :: rest ∧ Q v (upd H (b j) (.lst rest))
theorem ok_Ideal_let_go (T : Top K mg A) : FnOk P w K mg base CX0 5 A.a_Ideal_let_go A.d_Ideal_let_go P_Ideal_let_go (spGo A.c_Ideal) := by
  refine T.F_Ideal_let_go.ok sc_Ideal_let_go (fun vs H Q E h => ?_) (fun cdv A' outer s H vs Q E hr h => ?_)
  · obtain ⟨x, R, n, b, c, j, v, rest, rfl, _⟩ := h
    rfl
  · obtain ⟨x, R, n, b, c, j, v, rest, rfl, hI, hj, hc, k⟩ := h
    obtain ⟨⟨dx, hx⟩, hR, hb⟩ := id hI
    have hbj := hb j hj
    rw [hc] at hbj
    refine ⟨_, (pss_cons (ps_set (i := 2) sc_Ideal_let_go.nd rfl (.inl rfl) (pe_meth (pv 0) T.cl_Ideal T.m_Ideal__row (ok_Ideal__row T) (hr.mono (by decide)) T.b_Ideal__row .nil pass0 (pa_cons (pv 1) pa_nil)))
    (pss_cons (ps_if (pt_not (pt_truth (pv 2) (by intro _; rfl))) (pss_one ps_never) pss_nil)
    (pss_one (ps_ret (pe_bm PySem.F.plainAttrs_list PySem.F.slot_list_pop PySem.F.type_list_pop mt_popAt (pv 2) (pa_cons pe_int pa_nil)))))), ?_⟩
    refine ⟨_, rfl, x, dx, _, rfl, hx, rfl, _, rfl, x, R, n, b, c, j, rfl, hI, hj, ?_⟩
    refine ⟨_, rfl, true, .inl ⟨_, SqL.of hbj, rfl⟩, iteF ?_⟩
    exact ⟨_, rfl, .inl ⟨rfl, _, SqL.of hbj⟩, b j, _, 0, 0, v, rfl, rfl, hbj, by decide, by decide, (ixN_seq (n := (v :: rest).length) (i := 0) (j := 0) (by unfold ixN; rw [if_pos (by decide), if_pos (by rw [List.length_cons]; omega)]; rfl)).1, rfl, k⟩
def spHeld (C : Addr) : Sp := fun vs H Q _ => ∃ (x R : Addr) (n : Nat) (b : Nat → Addr) (c : Nat → List V) (j : Nat), vs = [.ref x, .int (j : Int)] ∧ RowsAt C H x R n b c ∧ j < n ∧ ∀ p, H p = none → Q (.ref p) (upd H p (.tup (c j)))
theorem ok_Ideal_held (T : Top K mg A) : FnOk P w K mg base CX0 5 A.a_Ideal_held A.d_Ideal_held P_Ideal_held (spHeld A.c_Ideal) := by
  refine T.F_Ideal_held.ok sc_Ideal_held (fun vs H Q E h => ?_) (fun cdv A' outer s H vs Q E hr h => ?_)
  · obtain ⟨x, R, n, b, c, j, rfl, _⟩ := h
    rfl
  · obtain ⟨x, R, n, b, c, j, rfl, hI, hj, k⟩ := h
    obtain ⟨⟨dx, hx⟩, hR, hb⟩ := id hI
    refine ⟨_, (pss_one (ps_ret (pe_callTy call_tuple_of (by rfl) T.z_tuple (by decide +kernel) (pa_cons (pe_meth (pv 0) T.cl_Ideal T.m_Ideal__row (ok_Ideal__row T) (hr.mono (by decide)) T.b_Ideal__row .nil pass0 (pa_cons (pv 1) pa_nil)) pa_nil)))), ?_⟩
    exact ⟨_, rfl, x, dx, _, rfl, hx, rfl, _, rfl, x, R, n, b, c, j, rfl, hI, hj, b j, _, rfl, .inl ⟨SqL.of (hb j hj), k⟩⟩
end

/-! ### ascending rows -/
theorem pw_congr {kd kd' : V → Int × Int} {xs : List V} (h : Pw kd xs) (e : ∀ v ∈ xs, kd' v = kd v) : Pw kd' xs := by
  induction xs with
  | nil => exact .nil
  | cons u r ih =>
    obtain ⟨h1, h2⟩ := List.pairwise_cons.mp h
    refine List.pairwise_cons.mpr ⟨fun v hv => ?_, ih h2 fun v hv => e v (List.mem_cons_of_mem _ hv)⟩
    unfold LtV
    rw [e u List.mem_cons_self, e v (List.mem_cons_of_mem _ hv)]
    exact h1 v hv
theorem pw_ins {kd : V → Int × Int} {k : V} {xs : List V} (h : Pw kd xs) (hk : ∀ v ∈ xs, (kd v).2 ≠ (kd k).2) : Pw kd (insK kd k xs) := by
  obtain ⟨i1, i2⟩ := less_split (k := k) h
  unfold insK Pw
  rw [List.append_assoc, List.pairwise_append]
  refine ⟨List.Pairwise.sublist (List.take_sublist _ _) h, ?_, fun u hu v hv => ?_⟩
  · rw [List.singleton_append, List.pairwise_cons]
    refine ⟨fun v hv => ?_, List.Pairwise.sublist (List.drop_sublist _ _) h⟩
    have q1 := i2 v hv
    have q2 := hk v (List.mem_of_mem_drop hv)
    unfold LtV at q1 ⊢
    omega
  · have q1 := i1 u hu
    rw [List.singleton_append] at hv
    rcases List.mem_cons.mp hv with z | hv
    · rw [z]
      exact q1
    · have q2 := i2 v hv
      have q3 := hk v (List.mem_of_mem_drop hv)
      unfold LtV at q1 q2 ⊢
      omega
theorem pw_tail {kd : V → Int × Int} {v : V} {rest : List V} (h : Pw kd (v :: rest)) : Pw kd rest := (List.pairwise_cons.mp h).2

section
variable {P : Program} {w : World} {K : PySem.W.Frag} {mg : Str → Option Value} {base : Heap} {A : Adr}
def rListS (K : PySem.W.Frag) : List V → Hp → VK → Prop := fun xs H Q => ∃ p ys, xs = [.ref p] ∧ (SqL K H p ys ∨ SqT K H p ys) ∧ ∀ l, H l = none → Q (.ref l) (upd H l (.lst ys))
theorem putF_one {f : Str} {u v : V} : putF f v [(f, u)] = [(f, v)] := by
  show (if f = f then [(f, v)] else _) = _
  rw [if_pos rfl]
theorem rows_next {H H1 H' : Hp} {D p : Addr} {b : Nat → Addr} {c : Nat → List V} {i : Nat} (s1 : Same H1 H') (hD : H1 D = none) (d1 : H' D = some (.lst (rowsV i b)))
    (hb : ∀ j, j < i → H1 (b j) = none ∧ b j ≠ D ∧ H' (b j) = some (.lst (c j))) (inj : ∀ p q, p < i → q < i → b p = b q → p = q) (hp : H' p = none) :
    ∃ b' : Nat → Addr, Same H1 (upd (upd H' p (.lst (c i))) D (.lst (rowsV i b ++ [.ref p]))) ∧ (upd (upd H' p (.lst (c i))) D (.lst (rowsV i b ++ [.ref p]))) D = some (.lst (rowsV (i + 1) b')) ∧
      (∀ j, j < i + 1 → H1 (b' j) = none ∧ b' j ≠ D ∧ (upd (upd H' p (.lst (c i))) D (.lst (rowsV i b ++ [.ref p]))) (b' j) = some (.lst (c j))) ∧ ∀ p q, p < i + 1 → q < i + 1 → b' p = b' q → p = q := by
  have hpD : p ≠ D := fun e => by
    rw [e, d1] at hp
    cases hp
  refine ⟨fun j => if j = i then p else b j, same_to (same_to s1 (s1.free hp)) hD, ?_, ?_, ?_⟩
  · rw [upd_same, rowsV_succ, if_pos rfl]
    congr 2
    congr 1
    exact rowsV_congr fun j hj => (if_neg (Nat.ne_of_lt hj)).symm
  · intro j hj
    dsimp only
    by_cases e : j = i
    · rw [if_pos e, e]
      exact ⟨s1.free hp, hpD, by rw [upd_ne hpD, upd_same]⟩
    · rw [if_neg e]
      obtain ⟨a1, a2, a3⟩ := hb j (by omega)
      exact ⟨a1, a2, by rw [upd_ne a2, upd_ne (ne_of_none a3 hp)]; exact a3⟩
  · intro u v hu hv
    dsimp only
    by_cases e1 : u = i <;> by_cases e2 : v = i
    · intro _
      rw [e1, e2]
    · rw [if_pos e1, if_neg e2]
      intro e
      have a3 := (hb v (by omega)).2.2
      rw [← e, hp] at a3
      cases a3
    · rw [if_neg e1, if_pos e2]
      intro e
      have a3 := (hb u (by omega)).2.2
      rw [e, hp] at a3
      cases a3
    · rw [if_neg e1, if_neg e2]
      exact inj u v (by omega) (by omega)
def spCopy (C : Addr) : Sp := fun vs H Q _ => ∃ (x R : Addr) (n : Nat) (b : Nat → Addr) (c : Nat → List V), vs = [.ref x] ∧ RowsAt C H x R n b c ∧ 1 ≤ n ∧ n ≤ 12 ∧
  ∀ (H' : Hp) (x' R' : Addr) (b' : Nat → Addr), Same H H' → H x' = none → H R' = none → (∀ j, j < n → H (b' j) = none ∧ b' j ≠ R') → (∀ i j, i < n → j < n → b' i = b' j → i = j) → RowsAt C H' x' R' n b' c → Q (.ref x') H'
theorem ok_Ideal_copy (T : Top K mg A) : FnOk P w K mg base CX0 6 A.a_Ideal_copy A.d_Ideal_copy P_Ideal_copy (spCopy A.c_Ideal) := by
  refine T.F_Ideal_copy.ok sc_Ideal_copy (fun vs H Q E h => ?_) (fun cdv A' outer s H vs Q E hr h => ?_)
  · obtain ⟨x, R, n, b, c, rfl, _⟩ := h
    rfl
  · obtain ⟨x, R, n, b, c, rfl, ⟨⟨dx, hx⟩, hR, hb⟩, h1, h2, k⟩ := h
    refine ⟨_, (pss_cons (ps_set (i := 1) sc_Ideal_copy.nd rfl (.inl rfl) (pe_make T.mk_Ideal (ok_Ideal___init__ T) (hr.mono (by decide)) (by rfl) T.gc_Ideal T.b_Ideal___init__ .nil pass0 (pa_cons (pe_callB call_len_seq (by rfl) T.z_len (by decide +kernel) (pa_cons (pe_fld (pv 0) rfl) pa_nil)) pa_nil)))
    (pss_cons (ps_fld (pv 1) (pe_lc (own := [("row", 2)]) (by rfl) sc_Ideal_copy.nd (pi_list (pe_fld (pv 0) rfl)) (blkOk_by (own := [("row", 2)]) (N := N_Ideal_copy) (sc := defScope s_Ideal_copy) (by decide +kernel)) (fun _ _ _ _ _ => (pg_name (i := 2) sc_Ideal_copy.nd rfl (.inl rfl))) (fun _ _ _ _ _ => pts_nil) (fun _ _ _ _ _ => (pe_callTy (show CallR _ _ (Evl.rListS K) from call_list_of) (by rfl) T.z_list (by decide +kernel) (pa_cons (pv 2) pa_nil)))) (by rfl))
    (pss_one (ps_ret (pv 1))))), ?_⟩
    refine ⟨_, rfl, x, _, dx, _, .ref R, rfl, hx, T.cl_Ideal, T.n_Ideal__rows, rfl, R, _, rfl, .inl (SqL.of hR), ?_⟩
    rw [rowsV_len]
    intro y dy hy hdy hne
    have s0 : Same H (upd (upd H dy (.own y)) y (.ins A.c_Ideal dy [])) := fun q o e => by
      rw [upd_ne (ne_of_none e hy), upd_ne (ne_of_none e hdy)]
      exact e
    refine ⟨y, dy, n, rfl, h1, h2, upd_same, fun H1 R0 b0 k1 _ _ _ hy1 _ _ => ⟨rfl, ?_⟩⟩
    have s1 : Same H H1 := fun q o e => k1 q o (ne_of_none e hy) (s0 q o e)
    refine ⟨_, rfl, x, _, dx, _, .ref R, rfl, s1 _ _ hx, T.cl_Ideal, T.n_Ideal__rows, rfl, R, rfl, ⟨_, SqL.of (s1 _ _ hR)⟩, fun D hD => ?_⟩
    refine lc_list (K := K) (a := R) (xs := rowsV n b) (fun i H' => ∃ b' : Nat → Addr, Same H1 H' ∧ H' D = some (.lst (rowsV i b')) ∧ (∀ j, j < i → H1 (b' j) = none ∧ b' j ≠ D ∧ H' (b' j) = some (.lst (c j))) ∧ ∀ p q, p < i → q < i → b' p = b' q → p = q)
      ⟨fun _ => 0, same_upd hD, upd_same, fun j hj => absurd hj (Nat.not_lt_zero _), fun p q hp => absurd hp (Nat.not_lt_zero _)⟩ (fun i H' _ ⟨_, s2, _⟩ => SqL.of (s2 _ _ (s1 _ _ hR))) ?_ ?_
    · rintro i v H' hi ⟨b', s2, d1, hb', inj⟩
      have hin : i < n := by
        have q := (List.getElem?_eq_some_iff.mp hi).1
        rw [rowsV_len] at q
        exact q
      rw [rowsV_at hin] at hi
      cases hi
      refine ⟨rfl, ?_⟩
      refine ⟨_, rfl, b i, c i, rfl, .inl (SqL.of (s2 _ _ (s1 _ _ (hb i hin)))), fun p hp => ?_⟩
      have hpD : p ≠ D := fun e => by
        rw [e, d1] at hp
        cases hp
      refine ⟨_, by rw [upd_ne hpD.symm]; exact d1, by rw [rowsV_len]; exact small1000 (by omega), ?_⟩
      exact rows_next (H := H1) s2 hD d1 hb' inj hp
    · rintro H' ⟨b', s2, d1, hb', inj⟩
      rw [rowsV_len] at d1 hb' inj
      have s3 := s1.trans s2
      have hyD : y ≠ D := ne_of_none hy1 hD
      refine ⟨_, rfl, y, _, dy, _, rfl, s2 _ _ hy1, T.cl_Ideal, T.n_Ideal__rows, (by show 1 < 1000; decide), ?_⟩
      rw [putF_one]
      refine ⟨_, rfl, ?_⟩
      refine k _ y D b' (same_to s3 hy) hy (s1.free hD) (fun j hj => ⟨s1.free (hb' j hj).1, (hb' j hj).2.1⟩) inj ⟨⟨dy, upd_same⟩, by rw [upd_ne hyD.symm]; exact d1, fun j hj => ?_⟩
      have q := hb' j hj
      rw [upd_ne (ne_of_none hy1 q.1).symm]
      exact q.2.2
/-! ### the law's own keys and rows -/
def spKey : Sp := fun vs H Q _ => ∃ (h g : Addr) (m : Int), vs = [.ref h, .int m] ∧ HandAt H h g ∧ 0 < m ∧ m ≤ 1000000000 ∧
  ∀ (H' : Hp) (a : Addr) (p : Int × Int), Kp h H H' → HandAt H' h g → H a = none → Tup2 H' a p → KeyOk p → Q (.ref a) H'
theorem But.kp {h : Addr} {H H' : Hp} (b : But h H H') : Kp h H H' := fun q o hq e => (b q hq).trans e
theorem Kp.trans {h : Addr} {H H1 H2 : Hp} (a : Kp h H H1) (b : Kp h H1 H2) : Kp h H H2 := fun q o hq e => b q o hq (a q o hq e)
theorem Kp.free {h p : Addr} {H H' : Hp} (a : Kp h H H') (hp : p ≠ h) (e : H' p = none) : H p = none := by
  cases q : H p with
  | none => rfl
  | some o =>
    rw [a p o hp q] at e
    cases e
theorem HandAt.same {h g : Addr} {H H' : Hp} (s : Same H H') (a : HandAt H h g) : HandAt H' h g :=
  ⟨by obtain ⟨ns, e⟩ := a.cells; exact ⟨ns, s _ _ e⟩, by obtain ⟨i, m, s', t, e, q⟩ := a.five; exact ⟨i, m, s', t, s _ _ e, q⟩, a.ne⟩
theorem HandAt.some {h g : Addr} {H : Hp} (a : HandAt H h g) : ∃ o, H h = some o := by
  obtain ⟨i, m, s', t, e, q⟩ := a.five
  exact ⟨_, e⟩
theorem HandAt.ne_none {h g p : Addr} {H : Hp} (a : HandAt H h g) (hp : H p = none) : p ≠ h := by
  obtain ⟨o, e⟩ := a.some
  exact (ne_of_none e hp).symm
theorem ok_law_key (T : Top K mg A) : FnOk P w K mg base CX0 3 A.a_law_key A.d_law_key P_law_key spKey := by
  refine T.F_law_key.ok sc_law_key (fun vs H Q E h => ?_) (fun cdv A' outer s H vs Q E hr h => ?_)
  · obtain ⟨h, g, m, rfl, _⟩ := h
    rfl
  · obtain ⟨h, g, m, rfl, ha, hm, hm2, k⟩ := h
    refine ⟨_, (pss_cons (ps_set (i := 2) sc_law_key.nd rfl (.inl rfl) (pe_call (ok_law_any T) (hr.mono (by decide)) (by rfl) T.g_law_any T.F_law_any.kp T.b_law_any .nil pass0 (pa_cons (pv 0) (pa_cons (pe_lst (pa_cons pe_int (pa_cons pe_int (pa_cons pe_int (pa_cons pe_int (pa_cons (pe_un un_neg pe_int) (pa_cons (pe_op op_pow pe_int pe_int) (pa_cons (pe_un un_neg (pe_op op_pow pe_int pe_int)) (pa_cons (pe_op op_sub (pe_call (ok_law_draw T) (hr.mono (by decide)) (by rfl) T.g_law_draw T.F_law_draw.kp T.b_law_draw .nil pass0 (pa_cons (pv 0) (pa_cons pe_int pa_nil))) pe_int) pa_nil))))))))) pa_nil))))
    (pss_one (ps_ret (pe_tup (pa_cons (pv 2) (pa_cons (pe_call (ok_law_draw T) (hr.mono (by decide)) (by rfl) T.g_law_draw T.F_law_draw.kp T.b_law_draw .nil pass0 (pa_cons (pv 0) (pa_cons (pv 1) pa_nil))) pa_nil)))))), ?_⟩
    -- the list of ranks: its items from the left
    refine ⟨_, rfl, 1, rfl, 10, 18, rfl, rfl, ⟨by decide, by decide, by decide⟩, 10, 18, rfl, rfl, ⟨by decide, by decide, by decide⟩, _, rfl, ?_⟩
    refine ⟨_, rfl, h, g, 50, rfl, ha, by decide, by decide, fun H1 d b1 h1 d0 d1 => ?_⟩
    refine ⟨_, _, rfl, rfl, (by show 8 ≤ sizeLine; decide), fun l hl => ?_⟩
    have hlh := h1.ne_none hl
    refine ⟨h, g, l, _, rfl, h1.same (same_upd hl), SqL.of upd_same, fun H' b => SqL.of (by rw [b l hlh]; exact upd_same), by show 0 < 8; decide, by show 8 ≤ 100000; decide, fun H2 j v b2 h2 hv => ?_⟩
    have hmem := List.mem_of_getElem? hv
    obtain ⟨r, rfl, hr1, hr2⟩ : ∃ r : Int, v = .int r ∧ -1000000000000000000 ≤ r ∧ r ≤ 1000000000000000000 := by
      simp only [List.mem_cons, List.not_mem_nil, or_false] at hmem
      rcases hmem with e | e | e | e | e | e | e | e <;> subst e
      · exact ⟨_, rfl, by omega, by omega⟩
      · exact ⟨_, rfl, by omega, by omega⟩
      · exact ⟨_, rfl, by omega, by omega⟩
      · exact ⟨_, rfl, by omega, by omega⟩
      · exact ⟨_, rfl, by omega, by omega⟩
      · exact ⟨_, rfl, by decide, by decide⟩
      · exact ⟨_, rfl, by decide, by decide⟩
      · exact ⟨_, rfl, by omega, by omega⟩
    -- return (rank, draw(hand, many))
    refine ⟨_, rfl, _, rfl, _, rfl, h, g, m, rfl, h2, hm, by omega, fun H3 c b3 h3 c0 c1 => ?_⟩
    refine ⟨(by show 2 ≤ sizeLine; decide), fun p hp => ?_⟩
    have k3 : Kp h H H3 := (Kp.same b1.kp (same_upd hl)).trans (b2.kp.trans b3.kp)
    exact k _ p (r, c) (k3.same (same_upd hp)) (h3.same (same_upd hp)) (k3.free (h3.ne_none hp) hp) upd_same ⟨hr1, hr2, c0, by show c ≤ 1000000000; omega⟩
theorem cut_lo {xs : List V} {n : Nat} (h : n ≤ xs.length) : cutV xs none (some (n : Int)) = xs.take n := by
  unfold cutV
  rw [HT.sIx_none, HT.sIx_nat, Nat.min_eq_left h]
  rfl
theorem cut_hi {xs : List V} {n : Nat} (h : n ≤ xs.length) : cutV xs (some (n : Int)) none = xs.drop n := by
  unfold cutV
  rw [HT.sIx_none, HT.sIx_nat, Nat.min_eq_left h]
  exact List.take_of_length_le (by rw [List.length_drop]; omega)
def spInserted : Sp := fun vs H Q _ => ∃ (l ka : Addr) (xs : List V) (kd : V → Int × Int), vs = [.ref l, .ref ka] ∧ H l = some (.lst xs) ∧ KeysAt H kd (.ref ka :: xs) ∧ xs.length < 100000 ∧
  ∀ (H' : Hp) (p : Addr), Same H H' → H p = none → H' p = some (.lst (insK kd (.ref ka) xs)) → Q (.ref p) H'
theorem ok_law_inserted (T : Top K mg A) : FnOk P w K mg base CX0 1 A.a_law_inserted A.d_law_inserted P_law_inserted spInserted := by
  refine T.F_law_inserted.ok sc_law_inserted (fun vs H Q E h => ?_) (fun cdv A' outer s H vs Q E hr h => ?_)
  · obtain ⟨l, ka, xs, kd, rfl, _⟩ := h
    rfl
  · obtain ⟨l, ka, xs, kd, rfl, hl, hk, hn, k⟩ := h
    obtain ⟨ka', e, hak⟩ := hk (.ref ka) List.mem_cons_self
    cases e
    refine ⟨_, (pss_cons (ps_set (i := 2) sc_law_inserted.nd rfl (.inl rfl) (pe_callB call_len_seq (by rfl) T.z_len (by decide +kernel) (pa_cons (pe_lc (own := [("_law_one", 3)]) (by rfl) sc_law_inserted.nd (pi_list (pv 0)) (blkOk_by (own := [("_law_one", 3)]) (N := N_law_inserted) (sc := defScope s_law_inserted) (by decide +kernel)) (fun _ _ _ _ _ => (pg_name (i := 3) sc_law_inserted.nd rfl (.inl rfl))) (fun _ _ _ _ _ => (pts_one (pt_cmpR (show OpR _ _ (rLtT K) from (op_ltT hr.units0)) (pv 3) (pv 1) (nomark _)))) (fun _ _ _ _ _ => (pv 3))) pa_nil)))
    (pss_one (ps_ret (pe_op op_cat (pe_op op_cat (pe_slice sl_list (pv 0) po_none (po_some (pv 2))) (pe_lst (pa_cons (pv 1) pa_nil))) (pe_slice sl_list (pv 0) (po_some (pv 2)) po_none))))), ?_⟩
    refine ⟨_, rfl, l, rfl, ⟨_, SqL.of hl⟩, fun D hD => lc_list (K := K) (a := l) (xs := xs) (fun i H' => Same H H' ∧ H' D = some (.lst ((xs.take i).filter (ltK kd (.ref ka))))) ⟨same_upd hD, upd_same⟩ (fun i H' _ h => SqL.of (h.1 _ _ hl)) ?_ ?_⟩
    · rintro i x H' hi ⟨s1, d1⟩
      obtain ⟨a, rfl, ha⟩ := hk x (List.mem_cons_of_mem _ (List.mem_of_getElem? hi))
      have ha' := s1 _ _ ha
      have hak' := s1 _ _ hak
      refine ⟨rfl, ?_⟩
      refine ⟨_, rfl, _, rfl, a, ka, [(kd (.ref a)).1, (kd (.ref a)).2], [(kd (.ref ka)).1, (kd (.ref ka)).2], rfl, rfl, SqT.of ha', SqT.of hak', _, rfl, ?_⟩
      have et := take_fil (ltK kd (.ref ka)) hi
      show (if ltK kd (.ref ka) (.ref a) = true then _ else _)
      by_cases c : ltK kd (.ref ka) (.ref a) = true
      · rw [if_pos c] at et
        rw [c]
        refine iteT ⟨_, rfl, _, d1, fil_lt (Nat.le_of_lt hn), same_to s1 hD, ?_⟩
        rw [upd_same, et]
      · rw [if_neg c, List.append_nil] at et
        rw [Bool.not_eq_true] at c
        rw [c]
        refine iteF ⟨s1, ?_⟩
        rw [et]
        exact d1
    · rintro H' ⟨s1, d1⟩
      rw [List.take_length] at d1
      refine ⟨_, _, rfl, .inl (SqL.of d1), ?_⟩
      have hle := less_le kd (.ref ka) xs
      -- row[:at] + [key] + row[at:]
      have hl' := s1 _ _ hl
      refine ⟨_, rfl, _, rfl, _, rfl, l, xs, rfl, SqL.of hl', fun p1 n1 => ?_⟩
      have e1 : cutV xs none (some ((less kd (.ref ka) xs : Nat) : Int)) = xs.take (less kd (.ref ka) xs) := cut_lo hle
      show _
      have sp1 := same_to s1 (s1.free n1) (o := .lst (cutV xs none (some ((((xs.filter (ltK kd (.ref ka))).length : Nat)) : Int))))
      refine ⟨_, rfl, (by show 1 ≤ sizeLine; decide), fun p2 n2 => ?_⟩
      have hp12 : p1 ≠ p2 := fun e => by
        rw [← e, upd_same] at n2
        cases n2
      have sp2 := same_to sp1 (sp1.free n2) (o := .lst [.ref ka])
      refine ⟨p1, p2, _, _, rfl, rfl, by rw [upd_ne hp12]; exact upd_same, upd_same, ?_, fun p3 n3 => ?_⟩
      · have q := cutV_length xs none (some ((((xs.filter (ltK kd (.ref ka))).length : Nat)) : Int))
        exact Nat.le_trans (Nat.add_le_add_right q 1) (Nat.le_trans hn (by decide))
      have sp3 := same_to sp2 (sp2.free n3) (o := .lst (cutV xs none (some ((((xs.filter (ltK kd (.ref ka))).length : Nat)) : Int)) ++ [.ref ka]))
      refine ⟨_, rfl, _, rfl, _, rfl, l, xs, rfl, SqL.of (sp3 _ _ hl), fun p4 n4 => ?_⟩
      have hp34 : p3 ≠ p4 := fun e => by
        rw [← e, upd_same] at n4
        cases n4
      have sp4 := same_to sp3 (sp3.free n4) (o := .lst (cutV xs (some ((((xs.filter (ltK kd (.ref ka))).length : Nat)) : Int)) none))
      refine ⟨p3, p4, _, _, rfl, rfl, by rw [upd_ne hp34]; exact upd_same, upd_same, ?_, fun p5 n5 => ?_⟩
      · have q1 := cutV_length xs none (some ((((xs.filter (ltK kd (.ref ka))).length : Nat)) : Int))
        have q2 := cutV_length xs (some ((((xs.filter (ltK kd (.ref ka))).length : Nat)) : Int)) none
        rw [List.length_append, List.length_singleton]
        exact Nat.le_trans (by omega) (show 200001 ≤ sizeLine by decide)
      refine k _ p5 (same_to sp4 (sp4.free n5)) (sp4.free n5) ?_
      rw [upd_same]
      unfold insK
      rw [← e1, ← cut_hi hle]
      rfl
end

/-! ### data of keys -/
def keyD (p : Int × Int) : PyData := .tuple [.int p.1, .int p.2]
def rowD (kd : V → Int × Int) (xs : List V) : List PyData := xs.map fun v => keyD (kd v)
theorem lay_key (p : Int × Int) : (keyD p).canLay0 = true := rfl
theorem dep_key (p : Int × Int) : (keyD p).depth = 1 := rfl
theorem lay_row (kd : V → Int × Int) : ∀ xs : List V, PyData.canLayAll0 (rowD kd xs) = true
  | [] => rfl
  | x :: xs => by
    show (PyData.canLay0 (keyD (kd x)) && PyData.canLayAll0 (rowD kd xs)) = true
    rw [lay_key, lay_row kd xs]
    rfl
theorem dep_row (kd : V → Int × Int) : ∀ xs : List V, PyData.depthAll (rowD kd xs) ≤ 1
  | [] => Nat.zero_le _
  | x :: xs => by
    show max (PyData.depth (keyD (kd x))) (PyData.depthAll (rowD kd xs)) ≤ 1
    rw [dep_key]
    exact Nat.max_le.mpr ⟨Nat.le_refl _, dep_row kd xs⟩
theorem sh_key (p : Int × Int) : SeqAt.shaped (keyD p) = true := rfl
def tabD (kd : V → Int × Int) (c : Nat → List V) : List Nat → List PyData
  | [] => []
  | j :: js => .tuple (rowD kd (c j)) :: tabD kd c js
theorem lay_tab (kd : V → Int × Int) (c : Nat → List V) : ∀ js : List Nat, PyData.canLayAll0 (tabD kd c js) = true
  | [] => rfl
  | j :: js => by
    show (PyData.canLayAll0 (rowD kd (c j)) && PyData.canLayAll0 (tabD kd c js)) = true
    rw [lay_row, lay_tab kd c js]
    rfl
theorem dep_tab (kd : V → Int × Int) (c : Nat → List V) : ∀ js : List Nat, PyData.depthAll (tabD kd c js) ≤ 2
  | [] => Nat.zero_le _
  | j :: js => by
    show max (PyData.depthAll (rowD kd (c j)) + 1) (PyData.depthAll (tabD kd c js)) ≤ 2
    exact Nat.max_le.mpr ⟨Nat.succ_le_succ (dep_row kd _), dep_tab kd c js⟩
theorem sh_tab (kd : V → Int × Int) (c : Nat → List V) (js : List Nat) : SeqAt.shaped (.list (tabD kd c js)) = true := by
  unfold SeqAt.shaped
  have h1 : PyData.canLay0 (.list (tabD kd c js)) = true := lay_tab kd c js
  have h2 : PyData.depth (.list (tabD kd c js)) ≤ 64 := Nat.le_trans (Nat.succ_le_succ (dep_tab kd c js)) (by decide)
  rw [h1, decide_eq_true h2]
  rfl
theorem dp_key {K : PySem.W.Frag} {H : Hp} {a : Addr} {p : Int × Int} (h : Tup2 H a p) : Dp K H (.ref a) (keyD p) := .tup (SqT.of h) (.cons (.int _) (.cons (.int _) .nil))
theorem dp_row {K : PySem.W.Frag} {H : Hp} {kd : V → Int × Int} : ∀ {xs : List V}, KeysAt H kd xs → DpAll K H xs (rowD kd xs)
  | [], _ => .nil
  | x :: xs, h => by
    obtain ⟨a, rfl, ha⟩ := h x List.mem_cons_self
    exact .cons (dp_key ha) (dp_row fun v hv => h v (List.mem_cons_of_mem _ hv))
theorem dp_tab {K : PySem.W.Frag} {H : Hp} {kd : V → Int × Int} {c : Nat → List V} {t : Nat → Addr} : ∀ {js : List Nat}, (∀ j ∈ js, H (t j) = some (.tup (c j)) ∧ KeysAt H kd (c j)) → DpAll K H (js.map fun j => V.ref (t j)) (tabD kd c js)
  | [], _ => .nil
  | j :: js, h => by
    obtain ⟨h1, h2⟩ := h j List.mem_cons_self
    exact .cons (.tup (SqT.of h1) (dp_row h2)) (dp_tab fun i hi => h i (List.mem_cons_of_mem _ hi))
/-! ### what stands where -/
inductive Role where
  | h | g | L | T (k : Nat) | x (k : Nat) | R (k : Nat) | b (k j : Nat) | r (k : Nat) | a | key
structure Dat where
  own : Addr → Option Role
  T : Nat → Addr
  x : Nat → Addr
  R : Nat → Addr
  r : Nat → Addr
  b : Nat → Nat → Addr
  a : Nat → Nat → Addr
  c : Nat → Nat → List V
  kd : V → Int × Int
structure WI (C h g L : Addr) (n N B : Nat) (D : Dat) (H : Hp) : Prop where
  dom : ∀ p, H p = none → D.own p = none
  hand : HandAt H h g
  oh : D.own h = some .h
  og : D.own g = some .g
  L : D.own L = some .L ∧ H L = some (.lst (rowsV N D.T))
  T : ∀ k, k < N → D.own (D.T k) = some (.T k) ∧ H (D.T k) = some (.tup [.ref (D.x k), .ref (D.r k)])
  x : ∀ k, k < N → D.own (D.x k) = some (.x k) ∧ ∃ dx, H (D.x k) = some (.ins C dx [("_rows", .ref (D.R k))])
  R : ∀ k, k < N → D.own (D.R k) = some (.R k) ∧ H (D.R k) = some (.lst (rowsV n (D.b k)))
  b : ∀ k j, k < N → j < n → D.own (D.b k j) = some (.b k j) ∧ H (D.b k j) = some (.lst (D.c k j))
  r : ∀ k, k < N → D.own (D.r k) = some (.r k) ∧ H (D.r k) = some (.lst (rowsV n (D.a k)))
  a : ∀ k j, k < N → j < n → D.own (D.a k j) = some .a ∧ H (D.a k j) = some (.lst (D.c k j))
  ks : ∀ k j v, k < N → j < n → v ∈ D.c k j → ∃ q, v = .ref q ∧ D.own q = some .key ∧ Tup2 H q (D.kd v)
  len : ∀ k j, k < N → j < n → (D.c k j).length ≤ B
  pw : ∀ k j, k < N → j < n → Pw D.kd (D.c k j)
theorem own_ne {own : Addr → Option Role} {p q : Addr} {s t : Role} (h1 : own p = some s) (h2 : own q = some t) (h : s ≠ t) : p ≠ q := fun e => by
  rw [e, h2] at h1
  exact h (Option.some.inj h1).symm
section
variable {C h g L : Addr} {n N B : Nat} {D : Dat} {H H' : Hp}
/-- everything but the hand stays -/
theorem WI.handed (w : WI C h g L n N B D H) (k : Kp h H H') (ha : HandAt H' h g) : WI C h g L n N B D H' where
  dom := fun p hp => by
    by_cases e : p = h
    · subst e
      exact absurd rfl (ha.ne_none hp)
    · exact w.dom p (k.free e hp)
  hand := ha
  oh := w.oh
  og := w.og
  L := ⟨w.L.1, k _ _ (own_ne w.L.1 w.oh (by intro z; cases z)) w.L.2⟩
  T := fun i hi => ⟨(w.T i hi).1, k _ _ (own_ne (w.T i hi).1 w.oh (by intro z; cases z)) (w.T i hi).2⟩
  x := fun i hi => ⟨(w.x i hi).1, by obtain ⟨dx, e⟩ := (w.x i hi).2; exact ⟨dx, k _ _ (own_ne (w.x i hi).1 w.oh (by intro z; cases z)) e⟩⟩
  R := fun i hi => ⟨(w.R i hi).1, k _ _ (own_ne (w.R i hi).1 w.oh (by intro z; cases z)) (w.R i hi).2⟩
  b := fun i j hi hj => ⟨(w.b i j hi hj).1, k _ _ (own_ne (w.b i j hi hj).1 w.oh (by intro z; cases z)) (w.b i j hi hj).2⟩
  r := fun i hi => ⟨(w.r i hi).1, k _ _ (own_ne (w.r i hi).1 w.oh (by intro z; cases z)) (w.r i hi).2⟩
  a := fun i j hi hj => ⟨(w.a i j hi hj).1, k _ _ (own_ne (w.a i j hi hj).1 w.oh (by intro z; cases z)) (w.a i j hi hj).2⟩
  ks := fun i j v hi hj hv => by
    obtain ⟨q, e1, e2, e3⟩ := w.ks i j v hi hj hv
    exact ⟨q, e1, e2, k _ _ (own_ne e2 w.oh (by intro z; cases z)) e3⟩
  len := w.len
  pw := w.pw
theorem WI.same (w : WI C h g L n N B D H) (s : Same H H') : WI C h g L n N B D H' := w.handed (kp_of s h) (w.hand.same s)
theorem WI.keys (w : WI C h g L n N B D H) {k j : Nat} (hk : k < N) (hj : j < n) : KeysAt H D.kd (D.c k j) := fun v hv => by
  obtain ⟨q, e1, _, e3⟩ := w.ks k j v hk hj hv
  exact ⟨q, e1, e3⟩
theorem WI.rows (w : WI C h g L n N B D H) {k : Nat} (hk : k < N) : RowsAt C H (D.x k) (D.R k) n (D.b k) (D.c k) := ⟨(w.x k hk).2, (w.R k hk).2, fun j hj => (w.b k j hk hj).2⟩
/-- a new key -/
theorem WI.key (w : WI C h g L n N B D H) {q : Addr} {p : Int × Int} (hq : D.own q = none) (e : Tup2 H q p) :
    ∃ D' : Dat, WI C h g L n N B D' H ∧ D'.T = D.T ∧ D'.x = D.x ∧ D'.R = D.R ∧ D'.r = D.r ∧ D'.b = D.b ∧ D'.a = D.a ∧ D'.c = D.c ∧ D'.kd (.ref q) = p ∧ D'.own q = some .key := by
  have ow : ∀ {y : Addr} {t : Role}, D.own y = some t → (if y = q then some Role.key else D.own y) = some t := fun {y t} h1 => by
    rw [if_neg (fun e2 => by rw [e2, hq] at h1; cases h1)]
    exact h1
  refine ⟨{ D with own := fun y => if y = q then some .key else D.own y, kd := fun v => if v = .ref q then p else D.kd v }, ⟨fun y hy => ?_, w.hand, ow w.oh, ow w.og, ⟨ow w.L.1, w.L.2⟩, fun i hi => ⟨ow (w.T i hi).1, (w.T i hi).2⟩,
    fun i hi => ⟨ow (w.x i hi).1, (w.x i hi).2⟩, fun i hi => ⟨ow (w.R i hi).1, (w.R i hi).2⟩, fun i j hi hj => ⟨ow (w.b i j hi hj).1, (w.b i j hi hj).2⟩, fun i hi => ⟨ow (w.r i hi).1, (w.r i hi).2⟩,
    fun i j hi hj => ⟨ow (w.a i j hi hj).1, (w.a i j hi hj).2⟩, fun i j v hi hj hv => ?_, w.len, fun i j hi hj => pw_congr (w.pw i j hi hj) fun v hv => ?_⟩, rfl, rfl, rfl, rfl, rfl, rfl, rfl, if_pos rfl, if_pos rfl⟩
  · show (if y = q then some Role.key else D.own y) = none
    rw [if_neg (ne_of_none e hy).symm]
    exact w.dom y hy
  · obtain ⟨y, e1, e2, e3⟩ := w.ks i j v hi hj hv
    refine ⟨y, e1, ow e2, ?_⟩
    show Tup2 H y (if v = .ref q then p else D.kd v)
    rw [if_neg (fun z => by rw [e1] at z; cases z; rw [hq] at e2; cases e2)]
    exact e3
  · obtain ⟨y, e1, e2, _⟩ := w.ks i j v hi hj hv
    exact if_neg (fun z => by rw [e1] at z; cases z; rw [hq] at e2; cases e2)
/-- a row of one pair is exchanged, in the ideal switch and in the law's own rows -/
theorem WI.set (w : WI C h g L n N B D H) {k j : Nat} {new : List V} {p : Addr} (hk : k < N) (hj : j < n) (hp : D.own p = none) (kp : ∀ q o, q ≠ D.b k j → q ≠ D.r k → H q = some o → H' q = some o)
    (e1 : H' (D.b k j) = some (.lst new)) (e2 : H' p = some (.lst new)) (e3 : H' (D.r k) = some (.lst (rowsV n fun i => if i = j then p else D.a k i)))
    (ks : ∀ v ∈ new, ∃ q, v = .ref q ∧ D.own q = some .key ∧ Tup2 H' q (D.kd v)) (hl : new.length ≤ B) (hpw : Pw D.kd new) :
    ∃ D' : Dat, WI C h g L n N B D' H' ∧ D'.T = D.T := by
  have ow : ∀ {y : Addr} {t : Role}, D.own y = some t → (if y = p then some Role.a else D.own y) = some t := fun {y t} h1 => by
    rw [if_neg (fun e2 => by rw [e2, hp] at h1; cases h1)]
    exact h1
  have ob := (w.b k j hk hj).1
  have or_ := (w.r k hk).1
  have kq : ∀ {y : Addr} {t : Role} {o : HO}, D.own y = some t → t ≠ .b k j → t ≠ .r k → H y = some o → H' y = some o := fun hy h1 h2 hH => kp _ _ (own_ne hy ob h1) (own_ne hy or_ h2) hH
  have hns : HandAt H' h g := ⟨by
      obtain ⟨ns, e⟩ := w.hand.cells
      exact ⟨ns, kq w.og (by intro z; cases z) (by intro z; cases z) e⟩, by
      obtain ⟨i, m, s', t, e, q⟩ := w.hand.five
      exact ⟨i, m, s', t, kq w.oh (by intro z; cases z) (by intro z; cases z) e, q⟩, w.hand.ne⟩
  refine ⟨{ D with own := fun y => if y = p then some .a else D.own y, a := fun k' i => if k' = k ∧ i = j then p else D.a k' i, c := fun k' i => if k' = k ∧ i = j then new else D.c k' i },
    ⟨fun y hy => ?_, hns, ow w.oh, ow w.og, ⟨ow w.L.1, kq w.L.1 (by intro z; cases z) (by intro z; cases z) w.L.2⟩, fun i hi => ⟨ow (w.T i hi).1, kq (w.T i hi).1 (by intro z; cases z) (by intro z; cases z) (w.T i hi).2⟩,
    fun i hi => ⟨ow (w.x i hi).1, ?_⟩, fun i hi => ⟨ow (w.R i hi).1, kq (w.R i hi).1 (by intro z; cases z) (by intro z; cases z) (w.R i hi).2⟩, fun i i2 hi hi2 => ⟨ow (w.b i i2 hi hi2).1, ?_⟩, fun i hi => ⟨ow (w.r i hi).1, ?_⟩,
    fun i i2 hi hi2 => ?_, fun i i2 v hi hi2 hv => ?_, fun i i2 hi hi2 => ?_, fun i i2 hi hi2 => ?_⟩, rfl⟩
  · show (if y = p then some Role.a else D.own y) = none
    rw [if_neg (ne_of_none e2 hy).symm]
    refine w.dom y ?_
    cases q : H y with
    | none => rfl
    | some o =>
      have h1 : y ≠ D.b k j := fun z => by rw [z, e1] at hy; cases hy
      have h2 : y ≠ D.r k := fun z => by rw [z, e3] at hy; cases hy
      rw [kp y o h1 h2 q] at hy
      cases hy
  · obtain ⟨dx, e⟩ := (w.x i hi).2
    exact ⟨dx, kq (w.x i hi).1 (by intro z; cases z) (by intro z; cases z) e⟩
  · show H' (D.b i i2) = some (.lst (if i = k ∧ i2 = j then new else D.c i i2))
    by_cases c : i = k ∧ i2 = j
    · rw [if_pos c, c.1, c.2]
      exact e1
    · rw [if_neg c]
      exact kq (w.b i i2 hi hi2).1 (by intro z; cases z; exact c ⟨rfl, rfl⟩) (by intro z; cases z) (w.b i i2 hi hi2).2
  · show H' (D.r i) = some (.lst (rowsV n fun i2 => if i = k ∧ i2 = j then p else D.a i i2))
    by_cases c : i = k
    · subst c
      rw [e3]
      congr 2
      exact rowsV_congr fun i2 _ => by
        by_cases c2 : i2 = j
        · rw [if_pos c2, if_pos ⟨rfl, c2⟩]
        · rw [if_neg c2, if_neg (fun z => c2 z.2)]
    · rw [kq (w.r i hi).1 (by intro z; cases z) (by intro z; cases z; exact c rfl) (w.r i hi).2]
      congr 2
      exact rowsV_congr fun i2 _ => by rw [if_neg (fun z => c z.1)]
  · show (if (if i = k ∧ i2 = j then p else D.a i i2) = p then some Role.a else D.own (if i = k ∧ i2 = j then p else D.a i i2)) = some .a ∧ H' (if i = k ∧ i2 = j then p else D.a i i2) = some (.lst (if i = k ∧ i2 = j then new else D.c i i2))
    by_cases c : i = k ∧ i2 = j
    · rw [if_pos c, if_pos c, if_pos rfl]
      exact ⟨rfl, e2⟩
    · rw [if_neg c, if_neg c]
      exact ⟨ow (w.a i i2 hi hi2).1, kq (w.a i i2 hi hi2).1 (by intro z; cases z) (by intro z; cases z) (w.a i i2 hi hi2).2⟩
  · have hv : v ∈ (if i = k ∧ i2 = j then new else D.c i i2) := hv
    by_cases c : i = k ∧ i2 = j
    · rw [if_pos c] at hv
      obtain ⟨q, q1, q2, q3⟩ := ks v hv
      exact ⟨q, q1, ow q2, q3⟩
    · rw [if_neg c] at hv
      obtain ⟨q, q1, q2, q3⟩ := w.ks i i2 v hi hi2 hv
      exact ⟨q, q1, ow q2, kq q2 (by intro z; cases z) (by intro z; cases z) q3⟩
  · show (if i = k ∧ i2 = j then new else D.c i i2).length ≤ B
    by_cases c : i = k ∧ i2 = j
    · rw [if_pos c]
      exact hl
    · rw [if_neg c]
      exact w.len i i2 hi hi2
  · show Pw D.kd (if i = k ∧ i2 = j then new else D.c i i2)
    by_cases c : i = k ∧ i2 = j
    · rw [if_pos c]
      exact hpw
    · rw [if_neg c]
      exact w.pw i i2 hi hi2
end

section
variable {C h g L : Addr} {n N B : Nat} {D : Dat} {H H' : Hp}
open Classical in
noncomputable def ownB (b : Nat → Addr) (n N : Nat) (own : Addr → Option Role) (y : Addr) : Option Role := if z : ∃ j, j < n ∧ y = b j then some (.b N (Classical.choose z)) else own y
theorem ownB_at {b : Nat → Addr} {n N : Nat} {own : Addr → Option Role} (inj : ∀ i j, i < n → j < n → b i = b j → i = j) {j : Nat} (hj : j < n) : ownB b n N own (b j) = some (.b N j) := by
  have z : ∃ i, i < n ∧ b j = b i := ⟨j, hj, rfl⟩
  unfold ownB
  rw [dif_pos z]
  have q := Classical.choose_spec z
  have e := inj j _ hj q.1 q.2
  rw [← e]
theorem ownB_no {b : Nat → Addr} {n N : Nat} {own : Addr → Option Role} {y : Addr} (h : ∀ j, j < n → y ≠ b j) : ownB b n N own y = own y := by
  unfold ownB
  rw [dif_neg (fun z => by obtain ⟨j, hj, e⟩ := z; exact h j hj e)]
/-- one more pair -/
theorem WI.add (w : WI C h g L n N B D H) {T' x' R' r' : Addr} {b' a' : Nat → Addr} {c' : Nat → List V} (kp : Kp L H H') (eL : H' L = some (.lst (rowsV N D.T ++ [.ref T'])))
    (fT : D.own T' = none) (fx : D.own x' = none) (fR : D.own R' = none) (fr : D.own r' = none) (fb : ∀ j, j < n → D.own (b' j) = none) (inj : ∀ i j, i < n → j < n → b' i = b' j → i = j)
    (hRr : R' ≠ r') (hRb : ∀ j, j < n → b' j ≠ R') (hrb : ∀ j, j < n → b' j ≠ r')
    (eT : H' T' = some (.tup [.ref x', .ref r'])) (I : RowsAt C H' x' R' n b' c') (er : H' r' = some (.lst (rowsV n a'))) (ea : ∀ j, j < n → D.own (a' j) = some .a ∧ H' (a' j) = some (.lst (c' j)))
    (ks : ∀ j v, j < n → v ∈ c' j → ∃ q, v = .ref q ∧ D.own q = some .key ∧ Tup2 H' q (D.kd v)) (hl : ∀ j, j < n → (c' j).length ≤ B) (hpw : ∀ j, j < n → Pw D.kd (c' j)) :
    ∃ D' : Dat, WI C h g L n (N + 1) B D' H' := by
  obtain ⟨⟨dx', ex⟩, eR, eb⟩ := I
  let own' : Addr → Option Role := fun y => if y = T' then some (.T N) else if y = x' then some (.x N) else if y = R' then some (.R N) else if y = r' then some (.r N) else ownB b' n N D.own y
  have hTx : T' ≠ x' := ne_of eT ex (by intro z; cases z)
  have hTR : T' ≠ R' := ne_of eT eR (by intro z; cases z)
  have hTr : T' ≠ r' := ne_of eT er (by intro z; cases z)
  have hxR : x' ≠ R' := ne_of ex eR (by intro z; cases z)
  have hxr : x' ≠ r' := ne_of ex er (by intro z; cases z)
  have hbT : ∀ j, j < n → b' j ≠ T' := fun j hj => ne_of (eb j hj) eT (by intro z; cases z)
  have hbx : ∀ j, j < n → b' j ≠ x' := fun j hj => ne_of (eb j hj) ex (by intro z; cases z)
  have ow : ∀ {y : Addr} {t : Role}, D.own y = some t → own' y = some t := fun {y t} h1 => by
    show (if y = T' then some (Role.T N) else if y = x' then some (.x N) else if y = R' then some (.R N) else if y = r' then some (.r N) else ownB b' n N D.own y) = some t
    rw [if_neg (fun e => by rw [e, fT] at h1; cases h1), if_neg (fun e => by rw [e, fx] at h1; cases h1), if_neg (fun e => by rw [e, fR] at h1; cases h1), if_neg (fun e => by rw [e, fr] at h1; cases h1),
      ownB_no (fun j hj e => by rw [e, fb j hj] at h1; cases h1)]
    exact h1
  have oT : own' T' = some (.T N) := if_pos rfl
  have ox : own' x' = some (.x N) := (if_neg hTx.symm).trans (if_pos rfl)
  have oR : own' R' = some (.R N) := (if_neg hTR.symm).trans ((if_neg hxR.symm).trans (if_pos rfl))
  have or_ : own' r' = some (.r N) := (if_neg hTr.symm).trans ((if_neg hxr.symm).trans ((if_neg hRr.symm).trans (if_pos rfl)))
  have ob : ∀ j, j < n → own' (b' j) = some (.b N j) := fun j hj => (if_neg (hbT j hj)).trans ((if_neg (hbx j hj)).trans ((if_neg (hRb j hj)).trans ((if_neg (hrb j hj)).trans (ownB_at inj hj))))
  have kq : ∀ {y : Addr} {t : Role} {o : HO}, D.own y = some t → t ≠ .L → H y = some o → H' y = some o := fun hy h1 hH => kp _ _ (own_ne hy w.L.1 h1) hH
  have hns : HandAt H' h g := ⟨by
      obtain ⟨ns, e⟩ := w.hand.cells
      exact ⟨ns, kq w.og (by intro z; cases z) e⟩, by
      obtain ⟨i, m, s', t, e, q⟩ := w.hand.five
      exact ⟨i, m, s', t, kq w.oh (by intro z; cases z) e, q⟩, w.hand.ne⟩
  have lt : ∀ {i : Nat}, i < N + 1 → i ≠ N → i < N := fun h1 h2 => by omega
  refine ⟨⟨own', (fun k => if k = N then T' else D.T k), (fun k => if k = N then x' else D.x k), (fun k => if k = N then R' else D.R k), (fun k => if k = N then r' else D.r k),
      (fun k => if k = N then b' else D.b k), (fun k => if k = N then a' else D.a k), (fun k => if k = N then c' else D.c k), D.kd⟩,
    ⟨fun y hy => ?_, hns, ow w.oh, ow w.og, ⟨ow w.L.1, ?_⟩, fun i hi => ?_, fun i hi => ?_, fun i hi => ?_, fun i j hi hj => ?_, fun i hi => ?_, fun i j hi hj => ?_, fun i j v hi hj hv => ?_, fun i j hi hj => ?_, fun i j hi hj => ?_⟩⟩
  · show (if y = T' then some (Role.T N) else if y = x' then some (.x N) else if y = R' then some (.R N) else if y = r' then some (.r N) else ownB b' n N D.own y) = none
    rw [if_neg (ne_of_none eT hy).symm, if_neg (ne_of_none ex hy).symm, if_neg (ne_of_none eR hy).symm, if_neg (ne_of_none er hy).symm, ownB_no (fun j hj => (ne_of_none (eb j hj) hy).symm)]
    refine w.dom y (kp.free (fun e => ?_) hy)
    rw [e, eL] at hy
    cases hy
  · show H' L = some (.lst (rowsV (N + 1) fun k => if k = N then T' else D.T k))
    rw [eL, rowsV_succ, if_pos rfl]
    congr 2
    congr 1
    exact rowsV_congr fun j hj => (if_neg (Nat.ne_of_lt hj)).symm
  · by_cases e : i = N
    · simp only [if_pos e]
      rw [e]
      exact ⟨oT, eT⟩
    · simp only [if_neg e]
      exact ⟨ow (w.T i (lt hi e)).1, kq (w.T i (lt hi e)).1 (by intro z; cases z) (w.T i (lt hi e)).2⟩
  · by_cases e : i = N
    · simp only [if_pos e]
      rw [e]
      exact ⟨ox, dx', ex⟩
    · simp only [if_neg e]
      obtain ⟨dx, q⟩ := (w.x i (lt hi e)).2
      exact ⟨ow (w.x i (lt hi e)).1, dx, kq (w.x i (lt hi e)).1 (by intro z; cases z) q⟩
  · by_cases e : i = N
    · simp only [if_pos e]
      rw [e]
      exact ⟨oR, eR⟩
    · simp only [if_neg e]
      exact ⟨ow (w.R i (lt hi e)).1, kq (w.R i (lt hi e)).1 (by intro z; cases z) (w.R i (lt hi e)).2⟩
  · by_cases e : i = N
    · simp only [if_pos e]
      rw [e]
      exact ⟨ob j hj, eb j hj⟩
    · simp only [if_neg e]
      exact ⟨ow (w.b i j (lt hi e) hj).1, kq (w.b i j (lt hi e) hj).1 (by intro z; cases z) (w.b i j (lt hi e) hj).2⟩
  · by_cases e : i = N
    · simp only [if_pos e]
      rw [e]
      exact ⟨or_, er⟩
    · simp only [if_neg e]
      exact ⟨ow (w.r i (lt hi e)).1, kq (w.r i (lt hi e)).1 (by intro z; cases z) (w.r i (lt hi e)).2⟩
  · by_cases e : i = N
    · simp only [if_pos e]
      exact ⟨ow (ea j hj).1, (ea j hj).2⟩
    · simp only [if_neg e]
      exact ⟨ow (w.a i j (lt hi e) hj).1, kq (w.a i j (lt hi e) hj).1 (by intro z; cases z) (w.a i j (lt hi e) hj).2⟩
  · by_cases e : i = N
    · simp only [if_pos e] at hv
      obtain ⟨q, q1, q2, q3⟩ := ks j v hj hv
      exact ⟨q, q1, ow q2, q3⟩
    · simp only [if_neg e] at hv
      obtain ⟨q, q1, q2, q3⟩ := w.ks i j v (lt hi e) hj hv
      exact ⟨q, q1, ow q2, kq q2 (by intro z; cases z) q3⟩
  · by_cases e : i = N
    · simp only [if_pos e]
      exact hl j hj
    · simp only [if_neg e]
      exact w.len i j (lt hi e) hj
  · by_cases e : i = N
    · simp only [if_pos e]
      exact hpw j hj
    · simp only [if_neg e]
      exact w.pw i j (lt hi e) hj
theorem WI.more (w : WI C h g L n N B D H) {B' : Nat} (hb : B ≤ B') : WI C h g L n N B' D H :=
  ⟨w.dom, w.hand, w.oh, w.og, w.L, w.T, w.x, w.R, w.b, w.r, w.a, w.ks, fun k j hk hj => Nat.le_trans (w.len k j hk hj) hb, w.pw⟩
end

section
variable {P : Program} {w : World} {K : PySem.W.Frag} {mg : Str → Option Value} {base : Heap} {A : Adr}
theorem rowsV_set {n j : Nat} {f : Nat → Addr} {p : Addr} (h : j < n) : (rowsV n f).set j (.ref p) = rowsV n (fun i => if i = j then p else f i) := by
  refine List.ext_getElem? fun i => ?_
  by_cases hi : i < n
  · rw [rowsV_at hi, List.getElem?_set]
    by_cases e : j = i
    · subst e
      rw [if_pos rfl, if_pos rfl, if_pos (by rw [rowsV_len]; exact h)]
    · rw [if_neg e, rowsV_at hi, if_neg (fun z => e z.symm)]
  · have l1 : (rowsV n f).length ≤ i := by rw [rowsV_len]; omega
    rw [List.getElem?_eq_none (by rw [List.length_set]; exact l1), List.getElem?_eq_none (by rw [rowsV_len]; omega)]
theorem notin_back {xs : List V} {kd : V → Int × Int} {z : Int} (h : inV (.int z) (xs.map fun v => V.int (kd v).2) = false) : ∀ v ∈ xs, (kd v).2 ≠ z := by
  intro v hv e
  unfold inV at h
  rw [List.any_eq_false] at h
  have q := h (V.int (kd v).2) (List.mem_map_of_mem hv)
  rw [e] at q
  exact q (by simp [eqV])
theorem insK_mem {kd : V → Int × Int} {k v : V} {xs : List V} (h : v ∈ insK kd k xs) : v = k ∨ v ∈ xs := by
  unfold insK at h
  rw [List.append_assoc, List.mem_append, List.mem_append, List.mem_singleton] at h
  rcases h with h | h | h
  · exact .inr (List.mem_of_mem_take h)
  · exact .inl h
  · exact .inr (List.mem_of_mem_drop h)
theorem insK_len {kd : V → Int × Int} {k : V} {xs : List V} : (insK kd k xs).length = xs.length + 1 := by
  unfold insK
  rw [List.length_append, List.length_append, List.length_take, List.length_drop, List.length_singleton]
  have := less_le kd k xs
  omega
theorem ixN_at {n j : Nat} (h : j < n) : ixN n (j : Int) = some j := by
  unfold ixN
  rw [if_pos (by omega), if_pos (by omega), Int.toNat_natCast]
open Classical in
/-- the first pair, laid behind the hand -/
theorem WI.first {C h g L x R D T : Addr} {n : Nat} {H3 H5 : Hp} {b a : Nat → Addr} (ha : HandAt H3 h g) (I : RowsAt C H3 x R n b (fun _ => [])) (hbR : ∀ j, j < n → b j ≠ R) (injb : ∀ i j, i < n → j < n → b i = b j → i = j)
    (xh : x ≠ h ∧ x ≠ g) (Rh : R ≠ h ∧ R ≠ g) (bh : ∀ j, j < n → b j ≠ h ∧ b j ≠ g) (s : Same H3 H5) (hD : H3 D = none) (eD : H5 D = some (.lst (rowsV n a))) (hA : ∀ j, j < n → H3 (a j) = none ∧ a j ≠ D ∧ H5 (a j) = some (.lst []))
    (hT : H5 T = none) (hL : upd H5 T (.tup [.ref x, .ref D]) L = none) : ∃ Dt : Dat, WI C h g L n 1 0 Dt (upd (upd H5 T (.tup [.ref x, .ref D])) L (.lst [.ref T])) := by
  obtain ⟨⟨dx, ex⟩, eR, eb⟩ := id I
  have h5 := ha.same s
  have sT : Same H5 (upd H5 T (.tup [.ref x, .ref D])) := same_upd hT
  have hLn : H5 L = none := sT.free hL
  have Lh : L ≠ h := h5.ne_none hLn
  have Lg : L ≠ g := by
    obtain ⟨ns, e⟩ := h5.cells
    exact (ne_of_none e hLn).symm
  have TL : T ≠ L := fun e => by
    rw [← e, upd_same] at hL
    cases hL
  have Th : T ≠ h := h5.ne_none hT
  have Tg : T ≠ g := by
    obtain ⟨ns, e⟩ := h5.cells
    exact (ne_of_none e hT).symm
  have Dh : D ≠ h := ha.ne_none hD
  have Dg : D ≠ g := by
    obtain ⟨ns, e⟩ := ha.cells
    exact (ne_of_none e hD).symm
  have ah : ∀ j, j < n → a j ≠ h ∧ a j ≠ g := fun j hj => ⟨ha.ne_none (hA j hj).1, by
    obtain ⟨ns, e⟩ := ha.cells
    exact (ne_of_none e (hA j hj).1).symm⟩
  have neL : ∀ {y : Addr} {o : HO}, H5 y = some o → y ≠ L := fun e => ne_of_none e hLn
  have neT : ∀ {y : Addr} {o : HO}, H5 y = some o → y ≠ T := fun e => ne_of_none e hT
  let D0 : Dat := ⟨fun y => if y = h then some .h else if y = g then some .g else if y = L then some .L else if ∃ j, j < n ∧ y = a j then some .a else none, fun _ => 0, fun _ => 0, fun _ => 0, fun _ => 0, fun _ _ => 0, fun _ _ => 0, fun _ _ => [], fun _ => (0, 0)⟩
  have o0 : ∀ y, D0.own y = if y = h then some .h else if y = g then some .g else if y = L then some .L else if ∃ j, j < n ∧ y = a j then some .a else none := fun _ => rfl
  have no0 : ∀ y, y ≠ h → y ≠ g → y ≠ L → (∀ j, j < n → y ≠ a j) → D0.own y = none := fun y h1 h2 h3 h4 => by
    rw [o0, if_neg h1, if_neg h2, if_neg h3, if_neg (fun z => by obtain ⟨j, hj, e⟩ := z; exact h4 j hj e)]
  have w0 : WI C h g L n 0 0 D0 (upd (upd H5 T (.tup [.ref x, .ref D])) L (.lst [])) := by
    refine ⟨fun p hp => ?_, (h5.same sT).same (same_upd hL), by rw [o0, if_pos rfl], by rw [o0, if_neg ha.ne.symm, if_pos rfl], ⟨by rw [o0, if_neg Lh, if_neg Lg, if_pos rfl], upd_same⟩,
      fun k hk => absurd hk (Nat.not_lt_zero _), fun k hk => absurd hk (Nat.not_lt_zero _), fun k hk => absurd hk (Nat.not_lt_zero _), fun k j hk => absurd hk (Nat.not_lt_zero _), fun k hk => absurd hk (Nat.not_lt_zero _),
      fun k j hk => absurd hk (Nat.not_lt_zero _), fun k j v hk => absurd hk (Nat.not_lt_zero _), fun k j hk => absurd hk (Nat.not_lt_zero _), fun k j hk => absurd hk (Nat.not_lt_zero _)⟩
    have hpL : p ≠ L := fun e => by
      rw [e, upd_same] at hp
      cases hp
    rw [upd_ne hpL] at hp
    have hp5 := sT.free hp
    refine no0 p (h5.ne_none hp5) ?_ hpL (fun j hj => (ne_of_none (hA j hj).2.2 hp5).symm)
    obtain ⟨ns, e⟩ := h5.cells
    exact (ne_of_none e hp5).symm
  have ex5 := s _ _ ex
  have eR5 := s _ _ eR
  have eb5 := fun j hj => s _ _ (eb j hj)
  have lay : ∀ {y : Addr} {o : HO}, H5 y = some o → (upd (upd H5 T (.tup [.ref x, .ref D])) L (.lst [.ref T])) y = some o := fun {y o} e => by
    rw [upd_ne (neL e), upd_ne (neT e)]
    exact e
  have ax : ∀ j, j < n → x ≠ a j := fun j hj => ne_of_none ex (hA j hj).1
  have aR : ∀ j, j < n → R ≠ a j := fun j hj => ne_of_none eR (hA j hj).1
  have ab : ∀ i j, i < n → j < n → b i ≠ a j := fun i j hi hj => ne_of_none (eb i hi) (hA j hj).1
  have aT : ∀ j, j < n → T ≠ a j := fun j hj => (ne_of_none (hA j hj).2.2 hT).symm
  refine w0.add (T' := T) (x' := x) (R' := R) (r' := D) (b' := b) (a' := a) (c' := fun _ => []) (fun q o hq e => ?_) (by rw [upd_same]; rfl) (no0 T Th Tg TL aT) (no0 x xh.1 xh.2 (neL ex5) ax) (no0 R Rh.1 Rh.2 (neL eR5) aR)
    (no0 D Dh Dg (neL eD) fun j hj => (hA j hj).2.1.symm) (fun j hj => no0 (b j) (bh j hj).1 (bh j hj).2 (neL (eb5 j hj)) fun i hi => ab j i hj hi) injb (ne_of_none eR hD) hbR (fun j hj => ne_of_none (eb j hj) hD)
    (by rw [upd_ne TL, upd_same]) ⟨⟨dx, lay ex5⟩, lay eR5, fun j hj => lay (eb5 j hj)⟩ (lay eD) (fun j hj => ⟨?_, lay (hA j hj).2.2⟩) (fun j v _ hv => absurd hv List.not_mem_nil) (fun j _ => Nat.le_refl _) (fun j _ => .nil)
  · rw [upd_ne hq] at e ⊢
    exact e
  · rw [o0, if_neg (ah j hj).1, if_neg (ah j hj).2, if_neg (neL (hA j hj).2.2), if_pos ⟨j, hj, rfl⟩]
theorem count_range {N at_ : Nat} (h : at_ < N) : ((List.range N).map fun i => decide (at_ = i)).countP (fun b => b == true) = 1 := by
  rw [List.countP_map]
  have gen : ∀ m, (List.range m).countP ((fun b => b == true) ∘ fun i => decide (at_ = i)) = if at_ < m then 1 else 0 := fun m => by
    induction m with
    | zero => rfl
    | succ m ih =>
      rw [List.range_succ, List.countP_append, ih, List.countP_cons, List.countP_nil]
      by_cases e : at_ = m
      · subst e
        simp
      · have e2 : ((fun b => b == true) ∘ fun i => decide (at_ = i)) m = false := by simp [e]
        rw [e2]
        by_cases c : at_ < m
        · rw [if_pos c, if_pos (show at_ < m + 1 by omega)]
          rfl
        · rw [if_neg c, if_neg (show ¬ at_ < m + 1 by omega)]
          rfl
  rw [gen, if_pos h]
end

end KX
namespace KR
open PySem PySem.Spec PyProof.Rows PySem.SeqAt
section
variable {M : Model} {prog : Program} {w : World} {A : Around} {E : Value → Shared → Prop} {s : Shared} {K : PySem.W.Frag} {x y C : Addr} {ox oy : Obj} {od od' : Option Obj}
theorem call_same {Q : Value → Shared → Prop} (X : K.In s.heap) (I : PySem.W.InstAt s.heap x ox C od) (hm : PySem.W.mroIn K C (.type "object") = some true) (hq : Q (.bool true) s) :
    wpAny (model prog w) A (call (.builtin "object.__eq__") [.ref x, .ref x]) Q E s :=
  wpAny_call (codeAny_call_builtin F.cmp_object.eq.plain F.cmpEntry_eq (PySem.W.check_slot F.cmpKind_eq F.cmpSplit_eq (I.type.andThen (PySem.W.looks_mroIn X hm)) (F.cmpArgs_eq _ _) (objEq_entry_same hq)))
theorem call_other {Q : Value → Shared → Prop} (X : K.In s.heap) (I : PySem.W.InstAt s.heap x ox C od) (hm : PySem.W.mroIn K C (.type "object") = some true) (hx : s.heap.get? x = some ox) (hy : s.heap.get? y = some oy) (hnt : ox.cls ≠ .type "tuple") (hxy : x ≠ y)
    (hq : Q .notImplemented s) : wpAny (model prog w) A (call (.builtin "object.__eq__") [.ref x, .ref y]) Q E s := by
  refine wpAny_call (codeAny_call_builtin F.cmp_object.eq.plain F.cmpEntry_eq (PySem.W.check_slot F.cmpKind_eq F.cmpSplit_eq (I.type.andThen (PySem.W.looks_mroIn X hm)) (F.cmpArgs_eq _ _) ?_))
  obtain ⟨h, g, d, t, os⟩ := s
  exact objEq_entry_other hxy hx hy hnt hq
theorem rc_same (hu : A.units < cLine) (X : K.In s.heap) (I : PySem.W.InstAt s.heap x ox C od) (hm : PySem.W.mroIn K C (.type "object") = some true) (hs : PySem.W.findIn K (.ref C) "__eq__" = some (some (.builtin "object.__eq__"))) :
    RcAt A s (.ref x) (.ref x) true := fun prog w E Q h => by
  have one : wpAny (model prog w) A (tryCompare (.ref x) "__eq__" (.ref x)) (fun r s' => r = some (.bool true) ∧ s' = s) E s := by
    unfold tryCompare
    exact wpAny_bind (HN.ifBound_objEq X I hs (call_same X I hm (wpAny_pure ⟨rfl, rfl⟩)))
  simp only [richCompare, cmpInfo_Eq, oneThing_ref]
  refine wpAny_holding (wpAny_bind (wpAny_cRoomFor hu ?_))
  refine wpAny_bind (I.type.here (wpAny_bind (I.type.here ?_)))
  split
  · rename_i q
    exact absurd q (by simp)
  · refine wpAny_bind (wpAny_pure ?_)
    simp only [Bool.false_eq_true, if_false]
    refine wpAny_bind (wpAny_mono one (fun r s' z => ?_) fun _ _ e => e)
    obtain ⟨rfl, rfl⟩ := z
    exact wpAny_pure h
theorem rc_other (hu : A.units < cLine) (X : K.In s.heap) (I : PySem.W.InstAt s.heap x ox C od) (J : PySem.W.InstAt s.heap y oy C od') (hm : PySem.W.mroIn K C (.type "object") = some true)
    (hs : PySem.W.findIn K (.ref C) "__eq__" = some (some (.builtin "object.__eq__"))) (hx : s.heap.get? x = some ox) (hy : s.heap.get? y = some oy) (hnt : ox.cls ≠ .type "tuple") (hnt' : oy.cls ≠ .type "tuple") (hxy : x ≠ y) :
    RcAt A s (.ref x) (.ref y) false := fun prog w E Q h => by
  have one : wpAny (model prog w) A (tryCompare (.ref x) "__eq__" (.ref y)) (fun r s' => r = none ∧ s' = s) E s := by
    unfold tryCompare
    exact wpAny_bind (HN.ifBound_objEq X I hs (call_other X I hm hx hy hnt hxy (wpAny_pure ⟨rfl, rfl⟩)))
  have two : wpAny (model prog w) A (tryCompare (.ref y) "__eq__" (.ref x)) (fun r s' => r = none ∧ s' = s) E s := by
    unfold tryCompare
    exact wpAny_bind (HN.ifBound_objEq X J hs (call_other X J hm hy hx hnt' hxy.symm (wpAny_pure ⟨rfl, rfl⟩)))
  simp only [richCompare, cmpInfo_Eq, oneThing_ref]
  refine wpAny_holding (wpAny_bind (wpAny_cRoomFor hu ?_))
  refine wpAny_bind (I.type.here (wpAny_bind (J.type.here ?_)))
  split
  · rename_i q
    exact absurd q (by simp)
  · refine wpAny_bind (wpAny_pure ?_)
    simp only [Bool.false_eq_true, if_false, Bool.not_false, if_true]
    refine wpAny_bind (wpAny_mono one (fun r s1 z => ?_) fun _ _ e => e)
    obtain ⟨rfl, rfl⟩ := z
    refine wpAny_bind (m := tryCompare (.ref y) _ (.ref x)) (wpAny_mono two (fun r s2 z => ?_) fun _ _ e => e)
    obtain ⟨rfl, rfl⟩ := z
    refine wpAny_bind (wpAny_rule (wpAny_bind ?_))
    exact wpAny_isSame_ref_other hxy hx hy hnt (wpAny_pure h)
end
end KR
namespace KX
open PySem PySem.Spec PyProof.Rows L2
section
variable {X : Cx}
/-- two instances of one class without an order of its own: the same or not -/
def rEqI (C : Addr) : V → V → Hp → VK → Prop := fun x y H Q => ∃ a b dx dy fs gs, x = .ref a ∧ y = .ref b ∧ H a = some (.ins C dx fs) ∧ H b = some (.ins C dy gs) ∧ Q (.bl (decide (a = b))) H
structure EqI (K : PySem.W.Frag) (C : Addr) : Prop where
  hm : PySem.W.mroIn K C (.type "object") = some true
  hs : PySem.W.findIn K (.ref C) "__eq__" = some (some (.builtin "object.__eq__"))
theorem op_eqI {C : Addr} (c : EqI X.K C) (hu : X.A.units < cLine) : OpR X (compareOp .Eq) (rEqI C) := by
  intro pins s σ H x y u v Q I rx ry h
  obtain ⟨a, b, dx, dy, fs, gs, rfl, rfl, ha, hb, q⟩ := h
  cases rx
  cases ry
  obtain ⟨mA, O, _⟩ := ins_get I.hok ha
  obtain ⟨od, J, _⟩ := O.look
  obtain ⟨mB, O', _⟩ := ins_get I.hok hb
  obtain ⟨od', J', _⟩ := O'.look
  by_cases e : a = b
  · subst e
    have z : decide (a = a) = true := decide_eq_true rfl
    rw [z] at q
    exact KR.rc_same hu I.kIn J c.hm c.hs _ _ _ _ ⟨.bl true, H, I, rfl, q⟩
  · have z : decide (a = b) = false := decide_eq_false e
    rw [z] at q
    have h1 := J.1
    have h2 := J'.1
    exact KR.rc_other hu I.kIn J J' c.hm c.hs h1 h2 (by intro z; cases z) (by intro z; cases z) e _ _ _ _ ⟨.bl false, H, I, rfl, q⟩
end

section
variable {P : Program} {w : World} {K : PySem.W.Frag} {mg : Str → Option Value} {base : Heap} {A : Adr}
def rTupS (K : PySem.W.Frag) : List V → Hp → VK → Prop := fun xs H Q => ∃ p ys, xs = [.ref p] ∧ ((SqL K H p ys ∧ ∀ l, H l = none → Q (.ref l) (upd H l (.tup ys))) ∨ (SqT K H p ys ∧ Q (.ref p) H))
def spLaw (K : PySem.W.Frag) : Sp := fun vs H Q _ => ∃ (a : Addr) (ns : List Int), vs = [.ref a] ∧ SqL K H a (ns.map V.int) ∧ ns.length ≤ 63 ∧ ∀ H', Q (.bl true) H'
theorem ok_law (T : Top K mg A) : FnOk P w K mg base CX0 7 A.a_law A.d_law P_law (spLaw K) := by
  refine T.F_law.ok sc_law (fun vs H Q E h => ?_) (fun cdv A' outer s H vs Q E hr h => ?_)
  · obtain ⟨a, ns, rfl, _⟩ := h
    rfl
  · obtain ⟨sa, ns, rfl, hS, hlen, kq⟩ := h
    refine ⟨_, (pss_cons (ps_set (i := 1) sc_law.nd rfl (.inl rfl) (pe_call (ok_law_hand T) (hr.mono (by decide)) (by rfl) T.g_law_hand T.F_law_hand.kp T.b_law_hand .nil pass0 (pa_cons (pv 0) pa_nil)))
    (pss_cons (ps_set (i := 2) sc_law.nd rfl (.inl rfl) (pe_call (ok_law_any T) (hr.mono (by decide)) (by rfl) T.g_law_any T.F_law_any.kp T.b_law_any .nil pass0 (pa_cons (pv 1) (pa_cons (pe_lst (pa_cons pe_int (pa_cons pe_int (pa_cons pe_int pa_nil)))) pa_nil))))
    (pss_cons (ps_set (i := 4) sc_law.nd rfl (.inl rfl) (pe_lst (pa_cons (pe_tup (pa_cons (pe_make T.mk_Ideal (ok_Ideal___init__ T) (hr.mono (by decide)) (by rfl) T.gc_Ideal T.b_Ideal___init__ .nil pass0 (pa_cons (pv 2) pa_nil)) (pa_cons (pe_lc (own := [("_law_output", 3)]) (by rfl) sc_law.nd (pi_range1 rfl T.z_range (pa_cons (pv 2) pa_nil)) (blkOk_by (own := [("_law_output", 3)]) (N := N_law) (sc := defScope s_law) (by decide +kernel)) (fun _ _ _ _ _ => (pg_name (i := 3) sc_law.nd rfl (.inl rfl))) (fun _ _ _ _ _ => pts_nil) (fun _ _ _ _ _ => (pe_lst pa_nil))) pa_nil))) pa_nil)))
    (pss_cons (ps_for PassesOwn.never rfl (pi_range1 rfl T.z_range (pa_cons (pe_op op_add pe_int (pe_call (ok_law_draw T) (hr.mono (by decide)) (by rfl) T.g_law_draw T.F_law_draw.kp T.b_law_draw .nil pass0 (pa_cons (pv 1) (pa_cons pe_int pa_nil)))) pa_nil)) (pg_name (i := 5) sc_law.nd rfl (.inl rfl)) (pss_cons (ps_asg (pe_call (ok_law_any T) (hr.mono (by decide)) (by rfl) T.g_law_any T.F_law_any.kp T.b_law_any .nil pass0 (pa_cons (pv 1) (pa_cons (pv 4) pa_nil))) (pg_tup rfl (pgs_cons (pg_name (i := 6) sc_law.nd rfl (.inl rfl)) (pgs_cons (pg_name (i := 7) sc_law.nd rfl (.inl rfl)) pgs_nil))))
    (pss_cons (ps_par (by rfl) sc_law.nd (i := 3) (j := 8) rfl rfl (by decide) rfl rfl (pa_cons (pe_call (ok_law_draw T) (hr.mono (by decide)) (by rfl) T.g_law_draw T.F_law_draw.kp T.b_law_draw .nil pass0 (pa_cons (pv 1) (pa_cons (pv 2) pa_nil))) (pa_cons (pe_call (ok_law_draw T) (hr.mono (by decide)) (by rfl) T.g_law_draw T.F_law_draw.kp T.b_law_draw .nil pass0 (pa_cons (pv 1) (pa_cons pe_int pa_nil))) pa_nil)) (by rfl))
    (pss_one (ps_if (PW.pt (pw_and (pt_cmpR op_eq (pv 8) pe_int (nomark _)) (pw_and1 (pt_cmpR op_lt (pe_callB call_len_seq (by rfl) T.z_len (by decide +kernel) (pa_cons (pv 4) pa_nil)) pe_int (nomark _))))) (pss_one (ps_expr (pe_bm PySem.F.plainAttrs_list PySem.F.slot_list_append PySem.F.type_list_append mt_append (pv 4) (pa_cons (pe_tup (pa_cons (pe_meth0 (pv 6) T.cl_Ideal T.m_Ideal_copy (ok_Ideal_copy T) (hr.mono (by decide)) T.b_Ideal_copy .nil pass0) (pa_cons (pe_callTy call_list_of (by rfl) T.z_list (by decide +kernel) (pa_cons (pv 7) pa_nil)) pa_nil))) pa_nil)))) (pss_one (ps_if (pt_cmpR op_lt (pv 8) pe_int (nomark _)) (pss_cons (ps_set (i := 9) sc_law.nd rfl (.inl rfl) (pe_call (ok_law_key T) (hr.mono (by decide)) (by rfl) T.g_law_key T.F_law_key.kp T.b_law_key .nil pass0 (pa_cons (pv 1) (pa_cons pe_int pa_nil))))
    (pss_one (ps_if (pt_cmpR op_notIn_seq (pe_ix ix_tup (pv 9) pe_int (fun _ _ => rfl)) (pe_lc (own := [("_law_rank", 16), ("_law_cell", 17)]) (by rfl) sc_law.nd (pi_list (pe_ix ix_list (pv 7) (pv 3) (fun _ _ => rfl))) (blkOk_by (own := [("_law_rank", 16), ("_law_cell", 17)]) (N := N_law) (sc := defScope s_law) (by decide +kernel)) (fun _ _ _ _ _ => (show PG _ _ (gTup K 2 _) from (pg_tup rfl (pgs_cons (pg_name (i := 16) sc_law.nd rfl (.inl rfl)) (pgs_cons (pg_name (i := 17) sc_law.nd rfl (.inl rfl)) pgs_nil))))) (fun _ _ _ _ _ => pts_nil) (fun _ _ _ _ _ => (pv 17))) (by rfl)) (pss_cons (ps_expr (pe_meth (pv 6) T.cl_Ideal T.m_Ideal_push (ok_Ideal_push T) (hr.mono (by decide)) T.b_Ideal_push .nil pass0 (pa_cons (pv 3) (pa_cons (pv 9) pa_nil))))
    (pss_one (ps_asg (pe_call (ok_law_inserted T) (hr.mono (by decide)) (by rfl) T.g_law_inserted T.F_law_inserted.kp T.b_law_inserted .nil pass0 (pa_cons (pe_ix ix_list (pv 7) (pv 3) (fun _ _ => rfl)) (pa_cons (pv 9) pa_nil))) (pg_sub (pv 7) (pv 3) set_list)))) pss_nil))) (pss_one (ps_if (pt_cmpR op_gt (pe_callB call_len_seq (by rfl) T.z_len (by decide +kernel) (pa_cons (pe_ix ix_list (pv 7) (pv 3) (fun _ _ => rfl)) pa_nil)) pe_int (nomark _)) (pss_cons (ps_if (pt_cmpR (op_neD hr.units) (pe_meth (pv 6) T.cl_Ideal T.m_Ideal_let_go (ok_Ideal_let_go T) (hr.mono (by decide)) T.b_Ideal_let_go .nil pass0 (pa_cons (pv 3) pa_nil)) (pe_ix ix_list (pe_ix ix_list (pv 7) (pv 3) (fun _ _ => rfl)) pe_int (fun _ _ => rfl)) (nomark _)) (pss_one (ps_ret pe_bl)) pss_nil)
    (pss_one (ps_asg (pe_slice sl_list (pe_ix ix_list (pv 7) (pv 3) (fun _ _ => rfl)) (po_some pe_int) po_none) (pg_sub (pv 7) (pv 3) set_list)))) pss_nil)))))))))
    (pss_cons (ps_for PassesOwn.never rfl (pi_enum (by rfl) T.z_enumerate (pa_cons (pv 4) pa_nil)) (pg_tup rfl (pgs_cons (pg_name (i := 10) sc_law.nd rfl (.inl rfl)) (pgs_cons (pg_tup rfl (pgs_cons (pg_name (i := 11) sc_law.nd rfl (.inr rfl)) (pgs_cons (pg_name (i := 7) sc_law.nd rfl (.inl rfl)) pgs_nil))) pgs_nil))) (pss_cons (ps_if (pt_cmpR (op_neD hr.units) (pe_lc (own := [("_law_output", 3)]) (by rfl) sc_law.nd (pi_range1 rfl T.z_range (pa_cons (pv 2) pa_nil)) (blkOk_by (own := [("_law_output", 3)]) (N := N_law) (sc := defScope s_law) (by decide +kernel)) (fun _ _ _ _ _ => (pg_name (i := 3) sc_law.nd rfl (.inl rfl))) (fun _ _ _ _ _ => pts_nil) (fun _ _ _ _ _ => (pe_meth (pv 11) T.cl_Ideal T.m_Ideal_held (ok_Ideal_held T) (hr.mono (by decide)) T.b_Ideal_held .nil pass0 (pa_cons (pv 3) pa_nil)))) (pe_lc (own := [("_law_row", 15)]) (by rfl) sc_law.nd (pi_list (pv 7)) (blkOk_by (own := [("_law_row", 15)]) (N := N_law) (sc := defScope s_law) (by decide +kernel)) (fun _ _ _ _ _ => (pg_name (i := 15) sc_law.nd rfl (.inl rfl))) (fun _ _ _ _ _ => pts_nil) (fun _ _ _ _ _ => (pe_callTy (show CallR _ _ (rTupS K) from call_tuple_of) (by rfl) T.z_tuple (by decide +kernel) (pa_cons (pv 15) pa_nil)))) (nomark _)) (pss_one (ps_ret pe_bl)) pss_nil)
    (pss_cons (ps_setLc (i := 12) (own := [("_law_other", 13), ("_law_more", 14)]) (by rfl) sc_law.nd rfl rfl (sw_true rfl rfl rfl (by decide +kernel)) (pi_list (pv 4)) (blkOk_by (own := [("_law_other", 13), ("_law_more", 14)]) (N := N_law) (sc := defScope s_law) (by decide +kernel)) (fun _ _ _ _ _ => (show PG _ _ (gTup K 2 _) from (pg_tup rfl (pgs_cons (pg_name (i := 13) sc_law.nd rfl (.inl rfl)) (pgs_cons (pg_name (i := 14) sc_law.nd rfl (.inl rfl)) pgs_nil))))) (fun _ _ _ _ _ => pts_nil) (fun _ _ _ _ _ => (pe_cmpR (op_eqI (C := A.c_Ideal) ⟨T.em_Ideal, T.es_Ideal⟩ hr.units0) (pv 11) (pv 13) (nomark _))))
    (pss_one (ps_if (PW.pt (pw_or (pt_cmpR op_ne (pe_bm PySem.F.plainAttrs_list PySem.F.slot_list_count PySem.F.type_list_count mt_count_bl (pv 12) (pa_cons pe_bl pa_nil)) pe_int (nomark _)) (pw_or1 (pt_cmpR op_ne (pe_bm PySem.F.plainAttrs_list PySem.F.slot_list_index PySem.F.type_list_index mt_index (pv 12) (pa_cons pe_bl pa_nil)) (pv 10) (nomark _))))) (pss_one (ps_ret pe_bl)) pss_nil)))))
    (pss_one (ps_ret pe_bl))))))), ?_⟩
    -- the hand
    refine ⟨_, rfl, sa, ns, rfl, hS, hlen, fun H1 h g s1 _ _ ha1 => ?_⟩
    -- outputs
    refine ⟨_, rfl, (by show 3 ≤ sizeLine; decide), fun l hl => ?_⟩
    have hlh := ha1.ne_none hl
    refine ⟨h, g, l, _, rfl, ha1.same (same_upd hl), SqL.of upd_same, fun H' b => SqL.of (by rw [b l hlh]; exact upd_same), by show 0 < 3; decide, by show 3 ≤ 100000; decide, fun H2 j v b2 ha2 hv => ?_⟩
    have hmem := List.mem_of_getElem? hv
    obtain ⟨n, rfl, hn1, hn2⟩ : ∃ n : Nat, v = .int (n : Int) ∧ 1 ≤ n ∧ n ≤ 12 := by
      simp only [List.mem_cons, List.not_mem_nil, or_false] at hmem
      rcases hmem with e | e | e <;> subst e
      · exact ⟨1, rfl, by decide, by decide⟩
      · exact ⟨2, rfl, by decide, by decide⟩
      · exact ⟨5, rfl, by decide, by decide⟩
    -- every
    refine ⟨_, rfl, fun x dx hx hdx hne => ?_⟩
    refine ⟨x, dx, n, rfl, hn1, hn2, upd_same, fun H3 R b k3 hR hb injb eX eR eB => ⟨rfl, ?_⟩⟩
    have s23 : Same H2 H3 := fun q o e => k3 q o (ne_of_none e hx) (by rw [upd_ne (ne_of_none e hx), upd_ne (ne_of_none e hdx)]; exact e)
    have ha3 := ha2.same s23
    have gz : ∃ o, H2 g = some o := by
      obtain ⟨ms, e⟩ := ha2.cells
      exact ⟨_, e⟩
    obtain ⟨og, eg2⟩ := gz
    have new2 : ∀ {y : Addr}, (upd (upd H2 dx (.own x)) x (.ins A.c_Ideal dx [])) y = none → H2 y = none := fun {y} e => by
      cases q : H2 y with
      | none => rfl
      | some o =>
        rw [upd_ne (ne_of_none q hx), upd_ne (ne_of_none q hdx), q] at e
        cases e
    have nR := new2 hR
    have nb := fun j hj => new2 (hb j hj).1
    refine ⟨_, rfl, (n : Int), rfl, by omega, by omega, fun D hD => ?_⟩
    refine lc_range (lo := 0) (n := (n : Int).toNat) (fun i H' => ∃ b' : Nat → Addr, Same H3 H' ∧ H' D = some (.lst (rowsV i b')) ∧ (∀ j, j < i → H3 (b' j) = none ∧ b' j ≠ D ∧ H' (b' j) = some (.lst [])) ∧ ∀ p q, p < i → q < i → b' p = b' q → p = q)
      ⟨fun _ => 0, same_upd hD, upd_same, fun j hj => absurd hj (Nat.not_lt_zero _), fun p q hp => absurd hp (Nat.not_lt_zero _)⟩ ?_ ?_
    · rintro i H' hi ⟨b', s2, d1, hb', inj⟩
      refine ⟨rfl, ?_⟩
      refine ⟨Nat.zero_le _, fun p hp => ?_⟩
      have hpD : p ≠ D := fun e => by
        rw [e, d1] at hp
        cases hp
      refine ⟨_, by rw [upd_ne hpD.symm]; exact d1, by rw [rowsV_len]; exact small1000 (by omega), ?_⟩
      exact rows_next (H := H3) (c := fun _ => []) s2 hD d1 hb' inj hp
    · rintro H5 ⟨aa, s35, eD, hA, _⟩
      rw [Int.toNat_natCast] at eD hA
      refine ⟨(by show 2 ≤ sizeLine; decide), fun Tp hTp => ?_⟩
      refine ⟨(by show 1 ≤ sizeLine; decide), fun L hL => ?_⟩
      obtain ⟨D0, w0⟩ := WI.first (n := n) ha3 ⟨⟨dx, eX⟩, eR, eB⟩ (fun j hj => (hb j hj).2) injb ⟨ha2.ne_none hx, (ne_of_none eg2 hx).symm⟩ ⟨ha2.ne_none nR, (ne_of_none eg2 nR).symm⟩ (fun j hj => ⟨ha2.ne_none (nb j hj), (ne_of_none eg2 (nb j hj)).symm⟩) s35 hD eD hA hTp hL
      -- the loop
      refine ⟨_, rfl, h, g, 40, rfl, w0.hand, by decide, by decide, fun H7 d b7 ha7 d0 d1 => ?_⟩
      have w7 := w0.handed b7.kp ha7
      refine ⟨_, _, rfl, rfl, _, rfl, by omega, by omega, ?_⟩
      refine for_range (lo := 0) (n := (10 + d).toNat) (fun i σ H' => ∃ (N : Nat) (Dt : Dat) (y3 y5 y6 y7 y8 y9 : Option V), σ = [some (.ref sa), some (.ref h), some (.int (n : Int)), y3, some (.ref L), y5, y6, y7, y8, y9, none, none, none, none, none, none, none, none] ∧ 1 ≤ N ∧ N ≤ 8 ∧ WI A.c_Ideal h g L n N i Dt H')
        ⟨1, D0, none, none, none, none, none, none, rfl, Nat.le_refl _, by decide, w7⟩ ?_ ?_
      · rintro i σ H8 hi ⟨N, Dt, y3, y5, y6, y7, y8, y9, rfl, hN1, hN8, w8⟩
        have hLh : L ≠ h := own_ne w8.L.1 w8.oh (by intro z; cases z)
        refine ⟨_, rfl, _, rfl, h, g, L, rowsV N Dt.T, rfl, w8.hand, SqL.of w8.L.2, fun H' b => SqL.of (by rw [b L hLh]; exact w8.L.2), by rw [rowsV_len]; exact hN1, by rw [rowsV_len]; omega, fun H9 k v b9 ha9 hv => ?_⟩
        have hk : k < N := by
          have q := (List.getElem?_eq_some_iff.mp hv).1
          rw [rowsV_len] at q
          exact q
        rw [rowsV_at hk] at hv
        cases hv
        have w9 := w8.handed b9.kp ha9
        refine ⟨Dt.T k, _, rfl, SqT.of (w9.T k hk).2, rfl, _, _, rfl, _, _, rfl, rfl, ?_⟩
        -- output, kind
        refine ⟨_, rfl, _, rfl, h, g, (n : Int), rfl, w9.hand, by omega, by omega, fun H10 o b10 ha10 o0 o1 => ?_⟩
        refine ⟨_, rfl, h, g, 6, rfl, ha10, by decide, by decide, fun H11 kk b11 ha11 _ _ => ⟨_, _, rfl, ?_⟩⟩
        have w11 := (w9.handed b10.kp ha10).handed b11.kp ha11
        obtain ⟨j, rfl⟩ := Int.eq_ofNat_of_zero_le o0
        have hj : j < n := by omega
        clear o0 o1
        have er := (w11.r k hk).2
        have ea := (w11.a k j hk hj).2
        have eb := (w11.b k j hk hj).2
        obtain ⟨dxk, exk⟩ := (w11.x k hk).2
        have hlen : (Dt.c k j).length < 100000 := Nat.lt_of_le_of_lt (w11.len k j hk hj) (by omega)
        refine ⟨_, rfl, rfl, _, rfl, ite2 (fun _ => ?_) (fun _ => iteF ?_)⟩
        refine ⟨_, rfl, L, _, rfl, .inl (SqL.of w11.L.2), _, _, rfl, rfl, _, rfl, ite2 (fun c2 => ?_) (fun _ => ?_)⟩
        · -- a copy
          have hN : N < 8 := by
            have q := of_decide_eq_true c2
            rw [rowsV_len] at q
            omega
          refine ⟨_, rfl, .inl ⟨rfl, _, SqL.of w11.L.2⟩, _, rfl, Dt.x k, dxk, _, rfl, exk, rfl, Dt.x k, Dt.R k, n, Dt.b k, Dt.c k, rfl, w11.rows hk, hn1, hn2, fun H12 x' R' b' s12 nx' nR' nb' inj' I' => ?_⟩
          refine ⟨_, rfl, Dt.r k, _, rfl, .inl (SqL.of (s12 _ _ er)), fun r' nr' => ?_⟩
          have s13 := same_to s12 (s12.free nr') (o := .lst (rowsV n (Dt.a k)))
          refine ⟨(by show 2 ≤ sizeLine; decide), fun T' nT' => ?_⟩
          have s14 := same_to s13 (s13.free nT') (o := .tup [.ref x', .ref r'])
          have hTr : T' ≠ r' := fun e => by
            rw [e, upd_same] at nT'
            cases nT'
          have r12 : ∀ {y : Addr} {u : HO}, H12 y = some u → y ≠ r' := fun e => ne_of_none e nr'
          have t12 : ∀ {y : Addr} {u : HO}, H12 y = some u → y ≠ T' := fun {y u} e => by
            refine ne_of_none (o := u) ?_ nT'
            rw [upd_ne (r12 e)]
            exact e
          have l12 : ∀ {y : Addr} {u : HO}, H12 y = some u → y ≠ L → upd (upd (upd H12 r' (.lst (rowsV n (Dt.a k)))) T' (.tup [.ref x', .ref r'])) L (.lst (rowsV N Dt.T ++ [.ref T'])) y = some u := fun {y u} e hy => by
            rw [upd_ne hy, upd_ne (t12 e), upd_ne (r12 e)]
            exact e
          refine ⟨L, _, _, rfl, rfl, s14 _ _ w11.L.2, by rw [rowsV_len]; exact small1000 (by omega), ?_⟩
          obtain ⟨⟨dx', ex'⟩, eR', eb'⟩ := id I'
          have nL : ∀ {y : Addr}, H11 y = none → y ≠ L := fun e => (ne_of_none w11.L.2 e).symm
          have nr11 := s12.free nr'
          have nT11 := s13.free nT'
          obtain ⟨D', w'⟩ := w11.add (T' := T') (x' := x') (R' := R') (r' := r') (b' := b') (a' := Dt.a k) (c' := Dt.c k) (H' := upd (upd (upd H12 r' (.lst (rowsV n (Dt.a k)))) T' (.tup [.ref x', .ref r'])) L (.lst (rowsV N Dt.T ++ [.ref T'])))
            (fun q u hq e => by rw [upd_ne hq]; exact s14 _ _ e) upd_same (w11.dom _ nT11) (w11.dom _ nx') (w11.dom _ nR') (w11.dom _ nr11) (fun i hi => w11.dom _ (nb' i hi).1) inj' (r12 eR') (fun i hi => (nb' i hi).2) (fun i hi => r12 (eb' i hi))
            (by rw [upd_ne (nL nT11), upd_same]) ⟨⟨dx', l12 ex' (nL nx')⟩, l12 eR' (nL nR'), fun i hi => l12 (eb' i hi) (nL (nb' i hi).1)⟩ (by rw [upd_ne (nL nr11), upd_ne hTr.symm, upd_same])
            (fun i hi => ⟨(w11.a k i hk hi).1, l12 (s12 _ _ (w11.a k i hk hi).2) (own_ne (w11.a k i hk hi).1 w11.L.1 (by intro z; cases z))⟩)
            (fun i v hi hv => by
              obtain ⟨q, q1, q2, q3⟩ := w11.ks k i v hk hi hv
              exact ⟨q, q1, q2, l12 (s12 _ _ q3) (own_ne q2 w11.L.1 (by intro z; cases z))⟩) (fun i hi => w11.len k i hk hi) (fun i hi => w11.pw k i hk hi)
          exact ⟨N + 1, D', _, _, _, _, _, _, rfl, by omega, by omega, w'.more (Nat.le_succ i)⟩
        all_goals
          refine ⟨_, rfl, _, _, rfl, rfl, _, rfl, ite2 (fun _ => ?_) (fun _ => ?_)⟩
          · -- a key is pushed
            refine ⟨_, rfl, h, g, 40, rfl, w11.hand, by decide, by decide, fun H12 ka p k12 ha12 nka eka okp => ?_⟩
            have w12 := w11.handed k12 ha12
            obtain ⟨D6, w6, eT6, ex6, eR6, er6, eb6, ea6, ec6, ekd6, eo6⟩ := w12.key (w11.dom _ nka) eka
            have er' := (w6.r k hk).2
            have ea' := (w6.a k j hk hj).2
            have eb' := (w6.b k j hk hj).2
            obtain ⟨dx6, ex'⟩ := (w6.x k hk).2
            rw [er6, ea6] at er'
            rw [ea6, ec6] at ea'
            rw [eb6, ec6] at eb'
            rw [ex6, eR6] at ex'
            have ks6 := w6.keys hk hj
            rw [ec6] at ks6
            have pw6 := w6.pw k j hk hj
            rw [ec6] at pw6
            refine ⟨_, rfl, ka, _, 1, _, rfl, rfl, SqT.of eka, atI_nat (j := 1) rfl, _, rfl, _, rfl, Dt.r k, _, _, _, rfl, rfl, SqL.of er', atI_nat (rowsV_at hj), Dt.a k j, rfl, ⟨_, SqL.of ea'⟩, fun Dl hDl => ?_⟩
            refine lc_list (K := K) (a := Dt.a k j) (xs := Dt.c k j) (fun i H' => Same H12 H' ∧ H' Dl = some (.lst (((Dt.c k j).take i).map fun v => V.int (D6.kd v).2))) ⟨same_upd hDl, upd_same⟩ (fun i H' _ h => SqL.of (h.1 _ _ ea')) ?_ ?_
            · rintro i2 y H' hi2 ⟨s1, d1⟩
              obtain ⟨q, rfl, hq⟩ := ks6 y (List.mem_of_getElem? hi2)
              have hq' := s1 _ _ hq
              refine ⟨q, _, rfl, SqT.of hq', rfl, _, _, rfl, _, _, rfl, rfl, rfl, ?_⟩
              refine ⟨_, rfl, _, d1, ?_, same_to s1 hDl, ?_⟩
              · rw [List.length_map, List.length_take]
                exact Nat.lt_of_le_of_lt (Nat.le_trans (Nat.min_le_right _ _) (Nat.le_of_lt hlen)) (by decide)
              · rw [upd_same, List.take_add_one, hi2, List.map_append]
                rfl
            · rintro H13 ⟨s13, d13⟩
              rw [List.take_length] at d13
              refine ⟨Dl, _, rfl, .inl (SqL.of d13), rfl, flat_ints, _, rfl, ?_⟩
              have w13 := w6.same s13
              show (if (if true = true then !inV (V.int p.2) ((Dt.c k j).map fun v => V.int (D6.kd v).2) else _) = true then _ else _)
              rw [if_pos rfl]
              cases cin : inV (V.int p.2) ((Dt.c k j).map fun v => V.int (D6.kd v).2) with
              | true => exact iteF ⟨N, D6, _, _, _, _, _, _, rfl, hN1, hN8, w13.more (Nat.le_succ i)⟩
              | false =>
                refine iteT ?_
                have hno := notin_back cin
                have ks13 : KeysAt H13 D6.kd (.ref ka :: Dt.c k j) := fun v hv => by
                  rcases List.mem_cons.mp hv with e | hv
                  · rw [e]
                    exact ⟨ka, rfl, by rw [ekd6]; exact s13 _ _ eka⟩
                  · obtain ⟨q, q1, q2⟩ := ks6 v hv
                    exact ⟨q, q1, s13 _ _ q2⟩
                have I13 : RowsAt A.c_Ideal H13 (Dt.x k) (Dt.R k) n (Dt.b k) (Dt.c k) := by
                  have q := w13.rows hk
                  rw [ex6, eR6, eb6, ec6] at q
                  exact q
                refine ⟨_, rfl, Dt.x k, dx6, _, rfl, s13 _ _ ex', rfl, _, rfl, _, rfl, Dt.x k, Dt.R k, n, Dt.b k, Dt.c k, j, ka, D6.kd, rfl, I13, hj, ks13, pw6, by rw [ekd6]; exact okp, hlen, fun v hv => by rw [ekd6]; exact hno v hv, fun H14 k14 e14 => ?_⟩
                have obk : D6.own (Dt.b k j) = some (.b k j) := by
                  have q := (w6.b k j hk hj).1
                  rw [eb6] at q
                  exact q
                have ork : D6.own (Dt.r k) = some (.r k) := by
                  have q := (w6.r k hk).1
                  rw [er6] at q
                  exact q
                have oak : D6.own (Dt.a k j) = some .a := by
                  have q := (w6.a k j hk hj).1
                  rw [ea6] at q
                  exact q
                have er14 := k14 _ _ (own_ne ork obk (by intro z; cases z)) (s13 _ _ er')
                have ea14 := k14 _ _ (own_ne oak obk (by intro z; cases z)) (s13 _ _ ea')
                have ks14 : ∀ v ∈ Dt.c k j, ∃ q, v = .ref q ∧ D6.own q = some .key ∧ Tup2 H14 q (D6.kd v) := fun v hv => by
                  obtain ⟨q, q1, q2, q3⟩ := w13.ks k j v hk hj (by rw [ec6]; exact hv)
                  exact ⟨q, q1, q2, k14 _ _ (own_ne q2 obk (by intro z; cases z)) q3⟩
                have ka14 : Tup2 H14 ka (D6.kd (.ref ka)) := by
                  rw [ekd6]
                  exact k14 _ _ (own_ne eo6 obk (by intro z; cases z)) (s13 _ _ eka)
                refine ⟨_, rfl, _, rfl, Dt.r k, _, _, _, rfl, rfl, SqL.of er14, atI_nat (rowsV_at hj), _, rfl, Dt.a k j, ka, Dt.c k j, D6.kd, rfl, ea14, fun v hv => ?_, hlen, fun H15 p9 s15 n9 e15 => ?_⟩
                · rcases List.mem_cons.mp hv with e | hv
                  · rw [e]
                    exact ⟨ka, rfl, ka14⟩
                  · obtain ⟨q, q1, _, q3⟩ := ks14 v hv
                    exact ⟨q, q1, q3⟩
                have er15 := s15 _ _ er14
                refine ⟨_, rfl, _, rfl, Dt.r k, _, _, j, rfl, rfl, er15, by rw [rowsV_len]; exact ixN_at hj, ?_⟩
                have hpb : p9 ≠ Dt.b k j := (ne_of_none e14 n9).symm
                have hpr : p9 ≠ Dt.r k := (ne_of_none er14 n9).symm
                have n13 : H13 p9 = none := k14.free hpb n9
                obtain ⟨D', w', _⟩ := (w13.more (Nat.le_succ i)).set (H' := upd H15 (Dt.r k) (.lst ((rowsV n (Dt.a k)).set j (.ref p9)))) (k := k) (j := j) (new := insK D6.kd (.ref ka) (Dt.c k j)) (p := p9) hk hj (w13.dom _ n13) (fun q u h1 h2 e => by
                    rw [eb6] at h1
                    rw [er6] at h2
                    rw [upd_ne h2]
                    exact s15 _ _ (k14 _ _ h1 e))
                  (by rw [eb6, upd_ne (own_ne obk ork (by intro z; cases z))]; exact s15 _ _ e14) (by rw [upd_ne hpr]; exact e15) (by rw [er6, ea6, upd_same, rowsV_set hj]) (fun v hv => by
                    rcases insK_mem hv with e | hv
                    · rw [e]
                      exact ⟨ka, rfl, eo6, by rw [Tup2, upd_ne (own_ne eo6 ork (by intro z; cases z))]; exact s15 _ _ ka14⟩
                    · obtain ⟨q, q1, q2, q3⟩ := ks14 v hv
                      exact ⟨q, q1, q2, by rw [Tup2, upd_ne (own_ne q2 ork (by intro z; cases z))]; exact s15 _ _ q3⟩) (by
                    rw [insK_len]
                    have q := w11.len k j hk hj
                    omega) (pw_ins pw6 fun v hv => by rw [ekd6]; exact hno v hv)
                exact ⟨N, D', _, _, _, _, _, _, rfl, hN1, hN8, w'⟩
          · -- the least one leaves
            refine ⟨_, rfl, _, rfl, Dt.r k, _, _, _, rfl, rfl, SqL.of er, atI_nat (rowsV_at hj), Dt.a k j, _, rfl, .inl (SqL.of ea), _, _, rfl, rfl, _, rfl, ite2 (fun c3 => ?_) (fun _ => ⟨N, Dt, _, _, _, _, _, _, rfl, hN1, hN8, w11.more (Nat.le_succ i)⟩)⟩
            obtain ⟨v, rest, ec⟩ : ∃ v rest, Dt.c k j = v :: rest := by
              cases q : Dt.c k j with
              | nil =>
                rw [q] at c3
                exact absurd (of_decide_eq_true c3) (by decide)
              | cons v rest => exact ⟨v, rest, rfl⟩
            obtain ⟨qv, eqv, oqv, hqv⟩ := w11.ks k j v hk hj (by rw [ec]; exact List.mem_cons_self)
            have obk := (w11.b k j hk hj).1
            have ork := (w11.r k hk).1
            have oak := (w11.a k j hk hj).1
            have er2 : (upd H11 (Dt.b k j) (.lst rest)) (Dt.r k) = some (.lst (rowsV n (Dt.a k))) := by
              rw [upd_ne (own_ne ork obk (by intro z; cases z))]
              exact er
            have ea2 : (upd H11 (Dt.b k j) (.lst rest)) (Dt.a k j) = some (.lst (v :: rest)) := by
              rw [upd_ne (own_ne oak obk (by intro z; cases z)), ← ec]
              exact ea
            have hq2 : Tup2 (upd H11 (Dt.b k j) (.lst rest)) qv (Dt.kd v) := by
              rw [Tup2, upd_ne (own_ne oqv obk (by intro z; cases z))]
              exact hqv
            refine ⟨_, rfl, Dt.x k, dxk, _, rfl, exk, rfl, _, rfl, Dt.x k, Dt.R k, n, Dt.b k, Dt.c k, j, v, rest, rfl, w11.rows hk, hj, ec, ?_⟩
            refine ⟨_, rfl, _, rfl, Dt.r k, _, _, _, rfl, rfl, SqL.of er2, atI_nat (rowsV_at hj), Dt.a k j, _, 0, v, rfl, rfl, SqL.of ea2, atI_nat (j := 0) rfl, ?_⟩
            refine ⟨keyD (Dt.kd v), keyD (Dt.kd v), by rw [eqv]; rw [eqv] at hq2; exact dp_key hq2, by rw [eqv]; rw [eqv] at hq2; exact dp_key hq2, sh_key _, sh_key _, ?_⟩
            rw [SeqAt.eqv_refl _ (lay_key _)]
            refine ⟨false, rfl, iteF ?_⟩
            -- rows[output] = rows[output][1:]
            refine ⟨_, rfl, _, rfl, Dt.r k, _, _, _, rfl, rfl, SqL.of er2, atI_nat (rowsV_at hj), _, rfl, Dt.a k j, _, rfl, SqL.of ea2, fun p9 n9 => ?_⟩
            have ecut : cutV (v :: rest) (some 1) none = rest := cut_hi (n := 1) (by rw [List.length_cons]; omega)
            rw [ecut] at *
            have hpr : p9 ≠ Dt.r k := (ne_of_none er2 n9).symm
            have hpb : p9 ≠ Dt.b k j := fun e => by
              rw [e, upd_same] at n9
              cases n9
            have n11 : H11 p9 = none := by
              rw [upd_ne hpb] at n9
              exact n9
            have er3 : (upd (upd H11 (Dt.b k j) (.lst rest)) p9 (.lst rest)) (Dt.r k) = some (.lst (rowsV n (Dt.a k))) := by
              rw [upd_ne hpr.symm]
              exact er2
            refine ⟨_, rfl, _, rfl, Dt.r k, _, _, j, rfl, rfl, er3, by rw [rowsV_len]; exact ixN_at hj, ?_⟩
            obtain ⟨D', w', _⟩ := w11.set (H' := upd (upd (upd H11 (Dt.b k j) (.lst rest)) p9 (.lst rest)) (Dt.r k) (.lst ((rowsV n (Dt.a k)).set j (.ref p9)))) (k := k) (j := j) (new := rest) (p := p9) hk hj (w11.dom _ n11) (fun q u h1 h2 e => by
                rw [upd_ne h2, upd_ne (ne_of_none e n11), upd_ne h1]
                exact e)
              (by rw [upd_ne (own_ne obk ork (by intro z; cases z)), upd_ne hpb.symm, upd_same]) (by rw [upd_ne hpr, upd_same]) (by rw [upd_same, rowsV_set hj]) (fun u hu => by
                obtain ⟨q, q1, q2, q3⟩ := w11.ks k j u hk hj (by rw [ec]; exact List.mem_cons_of_mem _ hu)
                exact ⟨q, q1, q2, by rw [Tup2, upd_ne (own_ne q2 ork (by intro z; cases z)), upd_ne (ne_of_none q3 n11), upd_ne (own_ne q2 obk (by intro z; cases z))]; exact q3⟩) (by
                have q := w11.len k j hk hj
                rw [ec, List.length_cons] at q
                omega) (by
                have q := w11.pw k j hk hj
                rw [ec] at q
                exact pw_tail q)
            exact ⟨N, D', _, _, _, _, _, _, rfl, hN1, hN8, w'.more (Nat.le_succ i)⟩
      · rintro σ H8 ⟨N, Dt, y3, y5, y6, y7, y8, y9, rfl, hN1, hN8, w8⟩
        have hG : ∀ (H' : Hp), WI A.c_Ideal h g L n N (10 + d).toNat Dt H' → SqL K H' L (rowsV N Dt.T) := fun H' w => SqL.of w.L.2
        refine ⟨_, rfl, L, _, rfl, SqL.of w8.L.2, for_it walk_enum (fun i σ H' => ∃ (y3 y5 y6 y7 y8 y9 y10 y11 y12 : Option V), σ = [some (.ref sa), some (.ref h), some (.int (n : Int)), y3, some (.ref L), y5, y6, y7, y8, y9, y10, y11, y12, none, none, none, none, none] ∧ WI A.c_Ideal h g L n N (10 + d).toNat Dt H')
          ⟨_, _, _, _, _, _, _, _, _, rfl, w8⟩ (fun i σ H' _ ⟨_, _, _, _, _, _, _, _, _, _, w⟩ => hG H' w) ?_ ?_⟩
        · rintro k v σ H9 H9' hk ⟨z3, z5, z6, z7, z8, z9, z10, z11, z12, rfl, w9⟩ ⟨Tt, x1, x2, rfl, nT, rfl, e1, e2⟩
          rw [rowsV_len] at hk
          cases e1
          have e2 : (rowsV N Dt.T)[k]? = some x2 := e2
          rw [rowsV_at hk] at e2
          cases e2
          have w10 := w9.same (same_upd nT (o := .tup [.int (k : Int), .ref (Dt.T k)]))
          obtain ⟨dxk, exk⟩ := (w10.x k hk).2
          refine ⟨Tt, _, rfl, SqT.of upd_same, rfl, _, _, rfl, _, _, rfl, Dt.T k, _, rfl, SqT.of (w10.T k hk).2, rfl, _, _, rfl, _, _, rfl, rfl, rfl, ?_⟩
          -- [held ..] != [tuple ..]
          refine ⟨_, rfl, (n : Int), rfl, by omega, by omega, fun D1 hD1 => ?_⟩
          refine lc_range (lo := 0) (n := (n : Int).toNat) (fun i H' => ∃ t : Nat → Addr, Same (upd H9 Tt (.tup [.int (k : Int), .ref (Dt.T k)])) H' ∧ H' D1 = some (.lst (rowsV i t)) ∧ ∀ j, j < i → t j ≠ D1 ∧ H' (t j) = some (.tup (Dt.c k j)))
            ⟨fun _ => 0, same_upd hD1, upd_same, fun j hj => absurd hj (Nat.not_lt_zero _)⟩ ?_ ?_
          · rintro i H' hi ⟨t, s1, d1, ht⟩
            refine ⟨rfl, ?_⟩
            have hin : i < n := by omega
            have w' := w10.same s1
            obtain ⟨dx2, ex2⟩ := (w'.x k hk).2
            refine ⟨_, rfl, Dt.x k, dx2, _, rfl, ex2, rfl, _, rfl, Dt.x k, Dt.R k, n, Dt.b k, Dt.c k, i, by rw [Int.zero_add]; rfl, w'.rows hk, hin, fun p np => ?_⟩
            have hpD : p ≠ D1 := fun e => by
              rw [e, d1] at np
              cases np
            refine ⟨_, by rw [upd_ne hpD.symm]; exact d1, by rw [rowsV_len]; exact small1000 (by omega), fun j => if j = i then p else t j, same_to (same_to s1 (s1.free np)) hD1, ?_, ?_⟩
            · rw [upd_same, rowsV_succ, if_pos rfl]
              congr 2
              congr 1
              exact rowsV_congr fun j hj => (if_neg (Nat.ne_of_lt hj)).symm
            · intro j hj
              dsimp only
              by_cases e : j = i
              · rw [if_pos e, e]
                exact ⟨hpD, by rw [upd_ne hpD, upd_same]⟩
              · rw [if_neg e]
                obtain ⟨a1, a2⟩ := ht j (by omega)
                exact ⟨a1, by rw [upd_ne a1, upd_ne (ne_of_none a2 np)]; exact a2⟩
          rintro H10 ⟨t, s1, d1, ht⟩
          rw [Int.toNat_natCast] at d1 ht
          have w11 := w10.same s1
          refine ⟨_, rfl, Dt.r k, rfl, ⟨_, SqL.of (w11.r k hk).2⟩, fun D2 hD2 => ?_⟩
          refine lc_list (K := K) (a := Dt.r k) (xs := rowsV n (Dt.a k)) (fun i H' => ∃ u : Nat → Addr, Same H10 H' ∧ H' D2 = some (.lst (rowsV i u)) ∧ ∀ j, j < i → u j ≠ D2 ∧ H' (u j) = some (.tup (Dt.c k j)))
            ⟨fun _ => 0, same_upd hD2, upd_same, fun j hj => absurd hj (Nat.not_lt_zero _)⟩ (fun i H' _ ⟨_, s2, _⟩ => SqL.of (s2 _ _ (w11.r k hk).2)) ?_ ?_
          · rintro i y H' hi ⟨u, s2, d2, hu⟩
            have hin : i < n := by
              have q := (List.getElem?_eq_some_iff.mp hi).1
              rw [rowsV_len] at q
              exact q
            rw [rowsV_at hin] at hi
            cases hi
            refine ⟨rfl, ?_⟩
            refine ⟨_, rfl, Dt.a k i, Dt.c k i, rfl, .inl ⟨SqL.of (s2 _ _ (w11.a k i hk hin).2), fun p np => ?_⟩⟩
            have hpD : p ≠ D2 := fun e => by
              rw [e, d2] at np
              cases np
            refine ⟨_, by rw [upd_ne hpD.symm]; exact d2, by rw [rowsV_len]; exact small1000 (by omega), fun j => if j = i then p else u j, same_to (same_to s2 (s2.free np)) hD2, ?_, ?_⟩
            · rw [upd_same, rowsV_succ, if_pos rfl]
              congr 2
              congr 1
              exact rowsV_congr fun j hj => (if_neg (Nat.ne_of_lt hj)).symm
            · intro j hj
              dsimp only
              by_cases e : j = i
              · rw [if_pos e, e]
                exact ⟨hpD, by rw [upd_ne hpD, upd_same]⟩
              · rw [if_neg e]
                obtain ⟨a1, a2⟩ := hu j (by omega)
                exact ⟨a1, by rw [upd_ne a1, upd_ne (ne_of_none a2 np)]; exact a2⟩
          rintro H11 ⟨u, s2, d2, hu⟩
          rw [rowsV_len] at d2 hu
          have w12 := w11.same s2
          have ksA : ∀ j ∈ List.range n, KeysAt H11 Dt.kd (Dt.c k j) := fun j hj => w12.keys hk (List.mem_range.mp hj)
          refine ⟨.list (tabD Dt.kd (Dt.c k) (List.range n)), .list (tabD Dt.kd (Dt.c k) (List.range n)), .lst (SqL.of (s2 _ _ d1)) (dp_tab fun j hj => ⟨s2 _ _ (ht j (List.mem_range.mp hj)).2, ksA j hj⟩),
            .lst (SqL.of d2) (dp_tab fun j hj => ⟨(hu j (List.mem_range.mp hj)).2, ksA j hj⟩), sh_tab _ _ _, sh_tab _ _ _, ?_⟩
          rw [SeqAt.eqv_refl _ (show PyData.canLay0 (.list (tabD Dt.kd (Dt.c k) (List.range n))) = true from lay_tab _ _ _)]
          refine ⟨false, rfl, iteF ?_⟩
          -- alike
          refine ⟨_, rfl, L, rfl, ⟨_, SqL.of w12.L.2⟩, fun D3 hD3 => ?_⟩
          refine lc_list (K := K) (a := L) (xs := rowsV N Dt.T) (fun i H' => Same H11 H' ∧ H' D3 = some (.lst (((List.range i).map fun m => decide (k = m)).map V.bl)))
            ⟨same_upd hD3, upd_same⟩ (fun i H' _ h => SqL.of (h.1 _ _ w12.L.2)) ?_ ?_
          · rintro m y H' hm ⟨s3, d3⟩
            have hmN : m < N := by
              have q := (List.getElem?_eq_some_iff.mp hm).1
              rw [rowsV_len] at q
              exact q
            rw [rowsV_at hmN] at hm
            cases hm
            have w13 := w12.same s3
            obtain ⟨dx1, q1⟩ := (w13.x k hk).2
            obtain ⟨dx2, q2⟩ := (w13.x m hmN).2
            refine ⟨Dt.T m, _, rfl, SqT.of (w13.T m hmN).2, rfl, _, _, rfl, _, _, rfl, rfl, rfl, ?_⟩
            refine ⟨_, rfl, _, rfl, Dt.x k, Dt.x m, dx1, dx2, _, _, rfl, rfl, q1, q2, ?_⟩
            refine ⟨_, d3, by rw [List.length_map, List.length_map, List.length_range]; exact small1000 (by omega), same_to s3 hD3, ?_⟩
            have ed : decide (Dt.x k = Dt.x m) = decide (k = m) := by
              by_cases e : k = m
              · rw [e, decide_eq_true rfl, decide_eq_true rfl]
              · rw [decide_eq_false e, decide_eq_false (own_ne (w13.x k hk).1 (w13.x m hmN).1 (by intro z; cases z; exact e rfl))]
            rw [upd_same, List.range_succ, List.map_append, List.map_append, ed]
            rfl
          rintro H12 ⟨s3, d3⟩
          rw [rowsV_len] at d3
          have w13 := w12.same s3
          refine ⟨_, rfl, .inl ⟨rfl, _, SqL.of d3⟩, D3, _, true, rfl, rfl, SqL.of d3, rfl, ?_⟩
          rw [count_range hk]
          refine ⟨_, rfl, iteF ?_⟩
          refine ⟨_, rfl, .inl ⟨rfl, _, SqL.of d3⟩, D3, _, .bl true, k, .bl true, rfl, rfl, SqL.of d3, rfl, ?_, ?_, rfl, ?_, _, rfl, rfl, ?_⟩
          · rw [List.all_eq_true]
            intro y hy
            obtain ⟨b, _, rfl⟩ := List.mem_map.mp hy
            rfl
          · rw [List.getElem?_map, List.getElem?_map, List.getElem?_range hk]
            show some (V.bl (decide (k = k))) = _
            rw [decide_eq_true rfl]
          · intro m z hm hz
            rw [List.getElem?_map, List.getElem?_map, List.getElem?_range (by omega)] at hz
            have e : V.bl (decide (k = m)) = z := Option.some.inj hz
            rw [decide_eq_false (by omega)] at e
            rw [← e]
            rfl
          · rw [decide_eq_true rfl]
            refine ⟨_, rfl, iteF ?_⟩
            exact ⟨_, _, _, _, _, _, _, _, _, rfl, w13⟩
        · rintro σ H9 ⟨z3, z5, z6, z7, z8, z9, z10, z11, z12, rfl, w9⟩
          exact kq H9
end

theorem end_mk {l : PySem.W.OpenLaw} {w : World} {K : PySem.W.Frag} {mg : Str → Option Value} {fa f_law : Addr} {kV dc pm cd ct : Value} {an : Option Addr} (E : ∃ A : Adr, Top K mg A ∧ A.d_law = PySem.W.fnOf "law" "law" (defArgs s_law) (defBody s_law) (defScope s_law) .none kV dc pm an cd ct ∧ A.a_law = f_law) (hfa : mg "law" = some (.ref fa)) :
    ∃ fd : FuncData, (∀ (s : Shared) (v : Value), BindsTo s fd ⟨[v], []⟩ [("_law_script", v)]) ∧ ∀ base : Heap, K.In base → base.Ns mainGlobals mg → FnOk l.prog w K mg base CX0 7 fa fd ["_law_script"] (spLaw K) := by
  obtain ⟨A, T, ed, ea⟩ := E
  have e := hfa.symm.trans T.g_law
  cases e
  exact ⟨A.d_law, fun s v => by rw [ed]; exact .of_eq rfl, fun base _ _ => ok_law T⟩
theorem top_end {l : PySem.W.OpenLaw} {w : World} {K : PySem.W.Frag} {h : Heap} {mg : Str → Option Value} {fa : Addr} (X : K.In h) (G : h.Ns mainGlobals mg) (hfa : mg "law" = some (.ref fa))
    {f_wall : Addr} {od_wall an_wall : Option Addr} {sl_wall : Array (Option Value)} {oc_wall kV_wall dc_wall pm_wall cd_wall ct_wall : Value}
    {f_is_integer : Addr} {od_is_integer an_is_integer : Option Addr} {sl_is_integer : Array (Option Value)} {oc_is_integer kV_is_integer dc_is_integer pm_is_integer cd_is_integer ct_is_integer : Value}
    {f_is_integer_from : Addr} {od_is_integer_from an_is_integer_from : Option Addr} {sl_is_integer_from : Array (Option Value)} {oc_is_integer_from kV_is_integer_from dc_is_integer_from pm_is_integer_from cd_is_integer_from ct_is_integer_from : Value}
    {f_is_number_below : Addr} {od_is_number_below an_is_number_below : Option Addr} {sl_is_number_below : Array (Option Value)} {oc_is_number_below kV_is_number_below dc_is_number_below pm_is_number_below cd_is_number_below ct_is_number_below : Value}
    {f_is_tuple_of : Addr} {od_is_tuple_of an_is_tuple_of : Option Addr} {sl_is_tuple_of : Array (Option Value)} {oc_is_tuple_of kV_is_tuple_of dc_is_tuple_of pm_is_tuple_of cd_is_tuple_of ct_is_tuple_of : Value}
    {f_check_lines : Addr} {od_check_lines an_check_lines : Option Addr} {sl_check_lines : Array (Option Value)} {oc_check_lines kV_check_lines dc_check_lines pm_check_lines cd_check_lines ct_check_lines : Value}
    {f_is_cell_number : Addr} {od_is_cell_number an_is_cell_number : Option Addr} {sl_is_cell_number : Array (Option Value)} {oc_is_cell_number kV_is_cell_number dc_is_cell_number pm_is_cell_number cd_is_cell_number ct_is_cell_number : Value}
    {f_is_rank : Addr} {od_is_rank an_is_rank : Option Addr} {sl_is_rank : Array (Option Value)} {oc_is_rank kV_is_rank dc_is_rank pm_is_rank cd_is_rank ct_is_rank : Value}
    {f_is_key : Addr} {od_is_key an_is_key : Option Addr} {sl_is_key : Array (Option Value)} {oc_is_key kV_is_key dc_is_key pm_is_key cd_is_key ct_is_key : Value}
    {f_check_key : Addr} {od_check_key an_check_key : Option Addr} {sl_check_key : Array (Option Value)} {oc_check_key kV_check_key dc_check_key pm_check_key cd_check_key ct_check_key : Value}
    {f_how_many_less : Addr} {od_how_many_less an_how_many_less : Option Addr} {sl_how_many_less : Array (Option Value)} {oc_how_many_less kV_how_many_less dc_how_many_less pm_how_many_less cd_how_many_less ct_how_many_less : Value}
    {f_Ideal___init__ : Addr} {od_Ideal___init__ an_Ideal___init__ : Option Addr} {sl_Ideal___init__ : Array (Option Value)} {oc_Ideal___init__ kV_Ideal___init__ dc_Ideal___init__ pm_Ideal___init__ cd_Ideal___init__ ct_Ideal___init__ : Value}
    {f_Ideal__row : Addr} {od_Ideal__row an_Ideal__row : Option Addr} {sl_Ideal__row : Array (Option Value)} {oc_Ideal__row kV_Ideal__row dc_Ideal__row pm_Ideal__row cd_Ideal__row ct_Ideal__row : Value}
    {f_Ideal_push : Addr} {od_Ideal_push an_Ideal_push : Option Addr} {sl_Ideal_push : Array (Option Value)} {oc_Ideal_push kV_Ideal_push dc_Ideal_push pm_Ideal_push cd_Ideal_push ct_Ideal_push : Value}
    {f_Ideal_due : Addr} {od_Ideal_due an_Ideal_due : Option Addr} {sl_Ideal_due : Array (Option Value)} {oc_Ideal_due kV_Ideal_due dc_Ideal_due pm_Ideal_due cd_Ideal_due ct_Ideal_due : Value}
    {f_Ideal_let_go : Addr} {od_Ideal_let_go an_Ideal_let_go : Option Addr} {sl_Ideal_let_go : Array (Option Value)} {oc_Ideal_let_go kV_Ideal_let_go dc_Ideal_let_go pm_Ideal_let_go cd_Ideal_let_go ct_Ideal_let_go : Value}
    {f_Ideal_held : Addr} {od_Ideal_held an_Ideal_held : Option Addr} {sl_Ideal_held : Array (Option Value)} {oc_Ideal_held kV_Ideal_held dc_Ideal_held pm_Ideal_held cd_Ideal_held ct_Ideal_held : Value}
    {f_Ideal_ahead : Addr} {od_Ideal_ahead an_Ideal_ahead : Option Addr} {sl_Ideal_ahead : Array (Option Value)} {oc_Ideal_ahead kV_Ideal_ahead dc_Ideal_ahead pm_Ideal_ahead cd_Ideal_ahead ct_Ideal_ahead : Value}
    {f_Ideal_copy : Addr} {od_Ideal_copy an_Ideal_copy : Option Addr} {sl_Ideal_copy : Array (Option Value)} {oc_Ideal_copy kV_Ideal_copy dc_Ideal_copy pm_Ideal_copy cd_Ideal_copy ct_Ideal_copy : Value}
    {f_law_hand : Addr} {od_law_hand an_law_hand : Option Addr} {sl_law_hand : Array (Option Value)} {oc_law_hand kV_law_hand dc_law_hand pm_law_hand cd_law_hand ct_law_hand : Value}
    {f_law_draw : Addr} {od_law_draw an_law_draw : Option Addr} {sl_law_draw : Array (Option Value)} {oc_law_draw kV_law_draw dc_law_draw pm_law_draw cd_law_draw ct_law_draw : Value}
    {f_law_any : Addr} {od_law_any an_law_any : Option Addr} {sl_law_any : Array (Option Value)} {oc_law_any kV_law_any dc_law_any pm_law_any cd_law_any ct_law_any : Value}
    {f_law_key : Addr} {od_law_key an_law_key : Option Addr} {sl_law_key : Array (Option Value)} {oc_law_key kV_law_key dc_law_key pm_law_key cd_law_key ct_law_key : Value}
    {f_law_inserted : Addr} {od_law_inserted an_law_inserted : Option Addr} {sl_law_inserted : Array (Option Value)} {oc_law_inserted kV_law_inserted dc_law_inserted pm_law_inserted cd_law_inserted ct_law_inserted : Value}
    {f_law : Addr} {od_law an_law : Option Addr} {sl_law : Array (Option Value)} {oc_law kV_law dc_law pm_law cd_law ct_law : Value}
    {c_Ideal : Addr}
    {t_MOST_LINES : Tok}
    {t_GREATEST_CELL : Tok}
    {t_GREATEST_RANK : Tok}
    (ac_Ideal : PySem.W.nsIn K mainGlobals "Ideal" = some (some (.ref c_Ideal)))
    (a_wall : PySem.W.nsIn K mainGlobals "_wall" = some (some (.ref f_wall)))
    (l_wall : K.lookup f_wall = some ⟨oc_wall, od_wall, .func (PySem.W.fnOf "_wall" "_wall" (defArgs s_wall) (defBody s_wall) (defScope s_wall) .none kV_wall dc_wall pm_wall an_wall cd_wall ct_wall), sl_wall⟩)
    (q_wall : PySem.W.codeIn K cd_wall "_wall" = true)
    (p_wall : PySem.W.keepIn K (.ref f_wall) = true)
    (a_is_integer : PySem.W.nsIn K mainGlobals "is_integer" = some (some (.ref f_is_integer)))
    (l_is_integer : K.lookup f_is_integer = some ⟨oc_is_integer, od_is_integer, .func (PySem.W.fnOf "is_integer" "is_integer" (defArgs s_is_integer) (defBody s_is_integer) (defScope s_is_integer) .none kV_is_integer dc_is_integer pm_is_integer an_is_integer cd_is_integer ct_is_integer), sl_is_integer⟩)
    (q_is_integer : PySem.W.codeIn K cd_is_integer "is_integer" = true)
    (p_is_integer : PySem.W.keepIn K (.ref f_is_integer) = true)
    (a_is_integer_from : PySem.W.nsIn K mainGlobals "is_integer_from" = some (some (.ref f_is_integer_from)))
    (l_is_integer_from : K.lookup f_is_integer_from = some ⟨oc_is_integer_from, od_is_integer_from, .func (PySem.W.fnOf "is_integer_from" "is_integer_from" (defArgs s_is_integer_from) (defBody s_is_integer_from) (defScope s_is_integer_from) .none kV_is_integer_from dc_is_integer_from pm_is_integer_from an_is_integer_from cd_is_integer_from ct_is_integer_from), sl_is_integer_from⟩)
    (q_is_integer_from : PySem.W.codeIn K cd_is_integer_from "is_integer_from" = true)
    (p_is_integer_from : PySem.W.keepIn K (.ref f_is_integer_from) = true)
    (a_is_number_below : PySem.W.nsIn K mainGlobals "is_number_below" = some (some (.ref f_is_number_below)))
    (l_is_number_below : K.lookup f_is_number_below = some ⟨oc_is_number_below, od_is_number_below, .func (PySem.W.fnOf "is_number_below" "is_number_below" (defArgs s_is_number_below) (defBody s_is_number_below) (defScope s_is_number_below) .none kV_is_number_below dc_is_number_below pm_is_number_below an_is_number_below cd_is_number_below ct_is_number_below), sl_is_number_below⟩)
    (q_is_number_below : PySem.W.codeIn K cd_is_number_below "is_number_below" = true)
    (p_is_number_below : PySem.W.keepIn K (.ref f_is_number_below) = true)
    (a_is_tuple_of : PySem.W.nsIn K mainGlobals "is_tuple_of" = some (some (.ref f_is_tuple_of)))
    (l_is_tuple_of : K.lookup f_is_tuple_of = some ⟨oc_is_tuple_of, od_is_tuple_of, .func (PySem.W.fnOf "is_tuple_of" "is_tuple_of" (defArgs s_is_tuple_of) (defBody s_is_tuple_of) (defScope s_is_tuple_of) .none kV_is_tuple_of dc_is_tuple_of pm_is_tuple_of an_is_tuple_of cd_is_tuple_of ct_is_tuple_of), sl_is_tuple_of⟩)
    (q_is_tuple_of : PySem.W.codeIn K cd_is_tuple_of "is_tuple_of" = true)
    (p_is_tuple_of : PySem.W.keepIn K (.ref f_is_tuple_of) = true)
    (a_check_lines : PySem.W.nsIn K mainGlobals "check_lines" = some (some (.ref f_check_lines)))
    (l_check_lines : K.lookup f_check_lines = some ⟨oc_check_lines, od_check_lines, .func (PySem.W.fnOf "check_lines" "check_lines" (defArgs s_check_lines) (defBody s_check_lines) (defScope s_check_lines) .none kV_check_lines dc_check_lines pm_check_lines an_check_lines cd_check_lines ct_check_lines), sl_check_lines⟩)
    (q_check_lines : PySem.W.codeIn K cd_check_lines "check_lines" = true)
    (p_check_lines : PySem.W.keepIn K (.ref f_check_lines) = true)
    (a_is_cell_number : PySem.W.nsIn K mainGlobals "is_cell_number" = some (some (.ref f_is_cell_number)))
    (l_is_cell_number : K.lookup f_is_cell_number = some ⟨oc_is_cell_number, od_is_cell_number, .func (PySem.W.fnOf "is_cell_number" "is_cell_number" (defArgs s_is_cell_number) (defBody s_is_cell_number) (defScope s_is_cell_number) .none kV_is_cell_number dc_is_cell_number pm_is_cell_number an_is_cell_number cd_is_cell_number ct_is_cell_number), sl_is_cell_number⟩)
    (q_is_cell_number : PySem.W.codeIn K cd_is_cell_number "is_cell_number" = true)
    (p_is_cell_number : PySem.W.keepIn K (.ref f_is_cell_number) = true)
    (a_is_rank : PySem.W.nsIn K mainGlobals "is_rank" = some (some (.ref f_is_rank)))
    (l_is_rank : K.lookup f_is_rank = some ⟨oc_is_rank, od_is_rank, .func (PySem.W.fnOf "is_rank" "is_rank" (defArgs s_is_rank) (defBody s_is_rank) (defScope s_is_rank) .none kV_is_rank dc_is_rank pm_is_rank an_is_rank cd_is_rank ct_is_rank), sl_is_rank⟩)
    (q_is_rank : PySem.W.codeIn K cd_is_rank "is_rank" = true)
    (p_is_rank : PySem.W.keepIn K (.ref f_is_rank) = true)
    (a_is_key : PySem.W.nsIn K mainGlobals "is_key" = some (some (.ref f_is_key)))
    (l_is_key : K.lookup f_is_key = some ⟨oc_is_key, od_is_key, .func (PySem.W.fnOf "is_key" "is_key" (defArgs s_is_key) (defBody s_is_key) (defScope s_is_key) .none kV_is_key dc_is_key pm_is_key an_is_key cd_is_key ct_is_key), sl_is_key⟩)
    (q_is_key : PySem.W.codeIn K cd_is_key "is_key" = true)
    (p_is_key : PySem.W.keepIn K (.ref f_is_key) = true)
    (a_check_key : PySem.W.nsIn K mainGlobals "check_key" = some (some (.ref f_check_key)))
    (l_check_key : K.lookup f_check_key = some ⟨oc_check_key, od_check_key, .func (PySem.W.fnOf "check_key" "check_key" (defArgs s_check_key) (defBody s_check_key) (defScope s_check_key) .none kV_check_key dc_check_key pm_check_key an_check_key cd_check_key ct_check_key), sl_check_key⟩)
    (q_check_key : PySem.W.codeIn K cd_check_key "check_key" = true)
    (p_check_key : PySem.W.keepIn K (.ref f_check_key) = true)
    (a_how_many_less : PySem.W.nsIn K mainGlobals "how_many_less" = some (some (.ref f_how_many_less)))
    (l_how_many_less : K.lookup f_how_many_less = some ⟨oc_how_many_less, od_how_many_less, .func (PySem.W.fnOf "how_many_less" "how_many_less" (defArgs s_how_many_less) (defBody s_how_many_less) (defScope s_how_many_less) .none kV_how_many_less dc_how_many_less pm_how_many_less an_how_many_less cd_how_many_less ct_how_many_less), sl_how_many_less⟩)
    (q_how_many_less : PySem.W.codeIn K cd_how_many_less "how_many_less" = true)
    (p_how_many_less : PySem.W.keepIn K (.ref f_how_many_less) = true)
    (a_Ideal___init__ : PySem.W.findIn K (.ref c_Ideal) "__init__" = some (some (.ref f_Ideal___init__)))
    (i_Ideal___init__ : PySem.W.isFn K (.ref f_Ideal___init__) = true)
    (l_Ideal___init__ : K.lookup f_Ideal___init__ = some ⟨oc_Ideal___init__, od_Ideal___init__, .func (PySem.W.fnOf "__init__" "Ideal.__init__" (defArgs s_Ideal___init__) (defBody s_Ideal___init__) (defScope s_Ideal___init__) .none kV_Ideal___init__ dc_Ideal___init__ pm_Ideal___init__ an_Ideal___init__ cd_Ideal___init__ ct_Ideal___init__), sl_Ideal___init__⟩)
    (q_Ideal___init__ : PySem.W.codeIn K cd_Ideal___init__ "Ideal.__init__" = true)
    (p_Ideal___init__ : PySem.W.keepIn K (.ref f_Ideal___init__) = true)
    (a_Ideal__row : PySem.W.findIn K (.ref c_Ideal) "_row" = some (some (.ref f_Ideal__row)))
    (i_Ideal__row : PySem.W.isFn K (.ref f_Ideal__row) = true)
    (l_Ideal__row : K.lookup f_Ideal__row = some ⟨oc_Ideal__row, od_Ideal__row, .func (PySem.W.fnOf "_row" "Ideal._row" (defArgs s_Ideal__row) (defBody s_Ideal__row) (defScope s_Ideal__row) .none kV_Ideal__row dc_Ideal__row pm_Ideal__row an_Ideal__row cd_Ideal__row ct_Ideal__row), sl_Ideal__row⟩)
    (q_Ideal__row : PySem.W.codeIn K cd_Ideal__row "Ideal._row" = true)
    (p_Ideal__row : PySem.W.keepIn K (.ref f_Ideal__row) = true)
    (a_Ideal_push : PySem.W.findIn K (.ref c_Ideal) "push" = some (some (.ref f_Ideal_push)))
    (i_Ideal_push : PySem.W.isFn K (.ref f_Ideal_push) = true)
    (l_Ideal_push : K.lookup f_Ideal_push = some ⟨oc_Ideal_push, od_Ideal_push, .func (PySem.W.fnOf "push" "Ideal.push" (defArgs s_Ideal_push) (defBody s_Ideal_push) (defScope s_Ideal_push) .none kV_Ideal_push dc_Ideal_push pm_Ideal_push an_Ideal_push cd_Ideal_push ct_Ideal_push), sl_Ideal_push⟩)
    (q_Ideal_push : PySem.W.codeIn K cd_Ideal_push "Ideal.push" = true)
    (p_Ideal_push : PySem.W.keepIn K (.ref f_Ideal_push) = true)
    (a_Ideal_due : PySem.W.findIn K (.ref c_Ideal) "due" = some (some (.ref f_Ideal_due)))
    (i_Ideal_due : PySem.W.isFn K (.ref f_Ideal_due) = true)
    (l_Ideal_due : K.lookup f_Ideal_due = some ⟨oc_Ideal_due, od_Ideal_due, .func (PySem.W.fnOf "due" "Ideal.due" (defArgs s_Ideal_due) (defBody s_Ideal_due) (defScope s_Ideal_due) .none kV_Ideal_due dc_Ideal_due pm_Ideal_due an_Ideal_due cd_Ideal_due ct_Ideal_due), sl_Ideal_due⟩)
    (q_Ideal_due : PySem.W.codeIn K cd_Ideal_due "Ideal.due" = true)
    (p_Ideal_due : PySem.W.keepIn K (.ref f_Ideal_due) = true)
    (a_Ideal_let_go : PySem.W.findIn K (.ref c_Ideal) "let_go" = some (some (.ref f_Ideal_let_go)))
    (i_Ideal_let_go : PySem.W.isFn K (.ref f_Ideal_let_go) = true)
    (l_Ideal_let_go : K.lookup f_Ideal_let_go = some ⟨oc_Ideal_let_go, od_Ideal_let_go, .func (PySem.W.fnOf "let_go" "Ideal.let_go" (defArgs s_Ideal_let_go) (defBody s_Ideal_let_go) (defScope s_Ideal_let_go) .none kV_Ideal_let_go dc_Ideal_let_go pm_Ideal_let_go an_Ideal_let_go cd_Ideal_let_go ct_Ideal_let_go), sl_Ideal_let_go⟩)
    (q_Ideal_let_go : PySem.W.codeIn K cd_Ideal_let_go "Ideal.let_go" = true)
    (p_Ideal_let_go : PySem.W.keepIn K (.ref f_Ideal_let_go) = true)
    (a_Ideal_held : PySem.W.findIn K (.ref c_Ideal) "held" = some (some (.ref f_Ideal_held)))
    (i_Ideal_held : PySem.W.isFn K (.ref f_Ideal_held) = true)
    (l_Ideal_held : K.lookup f_Ideal_held = some ⟨oc_Ideal_held, od_Ideal_held, .func (PySem.W.fnOf "held" "Ideal.held" (defArgs s_Ideal_held) (defBody s_Ideal_held) (defScope s_Ideal_held) .none kV_Ideal_held dc_Ideal_held pm_Ideal_held an_Ideal_held cd_Ideal_held ct_Ideal_held), sl_Ideal_held⟩)
    (q_Ideal_held : PySem.W.codeIn K cd_Ideal_held "Ideal.held" = true)
    (p_Ideal_held : PySem.W.keepIn K (.ref f_Ideal_held) = true)
    (a_Ideal_ahead : PySem.W.findIn K (.ref c_Ideal) "ahead" = some (some (.ref f_Ideal_ahead)))
    (i_Ideal_ahead : PySem.W.isFn K (.ref f_Ideal_ahead) = true)
    (l_Ideal_ahead : K.lookup f_Ideal_ahead = some ⟨oc_Ideal_ahead, od_Ideal_ahead, .func (PySem.W.fnOf "ahead" "Ideal.ahead" (defArgs s_Ideal_ahead) (defBody s_Ideal_ahead) (defScope s_Ideal_ahead) .none kV_Ideal_ahead dc_Ideal_ahead pm_Ideal_ahead an_Ideal_ahead cd_Ideal_ahead ct_Ideal_ahead), sl_Ideal_ahead⟩)
    (q_Ideal_ahead : PySem.W.codeIn K cd_Ideal_ahead "Ideal.ahead" = true)
    (p_Ideal_ahead : PySem.W.keepIn K (.ref f_Ideal_ahead) = true)
    (a_Ideal_copy : PySem.W.findIn K (.ref c_Ideal) "copy" = some (some (.ref f_Ideal_copy)))
    (i_Ideal_copy : PySem.W.isFn K (.ref f_Ideal_copy) = true)
    (l_Ideal_copy : K.lookup f_Ideal_copy = some ⟨oc_Ideal_copy, od_Ideal_copy, .func (PySem.W.fnOf "copy" "Ideal.copy" (defArgs s_Ideal_copy) (defBody s_Ideal_copy) (defScope s_Ideal_copy) .none kV_Ideal_copy dc_Ideal_copy pm_Ideal_copy an_Ideal_copy cd_Ideal_copy ct_Ideal_copy), sl_Ideal_copy⟩)
    (q_Ideal_copy : PySem.W.codeIn K cd_Ideal_copy "Ideal.copy" = true)
    (p_Ideal_copy : PySem.W.keepIn K (.ref f_Ideal_copy) = true)
    (a_law_hand : PySem.W.nsIn K mainGlobals "_law_hand" = some (some (.ref f_law_hand)))
    (l_law_hand : K.lookup f_law_hand = some ⟨oc_law_hand, od_law_hand, .func (PySem.W.fnOf "_law_hand" "_law_hand" (defArgs s_law_hand) (defBody s_law_hand) (defScope s_law_hand) .none kV_law_hand dc_law_hand pm_law_hand an_law_hand cd_law_hand ct_law_hand), sl_law_hand⟩)
    (q_law_hand : PySem.W.codeIn K cd_law_hand "_law_hand" = true)
    (p_law_hand : PySem.W.keepIn K (.ref f_law_hand) = true)
    (a_law_draw : PySem.W.nsIn K mainGlobals "_law_draw" = some (some (.ref f_law_draw)))
    (l_law_draw : K.lookup f_law_draw = some ⟨oc_law_draw, od_law_draw, .func (PySem.W.fnOf "_law_draw" "_law_draw" (defArgs s_law_draw) (defBody s_law_draw) (defScope s_law_draw) .none kV_law_draw dc_law_draw pm_law_draw an_law_draw cd_law_draw ct_law_draw), sl_law_draw⟩)
    (q_law_draw : PySem.W.codeIn K cd_law_draw "_law_draw" = true)
    (p_law_draw : PySem.W.keepIn K (.ref f_law_draw) = true)
    (a_law_any : PySem.W.nsIn K mainGlobals "_law_any" = some (some (.ref f_law_any)))
    (l_law_any : K.lookup f_law_any = some ⟨oc_law_any, od_law_any, .func (PySem.W.fnOf "_law_any" "_law_any" (defArgs s_law_any) (defBody s_law_any) (defScope s_law_any) .none kV_law_any dc_law_any pm_law_any an_law_any cd_law_any ct_law_any), sl_law_any⟩)
    (q_law_any : PySem.W.codeIn K cd_law_any "_law_any" = true)
    (p_law_any : PySem.W.keepIn K (.ref f_law_any) = true)
    (a_law_key : PySem.W.nsIn K mainGlobals "_law_key" = some (some (.ref f_law_key)))
    (l_law_key : K.lookup f_law_key = some ⟨oc_law_key, od_law_key, .func (PySem.W.fnOf "_law_key" "_law_key" (defArgs s_law_key) (defBody s_law_key) (defScope s_law_key) .none kV_law_key dc_law_key pm_law_key an_law_key cd_law_key ct_law_key), sl_law_key⟩)
    (q_law_key : PySem.W.codeIn K cd_law_key "_law_key" = true)
    (p_law_key : PySem.W.keepIn K (.ref f_law_key) = true)
    (a_law_inserted : PySem.W.nsIn K mainGlobals "_law_inserted" = some (some (.ref f_law_inserted)))
    (l_law_inserted : K.lookup f_law_inserted = some ⟨oc_law_inserted, od_law_inserted, .func (PySem.W.fnOf "_law_inserted" "_law_inserted" (defArgs s_law_inserted) (defBody s_law_inserted) (defScope s_law_inserted) .none kV_law_inserted dc_law_inserted pm_law_inserted an_law_inserted cd_law_inserted ct_law_inserted), sl_law_inserted⟩)
    (q_law_inserted : PySem.W.codeIn K cd_law_inserted "_law_inserted" = true)
    (p_law_inserted : PySem.W.keepIn K (.ref f_law_inserted) = true)
    (a_law : PySem.W.nsIn K mainGlobals "law" = some (some (.ref f_law)))
    (l_law : K.lookup f_law = some ⟨oc_law, od_law, .func (PySem.W.fnOf "law" "law" (defArgs s_law) (defBody s_law) (defScope s_law) .none kV_law dc_law pm_law an_law cd_law ct_law), sl_law⟩)
    (q_law : PySem.W.codeIn K cd_law "law" = true)
    (p_law : PySem.W.keepIn K (.ref f_law) = true)
    (pg_Ideal : PySem.W.plainGet K c_Ideal Str.empty = true)
    (hd_Ideal : PySem.W.hasDictIn K c_Ideal = true)
    (po_Ideal : PySem.W.plainOver K c_Ideal = true)
    (sa_Ideal : PySem.W.findIn K (.ref c_Ideal) "__setattr__" = some (some (.builtin "object.__setattr__")))
    (mk_Ideal : PySem.W.makesIn K c_Ideal = true)
    (kc_Ideal : PySem.W.keepIn K (.ref c_Ideal) = true)
    (n_Ideal__rows : PySem.W.findIn K (.ref c_Ideal) "_rows" = some none)
    (em_Ideal : PySem.W.mroIn K c_Ideal (.type "object") = some true)
    (es_Ideal : PySem.W.findIn K (.ref c_Ideal) "__eq__" = some (some (.builtin "object.__eq__")))
    (k_MOST_LINES : PySem.W.nsIn K mainGlobals "MOST_LINES" = some (some (.int 12 t_MOST_LINES)))
    (k_GREATEST_CELL : PySem.W.nsIn K mainGlobals "GREATEST_CELL" = some (some (.int 1000000000 t_GREATEST_CELL)))
    (k_GREATEST_RANK : PySem.W.nsIn K mainGlobals "GREATEST_RANK" = some (some (.int 1000000000000000000 t_GREATEST_RANK)))
    (z_abs : PySem.W.nsIn K mainGlobals "abs" = some none)
    (z_bool : PySem.W.nsIn K mainGlobals "bool" = some none)
    (z_enumerate : PySem.W.nsIn K mainGlobals "enumerate" = some none)
    (z_int : PySem.W.nsIn K mainGlobals "int" = some none)
    (z_isinstance : PySem.W.nsIn K mainGlobals "isinstance" = some none)
    (z_len : PySem.W.nsIn K mainGlobals "len" = some none)
    (z_list : PySem.W.nsIn K mainGlobals "list" = some none)
    (z_range : PySem.W.nsIn K mainGlobals "range" = some none)
    (z_tuple : PySem.W.nsIn K mainGlobals "tuple" = some none)
    : ∃ fd : FuncData, (∀ (s : Shared) (v : Value), BindsTo s fd ⟨[v], []⟩ [("_law_script", v)]) ∧ ∀ base : Heap, K.In base → base.Ns mainGlobals mg → FnOk l.prog w K mg base CX0 7 fa fd ["_law_script"] (spLaw K) :=
  end_mk (top_mk (l := l) (w := w) X G ac_Ideal a_wall l_wall q_wall p_wall a_is_integer l_is_integer q_is_integer p_is_integer a_is_integer_from l_is_integer_from q_is_integer_from p_is_integer_from a_is_number_below l_is_number_below q_is_number_below p_is_number_below a_is_tuple_of l_is_tuple_of q_is_tuple_of p_is_tuple_of a_check_lines l_check_lines q_check_lines p_check_lines a_is_cell_number l_is_cell_number q_is_cell_number p_is_cell_number a_is_rank l_is_rank q_is_rank p_is_rank a_is_key l_is_key q_is_key p_is_key a_check_key l_check_key q_check_key p_check_key a_how_many_less l_how_many_less q_how_many_less p_how_many_less a_Ideal___init__ i_Ideal___init__ l_Ideal___init__ q_Ideal___init__ p_Ideal___init__ a_Ideal__row i_Ideal__row l_Ideal__row q_Ideal__row p_Ideal__row a_Ideal_push i_Ideal_push l_Ideal_push q_Ideal_push p_Ideal_push a_Ideal_due i_Ideal_due l_Ideal_due q_Ideal_due p_Ideal_due a_Ideal_let_go i_Ideal_let_go l_Ideal_let_go q_Ideal_let_go p_Ideal_let_go a_Ideal_held i_Ideal_held l_Ideal_held q_Ideal_held p_Ideal_held a_Ideal_ahead i_Ideal_ahead l_Ideal_ahead q_Ideal_ahead p_Ideal_ahead a_Ideal_copy i_Ideal_copy l_Ideal_copy q_Ideal_copy p_Ideal_copy a_law_hand l_law_hand q_law_hand p_law_hand a_law_draw l_law_draw q_law_draw p_law_draw a_law_any l_law_any q_law_any p_law_any a_law_key l_law_key q_law_key p_law_key a_law_inserted l_law_inserted q_law_inserted p_law_inserted a_law l_law q_law p_law pg_Ideal hd_Ideal po_Ideal sa_Ideal mk_Ideal kc_Ideal n_Ideal__rows em_Ideal es_Ideal k_MOST_LINES k_GREATEST_CELL k_GREATEST_RANK z_abs z_bool z_enumerate z_int z_isinstance z_len z_list z_range z_tuple) hfa

end KX
open PySem PySem.W PyProof.Rows in
set_option maxRecDepth 100000 in
set_option maxHeartbeats 0 in
theorem PySem.Challenge.cw_exactbeats_k07_whole_copies_of_ideal_swi_holds : PySem.Challenge.rw_exactbeats_k07_whole_copies_of_ideal_swi.Holds := by
  w_on; o_law; k_head; (case hw => w_witness2)
  k_fill
  refine L2.walk_of (l := PySem.Challenge.rw_exactbeats_k07_whole_copies_of_ideal_swi) (n := 63) (k := 7) (x := "_law_script") (CX := fun _ => L2.CX0) (sp := fun w => KX.spLaw _) rfl (by decide) rfl ⟨rfl, by decide, by decide⟩ (fun w h Y => PySem.W.kIn_of Y) ?F (fun _ _ a ns hl _ hS => ⟨a, ns, rfl, hS, hl, fun _ => rfl⟩) (fun _ _ _ _ _ h => h)
  case F =>
    intro w mg fa h KX_ G hmg
    refine' KX.top_end KX_ G hmg ?ac_Ideal ?a_wall ?l_wall ?q_wall ?p_wall ?a_is_integer ?l_is_integer ?q_is_integer ?p_is_integer ?a_is_integer_from ?l_is_integer_from ?q_is_integer_from ?p_is_integer_from ?a_is_number_below ?l_is_number_below ?q_is_number_below ?p_is_number_below ?a_is_tuple_of ?l_is_tuple_of ?q_is_tuple_of ?p_is_tuple_of ?a_check_lines ?l_check_lines ?q_check_lines ?p_check_lines ?a_is_cell_number ?l_is_cell_number ?q_is_cell_number ?p_is_cell_number ?a_is_rank ?l_is_rank ?q_is_rank ?p_is_rank ?a_is_key ?l_is_key ?q_is_key ?p_is_key ?a_check_key ?l_check_key ?q_check_key ?p_check_key ?a_how_many_less ?l_how_many_less ?q_how_many_less ?p_how_many_less ?a_Ideal___init__ ?i_Ideal___init__ ?l_Ideal___init__ ?q_Ideal___init__ ?p_Ideal___init__ ?a_Ideal__row ?i_Ideal__row ?l_Ideal__row ?q_Ideal__row ?p_Ideal__row ?a_Ideal_push ?i_Ideal_push ?l_Ideal_push ?q_Ideal_push ?p_Ideal_push ?a_Ideal_due ?i_Ideal_due ?l_Ideal_due ?q_Ideal_due ?p_Ideal_due ?a_Ideal_let_go ?i_Ideal_let_go ?l_Ideal_let_go ?q_Ideal_let_go ?p_Ideal_let_go ?a_Ideal_held ?i_Ideal_held ?l_Ideal_held ?q_Ideal_held ?p_Ideal_held ?a_Ideal_ahead ?i_Ideal_ahead ?l_Ideal_ahead ?q_Ideal_ahead ?p_Ideal_ahead ?a_Ideal_copy ?i_Ideal_copy ?l_Ideal_copy ?q_Ideal_copy ?p_Ideal_copy ?a_law_hand ?l_law_hand ?q_law_hand ?p_law_hand ?a_law_draw ?l_law_draw ?q_law_draw ?p_law_draw ?a_law_any ?l_law_any ?q_law_any ?p_law_any ?a_law_key ?l_law_key ?q_law_key ?p_law_key ?a_law_inserted ?l_law_inserted ?q_law_inserted ?p_law_inserted ?a_law ?l_law ?q_law ?p_law ?pg_Ideal ?hd_Ideal ?po_Ideal ?sa_Ideal ?mk_Ideal ?kc_Ideal ?n_Ideal__rows ?em_Ideal ?es_Ideal ?k_MOST_LINES ?k_GREATEST_CELL ?k_GREATEST_RANK ?z_abs ?z_bool ?z_enumerate ?z_int ?z_isinstance ?z_len ?z_list ?z_range ?z_tuple
    (case ac_Ideal => k_is)
    (case a_wall => k_is)
    (case l_wall => k_is)
    (case q_wall => k_is)
    (case p_wall => k_is)
    (case a_is_integer => k_is)
    (case l_is_integer => k_is)
    (case q_is_integer => k_is)
    (case p_is_integer => k_is)
    (case a_is_integer_from => k_is)
    (case l_is_integer_from => k_is)
    (case q_is_integer_from => k_is)
    (case p_is_integer_from => k_is)
    (case a_is_number_below => k_is)
    (case l_is_number_below => k_is)
    (case q_is_number_below => k_is)
    (case p_is_number_below => k_is)
    (case a_is_tuple_of => k_is)
    (case l_is_tuple_of => k_is)
    (case q_is_tuple_of => k_is)
    (case p_is_tuple_of => k_is)
    (case a_check_lines => k_is)
    (case l_check_lines => k_is)
    (case q_check_lines => k_is)
    (case p_check_lines => k_is)
    (case a_is_cell_number => k_is)
    (case l_is_cell_number => k_is)
    (case q_is_cell_number => k_is)
    (case p_is_cell_number => k_is)
    (case a_is_rank => k_is)
    (case l_is_rank => k_is)
    (case q_is_rank => k_is)
    (case p_is_rank => k_is)
    (case a_is_key => k_is)
    (case l_is_key => k_is)
    (case q_is_key => k_is)
    (case p_is_key => k_is)
    (case a_check_key => k_is)
    (case l_check_key => k_is)
    (case q_check_key => k_is)
    (case p_check_key => k_is)
    (case a_how_many_less => k_is)
    (case l_how_many_less => k_is)
    (case q_how_many_less => k_is)
    (case p_how_many_less => k_is)
    (case a_Ideal___init__ => k_is)
    (case i_Ideal___init__ => k_is)
    (case l_Ideal___init__ => k_is)
    (case q_Ideal___init__ => k_is)
    (case p_Ideal___init__ => k_is)
    (case a_Ideal__row => k_is)
    (case i_Ideal__row => k_is)
    (case l_Ideal__row => k_is)
    (case q_Ideal__row => k_is)
    (case p_Ideal__row => k_is)
    (case a_Ideal_push => k_is)
    (case i_Ideal_push => k_is)
    (case l_Ideal_push => k_is)
    (case q_Ideal_push => k_is)
    (case p_Ideal_push => k_is)
    (case a_Ideal_due => k_is)
    (case i_Ideal_due => k_is)
    (case l_Ideal_due => k_is)
    (case q_Ideal_due => k_is)
    (case p_Ideal_due => k_is)
    (case a_Ideal_let_go => k_is)
    (case i_Ideal_let_go => k_is)
    (case l_Ideal_let_go => k_is)
    (case q_Ideal_let_go => k_is)
    (case p_Ideal_let_go => k_is)
    (case a_Ideal_held => k_is)
    (case i_Ideal_held => k_is)
    (case l_Ideal_held => k_is)
    (case q_Ideal_held => k_is)
    (case p_Ideal_held => k_is)
    (case a_Ideal_ahead => k_is)
    (case i_Ideal_ahead => k_is)
    (case l_Ideal_ahead => k_is)
    (case q_Ideal_ahead => k_is)
    (case p_Ideal_ahead => k_is)
    (case a_Ideal_copy => k_is)
    (case i_Ideal_copy => k_is)
    (case l_Ideal_copy => k_is)
    (case q_Ideal_copy => k_is)
    (case p_Ideal_copy => k_is)
    (case a_law_hand => k_is)
    (case l_law_hand => k_is)
    (case q_law_hand => k_is)
    (case p_law_hand => k_is)
    (case a_law_draw => k_is)
    (case l_law_draw => k_is)
    (case q_law_draw => k_is)
    (case p_law_draw => k_is)
    (case a_law_any => k_is)
    (case l_law_any => k_is)
    (case q_law_any => k_is)
    (case p_law_any => k_is)
    (case a_law_key => k_is)
    (case l_law_key => k_is)
    (case q_law_key => k_is)
    (case p_law_key => k_is)
    (case a_law_inserted => k_is)
    (case l_law_inserted => k_is)
    (case q_law_inserted => k_is)
    (case p_law_inserted => k_is)
    (case a_law => k_is)
    (case l_law => k_is)
    (case q_law => k_is)
    (case p_law => k_is)
    (case pg_Ideal => k_is)
    (case hd_Ideal => k_is)
    (case po_Ideal => k_is)
    (case sa_Ideal => k_is)
    (case mk_Ideal => k_is)
    (case kc_Ideal => k_is)
    (case n_Ideal__rows => k_is)
    (case em_Ideal => k_is)
    (case es_Ideal => k_is)
    (case k_MOST_LINES => k_is)
    (case k_GREATEST_CELL => k_is)
    (case k_GREATEST_RANK => k_is)
    (case z_abs => k_is)
    (case z_bool => k_is)
    (case z_enumerate => k_is)
    (case z_int => k_is)
    (case z_isinstance => k_is)
    (case z_len => k_is)
    (case z_list => k_is)
    (case z_range => k_is)
    (case z_tuple => k_is)
