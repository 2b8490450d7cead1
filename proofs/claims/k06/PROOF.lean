import PyProof.Rows.All
import Wide.All
import OpenK.AllK
import Wide.FinOn
import HandS.ForMost
import HandS.IsInst
import HandS.More
import HandS.SetFor
import HandS.Evl
import HandS.Walk
import PyProof.Rows.CountFlat
import HandS.ForExc
import HandS.TryMany
import HandS.Small
import HandS.Style
import HandS.Lambda
import HandS.EndTab
import HandS.ExcIs
import KE.KNestM
import HandS.Zip
import HandS.ExcField
import KE.KExcIs
import PySem.Challenge.RW_exactbeats_k06_ideal_outputs_refused
set_option Elab.async false
set_option linter.all false
set_option maxRecDepth 100000
set_option maxHeartbeats 4000000
/-! Rules that the layer lacks: an own exception made without arguments; what a lambda's call may raise. -/
namespace GX
open PySem PySem.Spec PyProof.Rows L2
section
variable {X : Cx}
/-- X(): an own exception class without an __init__ of its own, no argument -/
theorem pmk_own0 {C : Addr} {bmB : List Value} {B newId initId : String} {x : Str} {p pos : Pos} (FB : ExcBaseFacts B newId initId bmB) (hx : PySem.W.excIn X.K C bmB newId = true) (hm : X.mg x = some (.ref C)) (hk : PySem.W.keepIn X.K (.ref C) = true)
    (hR : Raises X (.ref C)) (hg : Gl X x) (hdb : (x == ("__debug__" : Str)) = false := by decide) : PMk X (.Call (.Name x p) [] [] pos) (fun _ H Q => Q (.ref C) none H) := by
  intro pins s σ H Q I h
  refine wpAny_Call_Name_kw (ld_glob I hg hm (PySem.W.callWith_K0 I.kIn hk ?_) hdb)
  obtain ⟨bm, N, nm, qn, bs, hdct, sn, sub, ab, col, dd, k0, k1, k2, k3, k5, mN, e1, e2, e3, tail⟩ := exc_obj I.kIn hx
  refine wpAny_call_exc_subT (rest := [] ++ []) FB tail e1 e2 e3 (fun h' e made => ?_)
  refine mk_of I made hR h ?_
  -- the new address is tracked by nothing
  cases q : H e with
  | none => rfl
  | some o =>
    have z := made.new
    obtain ⟨b, hb⟩ := objOk_get (I.hok e o q)
    rw [hb] at z
    cases z
/-- raising calls within a def's own body (or a lambda's) -/
theorem passX {E : XK} (h1 : X.stack = X.env :: X.outer) (h2 : X.env.frame = some X.env.locals) (h3 : X.ex = []) {E₁ : Value → Shared → Prop}
    (h4 : X.xe = fun e s' => wpAny (model X.prog X.w) X.A (leaving X.env e) (fun _ s'' => L2.CX X.prog X.w X.outer X.H_0 X.s_0 E e s'') E₁ s') : Passes (L2.CX X.prog X.w) X E :=
  passes_call (takes_of h1 h2 h3 h4) fun _ _ _ _ h => h
theorem takes_len {W : WX} (h : Takes X W) : Takes X (fun cls d σ H => σ.length = X.N.length → W cls d σ H) := fun u s' z => by
  obtain ⟨a, B, sI, pins, σ, H, cls, d, e1, I, r1, r2, r3, r4, r5, r6, r7⟩ := z
  exact h u s' ⟨a, B, sI, pins, σ, H, cls, d, e1, I, r1, r2, r3, r4, r5, r6, r7 I.len⟩
theorem call_isEg {a : Addr} {cls : Value} {d : Option Addr} {oe : Obj} {pn : List (Addr × Obj)} (hz : Zc cls d oe) (hf : ∃ vs, oe.data = Data.fields vs) :
    CallR (X.suite a ((a, oe) :: pn)) (.builtin "isinstance") (fun xs H Q => ∃ D, cls = .ref D ∧ d = none ∧ ExcC X.K D ∧ rIsE X.K D a xs H Q) := by
  intro pins s σ H xs us Q I r h
  obtain ⟨D, rfl, rfl, hE, h⟩ := h
  exact call_isE hE hz hf pins s σ H xs us Q I r h
/-- isinstance(e, c), e the error that the suite holds, with fields or without -/
theorem call_isEa {a : Addr} {cls : Value} {d : Option Addr} {oe : Obj} {pn : List (Addr × Obj)} (hz : Zc cls d oe) (hf : ∃ vs, oe.data = Data.fields vs) :
    CallR (X.suite a ((a, oe) :: pn)) (.builtin "isinstance") (fun xs H Q => ∃ D, cls = .ref D ∧ ExcC X.K D ∧ (d = none ∨ ∃ dd fs, d = some dd ∧ H dd = some (.xd fs)) ∧ rIsE X.K D a xs H Q) := by
  intro pins s σ H xs us Q I r h
  obtain ⟨D, rfl, C, hd, c, cv, b, rfl, hcv, e, q⟩ := h
  obtain ⟨u, u2, rfl, ru, ru2⟩ := r.two
  cases (show u = Value.ref a from ru)
  cases hcv _ ru2
  obtain ⟨there, _⟩ := I.pin (a, oe) (List.mem_append.mpr (.inl List.mem_cons_self))
  obtain ⟨vs, hv⟩ := hf
  have nc : PySem.W.notCls oe = true := by
    unfold PySem.W.notCls
    rw [hv]
  have od : ∃ od, PySem.W.InstAt s.heap a oe D od := by
    rcases hd with e1 | ⟨dd, fs, e1, e2⟩
    · subst e1
      exact ⟨none, there, hz.1, nc, by rw [hz.2]; trivial⟩
    · subst e1
      obtain ⟨mA, hns, _⟩ : ObjOk X.prog X.w H s.heap dd (.xd fs) := I.hok dd _ e2
      obtain ⟨od, ho, _⟩ := lookIn_ns hns
      exact ⟨some od, there, hz.1, nc, by rw [hz.2]; exact ho⟩
  obtain ⟨od, J⟩ := od
  have isC : (PySem.W.clsIn X.K D).isSome = true := by
    obtain ⟨cd, hc, _⟩ := PySem.W.any_some C.hd
    rw [hc] <;> rfl
  exact PySem.W.kia_one (PySem.W.kitx_exc isC C.hg C.hk C.hs C.ha C.hn C.ht C.hm) I.kIn J e (fun z => nomatch z) fun tk => ⟨.bl b, H, I.kept (t' := tk) fun _ _ z => z, rfl, q⟩
theorem exm_kit {K : PySem.W.Frag} {t c : Value} {b : Bool} (h : PySem.W.exmOne K t c = some b) : PySem.W.kitCls K t c = some b := by
  unfold PySem.W.exmOne at h
  split at h
  · exact h
  · cases h
theorem kit_yes {K : PySem.W.Frag} {t c : Value} (h : PySem.W.exmOne K t c = some true) : PySem.W.kitOne K t c = some true := by
  unfold PySem.W.kitOne
  split
  · rfl
  · exact exm_kit h
theorem kit_no {K : PySem.W.Frag} {D C : Addr} (h : PySem.W.exmOne K (.ref D) (.ref C) = some false) (self : PySem.W.subIn K (.ref C) (.ref C) = some true) (no : PySem.W.subIn K (.ref D) (.ref C) = some false) : PySem.W.kitOne K (.ref D) (.ref C) = some false := by
  unfold PySem.W.kitOne
  split
  · rename_i e
    have e2 : (Value.ref D) = .ref C := eq_of_beq e
    rw [e2, self] at no
    cases no
  · exact exm_kit h
theorem kit_bi {K : PySem.W.Frag} {D : Addr} {T : String} {b : Bool} (m : PySem.W.kitMeta T = true) (h : PySem.W.subIn K (.ref D) (.type T) = some b) : PySem.W.kitOne K (.ref D) (.type T) = some b := by
  unfold PySem.W.kitOne
  split
  · rename_i e
    have e2 : (Value.ref D) = .type T := eq_of_beq e
    cases e2
  · show (if PySem.W.kitMeta T = true then PySem.W.subIn K (.ref D) (.type T) else none) = some b
    rw [if_pos m]
    exact h
/-- a def of the text whose code is known -/
structure FunC (K : PySem.W.Frag) (x qual : Str) (st : Stmt) (f : Addr) (fd : FuncData) (c : Addr) : Prop where
  ex : ∃ oc od kV doc pm an ct osl, fd = PySem.W.fnOf x qual (defArgs st) (defBody st) (defScope st) .none kV doc pm an (.ref c) ct ∧ K.lookup f = some ⟨oc, od, .func fd, osl⟩ ∧ PySem.W.codeIn K (.ref c) qual = true
theorem FunC.ok {P : Program} {w : World} {K : PySem.W.Frag} {mg : Str → Option Value} {base : Heap} {x qual : Str} {st : Stmt} {f c : Addr} {fd : FuncData} {N ps : List Str} {k : Nat} {sp : Sp} (F : FunC K x qual st f fd c) (S : FnScope N ps (defScope st))
    (len : ∀ vs H Q E, sp vs H Q E → vs.length = ps.length)
    (hb : ∀ (A : Around) (outer : List Env) (s : Shared) (H : Hp) (vs : List V) (Q : VK) (E : XK), Room k (A.deeper (envOfC qual (defScope st) s.heap.objs.size f (.ref c))) → sp vs H Q E →
      ∃ t, PSs (cxOf L2.CX0 P w K mg base N qual (defScope st) f (.ref c) A outer s H E).nox (defBody st) t ∧ t { nx := fun _ H' => Q .non H', rt := Q } (L2.start N vs) H) : FnOk P w K mg base L2.CX0 (k + 1) f fd ps sp := by
  obtain ⟨oc, od, kV, doc, pm, an, ct, osl, rfl, lk, hcd⟩ := F.ex
  refine fn_of lk hcd S len fun A outer s H vs Q E hr h => ?_
  obtain ⟨t, h1, h2⟩ := hb A outer s H vs Q E hr h
  exact ⟨t, h1.nox, h2⟩
def tTru (K : PySem.W.Frag) (ta : TE) : L2.St → Hp → (Bool → Hp → Prop) → Prop := fun σ H Q => ta σ H fun x H' => ∃ k, TruV K x H' k ∧ Q k H'
def WL (n : Nat) (W : WX) : WX := fun cls d σ H => σ.length = n → W cls d σ H
def EE (n : Nat) (W : WX) : XK := fun cls d H => ∀ σ : L2.St, σ.length = n → W cls d σ H
/-- raising calls within a try's body -/
theorem passT (n : Nat) {W : WX} (tk : Takes X W) (hn : X.N.length = n := by rfl) : Passes (L2.CX X.prog X.w) X (EE n W) := passes_call (takes_len tk) fun cls d σ H h hl => h σ (hl.trans hn)
/-- f(lambda: e) -/
theorem pe_lam {T : List (Addr × Str)} {TT : (XK → Hp → VK → Prop) → Hp → VK → Prop} {x a : Str} {g c P : Addr} {fd : FuncData} {k : Nat} {st : Stmt} {Ng : List Str} {params : Arguments} {body : Expr} {scope : Scope} {t : XK → TE} {p lpos pos : Pos}
    (F : Fun X.K x x st g fd) (Sg : FnScope Ng [a] (defScope st)) (hg : Gl X x) (hm : X.mg x = some (.ref g)) (hb : Binds X.K fd [a] []) (hNg : Ng[0]? = some a) (hva : Vis (defScope st) a)
    (hG : ∀ cdv, LamX.GivesTo X Ng x (defScope st) g cdv (defBody st) a (X.env.qual ++ "<lambda>") TT) (TB : LamX.TabB X.base X.mg c P) (hcode : X.env.code = .ref c) (hmT : (P, X.env.qual ++ "<lambda>") ∈ T)
    (hu : ∀ p ∈ T, p.1 = P → p.2 = X.env.qual ++ "<lambda>") (hr : Room (k + 2) X.A) (L : LamX.LamS X.env.scope scope) (hdef : defaultsOf params X.env = ([], []))
    (hbind : ∀ (q : Str) (cl : List (Str × Addr)) (pm cv ctv : Value), bindArgs (PySem.W.kla_fn "<lambda>" q params body scope cl pm cv ctv) ⟨[], []⟩ = pure [])
    (hbody : ∀ (A : Around) (outer : List Env) (s : Shared) (H : Hp) (E : XK) (f c' : Addr), Room k (A.deeper (LamX.lamEnv X scope s.heap.objs.size f c')) → PE (LamX.lamCx X A outer s H E scope f c') body (t E))
    (h1 : (x == ("__debug__" : Str)) = false := by decide) (h2 : (a == ("__debug__" : Str)) = false := by decide) (h3 : (a == ("__classdict__" : Str)) = false := by decide) :
    PE X (.Call (.Name x p) [.Lambda params body scope lpos] [] pos) (LamX.tLam T TT t) := by
  obtain ⟨oc, od, kV, doc, pm, an, cdv, ct, osl, rfl, lk, hcd⟩ := F.ex
  exact LamX.pe_lamcall hg hm F.kp lk hcd hb Sg hNg hva (hG cdv) TB hcode hmT hu hr L hdef hbind hbody h1 h2 h3
end
end GX
namespace KX
open PySem PySem.Spec PyProof.Rows L2
section
variable {X : Cx}
/-- xs.count(True), xs a list of bools -/
def rCntB (K : PySem.W.Frag) : V → List V → Hp → VK → Prop := fun x xs H Q => ∃ (p : Addr) (bs : List Bool) (k : Bool), x = .ref p ∧ xs = [.bl k] ∧ SqL K H p (bs.map V.bl) ∧ Q (.int (bs.countP (fun b => b == k) : Nat)) H
theorem bools_of : ∀ {bs : List Bool} {its : List Value}, Vals (bs.map V.bl) its → its = bs.map Value.bool
  | [], _, .nil => rfl
  | b :: bs, _, .cons r t => by
    cases (show _ = Value.bool b from r)
    rw [bools_of t]
    rfl
theorem mt_count_bl : MtR X "list.count" (rCntB X.K) := by
  intro pins s σ H x xs v us Q I rx rxs h
  obtain ⟨p, bs, k, rfl, rfl, hs, q⟩ := h
  cases rx
  obtain ⟨u, rfl, ru⟩ := rxs.one
  cases (show u = Value.bool k from ru)
  obtain ⟨its, rv, ⟨⟨cls, dd, data, sl⟩, n, ho, hc, hdn, hd⟩, hlen⟩ := I.list hs
  simp only at hc hd
  subst hc hd
  have hi := bools_of rv
  refine call_meets PySem.F.slot_list_count ⟨_, ho, rfl⟩ PySem.F.entry_list_count (PySem.F.args_list_count_2 _ _)
    (SeqAt.list_countAt p its.toArray n dd sl (.bool k) (isBoolOf k)) ⟨ho, fun y hy => ?_, ?_⟩
  · have hy' : y ∈ its := by simpa using hy
    rw [hi] at hy'
    obtain ⟨b, _, rfl⟩ := List.mem_map.mp hy'
    exact PySem.SeqAt.EqAt.bool_bool b k
  · have ec : its.toArray.toList.countP (isBoolOf k) = bs.countP (fun b => b == k) := by
      show its.countP (isBoolOf k) = _
      rw [hi, List.countP_map]
      rfl
    refine ⟨.int (bs.countP (fun b => b == k) : Nat), H, I.tok _, ⟨s.toks, ?_⟩, q⟩
    show Value.int ((its.toArray.toList.countP (isBoolOf k) : Nat) : Int) s.toks = _
    rw [ec]
end
end KX

namespace KX
open PySem L2
/-! ### the text by places -/
def top (i : Nat) : Stmt := PySem.Challenge.pw_exactbeats_k06_ideal_outputs_refused.main.body.getD i (.Pass ⟨0, 0, 0, 0⟩)
abbrev s_wall : Stmt := top 0
abbrev N_wall : List Str := ["k"]
abbrev P_wall : List Str := ["k"]
theorem sc_wall : FnScope N_wall P_wall (defScope s_wall) := ⟨rfl, rfl, rfl, by decide +kernel, rfl, by decide +kernel, by decide +kernel⟩
abbrev s_is_integer : Stmt := top 9
abbrev N_is_integer : List Str := ["thing"]
abbrev P_is_integer : List Str := ["thing"]
theorem sc_is_integer : FnScope N_is_integer P_is_integer (defScope s_is_integer) := ⟨rfl, rfl, rfl, by decide +kernel, rfl, by decide +kernel, by decide +kernel⟩
abbrev s_is_integer_from : Stmt := top 10
abbrev N_is_integer_from : List Str := ["least", "greatest", "thing"]
abbrev P_is_integer_from : List Str := ["least", "greatest", "thing"]
theorem sc_is_integer_from : FnScope N_is_integer_from P_is_integer_from (defScope s_is_integer_from) := ⟨rfl, rfl, rfl, by decide +kernel, rfl, by decide +kernel, by decide +kernel⟩
abbrev s_is_number_below : Stmt := top 11
abbrev N_is_number_below : List Str := ["bound", "thing"]
abbrev P_is_number_below : List Str := ["bound", "thing"]
theorem sc_is_number_below : FnScope N_is_number_below P_is_number_below (defScope s_is_number_below) := ⟨rfl, rfl, rfl, by decide +kernel, rfl, by decide +kernel, by decide +kernel⟩
abbrev s_is_tuple_of : Stmt := top 12
abbrev N_is_tuple_of : List Str := ["many", "thing"]
abbrev P_is_tuple_of : List Str := ["many", "thing"]
theorem sc_is_tuple_of : FnScope N_is_tuple_of P_is_tuple_of (defScope s_is_tuple_of) := ⟨rfl, rfl, rfl, by decide +kernel, rfl, by decide +kernel, by decide +kernel⟩
abbrev s_check_lines : Stmt := top 16
abbrev N_check_lines : List Str := ["lines"]
abbrev P_check_lines : List Str := ["lines"]
theorem sc_check_lines : FnScope N_check_lines P_check_lines (defScope s_check_lines) := ⟨rfl, rfl, rfl, by decide +kernel, rfl, by decide +kernel, by decide +kernel⟩
abbrev s_is_cell_number : Stmt := top 17
abbrev N_is_cell_number : List Str := ["thing"]
abbrev P_is_cell_number : List Str := ["thing"]
theorem sc_is_cell_number : FnScope N_is_cell_number P_is_cell_number (defScope s_is_cell_number) := ⟨rfl, rfl, rfl, by decide +kernel, rfl, by decide +kernel, by decide +kernel⟩
abbrev s_is_rank : Stmt := top 20
abbrev N_is_rank : List Str := ["thing"]
abbrev P_is_rank : List Str := ["thing"]
theorem sc_is_rank : FnScope N_is_rank P_is_rank (defScope s_is_rank) := ⟨rfl, rfl, rfl, by decide +kernel, rfl, by decide +kernel, by decide +kernel⟩
abbrev s_is_key : Stmt := top 21
abbrev N_is_key : List Str := ["thing"]
abbrev P_is_key : List Str := ["thing"]
theorem sc_is_key : FnScope N_is_key P_is_key (defScope s_is_key) := ⟨rfl, rfl, rfl, by decide +kernel, rfl, by decide +kernel, by decide +kernel⟩
abbrev s_check_key : Stmt := top 22
abbrev N_check_key : List Str := ["key"]
abbrev P_check_key : List Str := ["key"]
theorem sc_check_key : FnScope N_check_key P_check_key (defScope s_check_key) := ⟨rfl, rfl, rfl, by decide +kernel, rfl, by decide +kernel, by decide +kernel⟩
abbrev s_how_many_less : Stmt := top 23
abbrev N_how_many_less : List Str := ["keys", "key", "low", "high", "middle"]
abbrev P_how_many_less : List Str := ["keys", "key"]
theorem sc_how_many_less : FnScope N_how_many_less P_how_many_less (defScope s_how_many_less) := ⟨rfl, rfl, rfl, by decide +kernel, rfl, by decide +kernel, by decide +kernel⟩
abbrev s_Ideal___init__ : Stmt := inClass (top 24) 0
abbrev N_Ideal___init__ : List Str := ["self", "outputs", "_"]
abbrev P_Ideal___init__ : List Str := ["self", "outputs"]
theorem sc_Ideal___init__ : FnScope N_Ideal___init__ P_Ideal___init__ (defScope s_Ideal___init__) := ⟨rfl, rfl, rfl, by decide +kernel, rfl, by decide +kernel, by decide +kernel⟩
abbrev s_Ideal__row : Stmt := inClass (top 24) 1
abbrev N_Ideal__row : List Str := ["self", "output"]
abbrev P_Ideal__row : List Str := ["self", "output"]
theorem sc_Ideal__row : FnScope N_Ideal__row P_Ideal__row (defScope s_Ideal__row) := ⟨rfl, rfl, rfl, by decide +kernel, rfl, by decide +kernel, by decide +kernel⟩
abbrev s_Ideal_push : Stmt := inClass (top 24) 2
abbrev N_Ideal_push : List Str := ["self", "output", "key", "row", "_", "number"]
abbrev P_Ideal_push : List Str := ["self", "output", "key"]
theorem sc_Ideal_push : FnScope N_Ideal_push P_Ideal_push (defScope s_Ideal_push) := ⟨rfl, rfl, rfl, by decide +kernel, rfl, by decide +kernel, by decide +kernel⟩
abbrev s_Ideal_due : Stmt := inClass (top 24) 3
abbrev N_Ideal_due : List Str := ["self", "output", "row"]
abbrev P_Ideal_due : List Str := ["self", "output"]
theorem sc_Ideal_due : FnScope N_Ideal_due P_Ideal_due (defScope s_Ideal_due) := ⟨rfl, rfl, rfl, by decide +kernel, rfl, by decide +kernel, by decide +kernel⟩
abbrev s_Ideal_let_go : Stmt := inClass (top 24) 4
abbrev N_Ideal_let_go : List Str := ["self", "output", "row"]
abbrev P_Ideal_let_go : List Str := ["self", "output"]
theorem sc_Ideal_let_go : FnScope N_Ideal_let_go P_Ideal_let_go (defScope s_Ideal_let_go) := ⟨rfl, rfl, rfl, by decide +kernel, rfl, by decide +kernel, by decide +kernel⟩
abbrev s_Ideal_held : Stmt := inClass (top 24) 5
abbrev N_Ideal_held : List Str := ["self", "output"]
abbrev P_Ideal_held : List Str := ["self", "output"]
theorem sc_Ideal_held : FnScope N_Ideal_held P_Ideal_held (defScope s_Ideal_held) := ⟨rfl, rfl, rfl, by decide +kernel, rfl, by decide +kernel, by decide +kernel⟩
abbrev s_Ideal_ahead : Stmt := inClass (top 24) 6
abbrev N_Ideal_ahead : List Str := ["self", "output", "key", "row"]
abbrev P_Ideal_ahead : List Str := ["self", "output", "key"]
theorem sc_Ideal_ahead : FnScope N_Ideal_ahead P_Ideal_ahead (defScope s_Ideal_ahead) := ⟨rfl, rfl, rfl, by decide +kernel, rfl, by decide +kernel, by decide +kernel⟩
abbrev s_Ideal_copy : Stmt := inClass (top 24) 7
abbrev N_Ideal_copy : List Str := ["self"]
abbrev P_Ideal_copy : List Str := ["self"]
theorem sc_Ideal_copy : FnScope N_Ideal_copy P_Ideal_copy (defScope s_Ideal_copy) := ⟨rfl, rfl, rfl, by decide +kernel, rfl, by decide +kernel, by decide +kernel⟩
abbrev s_law_hand : Stmt := top 26
abbrev N_law_hand : List Str := ["_law_script", "_law_given", "_law_cell"]
abbrev P_law_hand : List Str := ["_law_script"]
theorem sc_law_hand : FnScope N_law_hand P_law_hand (defScope s_law_hand) := ⟨rfl, rfl, rfl, by decide +kernel, rfl, by decide +kernel, by decide +kernel⟩
abbrev s_law_draw : Stmt := top 27
abbrev N_law_draw : List Str := ["_law_hand_here", "_law_many", "_law_cell", "_law_digit", "_law_number"]
abbrev P_law_draw : List Str := ["_law_hand_here", "_law_many"]
theorem sc_law_draw : FnScope N_law_draw P_law_draw (defScope s_law_draw) := ⟨rfl, rfl, rfl, by decide +kernel, rfl, by decide +kernel, by decide +kernel⟩
abbrev s_law_any : Stmt := top 28
abbrev N_law_any : List Str := ["_law_hand_here", "_law_some"]
abbrev P_law_any : List Str := ["_law_hand_here", "_law_some"]
theorem sc_law_any : FnScope N_law_any P_law_any (defScope s_law_any) := ⟨rfl, rfl, rfl, by decide +kernel, rfl, by decide +kernel, by decide +kernel⟩
abbrev s_law_is_int : Stmt := top 29
abbrev N_law_is_int : List Str := ["_law_thing", "_law_least", "_law_most"]
abbrev P_law_is_int : List Str := ["_law_thing", "_law_least", "_law_most"]
theorem sc_law_is_int : FnScope N_law_is_int P_law_is_int (defScope s_law_is_int) := ⟨rfl, rfl, rfl, by decide +kernel, rfl, by decide +kernel, by decide +kernel⟩
abbrev s_law_deep : Stmt := top 30
abbrev N_law_deep : List Str := ["_law_hand_here", "_law_thing", "_law_turn"]
abbrev P_law_deep : List Str := ["_law_hand_here"]
theorem sc_law_deep : FnScope N_law_deep P_law_deep (defScope s_law_deep) := ⟨rfl, rfl, rfl, by decide +kernel, rfl, by decide +kernel, by decide +kernel⟩
abbrev s_law_odd : Stmt := top 31
abbrev N_law_odd : List Str := ["_law_hand_here", "_law_other", "_law_some"]
abbrev P_law_odd : List Str := ["_law_hand_here", "_law_other"]
theorem sc_law_odd : FnScope N_law_odd P_law_odd (defScope s_law_odd) := ⟨rfl, rfl, rfl, by decide +kernel, rfl, by decide +kernel, by decide +kernel⟩
abbrev s_law_first : Stmt := top 32
abbrev N_law_first : List Str := ["_law_pairs", "_law_word_here", "_law_is_right"]
abbrev P_law_first : List Str := ["_law_pairs"]
theorem sc_law_first : FnScope N_law_first P_law_first (defScope s_law_first) := ⟨rfl, rfl, rfl, by decide +kernel, rfl, by decide +kernel, by decide +kernel⟩
abbrev s_law_key : Stmt := top 33
abbrev N_law_key : List Str := ["_law_hand_here", "_law_many", "_law_rank"]
abbrev P_law_key : List Str := ["_law_hand_here", "_law_many"]
theorem sc_law_key : FnScope N_law_key P_law_key (defScope s_law_key) := ⟨rfl, rfl, rfl, by decide +kernel, rfl, by decide +kernel, by decide +kernel⟩
abbrev s_law_inserted : Stmt := top 34
abbrev N_law_inserted : List Str := ["_law_row", "_law_key_here", "_law_at", "_law_one"]
abbrev P_law_inserted : List Str := ["_law_row", "_law_key_here"]
theorem sc_law_inserted : FnScope N_law_inserted P_law_inserted (defScope s_law_inserted) := ⟨rfl, rfl, rfl, by decide +kernel, rfl, by decide +kernel, by decide +kernel⟩
abbrev s_law_word : Stmt := top 35
abbrev N_law_word : List Str := ["_law_call", "_law_word_here", "e", "_law_flags"]
abbrev P_law_word : List Str := ["_law_call"]
theorem sc_law_word : FnScope N_law_word P_law_word (defScope s_law_word) := ⟨rfl, rfl, rfl, by decide +kernel, rfl, by decide +kernel, by decide +kernel⟩
abbrev s_law_is_key : Stmt := top 36
abbrev N_law_is_key : List Str := ["_law_thing"]
abbrev P_law_is_key : List Str := ["_law_thing"]
theorem sc_law_is_key : FnScope N_law_is_key P_law_is_key (defScope s_law_is_key) := ⟨rfl, rfl, rfl, by decide +kernel, rfl, by decide +kernel, by decide +kernel⟩
abbrev s_law_some_key : Stmt := top 37
abbrev N_law_some_key : List Str := ["_law_hand_here", "_law_other", "_law_rank", "_law_cell", "_law_some"]
abbrev P_law_some_key : List Str := ["_law_hand_here", "_law_other"]
theorem sc_law_some_key : FnScope N_law_some_key P_law_some_key (defScope s_law_some_key) := ⟨rfl, rfl, rfl, by decide +kernel, rfl, by decide +kernel, by decide +kernel⟩
abbrev s_law : Stmt := top 38
abbrev N_law : List Str := ["_law_script", "_law_hand_here", "_law_outputs", "_law_output", "_law_rows", "_law_turn", "_law_is_out", "_law_is_key_here", "_law_pairs", "_law_is_new", "_law_due", "_law_ideal", "_law_key_here", "_law_many", "_law_one", "_law_row", "_law_rank", "_law_cell"]
abbrev P_law : List Str := ["_law_script"]
theorem sc_law : FnScope N_law P_law (defScope s_law) := ⟨rfl, rfl, rfl, by decide +kernel, rfl, by decide +kernel, by decide +kernel⟩
/-! ### what the top has left -/
structure Adr where
  a_wall : Addr
  d_wall : FuncData
  a_is_integer : Addr
  d_is_integer : FuncData
  a_is_integer_from : Addr
  d_is_integer_from : FuncData
  a_is_number_below : Addr
  d_is_number_below : FuncData
  a_is_tuple_of : Addr
  d_is_tuple_of : FuncData
  a_check_lines : Addr
  d_check_lines : FuncData
  a_is_cell_number : Addr
  d_is_cell_number : FuncData
  a_is_rank : Addr
  d_is_rank : FuncData
  a_is_key : Addr
  d_is_key : FuncData
  a_check_key : Addr
  d_check_key : FuncData
  a_how_many_less : Addr
  d_how_many_less : FuncData
  a_Ideal___init__ : Addr
  d_Ideal___init__ : FuncData
  a_Ideal__row : Addr
  d_Ideal__row : FuncData
  a_Ideal_push : Addr
  d_Ideal_push : FuncData
  a_Ideal_due : Addr
  d_Ideal_due : FuncData
  a_Ideal_let_go : Addr
  d_Ideal_let_go : FuncData
  a_Ideal_held : Addr
  d_Ideal_held : FuncData
  a_Ideal_ahead : Addr
  d_Ideal_ahead : FuncData
  a_Ideal_copy : Addr
  d_Ideal_copy : FuncData
  a_law_hand : Addr
  d_law_hand : FuncData
  a_law_draw : Addr
  d_law_draw : FuncData
  a_law_any : Addr
  d_law_any : FuncData
  a_law_is_int : Addr
  d_law_is_int : FuncData
  a_law_deep : Addr
  d_law_deep : FuncData
  a_law_odd : Addr
  d_law_odd : FuncData
  a_law_first : Addr
  d_law_first : FuncData
  a_law_key : Addr
  d_law_key : FuncData
  a_law_inserted : Addr
  d_law_inserted : FuncData
  a_law_word : Addr
  d_law_word : FuncData
  a_law_is_key : Addr
  d_law_is_key : FuncData
  a_law_some_key : Addr
  d_law_some_key : FuncData
  a_law : Addr
  d_law : FuncData
  c_Ideal : Addr
  c_FabricError : Addr
  c_NoLines : Addr
  c_NoOutput : Addr
  c_NoKey : Addr
  c_KeyThere : Addr
  c_NothingThere : Addr
  cd_law : Addr
  tb_law : Addr
structure Top (K : PySem.W.Frag) (mg : Str → Option Value) (A : Adr) : Prop where
  F_wall : Fun K "_wall" "_wall" s_wall A.a_wall A.d_wall
  g_wall : mg "_wall" = some (.ref A.a_wall)
  b_wall : Binds K A.d_wall P_wall []
  F_is_integer : Fun K "is_integer" "is_integer" s_is_integer A.a_is_integer A.d_is_integer
  g_is_integer : mg "is_integer" = some (.ref A.a_is_integer)
  b_is_integer : Binds K A.d_is_integer P_is_integer []
  F_is_integer_from : Fun K "is_integer_from" "is_integer_from" s_is_integer_from A.a_is_integer_from A.d_is_integer_from
  g_is_integer_from : mg "is_integer_from" = some (.ref A.a_is_integer_from)
  b_is_integer_from : Binds K A.d_is_integer_from P_is_integer_from []
  F_is_number_below : Fun K "is_number_below" "is_number_below" s_is_number_below A.a_is_number_below A.d_is_number_below
  g_is_number_below : mg "is_number_below" = some (.ref A.a_is_number_below)
  b_is_number_below : Binds K A.d_is_number_below P_is_number_below []
  F_is_tuple_of : Fun K "is_tuple_of" "is_tuple_of" s_is_tuple_of A.a_is_tuple_of A.d_is_tuple_of
  g_is_tuple_of : mg "is_tuple_of" = some (.ref A.a_is_tuple_of)
  b_is_tuple_of : Binds K A.d_is_tuple_of P_is_tuple_of []
  F_check_lines : Fun K "check_lines" "check_lines" s_check_lines A.a_check_lines A.d_check_lines
  g_check_lines : mg "check_lines" = some (.ref A.a_check_lines)
  b_check_lines : Binds K A.d_check_lines P_check_lines []
  F_is_cell_number : Fun K "is_cell_number" "is_cell_number" s_is_cell_number A.a_is_cell_number A.d_is_cell_number
  g_is_cell_number : mg "is_cell_number" = some (.ref A.a_is_cell_number)
  b_is_cell_number : Binds K A.d_is_cell_number P_is_cell_number []
  F_is_rank : Fun K "is_rank" "is_rank" s_is_rank A.a_is_rank A.d_is_rank
  g_is_rank : mg "is_rank" = some (.ref A.a_is_rank)
  b_is_rank : Binds K A.d_is_rank P_is_rank []
  F_is_key : Fun K "is_key" "is_key" s_is_key A.a_is_key A.d_is_key
  g_is_key : mg "is_key" = some (.ref A.a_is_key)
  b_is_key : Binds K A.d_is_key P_is_key []
  F_check_key : Fun K "check_key" "check_key" s_check_key A.a_check_key A.d_check_key
  g_check_key : mg "check_key" = some (.ref A.a_check_key)
  b_check_key : Binds K A.d_check_key P_check_key []
  F_how_many_less : Fun K "how_many_less" "how_many_less" s_how_many_less A.a_how_many_less A.d_how_many_less
  g_how_many_less : mg "how_many_less" = some (.ref A.a_how_many_less)
  b_how_many_less : Binds K A.d_how_many_less P_how_many_less []
  F_Ideal___init__ : Fun K "__init__" "Ideal.__init__" s_Ideal___init__ A.a_Ideal___init__ A.d_Ideal___init__
  b_Ideal___init__ : Binds K A.d_Ideal___init__ P_Ideal___init__ []
  F_Ideal__row : Fun K "_row" "Ideal._row" s_Ideal__row A.a_Ideal__row A.d_Ideal__row
  b_Ideal__row : Binds K A.d_Ideal__row P_Ideal__row []
  F_Ideal_push : Fun K "push" "Ideal.push" s_Ideal_push A.a_Ideal_push A.d_Ideal_push
  b_Ideal_push : Binds K A.d_Ideal_push P_Ideal_push []
  F_Ideal_due : Fun K "due" "Ideal.due" s_Ideal_due A.a_Ideal_due A.d_Ideal_due
  b_Ideal_due : Binds K A.d_Ideal_due P_Ideal_due []
  F_Ideal_let_go : Fun K "let_go" "Ideal.let_go" s_Ideal_let_go A.a_Ideal_let_go A.d_Ideal_let_go
  b_Ideal_let_go : Binds K A.d_Ideal_let_go P_Ideal_let_go []
  F_Ideal_held : Fun K "held" "Ideal.held" s_Ideal_held A.a_Ideal_held A.d_Ideal_held
  b_Ideal_held : Binds K A.d_Ideal_held P_Ideal_held []
  F_Ideal_ahead : Fun K "ahead" "Ideal.ahead" s_Ideal_ahead A.a_Ideal_ahead A.d_Ideal_ahead
  b_Ideal_ahead : Binds K A.d_Ideal_ahead P_Ideal_ahead []
  F_Ideal_copy : Fun K "copy" "Ideal.copy" s_Ideal_copy A.a_Ideal_copy A.d_Ideal_copy
  b_Ideal_copy : Binds K A.d_Ideal_copy P_Ideal_copy []
  F_law_hand : Fun K "_law_hand" "_law_hand" s_law_hand A.a_law_hand A.d_law_hand
  g_law_hand : mg "_law_hand" = some (.ref A.a_law_hand)
  b_law_hand : Binds K A.d_law_hand P_law_hand []
  F_law_draw : Fun K "_law_draw" "_law_draw" s_law_draw A.a_law_draw A.d_law_draw
  g_law_draw : mg "_law_draw" = some (.ref A.a_law_draw)
  b_law_draw : Binds K A.d_law_draw P_law_draw []
  F_law_any : Fun K "_law_any" "_law_any" s_law_any A.a_law_any A.d_law_any
  g_law_any : mg "_law_any" = some (.ref A.a_law_any)
  b_law_any : Binds K A.d_law_any P_law_any []
  F_law_is_int : Fun K "_law_is_int" "_law_is_int" s_law_is_int A.a_law_is_int A.d_law_is_int
  g_law_is_int : mg "_law_is_int" = some (.ref A.a_law_is_int)
  b_law_is_int : Binds K A.d_law_is_int P_law_is_int []
  F_law_deep : Fun K "_law_deep" "_law_deep" s_law_deep A.a_law_deep A.d_law_deep
  g_law_deep : mg "_law_deep" = some (.ref A.a_law_deep)
  b_law_deep : Binds K A.d_law_deep P_law_deep []
  F_law_odd : Fun K "_law_odd" "_law_odd" s_law_odd A.a_law_odd A.d_law_odd
  g_law_odd : mg "_law_odd" = some (.ref A.a_law_odd)
  b_law_odd : Binds K A.d_law_odd P_law_odd []
  F_law_first : Fun K "_law_first" "_law_first" s_law_first A.a_law_first A.d_law_first
  g_law_first : mg "_law_first" = some (.ref A.a_law_first)
  b_law_first : Binds K A.d_law_first P_law_first []
  F_law_key : Fun K "_law_key" "_law_key" s_law_key A.a_law_key A.d_law_key
  g_law_key : mg "_law_key" = some (.ref A.a_law_key)
  b_law_key : Binds K A.d_law_key P_law_key []
  F_law_inserted : Fun K "_law_inserted" "_law_inserted" s_law_inserted A.a_law_inserted A.d_law_inserted
  g_law_inserted : mg "_law_inserted" = some (.ref A.a_law_inserted)
  b_law_inserted : Binds K A.d_law_inserted P_law_inserted []
  F_law_word : Fun K "_law_word" "_law_word" s_law_word A.a_law_word A.d_law_word
  g_law_word : mg "_law_word" = some (.ref A.a_law_word)
  b_law_word : Binds K A.d_law_word P_law_word []
  F_law_is_key : Fun K "_law_is_key" "_law_is_key" s_law_is_key A.a_law_is_key A.d_law_is_key
  g_law_is_key : mg "_law_is_key" = some (.ref A.a_law_is_key)
  b_law_is_key : Binds K A.d_law_is_key P_law_is_key []
  F_law_some_key : Fun K "_law_some_key" "_law_some_key" s_law_some_key A.a_law_some_key A.d_law_some_key
  g_law_some_key : mg "_law_some_key" = some (.ref A.a_law_some_key)
  b_law_some_key : Binds K A.d_law_some_key P_law_some_key []
  F_law : Fun K "law" "law" s_law A.a_law A.d_law
  g_law : mg "law" = some (.ref A.a_law)
  b_law : Binds K A.d_law P_law []
  cl_Ideal : Cls K A.c_Ideal
  gc_Ideal : mg "Ideal" = some (.ref A.c_Ideal)
  mk_Ideal : Mk K A.c_Ideal A.a_Ideal___init__
  m_Ideal__row : Meth K A.c_Ideal "_row" A.a_Ideal__row
  m_Ideal_push : Meth K A.c_Ideal "push" A.a_Ideal_push
  m_Ideal_due : Meth K A.c_Ideal "due" A.a_Ideal_due
  m_Ideal_let_go : Meth K A.c_Ideal "let_go" A.a_Ideal_let_go
  m_Ideal_held : Meth K A.c_Ideal "held" A.a_Ideal_held
  m_Ideal_ahead : Meth K A.c_Ideal "ahead" A.a_Ideal_ahead
  m_Ideal_copy : Meth K A.c_Ideal "copy" A.a_Ideal_copy
  n_Ideal__rows : NoAttr K A.c_Ideal "_rows"
  em_Ideal : PySem.W.mroIn K A.c_Ideal (.type "object") = some true
  es_Ideal : PySem.W.findIn K (.ref A.c_Ideal) "__eq__" = some (some (.builtin "object.__eq__"))
  gc_FabricError : mg "FabricError" = some (.ref A.c_FabricError)
  gc_NoLines : mg "NoLines" = some (.ref A.c_NoLines)
  gc_NoOutput : mg "NoOutput" = some (.ref A.c_NoOutput)
  gc_NoKey : mg "NoKey" = some (.ref A.c_NoKey)
  gc_KeyThere : mg "KeyThere" = some (.ref A.c_KeyThere)
  gc_NothingThere : mg "NothingThere" = some (.ref A.c_NothingThere)
  x_NoLines : PySem.W.excIn K A.c_NoLines [.type "ValueError", .type "Exception", .type "BaseException", .type "object"] "ValueError.__new__" = true
  kp_NoLines : PySem.W.keepIn K (.ref A.c_NoLines) = true
  s_NoLines : PySem.W.subIn K (.ref A.c_NoLines) (.type "BaseException") = some true
  t_NoLines : PySem.W.typeIn K (.ref A.c_NoLines) = some (.type "type")
  e1_NoLines : PySem.W.findIn K (.ref A.c_NoLines) "__getattribute__" = some (some (.builtin "BaseException.__getattribute__"))
  e2_NoLines : PySem.W.findIn K (.ref A.c_NoLines) "__getattr__" = some none
  e3_NoLines : PySem.W.hasDictIn K A.c_NoLines = true
  e4_NoLines : PySem.W.findIn K (.ref A.c_NoLines) "__class__" = some (some (.builtin "object.__class__"))
  e5_NoLines : PySem.W.mroIn K A.c_NoLines (.type "object") = some true
  x_NoKey : PySem.W.excIn K A.c_NoKey [.type "ValueError", .type "Exception", .type "BaseException", .type "object"] "ValueError.__new__" = true
  kp_NoKey : PySem.W.keepIn K (.ref A.c_NoKey) = true
  s_NoKey : PySem.W.subIn K (.ref A.c_NoKey) (.type "BaseException") = some true
  t_NoKey : PySem.W.typeIn K (.ref A.c_NoKey) = some (.type "type")
  e1_NoKey : PySem.W.findIn K (.ref A.c_NoKey) "__getattribute__" = some (some (.builtin "BaseException.__getattribute__"))
  e2_NoKey : PySem.W.findIn K (.ref A.c_NoKey) "__getattr__" = some none
  e3_NoKey : PySem.W.hasDictIn K A.c_NoKey = true
  e4_NoKey : PySem.W.findIn K (.ref A.c_NoKey) "__class__" = some (some (.builtin "object.__class__"))
  e5_NoKey : PySem.W.mroIn K A.c_NoKey (.type "object") = some true
  x_NoOutput : PySem.W.excIn K A.c_NoOutput [.type "ValueError", .type "Exception", .type "BaseException", .type "object"] "ValueError.__new__" = true
  kp_NoOutput : PySem.W.keepIn K (.ref A.c_NoOutput) = true
  s_NoOutput : PySem.W.subIn K (.ref A.c_NoOutput) (.type "BaseException") = some true
  t_NoOutput : PySem.W.typeIn K (.ref A.c_NoOutput) = some (.type "type")
  e1_NoOutput : PySem.W.findIn K (.ref A.c_NoOutput) "__getattribute__" = some (some (.builtin "BaseException.__getattribute__"))
  e2_NoOutput : PySem.W.findIn K (.ref A.c_NoOutput) "__getattr__" = some none
  e3_NoOutput : PySem.W.hasDictIn K A.c_NoOutput = true
  e4_NoOutput : PySem.W.findIn K (.ref A.c_NoOutput) "__class__" = some (some (.builtin "object.__class__"))
  e5_NoOutput : PySem.W.mroIn K A.c_NoOutput (.type "object") = some true
  x_KeyThere : PySem.W.excIn K A.c_KeyThere [.type "ValueError", .type "Exception", .type "BaseException", .type "object"] "ValueError.__new__" = true
  kp_KeyThere : PySem.W.keepIn K (.ref A.c_KeyThere) = true
  s_KeyThere : PySem.W.subIn K (.ref A.c_KeyThere) (.type "BaseException") = some true
  t_KeyThere : PySem.W.typeIn K (.ref A.c_KeyThere) = some (.type "type")
  e1_KeyThere : PySem.W.findIn K (.ref A.c_KeyThere) "__getattribute__" = some (some (.builtin "BaseException.__getattribute__"))
  e2_KeyThere : PySem.W.findIn K (.ref A.c_KeyThere) "__getattr__" = some none
  e3_KeyThere : PySem.W.hasDictIn K A.c_KeyThere = true
  e4_KeyThere : PySem.W.findIn K (.ref A.c_KeyThere) "__class__" = some (some (.builtin "object.__class__"))
  e5_KeyThere : PySem.W.mroIn K A.c_KeyThere (.type "object") = some true
  x_NothingThere : PySem.W.excIn K A.c_NothingThere [.type "ValueError", .type "Exception", .type "BaseException", .type "object"] "ValueError.__new__" = true
  kp_NothingThere : PySem.W.keepIn K (.ref A.c_NothingThere) = true
  s_NothingThere : PySem.W.subIn K (.ref A.c_NothingThere) (.type "BaseException") = some true
  t_NothingThere : PySem.W.typeIn K (.ref A.c_NothingThere) = some (.type "type")
  e1_NothingThere : PySem.W.findIn K (.ref A.c_NothingThere) "__getattribute__" = some (some (.builtin "BaseException.__getattribute__"))
  e2_NothingThere : PySem.W.findIn K (.ref A.c_NothingThere) "__getattr__" = some none
  e3_NothingThere : PySem.W.hasDictIn K A.c_NothingThere = true
  e4_NothingThere : PySem.W.findIn K (.ref A.c_NothingThere) "__class__" = some (some (.builtin "object.__class__"))
  e5_NothingThere : PySem.W.mroIn K A.c_NothingThere (.type "object") = some true
  ki_Ideal_int : PySem.W.kitOne K (.ref A.c_Ideal) (.type "int") = some false
  ki_Ideal_bool : PySem.W.kitOne K (.ref A.c_Ideal) (.type "bool") = some false
  ki_Ideal_tuple : PySem.W.kitOne K (.ref A.c_Ideal) (.type "tuple") = some false
  ci_Ideal : PySem.W.findIn K (.ref A.c_Ideal) "__class__" = some (some (.builtin "object.__class__"))
  en1 : PySem.W.specialIn K (.builtin "object.__class__") "__get__" = some (some (.builtin "getset_descriptor.__get__"))
  en2 : PySem.W.takesIn K (.builtin "object.__class__") = some true
  kt_NoLines_FabricError : PySem.W.kitOne K (.ref A.c_NoLines) (.ref A.c_FabricError) = some true
  xm_NoLines_FabricError : PySem.W.exmOne K (.ref A.c_NoLines) (.ref A.c_FabricError) = some true
  kt_NoLines_ValueError : PySem.W.kitOne K (.ref A.c_NoLines) (.type "ValueError") = some true
  kt_NoLines_NothingThere : PySem.W.kitOne K (.ref A.c_NoLines) (.ref A.c_NothingThere) = some false
  xm_NoLines_NothingThere : PySem.W.exmOne K (.ref A.c_NoLines) (.ref A.c_NothingThere) = some false
  kt_NoLines_KeyThere : PySem.W.kitOne K (.ref A.c_NoLines) (.ref A.c_KeyThere) = some false
  xm_NoLines_KeyThere : PySem.W.exmOne K (.ref A.c_NoLines) (.ref A.c_KeyThere) = some false
  kt_NoLines_NoKey : PySem.W.kitOne K (.ref A.c_NoLines) (.ref A.c_NoKey) = some false
  xm_NoLines_NoKey : PySem.W.exmOne K (.ref A.c_NoLines) (.ref A.c_NoKey) = some false
  kt_NoLines_NoOutput : PySem.W.kitOne K (.ref A.c_NoLines) (.ref A.c_NoOutput) = some false
  xm_NoLines_NoOutput : PySem.W.exmOne K (.ref A.c_NoLines) (.ref A.c_NoOutput) = some false
  kt_NoLines_NoLines : PySem.W.kitOne K (.ref A.c_NoLines) (.ref A.c_NoLines) = some true
  xm_NoLines_NoLines : PySem.W.exmOne K (.ref A.c_NoLines) (.ref A.c_NoLines) = some true
  kt_NoKey_FabricError : PySem.W.kitOne K (.ref A.c_NoKey) (.ref A.c_FabricError) = some true
  xm_NoKey_FabricError : PySem.W.exmOne K (.ref A.c_NoKey) (.ref A.c_FabricError) = some true
  kt_NoKey_ValueError : PySem.W.kitOne K (.ref A.c_NoKey) (.type "ValueError") = some true
  kt_NoKey_NothingThere : PySem.W.kitOne K (.ref A.c_NoKey) (.ref A.c_NothingThere) = some false
  xm_NoKey_NothingThere : PySem.W.exmOne K (.ref A.c_NoKey) (.ref A.c_NothingThere) = some false
  kt_NoKey_KeyThere : PySem.W.kitOne K (.ref A.c_NoKey) (.ref A.c_KeyThere) = some false
  xm_NoKey_KeyThere : PySem.W.exmOne K (.ref A.c_NoKey) (.ref A.c_KeyThere) = some false
  kt_NoKey_NoKey : PySem.W.kitOne K (.ref A.c_NoKey) (.ref A.c_NoKey) = some true
  xm_NoKey_NoKey : PySem.W.exmOne K (.ref A.c_NoKey) (.ref A.c_NoKey) = some true
  kt_NoKey_NoOutput : PySem.W.kitOne K (.ref A.c_NoKey) (.ref A.c_NoOutput) = some false
  xm_NoKey_NoOutput : PySem.W.exmOne K (.ref A.c_NoKey) (.ref A.c_NoOutput) = some false
  kt_NoKey_NoLines : PySem.W.kitOne K (.ref A.c_NoKey) (.ref A.c_NoLines) = some false
  xm_NoKey_NoLines : PySem.W.exmOne K (.ref A.c_NoKey) (.ref A.c_NoLines) = some false
  kt_NoOutput_FabricError : PySem.W.kitOne K (.ref A.c_NoOutput) (.ref A.c_FabricError) = some true
  xm_NoOutput_FabricError : PySem.W.exmOne K (.ref A.c_NoOutput) (.ref A.c_FabricError) = some true
  kt_NoOutput_ValueError : PySem.W.kitOne K (.ref A.c_NoOutput) (.type "ValueError") = some true
  kt_NoOutput_NothingThere : PySem.W.kitOne K (.ref A.c_NoOutput) (.ref A.c_NothingThere) = some false
  xm_NoOutput_NothingThere : PySem.W.exmOne K (.ref A.c_NoOutput) (.ref A.c_NothingThere) = some false
  kt_NoOutput_KeyThere : PySem.W.kitOne K (.ref A.c_NoOutput) (.ref A.c_KeyThere) = some false
  xm_NoOutput_KeyThere : PySem.W.exmOne K (.ref A.c_NoOutput) (.ref A.c_KeyThere) = some false
  kt_NoOutput_NoKey : PySem.W.kitOne K (.ref A.c_NoOutput) (.ref A.c_NoKey) = some false
  xm_NoOutput_NoKey : PySem.W.exmOne K (.ref A.c_NoOutput) (.ref A.c_NoKey) = some false
  kt_NoOutput_NoOutput : PySem.W.kitOne K (.ref A.c_NoOutput) (.ref A.c_NoOutput) = some true
  xm_NoOutput_NoOutput : PySem.W.exmOne K (.ref A.c_NoOutput) (.ref A.c_NoOutput) = some true
  kt_NoOutput_NoLines : PySem.W.kitOne K (.ref A.c_NoOutput) (.ref A.c_NoLines) = some false
  xm_NoOutput_NoLines : PySem.W.exmOne K (.ref A.c_NoOutput) (.ref A.c_NoLines) = some false
  kt_KeyThere_FabricError : PySem.W.kitOne K (.ref A.c_KeyThere) (.ref A.c_FabricError) = some true
  xm_KeyThere_FabricError : PySem.W.exmOne K (.ref A.c_KeyThere) (.ref A.c_FabricError) = some true
  kt_KeyThere_ValueError : PySem.W.kitOne K (.ref A.c_KeyThere) (.type "ValueError") = some true
  kt_KeyThere_NothingThere : PySem.W.kitOne K (.ref A.c_KeyThere) (.ref A.c_NothingThere) = some false
  xm_KeyThere_NothingThere : PySem.W.exmOne K (.ref A.c_KeyThere) (.ref A.c_NothingThere) = some false
  kt_KeyThere_KeyThere : PySem.W.kitOne K (.ref A.c_KeyThere) (.ref A.c_KeyThere) = some true
  xm_KeyThere_KeyThere : PySem.W.exmOne K (.ref A.c_KeyThere) (.ref A.c_KeyThere) = some true
  kt_KeyThere_NoKey : PySem.W.kitOne K (.ref A.c_KeyThere) (.ref A.c_NoKey) = some false
  xm_KeyThere_NoKey : PySem.W.exmOne K (.ref A.c_KeyThere) (.ref A.c_NoKey) = some false
  kt_KeyThere_NoOutput : PySem.W.kitOne K (.ref A.c_KeyThere) (.ref A.c_NoOutput) = some false
  xm_KeyThere_NoOutput : PySem.W.exmOne K (.ref A.c_KeyThere) (.ref A.c_NoOutput) = some false
  kt_KeyThere_NoLines : PySem.W.kitOne K (.ref A.c_KeyThere) (.ref A.c_NoLines) = some false
  xm_KeyThere_NoLines : PySem.W.exmOne K (.ref A.c_KeyThere) (.ref A.c_NoLines) = some false
  kt_NothingThere_FabricError : PySem.W.kitOne K (.ref A.c_NothingThere) (.ref A.c_FabricError) = some true
  xm_NothingThere_FabricError : PySem.W.exmOne K (.ref A.c_NothingThere) (.ref A.c_FabricError) = some true
  kt_NothingThere_ValueError : PySem.W.kitOne K (.ref A.c_NothingThere) (.type "ValueError") = some true
  kt_NothingThere_NothingThere : PySem.W.kitOne K (.ref A.c_NothingThere) (.ref A.c_NothingThere) = some true
  xm_NothingThere_NothingThere : PySem.W.exmOne K (.ref A.c_NothingThere) (.ref A.c_NothingThere) = some true
  kt_NothingThere_KeyThere : PySem.W.kitOne K (.ref A.c_NothingThere) (.ref A.c_KeyThere) = some false
  xm_NothingThere_KeyThere : PySem.W.exmOne K (.ref A.c_NothingThere) (.ref A.c_KeyThere) = some false
  kt_NothingThere_NoKey : PySem.W.kitOne K (.ref A.c_NothingThere) (.ref A.c_NoKey) = some false
  xm_NothingThere_NoKey : PySem.W.exmOne K (.ref A.c_NothingThere) (.ref A.c_NoKey) = some false
  kt_NothingThere_NoOutput : PySem.W.kitOne K (.ref A.c_NothingThere) (.ref A.c_NoOutput) = some false
  xm_NothingThere_NoOutput : PySem.W.exmOne K (.ref A.c_NothingThere) (.ref A.c_NoOutput) = some false
  kt_NothingThere_NoLines : PySem.W.kitOne K (.ref A.c_NothingThere) (.ref A.c_NoLines) = some false
  xm_NothingThere_NoLines : PySem.W.exmOne K (.ref A.c_NothingThere) (.ref A.c_NoLines) = some false
  L_law : GX.FunC K "law" "law" s_law A.a_law A.d_law A.cd_law
  k_MOST_LINES : ∃ t, mg "MOST_LINES" = some (.int 12 t)
  k_GREATEST_CELL : ∃ t, mg "GREATEST_CELL" = some (.int 1000000000 t)
  k_GREATEST_RANK : ∃ t, mg "GREATEST_RANK" = some (.int 1000000000000000000 t)
  z_ValueError : mg "ValueError" = none
  z_abs : mg "abs" = none
  z_bool : mg "bool" = none
  z_int : mg "int" = none
  z_isinstance : mg "isinstance" = none
  z_len : mg "len" = none
  z_range : mg "range" = none
  z_tuple : mg "tuple" = none
abbrev qlam_law : Str := (("law" : Str) ++ (".<locals>." : Str)) ++ ("<lambda>" : Str)
structure Tbs (base : Heap) (mg : Str → Option Value) (A : Adr) : Prop where
  t_law : LamX.TabB base mg A.cd_law A.tb_law
theorem top_mk {l : PySem.W.OpenLaw} {w : World} {K : PySem.W.Frag} {h : Heap} {mg : Str → Option Value} (X : K.In h) (G : h.Ns mainGlobals mg)
    {f_wall : Addr} {od_wall an_wall : Option Addr} {sl_wall : Array (Option Value)} {oc_wall kV_wall dc_wall pm_wall cd_wall ct_wall : Value}
    {f_is_integer : Addr} {od_is_integer an_is_integer : Option Addr} {sl_is_integer : Array (Option Value)} {oc_is_integer kV_is_integer dc_is_integer pm_is_integer cd_is_integer ct_is_integer : Value}
    {f_is_integer_from : Addr} {od_is_integer_from an_is_integer_from : Option Addr} {sl_is_integer_from : Array (Option Value)} {oc_is_integer_from kV_is_integer_from dc_is_integer_from pm_is_integer_from cd_is_integer_from ct_is_integer_from : Value}
    {f_is_number_below : Addr} {od_is_number_below an_is_number_below : Option Addr} {sl_is_number_below : Array (Option Value)} {oc_is_number_below kV_is_number_below dc_is_number_below pm_is_number_below cd_is_number_below ct_is_number_below : Value}
    {f_is_tuple_of : Addr} {od_is_tuple_of an_is_tuple_of : Option Addr} {sl_is_tuple_of : Array (Option Value)} {oc_is_tuple_of kV_is_tuple_of dc_is_tuple_of pm_is_tuple_of cd_is_tuple_of ct_is_tuple_of : Value}
    {f_check_lines : Addr} {od_check_lines an_check_lines : Option Addr} {sl_check_lines : Array (Option Value)} {oc_check_lines kV_check_lines dc_check_lines pm_check_lines cd_check_lines ct_check_lines : Value}
    {f_is_cell_number : Addr} {od_is_cell_number an_is_cell_number : Option Addr} {sl_is_cell_number : Array (Option Value)} {oc_is_cell_number kV_is_cell_number dc_is_cell_number pm_is_cell_number cd_is_cell_number ct_is_cell_number : Value}
    {f_is_rank : Addr} {od_is_rank an_is_rank : Option Addr} {sl_is_rank : Array (Option Value)} {oc_is_rank kV_is_rank dc_is_rank pm_is_rank cd_is_rank ct_is_rank : Value}
    {f_is_key : Addr} {od_is_key an_is_key : Option Addr} {sl_is_key : Array (Option Value)} {oc_is_key kV_is_key dc_is_key pm_is_key cd_is_key ct_is_key : Value}
    {f_check_key : Addr} {od_check_key an_check_key : Option Addr} {sl_check_key : Array (Option Value)} {oc_check_key kV_check_key dc_check_key pm_check_key cd_check_key ct_check_key : Value}
    {f_how_many_less : Addr} {od_how_many_less an_how_many_less : Option Addr} {sl_how_many_less : Array (Option Value)} {oc_how_many_less kV_how_many_less dc_how_many_less pm_how_many_less cd_how_many_less ct_how_many_less : Value}
    {f_Ideal___init__ : Addr} {od_Ideal___init__ an_Ideal___init__ : Option Addr} {sl_Ideal___init__ : Array (Option Value)} {oc_Ideal___init__ kV_Ideal___init__ dc_Ideal___init__ pm_Ideal___init__ cd_Ideal___init__ ct_Ideal___init__ : Value}
    {f_Ideal__row : Addr} {od_Ideal__row an_Ideal__row : Option Addr} {sl_Ideal__row : Array (Option Value)} {oc_Ideal__row kV_Ideal__row dc_Ideal__row pm_Ideal__row cd_Ideal__row ct_Ideal__row : Value}
    {f_Ideal_push : Addr} {od_Ideal_push an_Ideal_push : Option Addr} {sl_Ideal_push : Array (Option Value)} {oc_Ideal_push kV_Ideal_push dc_Ideal_push pm_Ideal_push cd_Ideal_push ct_Ideal_push : Value}
    {f_Ideal_due : Addr} {od_Ideal_due an_Ideal_due : Option Addr} {sl_Ideal_due : Array (Option Value)} {oc_Ideal_due kV_Ideal_due dc_Ideal_due pm_Ideal_due cd_Ideal_due ct_Ideal_due : Value}
    {f_Ideal_let_go : Addr} {od_Ideal_let_go an_Ideal_let_go : Option Addr} {sl_Ideal_let_go : Array (Option Value)} {oc_Ideal_let_go kV_Ideal_let_go dc_Ideal_let_go pm_Ideal_let_go cd_Ideal_let_go ct_Ideal_let_go : Value}
    {f_Ideal_held : Addr} {od_Ideal_held an_Ideal_held : Option Addr} {sl_Ideal_held : Array (Option Value)} {oc_Ideal_held kV_Ideal_held dc_Ideal_held pm_Ideal_held cd_Ideal_held ct_Ideal_held : Value}
    {f_Ideal_ahead : Addr} {od_Ideal_ahead an_Ideal_ahead : Option Addr} {sl_Ideal_ahead : Array (Option Value)} {oc_Ideal_ahead kV_Ideal_ahead dc_Ideal_ahead pm_Ideal_ahead cd_Ideal_ahead ct_Ideal_ahead : Value}
    {f_Ideal_copy : Addr} {od_Ideal_copy an_Ideal_copy : Option Addr} {sl_Ideal_copy : Array (Option Value)} {oc_Ideal_copy kV_Ideal_copy dc_Ideal_copy pm_Ideal_copy cd_Ideal_copy ct_Ideal_copy : Value}
    {f_law_hand : Addr} {od_law_hand an_law_hand : Option Addr} {sl_law_hand : Array (Option Value)} {oc_law_hand kV_law_hand dc_law_hand pm_law_hand cd_law_hand ct_law_hand : Value}
    {f_law_draw : Addr} {od_law_draw an_law_draw : Option Addr} {sl_law_draw : Array (Option Value)} {oc_law_draw kV_law_draw dc_law_draw pm_law_draw cd_law_draw ct_law_draw : Value}
    {f_law_any : Addr} {od_law_any an_law_any : Option Addr} {sl_law_any : Array (Option Value)} {oc_law_any kV_law_any dc_law_any pm_law_any cd_law_any ct_law_any : Value}
    {f_law_is_int : Addr} {od_law_is_int an_law_is_int : Option Addr} {sl_law_is_int : Array (Option Value)} {oc_law_is_int kV_law_is_int dc_law_is_int pm_law_is_int cd_law_is_int ct_law_is_int : Value}
    {f_law_deep : Addr} {od_law_deep an_law_deep : Option Addr} {sl_law_deep : Array (Option Value)} {oc_law_deep kV_law_deep dc_law_deep pm_law_deep cd_law_deep ct_law_deep : Value}
    {f_law_odd : Addr} {od_law_odd an_law_odd : Option Addr} {sl_law_odd : Array (Option Value)} {oc_law_odd kV_law_odd dc_law_odd pm_law_odd cd_law_odd ct_law_odd : Value}
    {f_law_first : Addr} {od_law_first an_law_first : Option Addr} {sl_law_first : Array (Option Value)} {oc_law_first kV_law_first dc_law_first pm_law_first cd_law_first ct_law_first : Value}
    {f_law_key : Addr} {od_law_key an_law_key : Option Addr} {sl_law_key : Array (Option Value)} {oc_law_key kV_law_key dc_law_key pm_law_key cd_law_key ct_law_key : Value}
    {f_law_inserted : Addr} {od_law_inserted an_law_inserted : Option Addr} {sl_law_inserted : Array (Option Value)} {oc_law_inserted kV_law_inserted dc_law_inserted pm_law_inserted cd_law_inserted ct_law_inserted : Value}
    {f_law_word : Addr} {od_law_word an_law_word : Option Addr} {sl_law_word : Array (Option Value)} {oc_law_word kV_law_word dc_law_word pm_law_word cd_law_word ct_law_word : Value}
    {f_law_is_key : Addr} {od_law_is_key an_law_is_key : Option Addr} {sl_law_is_key : Array (Option Value)} {oc_law_is_key kV_law_is_key dc_law_is_key pm_law_is_key cd_law_is_key ct_law_is_key : Value}
    {f_law_some_key : Addr} {od_law_some_key an_law_some_key : Option Addr} {sl_law_some_key : Array (Option Value)} {oc_law_some_key kV_law_some_key dc_law_some_key pm_law_some_key cd_law_some_key ct_law_some_key : Value}
    {f_law : Addr} {od_law an_law : Option Addr} {sl_law : Array (Option Value)} {oc_law kV_law dc_law pm_law ct_law : Value}
    {c_Ideal : Addr}
    {c_FabricError : Addr}
    {c_NoLines : Addr}
    {c_NoOutput : Addr}
    {c_NoKey : Addr}
    {c_KeyThere : Addr}
    {c_NothingThere : Addr}
    {co_law tb_law : Addr}
    {t_MOST_LINES : Tok}
    {t_GREATEST_CELL : Tok}
    {t_GREATEST_RANK : Tok}
    (ac_Ideal : PySem.W.nsIn K mainGlobals "Ideal" = some (some (.ref c_Ideal)))
    (ac_FabricError : PySem.W.nsIn K mainGlobals "FabricError" = some (some (.ref c_FabricError)))
    (ac_NoLines : PySem.W.nsIn K mainGlobals "NoLines" = some (some (.ref c_NoLines)))
    (ac_NoOutput : PySem.W.nsIn K mainGlobals "NoOutput" = some (some (.ref c_NoOutput)))
    (ac_NoKey : PySem.W.nsIn K mainGlobals "NoKey" = some (some (.ref c_NoKey)))
    (ac_KeyThere : PySem.W.nsIn K mainGlobals "KeyThere" = some (some (.ref c_KeyThere)))
    (ac_NothingThere : PySem.W.nsIn K mainGlobals "NothingThere" = some (some (.ref c_NothingThere)))
    (a_wall : PySem.W.nsIn K mainGlobals "_wall" = some (some (.ref f_wall)))
    (l_wall : K.lookup f_wall = some ⟨oc_wall, od_wall, .func (PySem.W.fnOf "_wall" "_wall" (defArgs s_wall) (defBody s_wall) (defScope s_wall) .none kV_wall dc_wall pm_wall an_wall cd_wall ct_wall), sl_wall⟩)
    (q_wall : PySem.W.codeIn K cd_wall "_wall" = true)
    (p_wall : PySem.W.keepIn K (.ref f_wall) = true)
    (a_is_integer : PySem.W.nsIn K mainGlobals "is_integer" = some (some (.ref f_is_integer)))
    (l_is_integer : K.lookup f_is_integer = some ⟨oc_is_integer, od_is_integer, .func (PySem.W.fnOf "is_integer" "is_integer" (defArgs s_is_integer) (defBody s_is_integer) (defScope s_is_integer) .none kV_is_integer dc_is_integer pm_is_integer an_is_integer cd_is_integer ct_is_integer), sl_is_integer⟩)
    (q_is_integer : PySem.W.codeIn K cd_is_integer "is_integer" = true)
    (p_is_integer : PySem.W.keepIn K (.ref f_is_integer) = true)
    (a_is_integer_from : PySem.W.nsIn K mainGlobals "is_integer_from" = some (some (.ref f_is_integer_from)))
    (l_is_integer_from : K.lookup f_is_integer_from = some ⟨oc_is_integer_from, od_is_integer_from, .func (PySem.W.fnOf "is_integer_from" "is_integer_from" (defArgs s_is_integer_from) (defBody s_is_integer_from) (defScope s_is_integer_from) .none kV_is_integer_from dc_is_integer_from pm_is_integer_from an_is_integer_from cd_is_integer_from ct_is_integer_from), sl_is_integer_from⟩)
    (q_is_integer_from : PySem.W.codeIn K cd_is_integer_from "is_integer_from" = true)
    (p_is_integer_from : PySem.W.keepIn K (.ref f_is_integer_from) = true)
    (a_is_number_below : PySem.W.nsIn K mainGlobals "is_number_below" = some (some (.ref f_is_number_below)))
    (l_is_number_below : K.lookup f_is_number_below = some ⟨oc_is_number_below, od_is_number_below, .func (PySem.W.fnOf "is_number_below" "is_number_below" (defArgs s_is_number_below) (defBody s_is_number_below) (defScope s_is_number_below) .none kV_is_number_below dc_is_number_below pm_is_number_below an_is_number_below cd_is_number_below ct_is_number_below), sl_is_number_below⟩)
    (q_is_number_below : PySem.W.codeIn K cd_is_number_below "is_number_below" = true)
    (p_is_number_below : PySem.W.keepIn K (.ref f_is_number_below) = true)
    (a_is_tuple_of : PySem.W.nsIn K mainGlobals "is_tuple_of" = some (some (.ref f_is_tuple_of)))
    (l_is_tuple_of : K.lookup f_is_tuple_of = some ⟨oc_is_tuple_of, od_is_tuple_of, .func (PySem.W.fnOf "is_tuple_of" "is_tuple_of" (defArgs s_is_tuple_of) (defBody s_is_tuple_of) (defScope s_is_tuple_of) .none kV_is_tuple_of dc_is_tuple_of pm_is_tuple_of an_is_tuple_of cd_is_tuple_of ct_is_tuple_of), sl_is_tuple_of⟩)
    (q_is_tuple_of : PySem.W.codeIn K cd_is_tuple_of "is_tuple_of" = true)
    (p_is_tuple_of : PySem.W.keepIn K (.ref f_is_tuple_of) = true)
    (a_check_lines : PySem.W.nsIn K mainGlobals "check_lines" = some (some (.ref f_check_lines)))
    (l_check_lines : K.lookup f_check_lines = some ⟨oc_check_lines, od_check_lines, .func (PySem.W.fnOf "check_lines" "check_lines" (defArgs s_check_lines) (defBody s_check_lines) (defScope s_check_lines) .none kV_check_lines dc_check_lines pm_check_lines an_check_lines cd_check_lines ct_check_lines), sl_check_lines⟩)
    (q_check_lines : PySem.W.codeIn K cd_check_lines "check_lines" = true)
    (p_check_lines : PySem.W.keepIn K (.ref f_check_lines) = true)
    (a_is_cell_number : PySem.W.nsIn K mainGlobals "is_cell_number" = some (some (.ref f_is_cell_number)))
    (l_is_cell_number : K.lookup f_is_cell_number = some ⟨oc_is_cell_number, od_is_cell_number, .func (PySem.W.fnOf "is_cell_number" "is_cell_number" (defArgs s_is_cell_number) (defBody s_is_cell_number) (defScope s_is_cell_number) .none kV_is_cell_number dc_is_cell_number pm_is_cell_number an_is_cell_number cd_is_cell_number ct_is_cell_number), sl_is_cell_number⟩)
    (q_is_cell_number : PySem.W.codeIn K cd_is_cell_number "is_cell_number" = true)
    (p_is_cell_number : PySem.W.keepIn K (.ref f_is_cell_number) = true)
    (a_is_rank : PySem.W.nsIn K mainGlobals "is_rank" = some (some (.ref f_is_rank)))
    (l_is_rank : K.lookup f_is_rank = some ⟨oc_is_rank, od_is_rank, .func (PySem.W.fnOf "is_rank" "is_rank" (defArgs s_is_rank) (defBody s_is_rank) (defScope s_is_rank) .none kV_is_rank dc_is_rank pm_is_rank an_is_rank cd_is_rank ct_is_rank), sl_is_rank⟩)
    (q_is_rank : PySem.W.codeIn K cd_is_rank "is_rank" = true)
    (p_is_rank : PySem.W.keepIn K (.ref f_is_rank) = true)
    (a_is_key : PySem.W.nsIn K mainGlobals "is_key" = some (some (.ref f_is_key)))
    (l_is_key : K.lookup f_is_key = some ⟨oc_is_key, od_is_key, .func (PySem.W.fnOf "is_key" "is_key" (defArgs s_is_key) (defBody s_is_key) (defScope s_is_key) .none kV_is_key dc_is_key pm_is_key an_is_key cd_is_key ct_is_key), sl_is_key⟩)
    (q_is_key : PySem.W.codeIn K cd_is_key "is_key" = true)
    (p_is_key : PySem.W.keepIn K (.ref f_is_key) = true)
    (a_check_key : PySem.W.nsIn K mainGlobals "check_key" = some (some (.ref f_check_key)))
    (l_check_key : K.lookup f_check_key = some ⟨oc_check_key, od_check_key, .func (PySem.W.fnOf "check_key" "check_key" (defArgs s_check_key) (defBody s_check_key) (defScope s_check_key) .none kV_check_key dc_check_key pm_check_key an_check_key cd_check_key ct_check_key), sl_check_key⟩)
    (q_check_key : PySem.W.codeIn K cd_check_key "check_key" = true)
    (p_check_key : PySem.W.keepIn K (.ref f_check_key) = true)
    (a_how_many_less : PySem.W.nsIn K mainGlobals "how_many_less" = some (some (.ref f_how_many_less)))
    (l_how_many_less : K.lookup f_how_many_less = some ⟨oc_how_many_less, od_how_many_less, .func (PySem.W.fnOf "how_many_less" "how_many_less" (defArgs s_how_many_less) (defBody s_how_many_less) (defScope s_how_many_less) .none kV_how_many_less dc_how_many_less pm_how_many_less an_how_many_less cd_how_many_less ct_how_many_less), sl_how_many_less⟩)
    (q_how_many_less : PySem.W.codeIn K cd_how_many_less "how_many_less" = true)
    (p_how_many_less : PySem.W.keepIn K (.ref f_how_many_less) = true)
    (a_Ideal___init__ : PySem.W.findIn K (.ref c_Ideal) "__init__" = some (some (.ref f_Ideal___init__)))
    (i_Ideal___init__ : PySem.W.isFn K (.ref f_Ideal___init__) = true)
    (l_Ideal___init__ : K.lookup f_Ideal___init__ = some ⟨oc_Ideal___init__, od_Ideal___init__, .func (PySem.W.fnOf "__init__" "Ideal.__init__" (defArgs s_Ideal___init__) (defBody s_Ideal___init__) (defScope s_Ideal___init__) .none kV_Ideal___init__ dc_Ideal___init__ pm_Ideal___init__ an_Ideal___init__ cd_Ideal___init__ ct_Ideal___init__), sl_Ideal___init__⟩)
    (q_Ideal___init__ : PySem.W.codeIn K cd_Ideal___init__ "Ideal.__init__" = true)
    (p_Ideal___init__ : PySem.W.keepIn K (.ref f_Ideal___init__) = true)
    (a_Ideal__row : PySem.W.findIn K (.ref c_Ideal) "_row" = some (some (.ref f_Ideal__row)))
    (i_Ideal__row : PySem.W.isFn K (.ref f_Ideal__row) = true)
    (l_Ideal__row : K.lookup f_Ideal__row = some ⟨oc_Ideal__row, od_Ideal__row, .func (PySem.W.fnOf "_row" "Ideal._row" (defArgs s_Ideal__row) (defBody s_Ideal__row) (defScope s_Ideal__row) .none kV_Ideal__row dc_Ideal__row pm_Ideal__row an_Ideal__row cd_Ideal__row ct_Ideal__row), sl_Ideal__row⟩)
    (q_Ideal__row : PySem.W.codeIn K cd_Ideal__row "Ideal._row" = true)
    (p_Ideal__row : PySem.W.keepIn K (.ref f_Ideal__row) = true)
    (a_Ideal_push : PySem.W.findIn K (.ref c_Ideal) "push" = some (some (.ref f_Ideal_push)))
    (i_Ideal_push : PySem.W.isFn K (.ref f_Ideal_push) = true)
    (l_Ideal_push : K.lookup f_Ideal_push = some ⟨oc_Ideal_push, od_Ideal_push, .func (PySem.W.fnOf "push" "Ideal.push" (defArgs s_Ideal_push) (defBody s_Ideal_push) (defScope s_Ideal_push) .none kV_Ideal_push dc_Ideal_push pm_Ideal_push an_Ideal_push cd_Ideal_push ct_Ideal_push), sl_Ideal_push⟩)
    (q_Ideal_push : PySem.W.codeIn K cd_Ideal_push "Ideal.push" = true)
    (p_Ideal_push : PySem.W.keepIn K (.ref f_Ideal_push) = true)
    (a_Ideal_due : PySem.W.findIn K (.ref c_Ideal) "due" = some (some (.ref f_Ideal_due)))
    (i_Ideal_due : PySem.W.isFn K (.ref f_Ideal_due) = true)
    (l_Ideal_due : K.lookup f_Ideal_due = some ⟨oc_Ideal_due, od_Ideal_due, .func (PySem.W.fnOf "due" "Ideal.due" (defArgs s_Ideal_due) (defBody s_Ideal_due) (defScope s_Ideal_due) .none kV_Ideal_due dc_Ideal_due pm_Ideal_due an_Ideal_due cd_Ideal_due ct_Ideal_due), sl_Ideal_due⟩)
    (q_Ideal_due : PySem.W.codeIn K cd_Ideal_due "Ideal.due" = true)
    (p_Ideal_due : PySem.W.keepIn K (.ref f_Ideal_due) = true)
    (a_Ideal_let_go : PySem.W.findIn K (.ref c_Ideal) "let_go" = some (some (.ref f_Ideal_let_go)))
    (i_Ideal_let_go : PySem.W.isFn K (.ref f_Ideal_let_go) = true)
    (l_Ideal_let_go : K.lookup f_Ideal_let_go = some ⟨oc_Ideal_let_go, od_Ideal_let_go, .func (PySem.W.fnOf "let_go" "Ideal.let_go" (defArgs s_Ideal_let_go) (defBody s_Ideal_let_go) (defScope s_Ideal_let_go) .none kV_Ideal_let_go dc_Ideal_let_go pm_Ideal_let_go an_Ideal_let_go cd_Ideal_let_go ct_Ideal_let_go), sl_Ideal_let_go⟩)
    (q_Ideal_let_go : PySem.W.codeIn K cd_Ideal_let_go "Ideal.let_go" = true)
    (p_Ideal_let_go : PySem.W.keepIn K (.ref f_Ideal_let_go) = true)
    (a_Ideal_held : PySem.W.findIn K (.ref c_Ideal) "held" = some (some (.ref f_Ideal_held)))
    (i_Ideal_held : PySem.W.isFn K (.ref f_Ideal_held) = true)
    (l_Ideal_held : K.lookup f_Ideal_held = some ⟨oc_Ideal_held, od_Ideal_held, .func (PySem.W.fnOf "held" "Ideal.held" (defArgs s_Ideal_held) (defBody s_Ideal_held) (defScope s_Ideal_held) .none kV_Ideal_held dc_Ideal_held pm_Ideal_held an_Ideal_held cd_Ideal_held ct_Ideal_held), sl_Ideal_held⟩)
    (q_Ideal_held : PySem.W.codeIn K cd_Ideal_held "Ideal.held" = true)
    (p_Ideal_held : PySem.W.keepIn K (.ref f_Ideal_held) = true)
    (a_Ideal_ahead : PySem.W.findIn K (.ref c_Ideal) "ahead" = some (some (.ref f_Ideal_ahead)))
    (i_Ideal_ahead : PySem.W.isFn K (.ref f_Ideal_ahead) = true)
    (l_Ideal_ahead : K.lookup f_Ideal_ahead = some ⟨oc_Ideal_ahead, od_Ideal_ahead, .func (PySem.W.fnOf "ahead" "Ideal.ahead" (defArgs s_Ideal_ahead) (defBody s_Ideal_ahead) (defScope s_Ideal_ahead) .none kV_Ideal_ahead dc_Ideal_ahead pm_Ideal_ahead an_Ideal_ahead cd_Ideal_ahead ct_Ideal_ahead), sl_Ideal_ahead⟩)
    (q_Ideal_ahead : PySem.W.codeIn K cd_Ideal_ahead "Ideal.ahead" = true)
    (p_Ideal_ahead : PySem.W.keepIn K (.ref f_Ideal_ahead) = true)
    (a_Ideal_copy : PySem.W.findIn K (.ref c_Ideal) "copy" = some (some (.ref f_Ideal_copy)))
    (i_Ideal_copy : PySem.W.isFn K (.ref f_Ideal_copy) = true)
    (l_Ideal_copy : K.lookup f_Ideal_copy = some ⟨oc_Ideal_copy, od_Ideal_copy, .func (PySem.W.fnOf "copy" "Ideal.copy" (defArgs s_Ideal_copy) (defBody s_Ideal_copy) (defScope s_Ideal_copy) .none kV_Ideal_copy dc_Ideal_copy pm_Ideal_copy an_Ideal_copy cd_Ideal_copy ct_Ideal_copy), sl_Ideal_copy⟩)
    (q_Ideal_copy : PySem.W.codeIn K cd_Ideal_copy "Ideal.copy" = true)
    (p_Ideal_copy : PySem.W.keepIn K (.ref f_Ideal_copy) = true)
    (a_law_hand : PySem.W.nsIn K mainGlobals "_law_hand" = some (some (.ref f_law_hand)))
    (l_law_hand : K.lookup f_law_hand = some ⟨oc_law_hand, od_law_hand, .func (PySem.W.fnOf "_law_hand" "_law_hand" (defArgs s_law_hand) (defBody s_law_hand) (defScope s_law_hand) .none kV_law_hand dc_law_hand pm_law_hand an_law_hand cd_law_hand ct_law_hand), sl_law_hand⟩)
    (q_law_hand : PySem.W.codeIn K cd_law_hand "_law_hand" = true)
    (p_law_hand : PySem.W.keepIn K (.ref f_law_hand) = true)
    (a_law_draw : PySem.W.nsIn K mainGlobals "_law_draw" = some (some (.ref f_law_draw)))
    (l_law_draw : K.lookup f_law_draw = some ⟨oc_law_draw, od_law_draw, .func (PySem.W.fnOf "_law_draw" "_law_draw" (defArgs s_law_draw) (defBody s_law_draw) (defScope s_law_draw) .none kV_law_draw dc_law_draw pm_law_draw an_law_draw cd_law_draw ct_law_draw), sl_law_draw⟩)
    (q_law_draw : PySem.W.codeIn K cd_law_draw "_law_draw" = true)
    (p_law_draw : PySem.W.keepIn K (.ref f_law_draw) = true)
    (a_law_any : PySem.W.nsIn K mainGlobals "_law_any" = some (some (.ref f_law_any)))
    (l_law_any : K.lookup f_law_any = some ⟨oc_law_any, od_law_any, .func (PySem.W.fnOf "_law_any" "_law_any" (defArgs s_law_any) (defBody s_law_any) (defScope s_law_any) .none kV_law_any dc_law_any pm_law_any an_law_any cd_law_any ct_law_any), sl_law_any⟩)
    (q_law_any : PySem.W.codeIn K cd_law_any "_law_any" = true)
    (p_law_any : PySem.W.keepIn K (.ref f_law_any) = true)
    (a_law_is_int : PySem.W.nsIn K mainGlobals "_law_is_int" = some (some (.ref f_law_is_int)))
    (l_law_is_int : K.lookup f_law_is_int = some ⟨oc_law_is_int, od_law_is_int, .func (PySem.W.fnOf "_law_is_int" "_law_is_int" (defArgs s_law_is_int) (defBody s_law_is_int) (defScope s_law_is_int) .none kV_law_is_int dc_law_is_int pm_law_is_int an_law_is_int cd_law_is_int ct_law_is_int), sl_law_is_int⟩)
    (q_law_is_int : PySem.W.codeIn K cd_law_is_int "_law_is_int" = true)
    (p_law_is_int : PySem.W.keepIn K (.ref f_law_is_int) = true)
    (a_law_deep : PySem.W.nsIn K mainGlobals "_law_deep" = some (some (.ref f_law_deep)))
    (l_law_deep : K.lookup f_law_deep = some ⟨oc_law_deep, od_law_deep, .func (PySem.W.fnOf "_law_deep" "_law_deep" (defArgs s_law_deep) (defBody s_law_deep) (defScope s_law_deep) .none kV_law_deep dc_law_deep pm_law_deep an_law_deep cd_law_deep ct_law_deep), sl_law_deep⟩)
    (q_law_deep : PySem.W.codeIn K cd_law_deep "_law_deep" = true)
    (p_law_deep : PySem.W.keepIn K (.ref f_law_deep) = true)
    (a_law_odd : PySem.W.nsIn K mainGlobals "_law_odd" = some (some (.ref f_law_odd)))
    (l_law_odd : K.lookup f_law_odd = some ⟨oc_law_odd, od_law_odd, .func (PySem.W.fnOf "_law_odd" "_law_odd" (defArgs s_law_odd) (defBody s_law_odd) (defScope s_law_odd) .none kV_law_odd dc_law_odd pm_law_odd an_law_odd cd_law_odd ct_law_odd), sl_law_odd⟩)
    (q_law_odd : PySem.W.codeIn K cd_law_odd "_law_odd" = true)
    (p_law_odd : PySem.W.keepIn K (.ref f_law_odd) = true)
    (a_law_first : PySem.W.nsIn K mainGlobals "_law_first" = some (some (.ref f_law_first)))
    (l_law_first : K.lookup f_law_first = some ⟨oc_law_first, od_law_first, .func (PySem.W.fnOf "_law_first" "_law_first" (defArgs s_law_first) (defBody s_law_first) (defScope s_law_first) .none kV_law_first dc_law_first pm_law_first an_law_first cd_law_first ct_law_first), sl_law_first⟩)
    (q_law_first : PySem.W.codeIn K cd_law_first "_law_first" = true)
    (p_law_first : PySem.W.keepIn K (.ref f_law_first) = true)
    (a_law_key : PySem.W.nsIn K mainGlobals "_law_key" = some (some (.ref f_law_key)))
    (l_law_key : K.lookup f_law_key = some ⟨oc_law_key, od_law_key, .func (PySem.W.fnOf "_law_key" "_law_key" (defArgs s_law_key) (defBody s_law_key) (defScope s_law_key) .none kV_law_key dc_law_key pm_law_key an_law_key cd_law_key ct_law_key), sl_law_key⟩)
    (q_law_key : PySem.W.codeIn K cd_law_key "_law_key" = true)
    (p_law_key : PySem.W.keepIn K (.ref f_law_key) = true)
    (a_law_inserted : PySem.W.nsIn K mainGlobals "_law_inserted" = some (some (.ref f_law_inserted)))
    (l_law_inserted : K.lookup f_law_inserted = some ⟨oc_law_inserted, od_law_inserted, .func (PySem.W.fnOf "_law_inserted" "_law_inserted" (defArgs s_law_inserted) (defBody s_law_inserted) (defScope s_law_inserted) .none kV_law_inserted dc_law_inserted pm_law_inserted an_law_inserted cd_law_inserted ct_law_inserted), sl_law_inserted⟩)
    (q_law_inserted : PySem.W.codeIn K cd_law_inserted "_law_inserted" = true)
    (p_law_inserted : PySem.W.keepIn K (.ref f_law_inserted) = true)
    (a_law_word : PySem.W.nsIn K mainGlobals "_law_word" = some (some (.ref f_law_word)))
    (l_law_word : K.lookup f_law_word = some ⟨oc_law_word, od_law_word, .func (PySem.W.fnOf "_law_word" "_law_word" (defArgs s_law_word) (defBody s_law_word) (defScope s_law_word) .none kV_law_word dc_law_word pm_law_word an_law_word cd_law_word ct_law_word), sl_law_word⟩)
    (q_law_word : PySem.W.codeIn K cd_law_word "_law_word" = true)
    (p_law_word : PySem.W.keepIn K (.ref f_law_word) = true)
    (a_law_is_key : PySem.W.nsIn K mainGlobals "_law_is_key" = some (some (.ref f_law_is_key)))
    (l_law_is_key : K.lookup f_law_is_key = some ⟨oc_law_is_key, od_law_is_key, .func (PySem.W.fnOf "_law_is_key" "_law_is_key" (defArgs s_law_is_key) (defBody s_law_is_key) (defScope s_law_is_key) .none kV_law_is_key dc_law_is_key pm_law_is_key an_law_is_key cd_law_is_key ct_law_is_key), sl_law_is_key⟩)
    (q_law_is_key : PySem.W.codeIn K cd_law_is_key "_law_is_key" = true)
    (p_law_is_key : PySem.W.keepIn K (.ref f_law_is_key) = true)
    (a_law_some_key : PySem.W.nsIn K mainGlobals "_law_some_key" = some (some (.ref f_law_some_key)))
    (l_law_some_key : K.lookup f_law_some_key = some ⟨oc_law_some_key, od_law_some_key, .func (PySem.W.fnOf "_law_some_key" "_law_some_key" (defArgs s_law_some_key) (defBody s_law_some_key) (defScope s_law_some_key) .none kV_law_some_key dc_law_some_key pm_law_some_key an_law_some_key cd_law_some_key ct_law_some_key), sl_law_some_key⟩)
    (q_law_some_key : PySem.W.codeIn K cd_law_some_key "_law_some_key" = true)
    (p_law_some_key : PySem.W.keepIn K (.ref f_law_some_key) = true)
    (a_law : PySem.W.nsIn K mainGlobals "law" = some (some (.ref f_law)))
    (l_law : K.lookup f_law = some ⟨oc_law, od_law, .func (PySem.W.fnOf "law" "law" (defArgs s_law) (defBody s_law) (defScope s_law) .none kV_law dc_law pm_law an_law (.ref co_law) ct_law), sl_law⟩)
    (q_law : PySem.W.codeIn K (.ref co_law) "law" = true)
    (p_law : PySem.W.keepIn K (.ref f_law) = true)
    (pg_Ideal : PySem.W.plainGet K c_Ideal Str.empty = true)
    (hd_Ideal : PySem.W.hasDictIn K c_Ideal = true)
    (po_Ideal : PySem.W.plainOver K c_Ideal = true)
    (sa_Ideal : PySem.W.findIn K (.ref c_Ideal) "__setattr__" = some (some (.builtin "object.__setattr__")))
    (mk_Ideal : PySem.W.makesIn K c_Ideal = true)
    (kc_Ideal : PySem.W.keepIn K (.ref c_Ideal) = true)
    (n_Ideal__rows : PySem.W.findIn K (.ref c_Ideal) "_rows" = some none)
    (em_Ideal : PySem.W.mroIn K c_Ideal (.type "object") = some true)
    (es_Ideal : PySem.W.findIn K (.ref c_Ideal) "__eq__" = some (some (.builtin "object.__eq__")))
    (x_NoLines : PySem.W.excIn K c_NoLines [.type "ValueError", .type "Exception", .type "BaseException", .type "object"] "ValueError.__new__" = true)
    (kp_NoLines : PySem.W.keepIn K (.ref c_NoLines) = true)
    (s_NoLines : PySem.W.subIn K (.ref c_NoLines) (.type "BaseException") = some true)
    (t_NoLines : PySem.W.typeIn K (.ref c_NoLines) = some (.type "type"))
    (e1_NoLines : PySem.W.findIn K (.ref c_NoLines) "__getattribute__" = some (some (.builtin "BaseException.__getattribute__")))
    (e2_NoLines : PySem.W.findIn K (.ref c_NoLines) "__getattr__" = some none)
    (e3_NoLines : PySem.W.hasDictIn K c_NoLines = true)
    (e4_NoLines : PySem.W.findIn K (.ref c_NoLines) "__class__" = some (some (.builtin "object.__class__")))
    (e5_NoLines : PySem.W.mroIn K c_NoLines (.type "object") = some true)
    (x_NoKey : PySem.W.excIn K c_NoKey [.type "ValueError", .type "Exception", .type "BaseException", .type "object"] "ValueError.__new__" = true)
    (kp_NoKey : PySem.W.keepIn K (.ref c_NoKey) = true)
    (s_NoKey : PySem.W.subIn K (.ref c_NoKey) (.type "BaseException") = some true)
    (t_NoKey : PySem.W.typeIn K (.ref c_NoKey) = some (.type "type"))
    (e1_NoKey : PySem.W.findIn K (.ref c_NoKey) "__getattribute__" = some (some (.builtin "BaseException.__getattribute__")))
    (e2_NoKey : PySem.W.findIn K (.ref c_NoKey) "__getattr__" = some none)
    (e3_NoKey : PySem.W.hasDictIn K c_NoKey = true)
    (e4_NoKey : PySem.W.findIn K (.ref c_NoKey) "__class__" = some (some (.builtin "object.__class__")))
    (e5_NoKey : PySem.W.mroIn K c_NoKey (.type "object") = some true)
    (x_NoOutput : PySem.W.excIn K c_NoOutput [.type "ValueError", .type "Exception", .type "BaseException", .type "object"] "ValueError.__new__" = true)
    (kp_NoOutput : PySem.W.keepIn K (.ref c_NoOutput) = true)
    (s_NoOutput : PySem.W.subIn K (.ref c_NoOutput) (.type "BaseException") = some true)
    (t_NoOutput : PySem.W.typeIn K (.ref c_NoOutput) = some (.type "type"))
    (e1_NoOutput : PySem.W.findIn K (.ref c_NoOutput) "__getattribute__" = some (some (.builtin "BaseException.__getattribute__")))
    (e2_NoOutput : PySem.W.findIn K (.ref c_NoOutput) "__getattr__" = some none)
    (e3_NoOutput : PySem.W.hasDictIn K c_NoOutput = true)
    (e4_NoOutput : PySem.W.findIn K (.ref c_NoOutput) "__class__" = some (some (.builtin "object.__class__")))
    (e5_NoOutput : PySem.W.mroIn K c_NoOutput (.type "object") = some true)
    (x_KeyThere : PySem.W.excIn K c_KeyThere [.type "ValueError", .type "Exception", .type "BaseException", .type "object"] "ValueError.__new__" = true)
    (kp_KeyThere : PySem.W.keepIn K (.ref c_KeyThere) = true)
    (s_KeyThere : PySem.W.subIn K (.ref c_KeyThere) (.type "BaseException") = some true)
    (t_KeyThere : PySem.W.typeIn K (.ref c_KeyThere) = some (.type "type"))
    (e1_KeyThere : PySem.W.findIn K (.ref c_KeyThere) "__getattribute__" = some (some (.builtin "BaseException.__getattribute__")))
    (e2_KeyThere : PySem.W.findIn K (.ref c_KeyThere) "__getattr__" = some none)
    (e3_KeyThere : PySem.W.hasDictIn K c_KeyThere = true)
    (e4_KeyThere : PySem.W.findIn K (.ref c_KeyThere) "__class__" = some (some (.builtin "object.__class__")))
    (e5_KeyThere : PySem.W.mroIn K c_KeyThere (.type "object") = some true)
    (x_NothingThere : PySem.W.excIn K c_NothingThere [.type "ValueError", .type "Exception", .type "BaseException", .type "object"] "ValueError.__new__" = true)
    (kp_NothingThere : PySem.W.keepIn K (.ref c_NothingThere) = true)
    (s_NothingThere : PySem.W.subIn K (.ref c_NothingThere) (.type "BaseException") = some true)
    (t_NothingThere : PySem.W.typeIn K (.ref c_NothingThere) = some (.type "type"))
    (e1_NothingThere : PySem.W.findIn K (.ref c_NothingThere) "__getattribute__" = some (some (.builtin "BaseException.__getattribute__")))
    (e2_NothingThere : PySem.W.findIn K (.ref c_NothingThere) "__getattr__" = some none)
    (e3_NothingThere : PySem.W.hasDictIn K c_NothingThere = true)
    (e4_NothingThere : PySem.W.findIn K (.ref c_NothingThere) "__class__" = some (some (.builtin "object.__class__")))
    (e5_NothingThere : PySem.W.mroIn K c_NothingThere (.type "object") = some true)
    (ci_Ideal : PySem.W.findIn K (.ref c_Ideal) "__class__" = some (some (.builtin "object.__class__")))
    (en1 : PySem.W.specialIn K (.builtin "object.__class__") "__get__" = some (some (.builtin "getset_descriptor.__get__")))
    (en2 : PySem.W.takesIn K (.builtin "object.__class__") = some true)
    (su_Ideal_int : PySem.W.subIn K (.ref c_Ideal) (.type "int") = some false)
    (su_Ideal_bool : PySem.W.subIn K (.ref c_Ideal) (.type "bool") = some false)
    (su_Ideal_tuple : PySem.W.subIn K (.ref c_Ideal) (.type "tuple") = some false)
    (s_FabricError : PySem.W.subIn K (.ref c_FabricError) (.type "BaseException") = some true)
    (t_FabricError : PySem.W.typeIn K (.ref c_FabricError) = some (.type "type"))
    (e3_FabricError : PySem.W.hasDictIn K c_FabricError = true)
    (su_FabricError_FabricError : PySem.W.subIn K (.ref c_FabricError) (.ref c_FabricError) = some true)
    (su_NoLines_FabricError : PySem.W.subIn K (.ref c_NoLines) (.ref c_FabricError) = some true)
    (su_NoLines_ValueError : PySem.W.subIn K (.ref c_NoLines) (.type "ValueError") = some true)
    (su_NoLines_NothingThere : PySem.W.subIn K (.ref c_NoLines) (.ref c_NothingThere) = some false)
    (su_NoLines_KeyThere : PySem.W.subIn K (.ref c_NoLines) (.ref c_KeyThere) = some false)
    (su_NoLines_NoKey : PySem.W.subIn K (.ref c_NoLines) (.ref c_NoKey) = some false)
    (su_NoLines_NoOutput : PySem.W.subIn K (.ref c_NoLines) (.ref c_NoOutput) = some false)
    (su_NoLines_NoLines : PySem.W.subIn K (.ref c_NoLines) (.ref c_NoLines) = some true)
    (su_NoKey_FabricError : PySem.W.subIn K (.ref c_NoKey) (.ref c_FabricError) = some true)
    (su_NoKey_ValueError : PySem.W.subIn K (.ref c_NoKey) (.type "ValueError") = some true)
    (su_NoKey_NothingThere : PySem.W.subIn K (.ref c_NoKey) (.ref c_NothingThere) = some false)
    (su_NoKey_KeyThere : PySem.W.subIn K (.ref c_NoKey) (.ref c_KeyThere) = some false)
    (su_NoKey_NoKey : PySem.W.subIn K (.ref c_NoKey) (.ref c_NoKey) = some true)
    (su_NoKey_NoOutput : PySem.W.subIn K (.ref c_NoKey) (.ref c_NoOutput) = some false)
    (su_NoKey_NoLines : PySem.W.subIn K (.ref c_NoKey) (.ref c_NoLines) = some false)
    (su_NoOutput_FabricError : PySem.W.subIn K (.ref c_NoOutput) (.ref c_FabricError) = some true)
    (su_NoOutput_ValueError : PySem.W.subIn K (.ref c_NoOutput) (.type "ValueError") = some true)
    (su_NoOutput_NothingThere : PySem.W.subIn K (.ref c_NoOutput) (.ref c_NothingThere) = some false)
    (su_NoOutput_KeyThere : PySem.W.subIn K (.ref c_NoOutput) (.ref c_KeyThere) = some false)
    (su_NoOutput_NoKey : PySem.W.subIn K (.ref c_NoOutput) (.ref c_NoKey) = some false)
    (su_NoOutput_NoOutput : PySem.W.subIn K (.ref c_NoOutput) (.ref c_NoOutput) = some true)
    (su_NoOutput_NoLines : PySem.W.subIn K (.ref c_NoOutput) (.ref c_NoLines) = some false)
    (su_KeyThere_FabricError : PySem.W.subIn K (.ref c_KeyThere) (.ref c_FabricError) = some true)
    (su_KeyThere_ValueError : PySem.W.subIn K (.ref c_KeyThere) (.type "ValueError") = some true)
    (su_KeyThere_NothingThere : PySem.W.subIn K (.ref c_KeyThere) (.ref c_NothingThere) = some false)
    (su_KeyThere_KeyThere : PySem.W.subIn K (.ref c_KeyThere) (.ref c_KeyThere) = some true)
    (su_KeyThere_NoKey : PySem.W.subIn K (.ref c_KeyThere) (.ref c_NoKey) = some false)
    (su_KeyThere_NoOutput : PySem.W.subIn K (.ref c_KeyThere) (.ref c_NoOutput) = some false)
    (su_KeyThere_NoLines : PySem.W.subIn K (.ref c_KeyThere) (.ref c_NoLines) = some false)
    (su_NothingThere_FabricError : PySem.W.subIn K (.ref c_NothingThere) (.ref c_FabricError) = some true)
    (su_NothingThere_ValueError : PySem.W.subIn K (.ref c_NothingThere) (.type "ValueError") = some true)
    (su_NothingThere_NothingThere : PySem.W.subIn K (.ref c_NothingThere) (.ref c_NothingThere) = some true)
    (su_NothingThere_KeyThere : PySem.W.subIn K (.ref c_NothingThere) (.ref c_KeyThere) = some false)
    (su_NothingThere_NoKey : PySem.W.subIn K (.ref c_NothingThere) (.ref c_NoKey) = some false)
    (su_NothingThere_NoOutput : PySem.W.subIn K (.ref c_NothingThere) (.ref c_NoOutput) = some false)
    (su_NothingThere_NoLines : PySem.W.subIn K (.ref c_NothingThere) (.ref c_NoLines) = some false)
    (k_MOST_LINES : PySem.W.nsIn K mainGlobals "MOST_LINES" = some (some (.int 12 t_MOST_LINES)))
    (k_GREATEST_CELL : PySem.W.nsIn K mainGlobals "GREATEST_CELL" = some (some (.int 1000000000 t_GREATEST_CELL)))
    (k_GREATEST_RANK : PySem.W.nsIn K mainGlobals "GREATEST_RANK" = some (some (.int 1000000000000000000 t_GREATEST_RANK)))
    (z_ValueError : PySem.W.nsIn K mainGlobals "ValueError" = some none)
    (z_abs : PySem.W.nsIn K mainGlobals "abs" = some none)
    (z_bool : PySem.W.nsIn K mainGlobals "bool" = some none)
    (z_int : PySem.W.nsIn K mainGlobals "int" = some none)
    (z_isinstance : PySem.W.nsIn K mainGlobals "isinstance" = some none)
    (z_len : PySem.W.nsIn K mainGlobals "len" = some none)
    (z_range : PySem.W.nsIn K mainGlobals "range" = some none)
    (z_tuple : PySem.W.nsIn K mainGlobals "tuple" = some none)
    : ∃ A : Adr, Top K mg A ∧ A.d_law = PySem.W.fnOf "law" "law" (defArgs s_law) (defBody s_law) (defScope s_law) .none kV_law dc_law pm_law an_law (.ref co_law) ct_law ∧ A.a_law = f_law ∧ A.cd_law = co_law ∧ A.tb_law = tb_law := by
  have F_wall := fun_mk (st := s_wall) l_wall q_wall p_wall
  have F_is_integer := fun_mk (st := s_is_integer) l_is_integer q_is_integer p_is_integer
  have F_is_integer_from := fun_mk (st := s_is_integer_from) l_is_integer_from q_is_integer_from p_is_integer_from
  have F_is_number_below := fun_mk (st := s_is_number_below) l_is_number_below q_is_number_below p_is_number_below
  have F_is_tuple_of := fun_mk (st := s_is_tuple_of) l_is_tuple_of q_is_tuple_of p_is_tuple_of
  have F_check_lines := fun_mk (st := s_check_lines) l_check_lines q_check_lines p_check_lines
  have F_is_cell_number := fun_mk (st := s_is_cell_number) l_is_cell_number q_is_cell_number p_is_cell_number
  have F_is_rank := fun_mk (st := s_is_rank) l_is_rank q_is_rank p_is_rank
  have F_is_key := fun_mk (st := s_is_key) l_is_key q_is_key p_is_key
  have F_check_key := fun_mk (st := s_check_key) l_check_key q_check_key p_check_key
  have F_how_many_less := fun_mk (st := s_how_many_less) l_how_many_less q_how_many_less p_how_many_less
  have F_Ideal___init__ := fun_mk (st := s_Ideal___init__) l_Ideal___init__ q_Ideal___init__ p_Ideal___init__
  have F_Ideal__row := fun_mk (st := s_Ideal__row) l_Ideal__row q_Ideal__row p_Ideal__row
  have F_Ideal_push := fun_mk (st := s_Ideal_push) l_Ideal_push q_Ideal_push p_Ideal_push
  have F_Ideal_due := fun_mk (st := s_Ideal_due) l_Ideal_due q_Ideal_due p_Ideal_due
  have F_Ideal_let_go := fun_mk (st := s_Ideal_let_go) l_Ideal_let_go q_Ideal_let_go p_Ideal_let_go
  have F_Ideal_held := fun_mk (st := s_Ideal_held) l_Ideal_held q_Ideal_held p_Ideal_held
  have F_Ideal_ahead := fun_mk (st := s_Ideal_ahead) l_Ideal_ahead q_Ideal_ahead p_Ideal_ahead
  have F_Ideal_copy := fun_mk (st := s_Ideal_copy) l_Ideal_copy q_Ideal_copy p_Ideal_copy
  have F_law_hand := fun_mk (st := s_law_hand) l_law_hand q_law_hand p_law_hand
  have F_law_draw := fun_mk (st := s_law_draw) l_law_draw q_law_draw p_law_draw
  have F_law_any := fun_mk (st := s_law_any) l_law_any q_law_any p_law_any
  have F_law_is_int := fun_mk (st := s_law_is_int) l_law_is_int q_law_is_int p_law_is_int
  have F_law_deep := fun_mk (st := s_law_deep) l_law_deep q_law_deep p_law_deep
  have F_law_odd := fun_mk (st := s_law_odd) l_law_odd q_law_odd p_law_odd
  have F_law_first := fun_mk (st := s_law_first) l_law_first q_law_first p_law_first
  have F_law_key := fun_mk (st := s_law_key) l_law_key q_law_key p_law_key
  have F_law_inserted := fun_mk (st := s_law_inserted) l_law_inserted q_law_inserted p_law_inserted
  have F_law_word := fun_mk (st := s_law_word) l_law_word q_law_word p_law_word
  have F_law_is_key := fun_mk (st := s_law_is_key) l_law_is_key q_law_is_key p_law_is_key
  have F_law_some_key := fun_mk (st := s_law_some_key) l_law_some_key q_law_some_key p_law_some_key
  have F_law := fun_mk (st := s_law) l_law q_law p_law
  refine ⟨⟨f_wall, PySem.W.fnOf "_wall" "_wall" (defArgs s_wall) (defBody s_wall) (defScope s_wall) .none kV_wall dc_wall pm_wall an_wall cd_wall ct_wall, f_is_integer, PySem.W.fnOf "is_integer" "is_integer" (defArgs s_is_integer) (defBody s_is_integer) (defScope s_is_integer) .none kV_is_integer dc_is_integer pm_is_integer an_is_integer cd_is_integer ct_is_integer, f_is_integer_from, PySem.W.fnOf "is_integer_from" "is_integer_from" (defArgs s_is_integer_from) (defBody s_is_integer_from) (defScope s_is_integer_from) .none kV_is_integer_from dc_is_integer_from pm_is_integer_from an_is_integer_from cd_is_integer_from ct_is_integer_from, f_is_number_below, PySem.W.fnOf "is_number_below" "is_number_below" (defArgs s_is_number_below) (defBody s_is_number_below) (defScope s_is_number_below) .none kV_is_number_below dc_is_number_below pm_is_number_below an_is_number_below cd_is_number_below ct_is_number_below, f_is_tuple_of, PySem.W.fnOf "is_tuple_of" "is_tuple_of" (defArgs s_is_tuple_of) (defBody s_is_tuple_of) (defScope s_is_tuple_of) .none kV_is_tuple_of dc_is_tuple_of pm_is_tuple_of an_is_tuple_of cd_is_tuple_of ct_is_tuple_of, f_check_lines, PySem.W.fnOf "check_lines" "check_lines" (defArgs s_check_lines) (defBody s_check_lines) (defScope s_check_lines) .none kV_check_lines dc_check_lines pm_check_lines an_check_lines cd_check_lines ct_check_lines, f_is_cell_number, PySem.W.fnOf "is_cell_number" "is_cell_number" (defArgs s_is_cell_number) (defBody s_is_cell_number) (defScope s_is_cell_number) .none kV_is_cell_number dc_is_cell_number pm_is_cell_number an_is_cell_number cd_is_cell_number ct_is_cell_number, f_is_rank, PySem.W.fnOf "is_rank" "is_rank" (defArgs s_is_rank) (defBody s_is_rank) (defScope s_is_rank) .none kV_is_rank dc_is_rank pm_is_rank an_is_rank cd_is_rank ct_is_rank, f_is_key, PySem.W.fnOf "is_key" "is_key" (defArgs s_is_key) (defBody s_is_key) (defScope s_is_key) .none kV_is_key dc_is_key pm_is_key an_is_key cd_is_key ct_is_key, f_check_key, PySem.W.fnOf "check_key" "check_key" (defArgs s_check_key) (defBody s_check_key) (defScope s_check_key) .none kV_check_key dc_check_key pm_check_key an_check_key cd_check_key ct_check_key, f_how_many_less, PySem.W.fnOf "how_many_less" "how_many_less" (defArgs s_how_many_less) (defBody s_how_many_less) (defScope s_how_many_less) .none kV_how_many_less dc_how_many_less pm_how_many_less an_how_many_less cd_how_many_less ct_how_many_less, f_Ideal___init__, PySem.W.fnOf "__init__" "Ideal.__init__" (defArgs s_Ideal___init__) (defBody s_Ideal___init__) (defScope s_Ideal___init__) .none kV_Ideal___init__ dc_Ideal___init__ pm_Ideal___init__ an_Ideal___init__ cd_Ideal___init__ ct_Ideal___init__, f_Ideal__row, PySem.W.fnOf "_row" "Ideal._row" (defArgs s_Ideal__row) (defBody s_Ideal__row) (defScope s_Ideal__row) .none kV_Ideal__row dc_Ideal__row pm_Ideal__row an_Ideal__row cd_Ideal__row ct_Ideal__row, f_Ideal_push, PySem.W.fnOf "push" "Ideal.push" (defArgs s_Ideal_push) (defBody s_Ideal_push) (defScope s_Ideal_push) .none kV_Ideal_push dc_Ideal_push pm_Ideal_push an_Ideal_push cd_Ideal_push ct_Ideal_push, f_Ideal_due, PySem.W.fnOf "due" "Ideal.due" (defArgs s_Ideal_due) (defBody s_Ideal_due) (defScope s_Ideal_due) .none kV_Ideal_due dc_Ideal_due pm_Ideal_due an_Ideal_due cd_Ideal_due ct_Ideal_due, f_Ideal_let_go, PySem.W.fnOf "let_go" "Ideal.let_go" (defArgs s_Ideal_let_go) (defBody s_Ideal_let_go) (defScope s_Ideal_let_go) .none kV_Ideal_let_go dc_Ideal_let_go pm_Ideal_let_go an_Ideal_let_go cd_Ideal_let_go ct_Ideal_let_go, f_Ideal_held, PySem.W.fnOf "held" "Ideal.held" (defArgs s_Ideal_held) (defBody s_Ideal_held) (defScope s_Ideal_held) .none kV_Ideal_held dc_Ideal_held pm_Ideal_held an_Ideal_held cd_Ideal_held ct_Ideal_held, f_Ideal_ahead, PySem.W.fnOf "ahead" "Ideal.ahead" (defArgs s_Ideal_ahead) (defBody s_Ideal_ahead) (defScope s_Ideal_ahead) .none kV_Ideal_ahead dc_Ideal_ahead pm_Ideal_ahead an_Ideal_ahead cd_Ideal_ahead ct_Ideal_ahead, f_Ideal_copy, PySem.W.fnOf "copy" "Ideal.copy" (defArgs s_Ideal_copy) (defBody s_Ideal_copy) (defScope s_Ideal_copy) .none kV_Ideal_copy dc_Ideal_copy pm_Ideal_copy an_Ideal_copy cd_Ideal_copy ct_Ideal_copy, f_law_hand, PySem.W.fnOf "_law_hand" "_law_hand" (defArgs s_law_hand) (defBody s_law_hand) (defScope s_law_hand) .none kV_law_hand dc_law_hand pm_law_hand an_law_hand cd_law_hand ct_law_hand, f_law_draw, PySem.W.fnOf "_law_draw" "_law_draw" (defArgs s_law_draw) (defBody s_law_draw) (defScope s_law_draw) .none kV_law_draw dc_law_draw pm_law_draw an_law_draw cd_law_draw ct_law_draw, f_law_any, PySem.W.fnOf "_law_any" "_law_any" (defArgs s_law_any) (defBody s_law_any) (defScope s_law_any) .none kV_law_any dc_law_any pm_law_any an_law_any cd_law_any ct_law_any, f_law_is_int, PySem.W.fnOf "_law_is_int" "_law_is_int" (defArgs s_law_is_int) (defBody s_law_is_int) (defScope s_law_is_int) .none kV_law_is_int dc_law_is_int pm_law_is_int an_law_is_int cd_law_is_int ct_law_is_int, f_law_deep, PySem.W.fnOf "_law_deep" "_law_deep" (defArgs s_law_deep) (defBody s_law_deep) (defScope s_law_deep) .none kV_law_deep dc_law_deep pm_law_deep an_law_deep cd_law_deep ct_law_deep, f_law_odd, PySem.W.fnOf "_law_odd" "_law_odd" (defArgs s_law_odd) (defBody s_law_odd) (defScope s_law_odd) .none kV_law_odd dc_law_odd pm_law_odd an_law_odd cd_law_odd ct_law_odd, f_law_first, PySem.W.fnOf "_law_first" "_law_first" (defArgs s_law_first) (defBody s_law_first) (defScope s_law_first) .none kV_law_first dc_law_first pm_law_first an_law_first cd_law_first ct_law_first, f_law_key, PySem.W.fnOf "_law_key" "_law_key" (defArgs s_law_key) (defBody s_law_key) (defScope s_law_key) .none kV_law_key dc_law_key pm_law_key an_law_key cd_law_key ct_law_key, f_law_inserted, PySem.W.fnOf "_law_inserted" "_law_inserted" (defArgs s_law_inserted) (defBody s_law_inserted) (defScope s_law_inserted) .none kV_law_inserted dc_law_inserted pm_law_inserted an_law_inserted cd_law_inserted ct_law_inserted, f_law_word, PySem.W.fnOf "_law_word" "_law_word" (defArgs s_law_word) (defBody s_law_word) (defScope s_law_word) .none kV_law_word dc_law_word pm_law_word an_law_word cd_law_word ct_law_word, f_law_is_key, PySem.W.fnOf "_law_is_key" "_law_is_key" (defArgs s_law_is_key) (defBody s_law_is_key) (defScope s_law_is_key) .none kV_law_is_key dc_law_is_key pm_law_is_key an_law_is_key cd_law_is_key ct_law_is_key, f_law_some_key, PySem.W.fnOf "_law_some_key" "_law_some_key" (defArgs s_law_some_key) (defBody s_law_some_key) (defScope s_law_some_key) .none kV_law_some_key dc_law_some_key pm_law_some_key an_law_some_key cd_law_some_key ct_law_some_key, f_law, PySem.W.fnOf "law" "law" (defArgs s_law) (defBody s_law) (defScope s_law) .none kV_law dc_law pm_law an_law (.ref co_law) ct_law, c_Ideal, c_FabricError, c_NoLines, c_NoOutput, c_NoKey, c_KeyThere, c_NothingThere, co_law, tb_law⟩, ?_, rfl, rfl, rfl, rfl⟩
  exact ⟨F_wall,
    PySem.W.mg_of X G a_wall,
    F_wall.binds (fun _ _ _ _ _ _ us hl => match us, hl with | [_], _ => rfl),
    F_is_integer,
    PySem.W.mg_of X G a_is_integer,
    F_is_integer.binds (fun _ _ _ _ _ _ us hl => match us, hl with | [_], _ => rfl),
    F_is_integer_from,
    PySem.W.mg_of X G a_is_integer_from,
    F_is_integer_from.binds (fun _ _ _ _ _ _ us hl => match us, hl with | [_, _, _], _ => rfl),
    F_is_number_below,
    PySem.W.mg_of X G a_is_number_below,
    F_is_number_below.binds (fun _ _ _ _ _ _ us hl => match us, hl with | [_, _], _ => rfl),
    F_is_tuple_of,
    PySem.W.mg_of X G a_is_tuple_of,
    F_is_tuple_of.binds (fun _ _ _ _ _ _ us hl => match us, hl with | [_, _], _ => rfl),
    F_check_lines,
    PySem.W.mg_of X G a_check_lines,
    F_check_lines.binds (fun _ _ _ _ _ _ us hl => match us, hl with | [_], _ => rfl),
    F_is_cell_number,
    PySem.W.mg_of X G a_is_cell_number,
    F_is_cell_number.binds (fun _ _ _ _ _ _ us hl => match us, hl with | [_], _ => rfl),
    F_is_rank,
    PySem.W.mg_of X G a_is_rank,
    F_is_rank.binds (fun _ _ _ _ _ _ us hl => match us, hl with | [_], _ => rfl),
    F_is_key,
    PySem.W.mg_of X G a_is_key,
    F_is_key.binds (fun _ _ _ _ _ _ us hl => match us, hl with | [_], _ => rfl),
    F_check_key,
    PySem.W.mg_of X G a_check_key,
    F_check_key.binds (fun _ _ _ _ _ _ us hl => match us, hl with | [_], _ => rfl),
    F_how_many_less,
    PySem.W.mg_of X G a_how_many_less,
    F_how_many_less.binds (fun _ _ _ _ _ _ us hl => match us, hl with | [_, _], _ => rfl),
    F_Ideal___init__,
    F_Ideal___init__.binds (fun _ _ _ _ _ _ us hl => match us, hl with | [_, _], _ => rfl),
    F_Ideal__row,
    F_Ideal__row.binds (fun _ _ _ _ _ _ us hl => match us, hl with | [_, _], _ => rfl),
    F_Ideal_push,
    F_Ideal_push.binds (fun _ _ _ _ _ _ us hl => match us, hl with | [_, _, _], _ => rfl),
    F_Ideal_due,
    F_Ideal_due.binds (fun _ _ _ _ _ _ us hl => match us, hl with | [_, _], _ => rfl),
    F_Ideal_let_go,
    F_Ideal_let_go.binds (fun _ _ _ _ _ _ us hl => match us, hl with | [_, _], _ => rfl),
    F_Ideal_held,
    F_Ideal_held.binds (fun _ _ _ _ _ _ us hl => match us, hl with | [_, _], _ => rfl),
    F_Ideal_ahead,
    F_Ideal_ahead.binds (fun _ _ _ _ _ _ us hl => match us, hl with | [_, _, _], _ => rfl),
    F_Ideal_copy,
    F_Ideal_copy.binds (fun _ _ _ _ _ _ us hl => match us, hl with | [_], _ => rfl),
    F_law_hand,
    PySem.W.mg_of X G a_law_hand,
    F_law_hand.binds (fun _ _ _ _ _ _ us hl => match us, hl with | [_], _ => rfl),
    F_law_draw,
    PySem.W.mg_of X G a_law_draw,
    F_law_draw.binds (fun _ _ _ _ _ _ us hl => match us, hl with | [_, _], _ => rfl),
    F_law_any,
    PySem.W.mg_of X G a_law_any,
    F_law_any.binds (fun _ _ _ _ _ _ us hl => match us, hl with | [_, _], _ => rfl),
    F_law_is_int,
    PySem.W.mg_of X G a_law_is_int,
    F_law_is_int.binds (fun _ _ _ _ _ _ us hl => match us, hl with | [_, _, _], _ => rfl),
    F_law_deep,
    PySem.W.mg_of X G a_law_deep,
    F_law_deep.binds (fun _ _ _ _ _ _ us hl => match us, hl with | [_], _ => rfl),
    F_law_odd,
    PySem.W.mg_of X G a_law_odd,
    F_law_odd.binds (fun _ _ _ _ _ _ us hl => match us, hl with | [_, _], _ => rfl),
    F_law_first,
    PySem.W.mg_of X G a_law_first,
    F_law_first.binds (fun _ _ _ _ _ _ us hl => match us, hl with | [_], _ => rfl),
    F_law_key,
    PySem.W.mg_of X G a_law_key,
    F_law_key.binds (fun _ _ _ _ _ _ us hl => match us, hl with | [_, _], _ => rfl),
    F_law_inserted,
    PySem.W.mg_of X G a_law_inserted,
    F_law_inserted.binds (fun _ _ _ _ _ _ us hl => match us, hl with | [_, _], _ => rfl),
    F_law_word,
    PySem.W.mg_of X G a_law_word,
    F_law_word.binds (fun _ _ _ _ _ _ us hl => match us, hl with | [_], _ => rfl),
    F_law_is_key,
    PySem.W.mg_of X G a_law_is_key,
    F_law_is_key.binds (fun _ _ _ _ _ _ us hl => match us, hl with | [_], _ => rfl),
    F_law_some_key,
    PySem.W.mg_of X G a_law_some_key,
    F_law_some_key.binds (fun _ _ _ _ _ _ us hl => match us, hl with | [_, _], _ => rfl),
    F_law,
    PySem.W.mg_of X G a_law,
    F_law.binds (fun _ _ _ _ _ _ us hl => match us, hl with | [_], _ => rfl),
    ⟨pg_Ideal, hd_Ideal, po_Ideal, sa_Ideal⟩,
    PySem.W.mg_of X G ac_Ideal,
    ⟨mk_Ideal, a_Ideal___init__, i_Ideal___init__, kc_Ideal⟩,
    ⟨a_Ideal__row, i_Ideal__row, p_Ideal__row⟩,
    ⟨a_Ideal_push, i_Ideal_push, p_Ideal_push⟩,
    ⟨a_Ideal_due, i_Ideal_due, p_Ideal_due⟩,
    ⟨a_Ideal_let_go, i_Ideal_let_go, p_Ideal_let_go⟩,
    ⟨a_Ideal_held, i_Ideal_held, p_Ideal_held⟩,
    ⟨a_Ideal_ahead, i_Ideal_ahead, p_Ideal_ahead⟩,
    ⟨a_Ideal_copy, i_Ideal_copy, p_Ideal_copy⟩,
    n_Ideal__rows,
    em_Ideal,
    es_Ideal,
    PySem.W.mg_of X G ac_FabricError,
    PySem.W.mg_of X G ac_NoLines,
    PySem.W.mg_of X G ac_NoOutput,
    PySem.W.mg_of X G ac_NoKey,
    PySem.W.mg_of X G ac_KeyThere,
    PySem.W.mg_of X G ac_NothingThere,
    x_NoLines,
    kp_NoLines,
    s_NoLines,
    t_NoLines,
    e1_NoLines,
    e2_NoLines,
    e3_NoLines,
    e4_NoLines,
    e5_NoLines,
    x_NoKey,
    kp_NoKey,
    s_NoKey,
    t_NoKey,
    e1_NoKey,
    e2_NoKey,
    e3_NoKey,
    e4_NoKey,
    e5_NoKey,
    x_NoOutput,
    kp_NoOutput,
    s_NoOutput,
    t_NoOutput,
    e1_NoOutput,
    e2_NoOutput,
    e3_NoOutput,
    e4_NoOutput,
    e5_NoOutput,
    x_KeyThere,
    kp_KeyThere,
    s_KeyThere,
    t_KeyThere,
    e1_KeyThere,
    e2_KeyThere,
    e3_KeyThere,
    e4_KeyThere,
    e5_KeyThere,
    x_NothingThere,
    kp_NothingThere,
    s_NothingThere,
    t_NothingThere,
    e1_NothingThere,
    e2_NothingThere,
    e3_NothingThere,
    e4_NothingThere,
    e5_NothingThere,
    GX.kit_bi (by decide) su_Ideal_int,
    GX.kit_bi (by decide) su_Ideal_bool,
    GX.kit_bi (by decide) su_Ideal_tuple,
    ci_Ideal,
    en1,
    en2,
    GX.kit_yes (PySem.W.exm_ref s_FabricError e3_FabricError t_FabricError su_NoLines_FabricError),
    (PySem.W.exm_ref s_FabricError e3_FabricError t_FabricError su_NoLines_FabricError),
    GX.kit_bi (by decide) su_NoLines_ValueError,
    GX.kit_no (PySem.W.exm_ref s_NothingThere e3_NothingThere t_NothingThere su_NoLines_NothingThere) su_NothingThere_NothingThere su_NoLines_NothingThere,
    (PySem.W.exm_ref s_NothingThere e3_NothingThere t_NothingThere su_NoLines_NothingThere),
    GX.kit_no (PySem.W.exm_ref s_KeyThere e3_KeyThere t_KeyThere su_NoLines_KeyThere) su_KeyThere_KeyThere su_NoLines_KeyThere,
    (PySem.W.exm_ref s_KeyThere e3_KeyThere t_KeyThere su_NoLines_KeyThere),
    GX.kit_no (PySem.W.exm_ref s_NoKey e3_NoKey t_NoKey su_NoLines_NoKey) su_NoKey_NoKey su_NoLines_NoKey,
    (PySem.W.exm_ref s_NoKey e3_NoKey t_NoKey su_NoLines_NoKey),
    GX.kit_no (PySem.W.exm_ref s_NoOutput e3_NoOutput t_NoOutput su_NoLines_NoOutput) su_NoOutput_NoOutput su_NoLines_NoOutput,
    (PySem.W.exm_ref s_NoOutput e3_NoOutput t_NoOutput su_NoLines_NoOutput),
    GX.kit_yes (PySem.W.exm_ref s_NoLines e3_NoLines t_NoLines su_NoLines_NoLines),
    (PySem.W.exm_ref s_NoLines e3_NoLines t_NoLines su_NoLines_NoLines),
    GX.kit_yes (PySem.W.exm_ref s_FabricError e3_FabricError t_FabricError su_NoKey_FabricError),
    (PySem.W.exm_ref s_FabricError e3_FabricError t_FabricError su_NoKey_FabricError),
    GX.kit_bi (by decide) su_NoKey_ValueError,
    GX.kit_no (PySem.W.exm_ref s_NothingThere e3_NothingThere t_NothingThere su_NoKey_NothingThere) su_NothingThere_NothingThere su_NoKey_NothingThere,
    (PySem.W.exm_ref s_NothingThere e3_NothingThere t_NothingThere su_NoKey_NothingThere),
    GX.kit_no (PySem.W.exm_ref s_KeyThere e3_KeyThere t_KeyThere su_NoKey_KeyThere) su_KeyThere_KeyThere su_NoKey_KeyThere,
    (PySem.W.exm_ref s_KeyThere e3_KeyThere t_KeyThere su_NoKey_KeyThere),
    GX.kit_yes (PySem.W.exm_ref s_NoKey e3_NoKey t_NoKey su_NoKey_NoKey),
    (PySem.W.exm_ref s_NoKey e3_NoKey t_NoKey su_NoKey_NoKey),
    GX.kit_no (PySem.W.exm_ref s_NoOutput e3_NoOutput t_NoOutput su_NoKey_NoOutput) su_NoOutput_NoOutput su_NoKey_NoOutput,
    (PySem.W.exm_ref s_NoOutput e3_NoOutput t_NoOutput su_NoKey_NoOutput),
    GX.kit_no (PySem.W.exm_ref s_NoLines e3_NoLines t_NoLines su_NoKey_NoLines) su_NoLines_NoLines su_NoKey_NoLines,
    (PySem.W.exm_ref s_NoLines e3_NoLines t_NoLines su_NoKey_NoLines),
    GX.kit_yes (PySem.W.exm_ref s_FabricError e3_FabricError t_FabricError su_NoOutput_FabricError),
    (PySem.W.exm_ref s_FabricError e3_FabricError t_FabricError su_NoOutput_FabricError),
    GX.kit_bi (by decide) su_NoOutput_ValueError,
    GX.kit_no (PySem.W.exm_ref s_NothingThere e3_NothingThere t_NothingThere su_NoOutput_NothingThere) su_NothingThere_NothingThere su_NoOutput_NothingThere,
    (PySem.W.exm_ref s_NothingThere e3_NothingThere t_NothingThere su_NoOutput_NothingThere),
    GX.kit_no (PySem.W.exm_ref s_KeyThere e3_KeyThere t_KeyThere su_NoOutput_KeyThere) su_KeyThere_KeyThere su_NoOutput_KeyThere,
    (PySem.W.exm_ref s_KeyThere e3_KeyThere t_KeyThere su_NoOutput_KeyThere),
    GX.kit_no (PySem.W.exm_ref s_NoKey e3_NoKey t_NoKey su_NoOutput_NoKey) su_NoKey_NoKey su_NoOutput_NoKey,
    (PySem.W.exm_ref s_NoKey e3_NoKey t_NoKey su_NoOutput_NoKey),
    GX.kit_yes (PySem.W.exm_ref s_NoOutput e3_NoOutput t_NoOutput su_NoOutput_NoOutput),
    (PySem.W.exm_ref s_NoOutput e3_NoOutput t_NoOutput su_NoOutput_NoOutput),
    GX.kit_no (PySem.W.exm_ref s_NoLines e3_NoLines t_NoLines su_NoOutput_NoLines) su_NoLines_NoLines su_NoOutput_NoLines,
    (PySem.W.exm_ref s_NoLines e3_NoLines t_NoLines su_NoOutput_NoLines),
    GX.kit_yes (PySem.W.exm_ref s_FabricError e3_FabricError t_FabricError su_KeyThere_FabricError),
    (PySem.W.exm_ref s_FabricError e3_FabricError t_FabricError su_KeyThere_FabricError),
    GX.kit_bi (by decide) su_KeyThere_ValueError,
    GX.kit_no (PySem.W.exm_ref s_NothingThere e3_NothingThere t_NothingThere su_KeyThere_NothingThere) su_NothingThere_NothingThere su_KeyThere_NothingThere,
    (PySem.W.exm_ref s_NothingThere e3_NothingThere t_NothingThere su_KeyThere_NothingThere),
    GX.kit_yes (PySem.W.exm_ref s_KeyThere e3_KeyThere t_KeyThere su_KeyThere_KeyThere),
    (PySem.W.exm_ref s_KeyThere e3_KeyThere t_KeyThere su_KeyThere_KeyThere),
    GX.kit_no (PySem.W.exm_ref s_NoKey e3_NoKey t_NoKey su_KeyThere_NoKey) su_NoKey_NoKey su_KeyThere_NoKey,
    (PySem.W.exm_ref s_NoKey e3_NoKey t_NoKey su_KeyThere_NoKey),
    GX.kit_no (PySem.W.exm_ref s_NoOutput e3_NoOutput t_NoOutput su_KeyThere_NoOutput) su_NoOutput_NoOutput su_KeyThere_NoOutput,
    (PySem.W.exm_ref s_NoOutput e3_NoOutput t_NoOutput su_KeyThere_NoOutput),
    GX.kit_no (PySem.W.exm_ref s_NoLines e3_NoLines t_NoLines su_KeyThere_NoLines) su_NoLines_NoLines su_KeyThere_NoLines,
    (PySem.W.exm_ref s_NoLines e3_NoLines t_NoLines su_KeyThere_NoLines),
    GX.kit_yes (PySem.W.exm_ref s_FabricError e3_FabricError t_FabricError su_NothingThere_FabricError),
    (PySem.W.exm_ref s_FabricError e3_FabricError t_FabricError su_NothingThere_FabricError),
    GX.kit_bi (by decide) su_NothingThere_ValueError,
    GX.kit_yes (PySem.W.exm_ref s_NothingThere e3_NothingThere t_NothingThere su_NothingThere_NothingThere),
    (PySem.W.exm_ref s_NothingThere e3_NothingThere t_NothingThere su_NothingThere_NothingThere),
    GX.kit_no (PySem.W.exm_ref s_KeyThere e3_KeyThere t_KeyThere su_NothingThere_KeyThere) su_KeyThere_KeyThere su_NothingThere_KeyThere,
    (PySem.W.exm_ref s_KeyThere e3_KeyThere t_KeyThere su_NothingThere_KeyThere),
    GX.kit_no (PySem.W.exm_ref s_NoKey e3_NoKey t_NoKey su_NothingThere_NoKey) su_NoKey_NoKey su_NothingThere_NoKey,
    (PySem.W.exm_ref s_NoKey e3_NoKey t_NoKey su_NothingThere_NoKey),
    GX.kit_no (PySem.W.exm_ref s_NoOutput e3_NoOutput t_NoOutput su_NothingThere_NoOutput) su_NoOutput_NoOutput su_NothingThere_NoOutput,
    (PySem.W.exm_ref s_NoOutput e3_NoOutput t_NoOutput su_NothingThere_NoOutput),
    GX.kit_no (PySem.W.exm_ref s_NoLines e3_NoLines t_NoLines su_NothingThere_NoLines) su_NoLines_NoLines su_NothingThere_NoLines,
    (PySem.W.exm_ref s_NoLines e3_NoLines t_NoLines su_NothingThere_NoLines),
    ⟨⟨_, _, _, _, _, _, _, _, rfl, l_law, q_law⟩⟩,
    ⟨_, PySem.W.mg_of X G k_MOST_LINES⟩,
    ⟨_, PySem.W.mg_of X G k_GREATEST_CELL⟩,
    ⟨_, PySem.W.mg_of X G k_GREATEST_RANK⟩,
    PySem.W.mg_none_of X G z_ValueError,
    PySem.W.mg_none_of X G z_abs,
    PySem.W.mg_none_of X G z_bool,
    PySem.W.mg_none_of X G z_int,
    PySem.W.mg_none_of X G z_isinstance,
    PySem.W.mg_none_of X G z_len,
    PySem.W.mg_none_of X G z_range,
    PySem.W.mg_none_of X G z_tuple⟩

section
variable {P : Program} {w : World} {K : PySem.W.Frag} {mg : Str → Option Value} {base : Heap} {A : Adr}
/-! ### things of any sort -/
def Atom : V → Prop
  | .non | .bl _ | .int _ | .str _ => True
  | _ => False
/-- a thing that is told: atoms, tuples (a pair's items being atoms), lists, dicts, instances of C -/
inductive Thg (C : Addr) (H : Hp) : V → Prop where
  | atom {x : V} : Atom x → Thg C H x
  | tup {a : Addr} {xs : List V} : H a = some (.tup xs) → (xs.length = 2 → ∀ v ∈ xs, Atom v) → Thg C H (.ref a)
  | lst {a : Addr} {xs : List V} : H a = some (.lst xs) → Thg C H (.ref a)
  | dK {a : Addr} {kvs : List (Key × V)} : H a = some (.dK kvs) → Thg C H (.ref a)
  | ins {a dx : Addr} {fs : List (Str × V)} : H a = some (.ins C dx fs) → Thg C H (.ref a)
theorem Thg.mov {C : Addr} {H H' : Hp} {x : V} (h : Thg C H x) (s : ∀ a o, x = .ref a → H a = some o → H' a = some o) : Thg C H' x := by
  cases h with
  | atom h => exact .atom h
  | tup h l => exact .tup (s _ _ rfl h) l
  | lst h => exact .lst (s _ _ rfl h)
  | dK h => exact .dK (s _ _ rfl h)
  | ins h => exact .ins (s _ _ rfl h)
theorem Thg.same {C : Addr} {H H' : Hp} {x : V} (h : Thg C H x) (s : Same H H') : Thg C H' x := h.mov fun a o _ e => s a o e
theorem Thg.there {C : Addr} {H : Hp} {a : Addr} (h : Thg C H (.ref a)) : ∃ o, H a = some o := by
  cases h with
  | atom h => exact h.elim
  | tup h l => exact ⟨_, h⟩
  | lst h => exact ⟨_, h⟩
  | dK h => exact ⟨_, h⟩
  | ins h => exact ⟨_, h⟩
def isI : V → Bool
  | .int _ => true
  | _ => false
def isBl : V → Bool
  | .bl _ => true
  | _ => false
def isT (H : Hp) : V → Bool
  | .ref a => match H a with
    | some (.tup _) => true
    | _ => false
  | _ => false
/-- an integer from lo to hi -/
def inI (lo hi : Int) : V → Bool
  | .int i => decide (lo ≤ i) && decide (i ≤ hi)
  | _ => false
theorem inI_isI {lo hi : Int} {x : V} (h : isI x = false) : inI lo hi x = false := by
  cases x with
  | int i => cases h
  | _ => rfl
theorem inI_nat {n : Nat} {x : V} (h : inI 0 ((n : Int) - 1) x = true) : ∃ j : Nat, x = .int (j : Int) ∧ j < n := by
  cases x with
  | int i =>
    have q : (decide (0 ≤ i) && decide (i ≤ (n : Int) - 1)) = true := h
    rw [Bool.and_eq_true, decide_eq_true_iff, decide_eq_true_iff] at q
    obtain ⟨j, rfl⟩ := Int.eq_ofNat_of_zero_le q.1
    exact ⟨j, rfl, by omega⟩
  | _ => cases h
theorem kitQ {a b : String} {r r' : Bool} (h : kitB a b = some r) (e : r' = r) : PySem.W.kitOne K (.type a) (.type b) = some r' := by
  rw [e]
  exact kit_ty h
theorem thg_int (T : Top K mg A) {H : Hp} {x : V} (h : Thg A.c_Ideal H x) : ∃ t, TyX K H x t ∧ PySem.W.kitOne K t (.type "int") = some (isI x || isBl x) ∧ PySem.W.kitOne K t (.type "bool") = some (isBl x) ∧ PySem.W.kitOne K t (.type "tuple") = some (isT H x) := by
  cases h with
  | atom h =>
    cases x with
    | non => exact ⟨_, .base .non, kitQ (a := "NoneType") (b := "int") (r := false) (by decide +kernel) rfl, kitQ (a := "NoneType") (b := "bool") (r := false) (by decide +kernel) rfl, kitQ (a := "NoneType") (b := "tuple") (r := false) (by decide +kernel) rfl⟩
    | bl b => exact ⟨_, .base (.bl b), kitQ (a := "bool") (b := "int") (r := true) (by decide +kernel) rfl, kitQ (a := "bool") (b := "bool") (r := true) (by decide +kernel) rfl, kitQ (a := "bool") (b := "tuple") (r := false) (by decide +kernel) rfl⟩
    | int i => exact ⟨_, .base (.int i), kitQ (a := "int") (b := "int") (r := true) (by decide +kernel) rfl, kitQ (a := "int") (b := "bool") (r := false) (by decide +kernel) rfl, kitQ (a := "int") (b := "tuple") (r := false) (by decide +kernel) rfl⟩
    | str s => exact ⟨_, .base (.str s), kitQ (a := "str") (b := "int") (r := false) (by decide +kernel) rfl, kitQ (a := "str") (b := "bool") (r := false) (by decide +kernel) rfl, kitQ (a := "str") (b := "tuple") (r := false) (by decide +kernel) rfl⟩
    | _ => exact h.elim
  | @tup a xs h l =>
    have e : isT H (.ref a) = true := by
      show (match H a with | some (.tup _) => true | _ => false) = _
      rw [h]
    exact ⟨_, .base (.tup h), kitQ (a := "tuple") (b := "int") (r := false) (by decide +kernel) rfl, kitQ (a := "tuple") (b := "bool") (r := false) (by decide +kernel) rfl, kitQ (a := "tuple") (b := "tuple") (r := true) (by decide +kernel) e⟩
  | @lst a xs h =>
    have e : isT H (.ref a) = false := by
      show (match H a with | some (.tup _) => true | _ => false) = _
      rw [h]
    exact ⟨_, .base (.lst h), kitQ (a := "list") (b := "int") (r := false) (by decide +kernel) rfl, kitQ (a := "list") (b := "bool") (r := false) (by decide +kernel) rfl, kitQ (a := "list") (b := "tuple") (r := false) (by decide +kernel) e⟩
  | @dK a xs h =>
    have e : isT H (.ref a) = false := by
      show (match H a with | some (.tup _) => true | _ => false) = _
      rw [h]
    exact ⟨_, .base (.dK h), kitQ (a := "dict") (b := "int") (r := false) (by decide +kernel) rfl, kitQ (a := "dict") (b := "bool") (r := false) (by decide +kernel) rfl, kitQ (a := "dict") (b := "tuple") (r := false) (by decide +kernel) e⟩
  | @ins a dx fs h =>
    refine ⟨_, .base (.ins h T.cl_Ideal T.ci_Ideal T.en1 T.en2 T.em_Ideal), T.ki_Ideal_int, T.ki_Ideal_bool, ?_⟩
    have e : isT H (.ref a) = false := by
      show (match H a with | some (.tup _) => true | _ => false) = false
      rw [h]
    rw [e]
    exact T.ki_Ideal_tuple
theorem isT_some {H : Hp} {x : V} (h : isT H x = true) : ∃ a xs, x = .ref a ∧ H a = some (.tup xs) := by
  cases x with
  | ref a =>
    have q : (match H a with | some (.tup _) => true | _ => false) = true := h
    split at q
    · exact ⟨a, _, rfl, by assumption⟩
    · cases q
  | _ => cases h
def tupB (H : Hp) (n : Int) : V → Bool
  | .ref a => match H a with
    | some (.tup xs) => decide ((xs.length : Int) = n)
    | _ => false
  | _ => false
theorem tupB_no {H : Hp} {n : Int} {x : V} (h : isT H x = false) : tupB H n x = false := by
  cases x with
  | ref a =>
    have q : (match H a with | some (.tup _) => true | _ => false) = false := h
    show (match H a with | some (.tup xs) => decide ((xs.length : Int) = n) | _ => false) = false
    split
    · rename_i e
      rw [e] at q
      cases q
    · rfl
  | _ => rfl
theorem tupB_at {H : Hp} {n : Int} {a : Addr} {xs : List V} (h : H a = some (.tup xs)) : tupB H n (.ref a) = decide ((xs.length : Int) = n) := by
  show (match H a with | some (.tup xs) => decide ((xs.length : Int) = n) | _ => false) = _
  rw [h]
/-- a key: a pair of a rank and a cell's number -/
def keyB (H : Hp) : V → Bool
  | .ref a => match H a with
    | some (.tup [u, v]) => inI (-1000000000000000000) 1000000000000000000 u && inI 0 1000000000 v
    | _ => false
  | _ => false
theorem keyB_at {H : Hp} {a : Addr} {u v : V} (h : H a = some (.tup [u, v])) : keyB H (.ref a) = (inI (-1000000000000000000) 1000000000000000000 u && inI 0 1000000000 v) := by
  show (match H a with | some (.tup [u, v]) => inI (-1000000000000000000) 1000000000000000000 u && inI 0 1000000000 v | _ => false) = _
  rw [h]
theorem keyB_no {H : Hp} {x : V} (h : tupB H 2 x = false) : keyB H x = false := by
  cases x with
  | ref a =>
    show (match H a with | some (.tup [u, v]) => inI (-1000000000000000000) 1000000000000000000 u && inI 0 1000000000 v | _ => false) = false
    split
    · rename_i e
      rw [tupB_at e] at h
      cases h
    · rfl
  | _ => rfl
theorem keyB_mov {H H' : Hp} {a : Addr} {o : HO} (h : H a = some o) (h' : H' a = some o) : keyB H' (.ref a) = keyB H (.ref a) := by
  show (match H' a with | some (.tup [u, v]) => inI (-1000000000000000000) 1000000000000000000 u && inI 0 1000000000 v | _ => false) = (match H a with | some (.tup [u, v]) => inI (-1000000000000000000) 1000000000000000000 u && inI 0 1000000000 v | _ => false)
  rw [h, h']
/-! ### what counts as an integer -/
def spIsInteger (C : Addr) : Sp := fun vs H Q _ => ∃ x, vs = [x] ∧ Thg C H x ∧ Q (.bl (isI x)) H
theorem ok_is_integer (T : Top K mg A) : FnOk P w K mg base CX0 1 A.a_is_integer A.d_is_integer P_is_integer (spIsInteger A.c_Ideal) := by
  refine T.F_is_integer.ok sc_is_integer (fun vs H Q E h => ?_) (fun cdv A' outer s H vs Q E hr h => ?_)
  · obtain ⟨x, rfl, _⟩ := h
    rfl
  · obtain ⟨x, rfl, ht, k⟩ := h
    obtain ⟨t, ty, e1, e2, _⟩ := thg_int T ht
    refine ⟨_, (pss_one (ps_ret (pe_and (pe_callB call_isi (by rfl) T.z_isinstance (by decide +kernel) (pa_cons (pv 0) (pa_cons (pe_bltn (v := .ty "int") (by rfl) T.z_int (by decide +kernel) rfl) pa_nil))) (pe_one (pe_not (pe_callB call_isi (by rfl) T.z_isinstance (by decide +kernel) (pa_cons (pv 0) (pa_cons (pe_bltn (v := .ty "bool") (by rfl) T.z_bool (by decide +kernel) rfl) pa_nil)))))))), ?_⟩
    refine ⟨_, rfl, _, _, _, _, _, rfl, .ty "int", ty, e1, (isI x || isBl x), rfl, ?_⟩
    cases c : (isI x || isBl x) with
    | false =>
      refine iteF ?_
      have q : isI x = false := by
        cases x <;> first | rfl | cases c
      rw [q] at k
      exact k
    | true =>
      refine iteT ?_
      refine ⟨_, rfl, _, _, _, _, _, rfl, .ty "bool", ty, e2, _, rfl, ?_⟩
      have q : isI x = !isBl x := by
        cases x <;> first | rfl | cases c
      rw [q] at k
      exact k
def spIIF (C : Addr) : Sp := fun vs H Q _ => ∃ (lo hi : Int) (x : V), vs = [.int lo, .int hi, x] ∧ Thg C H x ∧ Q (.bl (inI lo hi x)) H
theorem ok_is_integer_from (T : Top K mg A) : FnOk P w K mg base CX0 2 A.a_is_integer_from A.d_is_integer_from P_is_integer_from (spIIF A.c_Ideal) := by
  refine T.F_is_integer_from.ok sc_is_integer_from (fun vs H Q E h => ?_) (fun cdv A' outer s H vs Q E hr h => ?_)
  · obtain ⟨lo, hi, x, rfl, _⟩ := h
    rfl
  · obtain ⟨lo, hi, x, rfl, ht, k⟩ := h
    refine ⟨_, (pss_one (ps_ret (pe_and (pe_call (ok_is_integer T) (hr.mono (by decide)) (by rfl) T.g_is_integer T.F_is_integer.kp T.b_is_integer .nil pass0 (pa_cons (pv 2) pa_nil)) (pe_one (pe_chain op_le op_le (pv 0) (pv 2) (pv 1)))))), ?_⟩
    refine ⟨_, rfl, x, rfl, ht, _, rfl, ?_⟩
    cases x with
    | int i =>
      refine iteT ?_
      refine ⟨_, rfl, _, rfl, _, _, rfl, rfl, _, rfl, ?_⟩
      by_cases c : lo ≤ i
      · simp only [inI, decide_eq_true c, Bool.true_and] at k
        rw [decide_eq_true c]
        refine iteT ⟨_, rfl, _, _, rfl, rfl, k⟩
      · simp only [inI, decide_eq_false c, Bool.false_and] at k
        rw [decide_eq_false c]
        exact iteF k
    | _ => exact iteF k
def spINB (C : Addr) : Sp := fun vs H Q _ => ∃ (n : Int) (x : V), vs = [.int n, x] ∧ Thg C H x ∧ Q (.bl (inI 0 (n - 1) x)) H
theorem ok_is_number_below (T : Top K mg A) : FnOk P w K mg base CX0 3 A.a_is_number_below A.d_is_number_below P_is_number_below (spINB A.c_Ideal) := by
  refine T.F_is_number_below.ok sc_is_number_below (fun vs H Q E h => ?_) (fun cdv A' outer s H vs Q E hr h => ?_)
  · obtain ⟨n, x, rfl, _⟩ := h
    rfl
  · obtain ⟨n, x, rfl, ht, k⟩ := h
    refine ⟨_, (pss_one (ps_ret (pe_call (ok_is_integer_from T) (hr.mono (by decide)) (by rfl) T.g_is_integer_from T.F_is_integer_from.kp T.b_is_integer_from .nil pass0 (pa_cons pe_int (pa_cons (pe_op op_sub (pv 0) pe_int) (pa_cons (pv 1) pa_nil)))))), ?_⟩
    exact ⟨_, rfl, _, _, rfl, rfl, _, rfl, _, _, _, rfl, ht, k⟩
theorem dec_int {a b : Int} : decide (V.int a = V.int b) = decide (a = b) := decide_eq_decide.mpr ⟨fun e => V.int.inj e, fun e => by rw [e]⟩
theorem dec_self {a : V} : decide (a = a) = true := decide_eq_true rfl
def spITO (C : Addr) : Sp := fun vs H Q _ => ∃ (n : Int) (x : V), vs = [.int n, x] ∧ Thg C H x ∧ Q (.bl (tupB H n x)) H
theorem ok_is_tuple_of (T : Top K mg A) : FnOk P w K mg base CX0 1 A.a_is_tuple_of A.d_is_tuple_of P_is_tuple_of (spITO A.c_Ideal) := by
  refine T.F_is_tuple_of.ok sc_is_tuple_of (fun vs H Q E h => ?_) (fun cdv A' outer s H vs Q E hr h => ?_)
  · obtain ⟨n, x, rfl, _⟩ := h
    rfl
  · obtain ⟨n, x, rfl, ht, k⟩ := h
    obtain ⟨t, ty, _, _, e3⟩ := thg_int T ht
    refine ⟨_, (pss_one (ps_ret (pe_and (pe_callB call_isi (by rfl) T.z_isinstance (by decide +kernel) (pa_cons (pv 1) (pa_cons (pe_bltn (v := .ty "tuple") (by rfl) T.z_tuple (by decide +kernel) rfl) pa_nil))) (pe_one (pe_cmpR op_eq (pe_callB call_len_seq (by rfl) T.z_len (by decide +kernel) (pa_cons (pv 1) pa_nil)) (pv 0) (nomark _)))))), ?_⟩
    refine ⟨_, rfl, _, _, _, _, _, rfl, .ty "tuple", ty, e3, _, rfl, ?_⟩
    cases c : isT H x with
    | false =>
      rw [tupB_no c] at k
      exact iteF k
    | true =>
      obtain ⟨a, xs, rfl, ha⟩ := isT_some c
      refine iteT ?_
      refine ⟨_, rfl, _, _, rfl, .inr (SqT.of ha), _, rfl, rfl, ?_⟩
      rw [dec_int]
      rw [tupB_at ha] at k
      exact k
def spCheckLines (C N : Addr) : Sp := fun vs H Q E => ∃ x, vs = [x] ∧ Thg C H x ∧ (inI 1 12 x = true → Q .non H) ∧ (inI 1 12 x = false → E (.ref N) none H)
theorem ok_check_lines (T : Top K mg A) : FnOk P w K mg base (L2.CX P w) 3 A.a_check_lines A.d_check_lines P_check_lines (spCheckLines A.c_Ideal A.c_NoLines) := by
  refine T.F_check_lines.okX sc_check_lines (fun vs H Q E h => ?_) (fun cdv A' outer s H vs Q E hr h => ?_)
  · obtain ⟨x, rfl, _⟩ := h
    rfl
  · obtain ⟨x, rfl, ht, k1, k2⟩ := h
    obtain ⟨t, kt⟩ := T.k_MOST_LINES
    refine ⟨_, (pss_one (ps_if (pt_not (pt_val (pe_call (ok_is_integer_from T) (hr.mono (by decide)) (by rfl) T.g_is_integer_from T.F_is_integer_from.kp T.b_is_integer_from .nil pass0 (pa_cons pe_int (pa_cons (pe_glob (v := .int 12) rfl kt ⟨_, rfl⟩) (pa_cons (pv 0) pa_nil)))))) (pss_one (ps_raise rfl (takes_of rfl rfl rfl rfl) (GX.pmk_own0 PySem.F.excBase_ValueError T.x_NoLines T.gc_NoLines T.kp_NoLines (raises_own T.s_NoLines T.t_NoLines) rfl))) pss_nil)), ?_⟩
    refine ⟨_, rfl, _, _, _, rfl, ht, _, rfl, ?_⟩
    cases c : inI 1 12 x with
    | true => exact iteF (k1 c)
    | false => exact iteT (k2 c)
def spICN (C : Addr) : Sp := fun vs H Q _ => ∃ x, vs = [x] ∧ Thg C H x ∧ Q (.bl (inI 0 1000000000 x)) H
theorem ok_is_cell_number (T : Top K mg A) : FnOk P w K mg base CX0 3 A.a_is_cell_number A.d_is_cell_number P_is_cell_number (spICN A.c_Ideal) := by
  refine T.F_is_cell_number.ok sc_is_cell_number (fun vs H Q E h => ?_) (fun cdv A' outer s H vs Q E hr h => ?_)
  · obtain ⟨x, rfl, _⟩ := h
    rfl
  · obtain ⟨x, rfl, ht, k⟩ := h
    obtain ⟨t, kt⟩ := T.k_GREATEST_CELL
    refine ⟨_, (pss_one (ps_ret (pe_call (ok_is_integer_from T) (hr.mono (by decide)) (by rfl) T.g_is_integer_from T.F_is_integer_from.kp T.b_is_integer_from .nil pass0 (pa_cons pe_int (pa_cons (pe_glob (v := .int 1000000000) rfl kt ⟨_, rfl⟩) (pa_cons (pv 0) pa_nil)))))), ?_⟩
    exact ⟨_, rfl, _, _, _, rfl, ht, k⟩
def spIR (C : Addr) : Sp := fun vs H Q _ => ∃ x, vs = [x] ∧ Thg C H x ∧ Q (.bl (inI (-1000000000000000000) 1000000000000000000 x)) H
theorem ok_is_rank (T : Top K mg A) : FnOk P w K mg base CX0 3 A.a_is_rank A.d_is_rank P_is_rank (spIR A.c_Ideal) := by
  refine T.F_is_rank.ok sc_is_rank (fun vs H Q E h => ?_) (fun cdv A' outer s H vs Q E hr h => ?_)
  · obtain ⟨x, rfl, _⟩ := h
    rfl
  · obtain ⟨x, rfl, ht, k⟩ := h
    obtain ⟨t, kt⟩ := T.k_GREATEST_RANK
    refine ⟨_, (pss_one (ps_ret (pe_call (ok_is_integer_from T) (hr.mono (by decide)) (by rfl) T.g_is_integer_from T.F_is_integer_from.kp T.b_is_integer_from .nil pass0 (pa_cons (pe_un un_neg (pe_glob (v := .int 1000000000000000000) rfl kt ⟨_, rfl⟩)) (pa_cons (pe_glob (v := .int 1000000000000000000) rfl kt ⟨_, rfl⟩) (pa_cons (pv 0) pa_nil)))))), ?_⟩
    exact ⟨_, rfl, _, rfl, _, _, _, rfl, ht, k⟩
theorem len2 {xs : List V} (h : (xs.length : Int) = 2) : ∃ u v, xs = [u, v] := by
  match xs, h with
  | [u, v], _ => exact ⟨u, v, rfl⟩
  | [], h => cases h
  | [_], h => cases h
  | _ :: _ :: _ :: r, h => simp only [List.length_cons] at h; omega
/-- a thing that is a pair, its items being atoms -/
theorem pair_of {C : Addr} {H : Hp} {x : V} (ht : Thg C H x) (c : tupB H 2 x = true) : ∃ a u v, x = .ref a ∧ H a = some (.tup [u, v]) ∧ Atom u ∧ Atom v := by
  have q : isT H x = true := by
    cases e : isT H x with
    | true => rfl
    | false =>
      rw [tupB_no e] at c
      cases c
  obtain ⟨a, xs, rfl, ha⟩ := isT_some q
  rw [tupB_at ha] at c
  obtain ⟨u, v, rfl⟩ := len2 (of_decide_eq_true c)
  cases ht with
  | atom h => exact h.elim
  | tup h l =>
    rw [ha] at h
    cases h
    exact ⟨a, u, v, rfl, ha, l rfl u (by simp), l rfl v (by simp)⟩
  | lst h =>
    rw [ha] at h
    cases h
  | dK h =>
    rw [ha] at h
    cases h
  | ins h =>
    rw [ha] at h
    cases h
def spIK (C : Addr) : Sp := fun vs H Q _ => ∃ x, vs = [x] ∧ Thg C H x ∧ Q (.bl (keyB H x)) H
theorem ok_is_key (T : Top K mg A) : FnOk P w K mg base CX0 4 A.a_is_key A.d_is_key P_is_key (spIK A.c_Ideal) := by
  refine T.F_is_key.ok sc_is_key (fun vs H Q E h => ?_) (fun cdv A' outer s H vs Q E hr h => ?_)
  · obtain ⟨x, rfl, _⟩ := h
    rfl
  · obtain ⟨x, rfl, ht, k⟩ := h
    refine ⟨_, (pss_one (ps_ret (pe_and (pe_call (ok_is_tuple_of T) (hr.mono (by decide)) (by rfl) T.g_is_tuple_of T.F_is_tuple_of.kp T.b_is_tuple_of .nil pass0 (pa_cons pe_int (pa_cons (pv 0) pa_nil))) (pe_and (pe_call (ok_is_rank T) (hr.mono (by decide)) (by rfl) T.g_is_rank T.F_is_rank.kp T.b_is_rank .nil pass0 (pa_cons (pe_ix ix_tup (pv 0) pe_int (fun _ _ => rfl)) pa_nil)) (pe_one (pe_call (ok_is_cell_number T) (hr.mono (by decide)) (by rfl) T.g_is_cell_number T.F_is_cell_number.kp T.b_is_cell_number .nil pass0 (pa_cons (pe_ix ix_tup (pv 0) pe_int (fun _ _ => rfl)) pa_nil))))))), ?_⟩
    refine ⟨_, rfl, _, _, rfl, ht, _, rfl, ?_⟩
    cases c : tupB H 2 x with
    | false =>
      rw [keyB_no c] at k
      exact iteF k
    | true =>
      obtain ⟨a, u, v, rfl, ha, hu, hv⟩ := pair_of ht c
      rw [keyB_at ha] at k
      refine iteT ?_
      refine ⟨_, rfl, _, _, _, _, rfl, rfl, SqT.of ha, atI_nat (j := 0) rfl, _, rfl, .atom hu, _, rfl, ?_⟩
      cases c1 : inI (-1000000000000000000) 1000000000000000000 u with
      | false =>
        rw [c1] at k
        exact iteF k
      | true =>
        rw [c1] at k
        refine iteT ?_
        exact ⟨_, rfl, _, _, _, _, rfl, rfl, SqT.of ha, atI_nat (j := 1) rfl, _, rfl, .atom hv, k⟩
def spCK (C N : Addr) : Sp := fun vs H Q E => ∃ x, vs = [x] ∧ Thg C H x ∧ (keyB H x = true → Q .non H) ∧ (keyB H x = false → E (.ref N) none H)
theorem ok_check_key (T : Top K mg A) : FnOk P w K mg base (L2.CX P w) 5 A.a_check_key A.d_check_key P_check_key (spCK A.c_Ideal A.c_NoKey) := by
  refine T.F_check_key.okX sc_check_key (fun vs H Q E h => ?_) (fun cdv A' outer s H vs Q E hr h => ?_)
  · obtain ⟨x, rfl, _⟩ := h
    rfl
  · obtain ⟨x, rfl, ht, k1, k2⟩ := h
    refine ⟨_, (pss_one (ps_if (pt_not (pt_val (pe_call (ok_is_key T) (hr.mono (by decide)) (by rfl) T.g_is_key T.F_is_key.kp T.b_is_key .nil pass0 (pa_cons (pv 0) pa_nil)))) (pss_one (ps_raise rfl (takes_of rfl rfl rfl rfl) (GX.pmk_own0 PySem.F.excBase_ValueError T.x_NoKey T.gc_NoKey T.kp_NoKey (raises_own T.s_NoKey T.t_NoKey) rfl))) pss_nil)), ?_⟩
    refine ⟨_, rfl, _, rfl, ht, _, rfl, ?_⟩
    cases c : keyB H x with
    | true => exact iteF (k1 c)
    | false => exact iteT (k2 c)
end

section
variable {P : Program} {w : World} {K : PySem.W.Frag} {mg : Str → Option Value} {base : Heap} {A : Adr}
/-- the tuple of two ints at a -/
abbrev Tup2 (H : Hp) (a : Addr) (p : Int × Int) : Prop := H a = some (.tup [.int p.1, .int p.2])
def KeyOk (p : Int × Int) : Prop := -1000000000000000000 ≤ p.1 ∧ p.1 ≤ 1000000000000000000 ∧ 0 ≤ p.2 ∧ p.2 ≤ 1000000000
/-! ### how many keys are less -/
def KeysAt (H : Hp) (kd : V → Int × Int) (xs : List V) : Prop := ∀ v ∈ xs, ∃ a, v = .ref a ∧ Tup2 H a (kd v)
theorem KeysAt.same {H H' : Hp} {kd : V → Int × Int} {xs : List V} (e : Same H H') (h : KeysAt H kd xs) : KeysAt H' kd xs := fun v hv => by
  obtain ⟨a, e1, e2⟩ := h v hv
  exact ⟨a, e1, e _ _ e2⟩
def ltK (kd : V → Int × Int) (k v : V) : Bool := HT.lexLt [(kd v).1, (kd v).2] [(kd k).1, (kd k).2]
def less (kd : V → Int × Int) (k : V) (xs : List V) : Nat := (xs.filter (ltK kd k)).length
theorem less_le (kd : V → Int × Int) (k : V) (xs : List V) : less kd k xs ≤ xs.length := List.length_filter_le _ _
theorem same_upd {H : Hp} {p : Addr} {o : HO} (h : H p = none) : Same H (upd H p o) := fun b x e => by
  rw [upd_ne (ne_of_none e h)]
  exact e
theorem same_to {H H1 : Hp} {p : Addr} {o : HO} (s : Same H H1) (h : H p = none) : Same H (upd H1 p o) := fun b x e => by
  rw [upd_ne (ne_of_none e h)]
  exact s _ _ e
theorem take_fil {xs : List V} {i : Nat} {x : V} (f : V → Bool) (h : xs[i]? = some x) : (xs.take (i + 1)).filter f = (xs.take i).filter f ++ (if f x = true then [x] else []) := by
  rw [List.take_add_one, h, List.filter_append]
  congr 1
  show List.filter f [x] = _
  by_cases c : f x = true
  · rw [if_pos c, List.filter_cons_of_pos c]
    rfl
  · rw [if_neg c, List.filter_cons_of_neg c]
    rfl
theorem fil_lt {xs : List V} {f : V → Bool} {i : Nat} (h : xs.length ≤ 100000) : ((xs.take i).filter f).length < sizeLine := by
  have h1 : ((xs.take i).filter f).length ≤ (xs.take i).length := List.length_filter_le _ _
  rw [List.length_take] at h1
  exact Nat.lt_of_le_of_lt (Nat.le_trans h1 (Nat.le_trans (Nat.min_le_right _ _) h)) (by decide)
theorem lt2 {a b c d : Int} : (HT.lexLt [a, b] [c, d] = true) ↔ (a < c ∨ (a = c ∧ b < d)) := by
  simp [HT.lexLt]
  by_cases h : a = c
  · rw [if_pos h]
    omega
  · rw [if_neg h]
    omega
/-- u < v -/
def LtV (kd : V → Int × Int) (u v : V) : Prop := (kd u).1 < (kd v).1 ∨ ((kd u).1 = (kd v).1 ∧ (kd u).2 < (kd v).2)
theorem ltK_iff {kd : V → Int × Int} {k v : V} : ltK kd k v = true ↔ LtV kd v k := lt2
def Pw (kd : V → Int × Int) (xs : List V) : Prop := xs.Pairwise (LtV kd)
theorem less_split {kd : V → Int × Int} {k : V} : ∀ {xs : List V}, Pw kd xs → (∀ v ∈ xs.take (less kd k xs), LtV kd v k) ∧ ∀ v ∈ xs.drop (less kd k xs), ¬ LtV kd v k
  | [], _ => ⟨fun v hv => by simp at hv, fun v hv => by simp at hv⟩
  | u :: r, h => by
    obtain ⟨h1, h2⟩ := List.pairwise_cons.mp h
    obtain ⟨i1, i2⟩ := less_split (k := k) h2
    by_cases c : LtV kd u k
    · have e : less kd k (u :: r) = less kd k r + 1 := by
        unfold less
        rw [List.filter_cons_of_pos (ltK_iff.mpr c), List.length_cons]
      rw [e, List.take_succ_cons, List.drop_succ_cons]
      refine ⟨fun v hv => ?_, i2⟩
      rcases List.mem_cons.mp hv with z | hv
      · rw [z]
        exact c
      · exact i1 v hv
    · have no : ∀ v ∈ r, ¬ LtV kd v k := fun v hv z => c (by
        have q := h1 v hv
        unfold LtV at q z ⊢
        omega)
      have e : less kd k (u :: r) = 0 := by
        unfold less
        rw [List.filter_cons_of_neg (fun z => c (ltK_iff.mp z)), List.filter_eq_nil_iff.mpr fun v hv z => no v hv (ltK_iff.mp z)]
        rfl
      rw [e]
      refine ⟨fun v hv => by simp at hv, fun v hv => ?_⟩
      rcases List.mem_cons.mp hv with z | hv
      · rw [z]
        exact c
      · exact no v hv
def spHML (K : PySem.W.Frag) : Sp := fun vs H Q _ => ∃ (l : Addr) (xs : List V) (kv : V) (kd : V → Int × Int), vs = [.ref l, kv] ∧ SqL K H l xs ∧ KeysAt H kd (kv :: xs) ∧ Pw kd xs ∧ xs.length ≤ 100000 ∧ ∀ H', Same H H' → Q (.int (less kd kv xs : Nat)) H'
theorem split_lo {kd : V → Int × Int} {k : V} {xs : List V} (h : Pw kd xs) {i : Nat} {v : V} (e : xs[i]? = some v) : (i < less kd k xs → ltK kd k v = true) ∧ (less kd k xs ≤ i → ltK kd k v = false) := by
  obtain ⟨h1, h2⟩ := less_split (k := k) h
  constructor
  · intro c
    refine ltK_iff.mpr (h1 v ?_)
    refine List.mem_of_getElem? (i := i) ?_
    rw [List.getElem?_take_of_lt c]
    exact e
  · intro c
    cases q : ltK kd k v with
    | false => rfl
    | true =>
      refine absurd (ltK_iff.mp q) (h2 v ?_)
      refine List.mem_of_getElem? (i := i - less kd k xs) ?_
      rw [List.getElem?_drop, show less kd k xs + (i - less kd k xs) = i by omega]
      exact e
theorem ok_how_many_less (T : Top K mg A) : FnOk P w K mg base CX0 1 A.a_how_many_less A.d_how_many_less P_how_many_less (spHML K) := by
  refine T.F_how_many_less.ok sc_how_many_less (fun vs H Q E h => ?_) (fun cdv A outer s H vs Q E hr h => ?_)
  · obtain ⟨l, xs, kv, kd, rfl, _⟩ := h
    rfl
  · obtain ⟨l, xs, kv, kd, rfl, hl, hk, hs, hn, k⟩ := h
    obtain ⟨ak, rfl, hak⟩ := hk kv (by simp)
    refine ⟨_, (pss_cons (ps_set (i := 2) sc_how_many_less.nd rfl (.inl rfl) pe_int)
    (pss_cons (ps_set (i := 3) sc_how_many_less.nd rfl (.inl rfl) (pe_callB call_len_seq (by rfl) T.z_len (by decide +kernel) (pa_cons (pv 0) pa_nil)))
    (pss_cons (ps_while PassesOwn.never (pt_cmpR op_lt (pv 2) (pv 3) (nomark _)) (pss_cons (ps_set (i := 4) sc_how_many_less.nd rfl (.inl rfl) (pe_op op_fdiv (pe_op op_add (pv 2) (pv 3)) pe_int))
    (pss_one (ps_if (pt_cmpR (op_ltT hr.units0) (pe_ix ix_list (pv 0) (pv 4) (fun _ _ => rfl)) (pv 1) (nomark _)) (pss_one (ps_set (i := 2) sc_how_many_less.nd rfl (.inl rfl) (pe_op op_add (pv 4) pe_int))) (pss_one (ps_set (i := 3) sc_how_many_less.nd rfl (.inl rfl) (pv 4)))))))
    (pss_one (ps_ret (pv 2)))))), ?_⟩
    refine ⟨_, rfl, l, xs, rfl, .inl hl, ?_⟩
    refine ⟨fun m σ H' => ∃ (lo hi : Nat) (y4 : Option V), σ = [some (.ref l), some (.ref ak), some (.int (lo : Int)), some (.int (hi : Int)), y4] ∧ H' = H ∧ lo ≤ less kd (.ref ak) xs ∧ less kd (.ref ak) xs ≤ hi ∧ hi ≤ xs.length ∧ m = hi - lo, ⟨_, 0, xs.length, none, rfl, rfl, Nat.zero_le _, less_le _ _ _, Nat.le_refl _, rfl⟩, ?_⟩
    rintro m σ H' ⟨lo, hi, y4, rfl, rfl, h1, h2, h3, rfl⟩
    refine ⟨_, rfl, _, rfl, _, _, rfl, rfl, _, rfl, ite2 (fun c => ?_) (fun c => ?_)⟩
    · have c := of_decide_eq_true c
      refine ⟨fun σ' H'' => ∃ (lo' hi' : Nat) (y4 : Option V), σ' = [some (.ref l), some (.ref ak), some (.int (lo' : Int)), some (.int (hi' : Int)), y4] ∧ H'' = H' ∧ lo' ≤ less kd (.ref ak) xs ∧ less kd (.ref ak) xs ≤ hi' ∧ hi' ≤ xs.length ∧ hi' - lo' < hi - lo, fun σ' H'' ⟨lo', hi', y, e1, e2, e3, e4, e5, e6⟩ => ⟨_, e6, lo', hi', y, e1, e2, e3, e4, e5, rfl⟩, ?_⟩
      refine ⟨_, rfl, _, rfl, _, _, rfl, rfl, _, _, rfl, rfl, ⟨by decide, by decide⟩, ?_⟩
      have em : ((lo : Int) + (hi : Int)) / 2 = (((lo + hi) / 2 : Nat) : Int) := by omega
      have hm : (lo + hi) / 2 < xs.length := by omega
      have ex : xs[(lo + hi) / 2]? = some xs[(lo + hi) / 2] := List.getElem?_eq_getElem hm
      obtain ⟨b, eb, hb⟩ := hk xs[(lo + hi) / 2] (List.mem_cons_of_mem _ (List.mem_of_getElem? ex))
      obtain ⟨g1, g2⟩ := split_lo (k := .ref ak) hs ex
      show tSeq _ _ _ ([some (.ref l), some (.ref ak), some (.int (lo : Int)), some (.int (hi : Int)), some (.int (((lo : Int) + (hi : Int)) / 2))] : L2.St) _
      rw [em]
      refine ⟨_, rfl, _, rfl, l, xs, _, xs[(lo + hi) / 2], rfl, rfl, hl, atI_nat ex, ?_⟩
      rw [eb] at hb g1 g2 ⊢
      refine ⟨_, rfl, b, ak, [(kd (.ref b)).1, (kd (.ref b)).2], [(kd (.ref ak)).1, (kd (.ref ak)).2], rfl, rfl, SqT.of hb, SqT.of hak, _, rfl, ?_⟩
      show (if ltK kd (.ref ak) (.ref b) = true then _ else _)
      by_cases c2 : (lo + hi) / 2 < less kd (.ref ak) xs
      · rw [g1 c2]
        refine iteT ?_
        refine ⟨_, rfl, _, _, rfl, rfl, (lo + hi) / 2 + 1, hi, _, rfl, rfl, by omega, h2, h3, by omega⟩
      · rw [g2 (by omega)]
        refine iteF ?_
        exact ⟨_, rfl, lo, (lo + hi) / 2, _, rfl, rfl, h1, by omega, by omega, by omega⟩
    · have c : ¬ ((lo : Int) < (hi : Int)) := fun z => c (decide_eq_true z)
      refine ⟨_, rfl, ?_⟩
      have e : lo = less kd (.ref ak) xs := by omega
      rw [e]
      exact k _ fun _ _ q => q
end

section
variable {P : Program} {w : World} {K : PySem.W.Frag} {mg : Str → Option Value} {base : Heap} {A : Adr}
/-! ### the hand: a list of five, [the script's numbers, place, rest, mix, turns] -/
theorem upd_upd {H : Hp} {a : Addr} {o u : HO} : upd (upd H a o) a u = upd H a u := by
  funext b
  by_cases h : b = a
  · subst h
    rw [upd_same, upd_same]
  · rw [upd_ne h, upd_ne h, upd_ne h]
def handO (g : Addr) (i m s t : Int) : HO := .lst [.ref g, .int i, .int m, .int s, .int t]
/-- the hand stands at h, its numbers at g -/
structure HandAt (H : Hp) (h g : Addr) : Prop where
  cells : ∃ ns : List Int, H g = some (.lst (ns.map V.int))
  five : ∃ i m s t, H h = some (handO g i m s t) ∧ 0 ≤ i ∧ -(2 ^ 64) < s ∧ s < 2 ^ 64
  ne : h ≠ g
/-- as H but at h -/
def But (h : Addr) (H H' : Hp) : Prop := ∀ b, b ≠ h → H' b = H b
theorem But.upd {h : Addr} {H : Hp} {o : HO} : But h H (upd H h o) := fun _ hb => upd_ne hb
theorem But.trans {h : Addr} {H H1 H2 : Hp} (a : But h H H1) (b : But h H1 H2) : But h H H2 := fun c hc => (b c hc).trans (a c hc)
theorem But.refl (h : Addr) (H : Hp) : But h H H := fun _ _ => rfl
theorem hand_upd {H : Hp} {h g : Addr} (a : HandAt H h g) {i m s t : Int} (hi : 0 ≤ i) (hs : -(2 ^ 64) < s) (hs2 : s < 2 ^ 64) : HandAt (upd H h (handO g i m s t)) h g :=
  ⟨by
    obtain ⟨ns, e⟩ := a.cells
    exact ⟨ns, by rw [upd_ne a.ne.symm]; exact e⟩, ⟨i, m, s, t, upd_same, hi, hs, hs2⟩, a.ne⟩
def spDraw : Sp := fun vs H Q _ => ∃ (h g : Addr) (n : Int), vs = [.ref h, .int n] ∧ HandAt H h g ∧ 0 < n ∧ n < 1073741824 ∧ ∀ (H' : Hp) (d : Int), But h H H' → HandAt H' h g → 0 ≤ d → d < n → Q (.int d) H'
theorem ixn5 {g : Addr} {i m s t : Int} {v : V} : ∀ j : Nat, [V.ref g, V.int i, V.int m, V.int s, V.int t][j]? = some v → atI [V.ref g, V.int i, V.int m, V.int s, V.int t] (j : Int) = some v := fun j h => atI_nat h
theorem ok_law_draw (T : Top K mg A) : FnOk P w K mg base CX0 1 A.a_law_draw A.d_law_draw P_law_draw spDraw := by
  refine T.F_law_draw.ok sc_law_draw (fun vs H Q E h => ?_) (fun cdv A outer s H vs Q E hr h => ?_)
  · obtain ⟨h, g, n, rfl, _⟩ := h
    rfl
  · obtain ⟨h, g, n, rfl, ha, hn, hn2, k⟩ := h
    obtain ⟨ns, eg⟩ := ha.cells
    obtain ⟨i, m, sd, t, eh, hi, hs1, hs2⟩ := ha.five
    have hne := ha.ne
    refine ⟨_, (Evl.pss_cut (ps_if (PW.pt (pw_and (pt_cmpR op_eq (pe_ix ix_list (pv 0) pe_int (fun _ _ => rfl)) pe_int (nomark _)) (pw_and1 (pt_cmpR op_lt (pe_ix ix_list (pv 0) pe_int (fun _ _ => rfl)) (pe_callB call_len_seq (by rfl) T.z_len (by decide +kernel) (pa_cons (pe_ix ix_list (pv 0) pe_int (fun _ _ => rfl)) pa_nil)) (nomark _))))) (pss_cons (ps_set (i := 2) sc_law_draw.nd rfl (.inl rfl) (pe_ix ix_list (pe_ix ix_list (pv 0) pe_int (fun _ _ => rfl)) (pe_ix ix_list (pv 0) pe_int (fun _ _ => rfl)) (fun _ _ => rfl)))
    (pss_cons (ps_asg (pe_op op_add (pe_ix ix_list (pv 0) pe_int (fun _ _ => rfl)) pe_int) (pg_sub (pv 0) pe_int set_list))
    (pss_cons (ps_asg (pe_op op_mod (pe_callTy call_int1 (by rfl) T.z_int (by decide +kernel) (pa_cons (pe_op op_add (pe_op op_add (pe_op op_mul (pe_ix ix_list (pv 0) pe_int (fun _ _ => rfl)) pe_int) (pv 2)) pe_int) pa_nil)) pe_int) (pg_sub (pv 0) pe_int set_list))
    (pss_one (ps_if (pt_cmpR op_ge (pv 2) (pe_op op_pow pe_int pe_int) (nomark _)) (pss_one (ps_asg (pv 2) (pg_sub (pv 0) pe_int set_list))) pss_nil))))) pss_nil)
    (pss_cons (ps_if (pt_cmpR op_gt (pe_ix ix_list (pv 0) pe_int (fun _ _ => rfl)) pe_int (nomark _)) (pss_cons (ps_set (i := 3) sc_law_draw.nd rfl (.inl rfl) (pe_op op_mod (pe_callTy call_int1 (by rfl) T.z_int (by decide +kernel) (pa_cons (pe_ix ix_list (pv 0) pe_int (fun _ _ => rfl)) pa_nil)) (pv 1)))
    (pss_cons (ps_asg (pe_op op_fdiv (pe_ix ix_list (pv 0) pe_int (fun _ _ => rfl)) (pv 1)) (pg_sub (pv 0) pe_int set_list))
    (pss_one (ps_ret (pv 3))))) pss_nil)
    (pss_cons (ps_asg (pe_op op_add (pe_ix ix_list (pv 0) pe_int (fun _ _ => rfl)) pe_int) (pg_sub (pv 0) pe_int set_list))
    (pss_cons (ps_set (i := 4) sc_law_draw.nd rfl (.inl rfl) (pe_op op_mod (pe_callTy call_int1 (by rfl) T.z_int (by decide +kernel) (pa_cons (pe_op op_mul (pe_callTy call_int1 (by rfl) T.z_int (by decide +kernel) (pa_cons (pe_op op_add (pe_ix ix_list (pv 0) pe_int (fun _ _ => rfl)) (pe_op op_mul pe_int (pe_ix ix_list (pv 0) pe_int (fun _ _ => rfl)))) pa_nil)) pe_int) pa_nil)) pe_int))
    (pss_cons (ps_set (i := 4) sc_law_draw.nd rfl (.inl rfl) (pe_op op_mod (pe_callTy call_int1 (by rfl) T.z_int (by decide +kernel) (pa_cons (pe_op op_mul (pv 4) (pe_op op_add (pe_op op_fdiv (pv 4) pe_int) pe_int)) pa_nil)) pe_int))
    (pss_cons (ps_set (i := 4) sc_law_draw.nd rfl (.inl rfl) (pe_op op_mod (pe_callTy call_int1 (by rfl) T.z_int (by decide +kernel) (pa_cons (pe_op op_mul (pv 4) (pe_op op_add (pe_op op_fdiv (pv 4) pe_int) pe_int)) pa_nil)) pe_int))
    (pss_one (ps_ret (pe_op op_mod (pe_callTy call_int1 (by rfl) T.z_int (by decide +kernel) (pa_cons (pe_op op_fdiv (pv 4) pe_int) pa_nil)) (pv 1)))))))))), ?_⟩
    refine ⟨fun σ' H' => ∃ y2, σ' = [some (.ref h), some (.int n), y2, none, none] ∧ But h H H' ∧ HandAt H' h g, ?_, ?_⟩
    · -- the first if
      have stay : ∃ y2, (start N_law_draw [V.ref h, V.int n]) = [some (.ref h), some (.int n), y2, none, none] ∧ But h H H ∧ HandAt H h g := ⟨none, rfl, But.refl h H, ha⟩
      refine ⟨_, rfl, h, _, 2, _, rfl, rfl, SqL.of eh, atI_nat (j := 2) rfl, rfl, _, rfl, ite2 (fun c1 => ?_) (fun _ => iteF stay)⟩
      refine ⟨_, rfl, h, _, 1, _, rfl, rfl, SqL.of eh, atI_nat (j := 1) rfl, _, rfl, h, _, 0, _, rfl, rfl, SqL.of eh, atI_nat (j := 0) rfl, g, _, rfl, .inl (SqL.of eg), _, _, rfl, rfl, _, rfl, ite2 (fun c2 => ?_) (fun _ => stay)⟩
      have c3 : i < (ns.length : Int) := by
        have q := of_decide_eq_true c2
        rw [List.length_map] at q
        exact q
      have hj : i.toNat < ns.length := by omega
      have ej : (ns.map V.int)[i.toNat]? = some (.int ns[i.toNat]) := by
        rw [List.getElem?_map, List.getElem?_eq_getElem hj]
        rfl
      -- cell = hand[0][hand[1]]
      refine ⟨_, rfl, h, _, 0, _, rfl, rfl, SqL.of eh, atI_nat (j := 0) rfl, _, rfl, h, _, 1, _, rfl, rfl, SqL.of eh, atI_nat (j := 1) rfl, g, _, i, _, rfl, rfl, SqL.of eg, at_of (by omega) ej, ?_⟩
      -- hand[1] = hand[1] + 1
      refine ⟨_, rfl, h, _, 1, _, rfl, rfl, SqL.of eh, atI_nat (j := 1) rfl, i, 1, rfl, rfl, _, rfl, h, _, _, 1, rfl, rfl, eh, rfl, ?_⟩
      have eh1 : (upd H h (handO g (i + 1) m sd t)) h = some (handO g (i + 1) m sd t) := upd_same
      -- hand[3] = int(hand[3] * 69621 + cell + 11) % 2147483629
      refine ⟨_, rfl, h, _, 3, _, rfl, rfl, SqL.of eh1, atI_nat (j := 3) rfl, _, _, rfl, rfl, .inl ⟨hs1, hs2⟩, _, rfl, _, _, rfl, rfl, _, _, rfl, rfl, .inl ⟨_, rfl, _, _, rfl, rfl, (by show (0 : Int) < 2147483629; decide), _, rfl, h, _, _, 3, rfl, rfl, eh1, rfl, ?_⟩⟩
      have hm0 := Int.emod_nonneg (sd * 69621 + ns[i.toNat] + 11) (show (2147483629 : Int) ≠ 0 by decide)
      have hm1 := Int.emod_lt_of_pos (sd * 69621 + ns[i.toNat] + 11) (show (0 : Int) < 2147483629 by decide)
      obtain ⟨s2, es⟩ : ∃ s2, (sd * 69621 + ns[i.toNat] + 11) % 2147483629 = s2 := ⟨_, rfl⟩
      rw [es] at hm0 hm1
      rw [show ((fun i j => V.int (i % j)) (sd * 69621 + ns[i.toNat] + 11) 2147483629) = V.int s2 from congrArg V.int es]
      have eh2 : (upd (upd H h (handO g (i + 1) m sd t)) h (handO g (i + 1) m s2 t)) h = some (handO g (i + 1) m s2 t) := upd_same
      have h2 : HandAt (upd (upd H h (handO g (i + 1) m sd t)) h (handO g (i + 1) m s2 t)) h g := by
        rw [upd_upd]
        exact hand_upd ha (by omega) (by omega) (by omega)
      have b2 : But h H (upd (upd H h (handO g (i + 1) m sd t)) h (handO g (i + 1) m s2 t)) := But.upd.trans But.upd
      -- if cell >= 10 ** 18: hand[2] = cell
      refine ⟨_, rfl, 10, 18, rfl, rfl, ⟨by decide, by decide, by decide⟩, _, _, rfl, rfl, _, rfl, ite2 (fun _ => ?_) (fun _ => ⟨_, rfl, b2, h2⟩)⟩
      refine ⟨_, rfl, _, rfl, h, _, _, 2, rfl, rfl, eh2, rfl, ?_⟩
      exact ⟨_, rfl, b2.trans But.upd, hand_upd h2 (by omega) (by omega) (by omega)⟩
    · rintro σ' H1 ⟨y2, rfl, b1, h1⟩
      obtain ⟨i, m, sd, t, eh, hi, hs1, hs2⟩ := h1.five
      -- if hand[2] > 0
      refine ⟨_, rfl, h, _, 2, _, rfl, rfl, SqL.of eh, atI_nat (j := 2) rfl, _, _, rfl, rfl, _, rfl, ite2 (fun c => ?_) (fun _ => ?_)⟩
      · refine ⟨_, rfl, h, _, 2, _, rfl, rfl, SqL.of eh, atI_nat (j := 2) rfl, .inl ⟨_, rfl, _, rfl, _, _, rfl, rfl, hn, ?_⟩⟩
        refine ⟨_, rfl, h, _, 2, _, rfl, rfl, SqL.of eh, atI_nat (j := 2) rfl, _, rfl, _, _, rfl, rfl, ⟨hn, hn2⟩, _, rfl, h, _, _, 2, rfl, rfl, eh, rfl, ?_⟩
        exact ⟨_, rfl, k _ _ (b1.trans But.upd) (hand_upd h1 hi hs1 hs2) (Int.emod_nonneg _ (by omega)) (Int.emod_lt_of_pos _ hn)⟩
      · -- hand[4] = hand[4] + 1
        refine ⟨_, rfl, h, _, 4, _, rfl, rfl, SqL.of eh, atI_nat (j := 4) rfl, _, _, rfl, rfl, _, rfl, h, _, _, 4, rfl, rfl, eh, rfl, ?_⟩
        have eh1 : (upd H1 h (handO g i m sd (t + 1))) h = some (handO g i m sd (t + 1)) := upd_same
        have h3 : HandAt (upd H1 h (handO g i m sd (t + 1))) h g := hand_upd h1 hi hs1 hs2
        -- number = int(int(hand[3] + 7919 * hand[4]) * 48271) % 2147483647
        refine ⟨_, rfl, h, _, 3, _, rfl, rfl, SqL.of eh1, atI_nat (j := 3) rfl, _, rfl, h, _, 4, _, rfl, rfl, SqL.of eh1, atI_nat (j := 4) rfl, _, _, rfl, rfl, .inl ⟨by decide, by decide⟩, _, _, rfl, rfl, .inl ⟨_, rfl, _, _, rfl, rfl, .inr ⟨by decide, by decide⟩, .inl ⟨_, rfl, _, _, rfl, rfl, (by show (0 : Int) < 2147483647; decide), ?_⟩⟩⟩
        have hm0 := Int.emod_nonneg ((sd + 7919 * (t + 1)) * 48271) (show (2147483647 : Int) ≠ 0 by decide)
        have hm1 := Int.emod_lt_of_pos ((sd + 7919 * (t + 1)) * 48271) (show (0 : Int) < 2147483647 by decide)
        generalize ((sd + 7919 * (t + 1)) * 48271) % 2147483647 = x1 at hm0 hm1 ⊢
        refine ⟨_, rfl, _, rfl, _, _, rfl, rfl, ⟨by decide, by decide⟩, _, _, rfl, rfl, _, _, rfl, rfl, .inl ⟨by omega, by omega⟩, .inl ⟨_, rfl, _, _, rfl, rfl, (by show (0 : Int) < 2147483647; decide), ?_⟩⟩
        have hn0 := Int.emod_nonneg (x1 * (x1 / 1009 + 69621)) (show (2147483647 : Int) ≠ 0 by decide)
        have hn1 := Int.emod_lt_of_pos (x1 * (x1 / 1009 + 69621)) (show (0 : Int) < 2147483647 by decide)
        generalize (x1 * (x1 / 1009 + 69621)) % 2147483647 = x2 at hn0 hn1 ⊢
        refine ⟨_, rfl, _, rfl, _, _, rfl, rfl, ⟨by decide, by decide⟩, _, _, rfl, rfl, _, _, rfl, rfl, .inl ⟨by omega, by omega⟩, .inl ⟨_, rfl, _, _, rfl, rfl, (by show (0 : Int) < 2147483399; decide), ?_⟩⟩
        refine ⟨_, rfl, _, _, rfl, rfl, ⟨by decide, by decide⟩, .inl ⟨_, rfl, _, rfl, _, _, rfl, rfl, hn, ?_⟩⟩
        exact k _ _ (b1.trans But.upd) h3 (Int.emod_nonneg _ (by omega)) (Int.emod_lt_of_pos _ hn)
end

section
variable {P : Program} {w : World} {K : PySem.W.Frag} {mg : Str → Option Value} {base : Heap} {A : Adr}
theorem cut_mem {xs : List V} {lo hi : Option Int} {v : V} (h : v ∈ cutV xs lo hi) : v ∈ xs := by
  unfold cutV at h
  first
    | exact List.mem_of_mem_drop (List.mem_of_mem_take h)
    | exact List.mem_of_mem_take (List.mem_of_mem_drop h)
theorem take_map_more {xs : List V} {f : V → Int} {i : Nat} {x : V} (h : xs[i]? = some x) : ((xs.take (i + 1)).map f).map V.int = ((xs.take i).map f).map V.int ++ [V.int (f x)] := by
  rw [List.take_add_one, h, List.map_append, List.map_append]
  rfl
theorem len_cut {xs : List V} {lo hi : Option Int} : (cutV xs lo hi).length ≤ xs.length := by
  unfold cutV
  first
    | (rw [List.length_take, List.length_drop]; omega)
    | (rw [List.length_drop, List.length_take]; omega)
def vInt : V → Int
  | .int n => n
  | _ => 0
def spHand (K : PySem.W.Frag) : Sp := fun vs H Q _ => ∃ (a : Addr) (ns : List Int), vs = [.ref a] ∧ SqL K H a (ns.map V.int) ∧ ns.length ≤ 63 ∧ ∀ (H' : Hp) (h g : Addr), Same H H' → H h = none → H g = none → HandAt H' h g → Q (.ref h) H'
theorem ok_law_hand (T : Top K mg A) : FnOk P w K mg base CX0 1 A.a_law_hand A.d_law_hand P_law_hand (spHand K) := by
  refine T.F_law_hand.ok sc_law_hand (fun vs H Q E h => ?_) (fun cdv A outer s H vs Q E hr h => ?_)
  · obtain ⟨a, ns, rfl, _⟩ := h
    rfl
  · obtain ⟨a, ns, rfl, ha, hn, k⟩ := h
    refine ⟨_, (pss_cons (ps_setLc (i := 1) (own := [("_law_cell", 2)]) (by rfl) sc_law_hand.nd rfl rfl (sw_true rfl rfl rfl (by decide +kernel)) (pi_list (pe_slice sl_list (pv 0) po_none (po_some pe_int))) (blkOk_by (own := [("_law_cell", 2)]) (N := N_law_hand) (sc := defScope s_law_hand) (by decide +kernel)) (fun _ _ _ _ _ => (pg_name (i := 2) sc_law_hand.nd rfl (.inl rfl))) (fun _ _ _ _ _ => pts_nil) (fun _ _ _ _ _ => (pe_callB call_abs (by rfl) T.z_abs (by decide +kernel) (pa_cons (pe_callTy call_int1 (by rfl) T.z_int (by decide +kernel) (pa_cons (pv 2) pa_nil)) pa_nil))))
    (pss_one (ps_ret (pe_lst (pa_cons (pv 1) (pa_cons pe_int (pa_cons pe_int (pa_cons (pe_op op_add pe_int (pe_callB call_len_seq (by rfl) T.z_len (by decide +kernel) (pa_cons (pv 1) pa_nil))) (pa_cons pe_int pa_nil))))))))), ?_⟩
    refine ⟨_, rfl, _, rfl, a, _, rfl, ha, fun p np => ?_⟩
    have sp : Same H (upd H p (.lst (cutV (ns.map V.int) none (some 63)))) := same_upd np
    refine ⟨p, rfl, ⟨_, SqL.of upd_same⟩, fun D hD => ?_⟩
    have hpD : p ≠ D := fun e => by
      rw [← e, upd_same] at hD
      cases hD
    have hDn := sp.free hD
    refine lc_list (K := K) (a := p) (xs := cutV (ns.map V.int) none (some 63)) (fun i H' => Same H H' ∧ H' p = some (.lst (cutV (ns.map V.int) none (some 63))) ∧ ∃ zs : List Int, H' D = some (.lst (zs.map V.int)) ∧ zs.length ≤ i)
      ⟨same_to sp hDn, by rw [upd_ne hpD]; exact upd_same, [], upd_same, Nat.le_refl _⟩ (fun i H' _ h => SqL.of h.2.1) ?_ ?_
    · rintro i x H' hi ⟨s1, p1, zs, d1, l1⟩
      obtain ⟨n, _, rfl⟩ := List.mem_map.mp (cut_mem (List.mem_of_getElem? hi))
      have hi2 : i < 63 := by
        have q := (List.getElem?_eq_some_iff.mp hi).1
        have q2 := len_cut (xs := ns.map V.int) (lo := none) (hi := some 63)
        rw [List.length_map] at q2
        omega
      refine ⟨rfl, ?_⟩
      refine ⟨_, rfl, .inl ⟨_, rfl, _, rfl, _, d1, ?_, same_to s1 hDn, ?_, zs ++ [if n < 0 then -n else n], ?_, ?_⟩⟩
      · rw [List.length_map]
        exact small1000 (by omega)
      · rw [upd_ne hpD]
        exact p1
      · rw [upd_same, List.map_append]
        rfl
      · rw [List.length_append, List.length_singleton]
        omega
    · rintro H' ⟨s1, p1, zs, d1, l1⟩
      have lz : zs.length ≤ 63 := by
        have q2 := len_cut (xs := ns.map V.int) (lo := none) (hi := some 63)
        rw [List.length_map] at q2
        omega
      -- return [given, 0, 0, 1 + len(given), 0]
      refine ⟨_, rfl, _, rfl, D, _, rfl, .inl (SqL.of d1), 1, _, rfl, rfl, (by show 5 ≤ sizeLine; decide), fun h hh => ?_⟩
      have hhD : h ≠ D := fun e => by
        rw [e, d1] at hh
        cases hh
      refine k _ h D (same_to s1 (s1.free hh)) (s1.free hh) hDn ⟨⟨zs, by rw [upd_ne hhD.symm]; exact d1⟩, ⟨0, 0, 1 + (zs.length : Int), 0, ?_, Int.le_refl _, by omega, by omega⟩, hhD⟩
      rw [upd_same, List.length_map]
      rfl
def spAny (K : PySem.W.Frag) : Sp := fun vs H Q _ => ∃ (h g l : Addr) (xs : List V), vs = [.ref h, .ref l] ∧ HandAt H h g ∧ SqL K H l xs ∧ (∀ H', But h H H' → SqL K H' l xs) ∧ 0 < xs.length ∧ xs.length ≤ 100000 ∧ ∀ (H' : Hp) (j : Nat) (v : V), But h H H' → HandAt H' h g → xs[j]? = some v → Q v H'
theorem ok_law_any (T : Top K mg A) : FnOk P w K mg base CX0 2 A.a_law_any A.d_law_any P_law_any (spAny K) := by
  refine T.F_law_any.ok sc_law_any (fun vs H Q E h => ?_) (fun cdv A outer s H vs Q E hr h => ?_)
  · obtain ⟨h, g, l, xs, rfl, _⟩ := h
    rfl
  · obtain ⟨h, g, l, xs, rfl, ha, hl, hst, h0, h1, k⟩ := h
    refine ⟨_, (pss_one (ps_ret (pe_ix ix_list (pv 1) (pe_call (ok_law_draw T) (hr.mono (by decide)) (by rfl) T.g_law_draw T.F_law_draw.kp T.b_law_draw .nil pass0 (pa_cons (pv 0) (pa_cons (pe_callB call_len_seq (by rfl) T.z_len (by decide +kernel) (pa_cons (pv 1) pa_nil)) pa_nil))) (fun _ _ => rfl)))), ?_⟩
    refine ⟨_, rfl, _, rfl, _, rfl, l, _, rfl, .inl hl, h, g, _, rfl, ha, by omega, by omega, fun H' d hb hh d0 d1 => ?_⟩
    have hj : d.toNat < xs.length := by omega
    exact ⟨l, xs, d, _, rfl, rfl, hst H' hb, at_of (by omega) (List.getElem?_eq_getElem hj), k H' _ _ hb hh (List.getElem?_eq_getElem hj)⟩
end

section
variable {P : Program} {w : World} {K : PySem.W.Frag} {mg : Str → Option Value} {base : Heap} {A : Adr}
/-! ### the ideal switch -/
def rowsV (n : Nat) (b : Nat → Addr) : List V := (List.range n).map fun j => V.ref (b j)
theorem rowsV_len (n : Nat) (b : Nat → Addr) : (rowsV n b).length = n := by
  unfold rowsV
  rw [List.length_map, List.length_range]
theorem rowsV_at {n : Nat} {b : Nat → Addr} {j : Nat} (h : j < n) : (rowsV n b)[j]? = some (.ref (b j)) := by
  unfold rowsV
  rw [List.getElem?_map, List.getElem?_range h]
  rfl
theorem rowsV_succ (n : Nat) (b : Nat → Addr) : rowsV (n + 1) b = rowsV n b ++ [.ref (b n)] := by
  unfold rowsV
  rw [List.range_succ, List.map_append]
  rfl
theorem rowsV_congr {n : Nat} {b b' : Nat → Addr} (h : ∀ j, j < n → b j = b' j) : rowsV n b = rowsV n b' := by
  unfold rowsV
  refine List.map_congr_left fun j hj => ?_
  rw [h j (List.mem_range.mp hj)]
structure RowsAt (C : Addr) (H : Hp) (x R : Addr) (n : Nat) (b : Nat → Addr) (c : Nat → List V) : Prop where
  ins : ∃ dx, H x = some (.ins C dx [("_rows", .ref R)])
  rows : H R = some (.lst (rowsV n b))
  row : ∀ j, j < n → H (b j) = some (.lst (c j))
/-- as H but at x, new objects apart -/
def Kp (x : Addr) (H H' : Hp) : Prop := ∀ q o, q ≠ x → H q = some o → H' q = some o
theorem Kp.same {x : Addr} {H H1 H2 : Hp} (a : Kp x H H1) (b : Same H1 H2) : Kp x H H2 := fun q o hq h => b _ _ (a q o hq h)
theorem kp_of {H H' : Hp} (a : Same H H') (x : Addr) : Kp x H H' := fun q o _ h => a q o h
theorem Kp.upd {x : Addr} {H H1 : Hp} {o : HO} (a : Kp x H H1) : Kp x H (upd H1 x o) := fun q u hq h => by
  rw [upd_ne hq]
  exact a q u hq h
def spInit (C N : Addr) : Sp := fun vs H Q E => ∃ (x dx : Addr) (v : V), vs = [.ref x, v] ∧ Thg C H v ∧ H x = some (.ins C dx []) ∧ (inI 1 12 v = false → E (.ref N) none H) ∧
  ∀ n : Nat, v = .int (n : Int) → 1 ≤ n → n ≤ 12 → ∀ (H' : Hp) (R : Addr) (b : Nat → Addr), Kp x H H' → H R = none → (∀ j, j < n → H (b j) = none ∧ b j ≠ R) → (∀ i j, i < n → j < n → b i = b j → i = j) → H' x = some (.ins C dx [("_rows", .ref R)]) →
    H' R = some (.lst (rowsV n b)) → (∀ j, j < n → H' (b j) = some (.lst [])) → Q .non H'
theorem ok_Ideal___init__ (T : Top K mg A) : FnOk P w K mg base (L2.CX P w) 4 A.a_Ideal___init__ A.d_Ideal___init__ P_Ideal___init__ (spInit A.c_Ideal A.c_NoLines) := by
  refine T.F_Ideal___init__.okX sc_Ideal___init__ (fun vs H Q E h => ?_) (fun cdv A' outer s H vs Q E hr h => ?_)
  · obtain ⟨x, dx, v, rfl, _⟩ := h
    rfl
  · obtain ⟨x, dx, v, rfl, ht, hx, ke, k0⟩ := h
    refine ⟨_, (pss_cons (ps_expr (pe_call (ok_check_lines T) (hr.mono (by decide)) (by rfl) T.g_check_lines T.F_check_lines.kp T.b_check_lines .nil (GX.passX rfl rfl rfl rfl) (pa_cons (pv 1) pa_nil)))
    (pss_one (ps_fld (pv 0) (pe_lc (own := [("_", 2)]) (by rfl) sc_Ideal___init__.nd (pi_range1 rfl T.z_range (pa_cons (pv 1) pa_nil)) (blkOk_by (own := [("_", 2)]) (N := N_Ideal___init__) (sc := defScope s_Ideal___init__) (by decide +kernel)) (fun _ _ _ _ _ => (pg_name (i := 2) sc_Ideal___init__.nd rfl (.inl rfl))) (fun _ _ _ _ _ => pts_nil) (fun _ _ _ _ _ => (pe_lst pa_nil))) (by rfl)))), ?_⟩
    refine ⟨_, rfl, v, rfl, ht, fun c => ?_, ke⟩
    obtain ⟨n, rfl, h1, h2⟩ : ∃ n : Nat, v = .int (n : Int) ∧ 1 ≤ n ∧ n ≤ 12 := by
      cases v with
      | int i =>
        have q : (decide (1 ≤ i) && decide (i ≤ 12)) = true := c
        rw [Bool.and_eq_true, decide_eq_true_iff, decide_eq_true_iff] at q
        obtain ⟨j, rfl⟩ := Int.eq_ofNat_of_zero_le (show 0 ≤ i by omega)
        exact ⟨j, rfl, by omega, by omega⟩
      | _ => cases c
    have k := k0 n rfl h1 h2
    refine ⟨_, rfl, (n : Int), rfl, by omega, by omega, fun D hD => ?_⟩
    have hxD : x ≠ D := ne_of_none hx hD
    refine lc_range (lo := 0) (n := (n : Int).toNat) (fun i H' => ∃ b : Nat → Addr, Same H H' ∧ H' D = some (.lst (rowsV i b)) ∧ (∀ j, j < i → H (b j) = none ∧ b j ≠ D ∧ H' (b j) = some (.lst [])) ∧ ∀ p q, p < i → q < i → b p = b q → p = q)
      ⟨fun _ => 0, same_upd hD, upd_same, fun j hj => absurd hj (Nat.not_lt_zero _), fun p q hp => absurd hp (Nat.not_lt_zero _)⟩ ?_ ?_
    · rintro i H' hi ⟨b, s1, d1, hb, inj⟩
      refine ⟨rfl, ?_⟩
      refine ⟨Nat.zero_le _, fun p hp => ?_⟩
      have hpD : p ≠ D := fun e => by
        rw [e, d1] at hp
        cases hp
      have s2 : Same H (upd H' p (.lst [])) := same_to s1 (s1.free hp)
      refine ⟨_, by rw [upd_ne hpD.symm]; exact d1, ?_, fun j => if j = i then p else b j, same_to s2 hD, ?_, ?_, ?_⟩
      · rw [rowsV_len]
        exact small1000 (by omega)
      · rw [upd_same, rowsV_succ, if_pos rfl]
        congr 2
        congr 1
        exact rowsV_congr fun j hj => (if_neg (Nat.ne_of_lt hj)).symm
      · intro j hj
        dsimp only
        by_cases e : j = i
        · rw [if_pos e]
          exact ⟨s1.free hp, hpD, by rw [upd_ne hpD, upd_same]⟩
        · rw [if_neg e]
          obtain ⟨a1, a2, a3⟩ := hb j (by omega)
          exact ⟨a1, a2, by rw [upd_ne a2, upd_ne (ne_of_none a3 hp)]; exact a3⟩
      · intro u v hu hv
        dsimp only
        by_cases e1 : u = i <;> by_cases e2 : v = i
        · intro _
          rw [e1, e2]
        · rw [if_pos e1, if_neg e2]
          intro e
          have a3 := (hb v (by omega)).2.2
          rw [← e, hp] at a3
          cases a3
        · rw [if_neg e1, if_pos e2]
          intro e
          have a3 := (hb u (by omega)).2.2
          rw [e, hp] at a3
          cases a3
        · rw [if_neg e1, if_neg e2]
          exact inj u v (by omega) (by omega)
    · rintro H' ⟨b, s1, d1, hb, inj⟩
      have en : (n : Int).toNat = n := Int.toNat_natCast n
      rw [en] at d1 hb inj
      have hx' := s1 _ _ hx
      refine ⟨_, rfl, x, _, dx, _, rfl, hx', T.cl_Ideal, T.n_Ideal__rows, (by show 0 < 1000; decide), ?_⟩
      refine k _ D b (kp_of s1 x).upd hD (fun j hj => ⟨(hb j hj).1, (hb j hj).2.1⟩) inj upd_same ?_ ?_
      · rw [upd_ne hxD.symm]
        exact d1
      · intro j hj
        have q := hb j hj
        rw [upd_ne (ne_of_none hx q.1).symm]
        exact q.2.2
def spRow (C N : Addr) : Sp := fun vs H Q E => ∃ (x R : Addr) (n : Nat) (b : Nat → Addr) (c : Nat → List V) (v : V), vs = [.ref x, v] ∧ RowsAt C H x R n b c ∧ Thg C H v ∧ (inI 0 ((n : Int) - 1) v = false → E (.ref N) none H) ∧ ∀ j : Nat, v = .int (j : Int) → j < n → Q (.ref (b j)) H
theorem ok_Ideal__row (T : Top K mg A) : FnOk P w K mg base (L2.CX P w) 4 A.a_Ideal__row A.d_Ideal__row P_Ideal__row (spRow A.c_Ideal A.c_NoOutput) := by
  refine T.F_Ideal__row.okX sc_Ideal__row (fun vs H Q E h => ?_) (fun cdv A' outer s H vs Q E hr h => ?_)
  · obtain ⟨x, R, n, b, c, v, rfl, _⟩ := h
    rfl
  · obtain ⟨x, R, n, b, c, v, rfl, ⟨⟨dx, hx⟩, hR, hb⟩, ht, ke, k⟩ := h
    refine ⟨_, (pss_cons (ps_if (pt_not (pt_val (pe_call (ok_is_number_below T) (hr.mono (by decide)) (by rfl) T.g_is_number_below T.F_is_number_below.kp T.b_is_number_below .nil pass0 (pa_cons (pe_callB call_len_seq (by rfl) T.z_len (by decide +kernel) (pa_cons (pe_fld (pv 0) rfl) pa_nil)) (pa_cons (pv 1) pa_nil))))) (pss_one (ps_raise rfl (takes_of rfl rfl rfl rfl) (GX.pmk_own0 PySem.F.excBase_ValueError T.x_NoOutput T.gc_NoOutput T.kp_NoOutput (raises_own T.s_NoOutput T.t_NoOutput) rfl))) pss_nil)
    (pss_one (ps_ret (pe_ix ix_list (pe_fld (pv 0) rfl) (pv 1) (fun _ _ => rfl))))), ?_⟩
    refine ⟨_, rfl, x, _, dx, _, .ref R, rfl, hx, T.cl_Ideal, T.n_Ideal__rows, rfl, R, _, rfl, .inl (SqL.of hR), _, rfl, _, _, rfl, ht, ?_⟩
    rw [rowsV_len]
    refine ⟨_, rfl, ?_⟩
    cases e : inI 0 ((n : Int) - 1) v with
    | false => exact iteT (ke e)
    | true =>
      obtain ⟨j, rfl, hj⟩ := inI_nat e
      refine iteF ?_
      exact ⟨_, rfl, x, _, dx, _, .ref R, rfl, hx, T.cl_Ideal, T.n_Ideal__rows, rfl, _, rfl, R, _, _, _, rfl, rfl, SqL.of hR, atI_nat (rowsV_at hj), k j rfl hj⟩
def insK (kd : V → Int × Int) (k : V) (xs : List V) : List V := xs.take (less kd k xs) ++ [k] ++ xs.drop (less kd k xs)
theorem notin_any {xs : List V} {kd : V → Int × Int} {z : Int} (h : ∀ v ∈ xs, (kd v).2 ≠ z) : inV (.int z) (xs.map fun v => V.int (kd v).2) = false := by
  unfold inV
  rw [List.any_eq_false]
  intro y hy
  obtain ⟨v, hv, rfl⟩ := List.mem_map.mp hy
  intro e
  exact h v hv (by simpa [eqV] using e)
theorem flat_ints {xs : List V} {kd : V → Int × Int} : (xs.map fun v => V.int (kd v).2).all flatV = true := by
  rw [List.all_eq_true]
  intro y hy
  obtain ⟨v, _, rfl⟩ := List.mem_map.mp hy
  rfl
theorem in_any {xs : List V} {kd : V → Int × Int} {z : Int} (h : ∃ v ∈ xs, (kd v).2 = z) : inV (.int z) (xs.map fun v => V.int (kd v).2) = true := by
  obtain ⟨v, hv, e⟩ := h
  unfold inV
  rw [List.any_eq_true]
  exact ⟨_, List.mem_map.mpr ⟨v, hv, rfl⟩, by rw [e]; simp [eqV]⟩
/-- a key's number is held in a row -/
def hasC (kd : V → Int × Int) (z : Int) (xs : List V) : Bool := xs.any fun v => decide ((kd v).2 = z)
theorem hasC_in {xs : List V} {kd : V → Int × Int} {z : Int} : inV (.int z) (xs.map fun v => V.int (kd v).2) = hasC kd z xs := by
  cases c : hasC kd z xs with
  | true =>
    obtain ⟨v, hv, e⟩ := List.any_eq_true.mp c
    exact in_any ⟨v, hv, of_decide_eq_true e⟩
  | false =>
    have q := List.any_eq_false.mp c
    exact notin_any fun v hv e => q v hv (decide_eq_true e)
def spPush (C NO NK KT : Addr) : Sp := fun vs H Q E => ∃ (x R : Addr) (n : Nat) (b : Nat → Addr) (c : Nat → List V) (u kv : V), vs = [.ref x, u, kv] ∧ RowsAt C H x R n b c ∧ Thg C H u ∧ Thg C H kv ∧ (inI 0 ((n : Int) - 1) u = false → E (.ref NO) none H) ∧
  ∀ j : Nat, u = .int (j : Int) → j < n → (keyB H kv = false → E (.ref NK) none H) ∧ ∀ (ka : Addr) (p : Int × Int), kv = .ref ka → Tup2 H ka p → KeyOk p → ∃ kd : V → Int × Int, kd (.ref ka) = p ∧ KeysAt H kd (c j) ∧ Pw kd (c j) ∧ (c j).length < 100000 ∧
    (hasC kd p.2 (c j) = true → ∀ H', Same H H' → E (.ref KT) none H') ∧ (hasC kd p.2 (c j) = false → ∀ H', Kp (b j) H H' → H' (b j) = some (.lst (insK kd (.ref ka) (c j))) → Q .non H')
theorem keyB_pair {C : Addr} {H : Hp} {x : V} (ht : Thg C H x) (c : keyB H x = true) : ∃ a p, x = .ref a ∧ Tup2 H a p ∧ KeyOk p := by
  have q : tupB H 2 x = true := by
    cases e : tupB H 2 x with
    | true => rfl
    | false =>
      rw [keyB_no e] at c
      cases c
  obtain ⟨a, u, v, rfl, ha, hu, hv⟩ := pair_of ht q
  rw [keyB_at ha, Bool.and_eq_true] at c
  obtain ⟨c1, c2⟩ := c
  cases u with
  | int i =>
    cases v with
    | int m =>
      have q1 : (decide (-1000000000000000000 ≤ i) && decide (i ≤ 1000000000000000000)) = true := c1
      have q2 : (decide (0 ≤ m) && decide (m ≤ 1000000000)) = true := c2
      rw [Bool.and_eq_true, decide_eq_true_iff, decide_eq_true_iff] at q1 q2
      exact ⟨a, (i, m), rfl, ha, q1.1, q1.2, q2.1, q2.2⟩
    | _ => cases c2
  | _ => cases c1
theorem ok_Ideal_push (T : Top K mg A) : FnOk P w K mg base (L2.CX P w) 6 A.a_Ideal_push A.d_Ideal_push P_Ideal_push (spPush A.c_Ideal A.c_NoOutput A.c_NoKey A.c_KeyThere) := by
  refine T.F_Ideal_push.okX sc_Ideal_push (fun vs H Q E h => ?_) (fun cdv A' outer s H vs Q E hr h => ?_)
  · obtain ⟨x, R, n, b, c, u, kv, rfl, _⟩ := h
    rfl
  · obtain ⟨x, R, n, b, c, u, kv, rfl, hI, hu, hkv, ke, k0⟩ := h
    obtain ⟨⟨dx, hx⟩, hR, hb⟩ := id hI
    refine ⟨_, (pss_cons (ps_set (i := 3) sc_Ideal_push.nd rfl (.inl rfl) (pe_meth (pv 0) T.cl_Ideal T.m_Ideal__row (ok_Ideal__row T) (hr.mono (by decide)) T.b_Ideal__row .nil (GX.passX rfl rfl rfl rfl) (pa_cons (pv 1) pa_nil)))
    (pss_cons (ps_expr (pe_call (ok_check_key T) (hr.mono (by decide)) (by rfl) T.g_check_key T.F_check_key.kp T.b_check_key .nil (GX.passX rfl rfl rfl rfl) (pa_cons (pv 2) pa_nil)))
    (pss_cons (ps_if (pt_cmpR op_in_seq (pe_ix ix_tup (pv 2) pe_int (fun _ _ => rfl)) (pe_lc (own := [("_", 4), ("number", 5)]) (by rfl) sc_Ideal_push.nd (pi_list (pv 3)) (blkOk_by (own := [("_", 4), ("number", 5)]) (N := N_Ideal_push) (sc := defScope s_Ideal_push) (by decide +kernel)) (fun _ _ _ _ _ => (show PG _ _ (gTup K 2 _) from (pg_tup rfl (pgs_cons (pg_name (i := 4) sc_Ideal_push.nd rfl (.inl rfl)) (pgs_cons (pg_name (i := 5) sc_Ideal_push.nd rfl (.inl rfl)) pgs_nil))))) (fun _ _ _ _ _ => pts_nil) (fun _ _ _ _ _ => (pv 5))) (by rfl)) (pss_one (ps_raise rfl (takes_of rfl rfl rfl rfl) (GX.pmk_own0 PySem.F.excBase_ValueError T.x_KeyThere T.gc_KeyThere T.kp_KeyThere (raises_own T.s_KeyThere T.t_KeyThere) rfl))) pss_nil)
    (pss_one (ps_expr (pe_bm PySem.F.plainAttrs_list PySem.F.slot_list_insert PySem.F.type_list_insert mt_insert (pv 3) (pa_cons (pe_call (ok_how_many_less T) (hr.mono (by decide)) (by rfl) T.g_how_many_less T.F_how_many_less.kp T.b_how_many_less .nil pass0 (pa_cons (pv 3) (pa_cons (pv 2) pa_nil))) (pa_cons (pv 2) pa_nil)))))))), ?_⟩
    -- row = self._row(output); check_key(key)
    refine ⟨_, rfl, x, dx, _, rfl, hx, rfl, _, rfl, x, R, n, b, c, u, rfl, hI, hu, ke, fun j ej hj => ?_⟩
    obtain ⟨kk, k1⟩ := k0 j ej hj
    refine ⟨_, rfl, kv, rfl, hkv, fun ck => ?_, kk⟩
    obtain ⟨ka, p, rfl, hka, hok⟩ := keyB_pair hkv ck
    obtain ⟨kd, ep, hK, hsr, hlen, kt, k⟩ := k1 ka p rfl hka hok
    have hbj := hb j hj
    have hKK : KeysAt H kd (.ref ka :: c j) := fun v hv => by
      rcases List.mem_cons.mp hv with e | hv
      · exact ⟨ka, e, by rw [e, ep]; exact hka⟩
      · exact hK v hv
    -- key[1] in [number for _, number in row]
    refine ⟨_, rfl, ka, _, 1, _, rfl, rfl, SqT.of hka, atI_nat (j := 1) rfl, _, rfl, b j, rfl, ⟨_, SqL.of hbj⟩, fun D hD => ?_⟩
    have hbD : b j ≠ D := ne_of_none hbj hD
    refine lc_list (K := K) (a := b j) (xs := c j) (fun i H' => Same H H' ∧ H' D = some (.lst (((c j).take i).map fun v => V.int (kd v).2))) ⟨same_upd hD, upd_same⟩ (fun i H' _ h => SqL.of (h.1 _ _ hbj)) ?_ ?_
    · rintro i y H' hi ⟨s1, d1⟩
      obtain ⟨a, rfl, ha⟩ := hK y (List.mem_of_getElem? hi)
      have ha' := s1 _ _ ha
      refine ⟨a, _, rfl, SqT.of ha', rfl, _, _, rfl, _, _, rfl, rfl, rfl, ?_⟩
      refine ⟨_, rfl, _, d1, ?_, same_to s1 hD, ?_⟩
      · rw [List.length_map, List.length_take]
        exact Nat.lt_of_le_of_lt (Nat.le_trans (Nat.min_le_right _ _) (Nat.le_of_lt hlen)) (by decide)
      · rw [upd_same, List.take_add_one, hi, List.map_append]
        rfl
    · rintro H' ⟨s1, d1⟩
      rw [List.take_length] at d1
      refine ⟨D, _, rfl, .inl (SqL.of d1), rfl, flat_ints, _, rfl, ?_⟩
      show (if (if false = true then _ else inV (V.int p.2) _) = true then _ else _)
      rw [if_neg Bool.false_ne_true, hasC_in]
      cases c3 : hasC kd p.2 (c j) with
      | true => exact iteT (kt c3 H' s1)
      | false =>
        refine iteF ?_
        -- row.insert(how_many_less(row, key), key)
        have hbj' := s1 _ _ hbj
        refine ⟨_, rfl, .inl ⟨rfl, _, SqL.of hbj'⟩, _, rfl, _, rfl, b j, c j, .ref ka, kd, rfl, SqL.of hbj', hKK.same s1, hsr, Nat.le_of_lt hlen, fun H2 s2 => ?_⟩
        have hle := less_le kd (.ref ka) (c j)
        refine ⟨_, rfl, b j, c j, _, .ref ka, rfl, rfl, s2 _ _ hbj', Nat.lt_trans hlen (by decide), by omega, by omega, ?_⟩
        refine k c3 _ (kp_of (s1.trans s2) (b j)).upd ?_
        rw [upd_same, Int.toNat_natCast]
        rfl
def spDue (C NO : Addr) : Sp := fun vs H Q E => ∃ (x R : Addr) (n : Nat) (b : Nat → Addr) (c : Nat → List V) (u : V), vs = [.ref x, u] ∧ RowsAt C H x R n b c ∧ Thg C H u ∧ (inI 0 ((n : Int) - 1) u = false → E (.ref NO) none H) ∧ ∀ j : Nat, u = .int (j : Int) → j < n → ∀ v, Q v H
theorem ok_Ideal_due (T : Top K mg A) : FnOk P w K mg base (L2.CX P w) 5 A.a_Ideal_due A.d_Ideal_due P_Ideal_due (spDue A.c_Ideal A.c_NoOutput) := by
  refine T.F_Ideal_due.okX sc_Ideal_due (fun vs H Q E h => ?_) (fun cdv A' outer s H vs Q E hr h => ?_)
  · obtain ⟨x, R, n, b, c, u, rfl, _⟩ := h
    rfl
  · obtain ⟨x, R, n, b, c, u, rfl, hI, hu, ke, k⟩ := h
    obtain ⟨⟨dx, hx⟩, hR, hb⟩ := id hI
    refine ⟨_, (pss_cons (ps_set (i := 2) sc_Ideal_due.nd rfl (.inl rfl) (pe_meth (pv 0) T.cl_Ideal T.m_Ideal__row (ok_Ideal__row T) (hr.mono (by decide)) T.b_Ideal__row .nil (GX.passX rfl rfl rfl rfl) (pa_cons (pv 1) pa_nil)))
    (pss_one (ps_ret (pe_ifExp (pt_truth (pv 2) (by intro _; rfl)) (pe_ix ix_list (pv 2) pe_int (fun _ _ => rfl)) pe_non)))), ?_⟩
    refine ⟨_, rfl, x, dx, _, rfl, hx, rfl, _, rfl, x, R, n, b, c, u, rfl, hI, hu, ke, fun j ej hj => ?_⟩
    have hbj := hb j hj
    cases ec : c j with
    | nil =>
      rw [ec] at hbj
      exact ⟨_, rfl, false, .inl ⟨_, SqL.of hbj, rfl⟩, iteF (k j ej hj _)⟩
    | cons v rest =>
      rw [ec] at hbj
      exact ⟨_, rfl, true, .inl ⟨_, SqL.of hbj, rfl⟩, iteT ⟨_, rfl, b j, _, 0, v, rfl, rfl, SqL.of hbj, atI_nat (j := 0) rfl, k j ej hj _⟩⟩
def spGo (C NO NT : Addr) : Sp := fun vs H Q E => ∃ (x R : Addr) (n : Nat) (b : Nat → Addr) (c : Nat → List V) (u : V), vs = [.ref x, u] ∧ RowsAt C H x R n b c ∧ Thg C H u ∧ (inI 0 ((n : Int) - 1) u = false → E (.ref NO) none H) ∧
  ∀ j : Nat, u = .int (j : Int) → j < n → (c j = [] → E (.ref NT) none H) ∧ ∀ v rest, c j = v :: rest → Q v (upd H (b j) (.lst rest))
theorem ok_Ideal_let_go (T : Top K mg A) : FnOk P w K mg base (L2.CX P w) 5 A.a_Ideal_let_go A.d_Ideal_let_go P_Ideal_let_go (spGo A.c_Ideal A.c_NoOutput A.c_NothingThere) := by
  refine T.F_Ideal_let_go.okX sc_Ideal_let_go (fun vs H Q E h => ?_) (fun cdv A' outer s H vs Q E hr h => ?_)
  · obtain ⟨x, R, n, b, c, u, rfl, _⟩ := h
    rfl
  · obtain ⟨x, R, n, b, c, u, rfl, hI, hu, ke, k⟩ := h
    obtain ⟨⟨dx, hx⟩, hR, hb⟩ := id hI
    refine ⟨_, (pss_cons (ps_set (i := 2) sc_Ideal_let_go.nd rfl (.inl rfl) (pe_meth (pv 0) T.cl_Ideal T.m_Ideal__row (ok_Ideal__row T) (hr.mono (by decide)) T.b_Ideal__row .nil (GX.passX rfl rfl rfl rfl) (pa_cons (pv 1) pa_nil)))
    (pss_cons (ps_if (pt_not (pt_truth (pv 2) (by intro _; rfl))) (pss_one (ps_raise rfl (takes_of rfl rfl rfl rfl) (GX.pmk_own0 PySem.F.excBase_ValueError T.x_NothingThere T.gc_NothingThere T.kp_NothingThere (raises_own T.s_NothingThere T.t_NothingThere) rfl))) pss_nil)
    (pss_one (ps_ret (pe_bm PySem.F.plainAttrs_list PySem.F.slot_list_pop PySem.F.type_list_pop mt_popAt (pv 2) (pa_cons pe_int pa_nil)))))), ?_⟩
    refine ⟨_, rfl, x, dx, _, rfl, hx, rfl, _, rfl, x, R, n, b, c, u, rfl, hI, hu, ke, fun j ej hj => ?_⟩
    have hbj := hb j hj
    cases ec : c j with
    | nil =>
      rw [ec] at hbj
      exact ⟨_, rfl, false, .inl ⟨_, SqL.of hbj, rfl⟩, iteT ((k j ej hj).1 ec)⟩
    | cons v rest =>
      rw [ec] at hbj
      refine ⟨_, rfl, true, .inl ⟨_, SqL.of hbj, rfl⟩, iteF ?_⟩
      exact ⟨_, rfl, .inl ⟨rfl, _, SqL.of hbj⟩, b j, _, 0, 0, v, rfl, rfl, hbj, by decide, by decide, (ixN_seq (n := (v :: rest).length) (i := 0) (j := 0) (by unfold ixN; rw [if_pos (by decide), if_pos (by rw [List.length_cons]; omega)]; rfl)).1, rfl, (k j ej hj).2 v rest ec⟩
def spHeld (C NO : Addr) : Sp := fun vs H Q E => ∃ (x R : Addr) (n : Nat) (b : Nat → Addr) (c : Nat → List V) (u : V), vs = [.ref x, u] ∧ RowsAt C H x R n b c ∧ Thg C H u ∧ (inI 0 ((n : Int) - 1) u = false → E (.ref NO) none H) ∧
  ∀ j : Nat, u = .int (j : Int) → j < n → ∀ p, H p = none → Q (.ref p) (upd H p (.tup (c j)))
theorem ok_Ideal_held (T : Top K mg A) : FnOk P w K mg base (L2.CX P w) 5 A.a_Ideal_held A.d_Ideal_held P_Ideal_held (spHeld A.c_Ideal A.c_NoOutput) := by
  refine T.F_Ideal_held.okX sc_Ideal_held (fun vs H Q E h => ?_) (fun cdv A' outer s H vs Q E hr h => ?_)
  · obtain ⟨x, R, n, b, c, u, rfl, _⟩ := h
    rfl
  · obtain ⟨x, R, n, b, c, u, rfl, hI, hu, ke, k⟩ := h
    obtain ⟨⟨dx, hx⟩, hR, hb⟩ := id hI
    refine ⟨_, (pss_one (ps_ret (pe_callTy call_tuple_of (by rfl) T.z_tuple (by decide +kernel) (pa_cons (pe_meth (pv 0) T.cl_Ideal T.m_Ideal__row (ok_Ideal__row T) (hr.mono (by decide)) T.b_Ideal__row .nil (GX.passX rfl rfl rfl rfl) (pa_cons (pv 1) pa_nil)) pa_nil)))), ?_⟩
    exact ⟨_, rfl, x, dx, _, rfl, hx, rfl, _, rfl, x, R, n, b, c, u, rfl, hI, hu, ke, fun j ej hj => ⟨b j, _, rfl, .inl ⟨SqL.of (hb j hj), k j ej hj⟩⟩⟩
def spAhead (C NO NK : Addr) : Sp := fun vs H Q E => ∃ (x R : Addr) (n : Nat) (b : Nat → Addr) (c : Nat → List V) (u kv : V), vs = [.ref x, u, kv] ∧ RowsAt C H x R n b c ∧ Thg C H u ∧ Thg C H kv ∧ (inI 0 ((n : Int) - 1) u = false → E (.ref NO) none H) ∧
  ∀ j : Nat, u = .int (j : Int) → j < n → (keyB H kv = false → E (.ref NK) none H) ∧ ∀ (ka : Addr) (p : Int × Int), kv = .ref ka → Tup2 H ka p → KeyOk p → ∃ kd : V → Int × Int, kd (.ref ka) = p ∧ KeysAt H kd (c j) ∧ Pw kd (c j) ∧ (c j).length ≤ 100000 ∧ ∀ H', Same H H' → Q (.int (less kd (.ref ka) (c j) : Nat)) H'
theorem ok_Ideal_ahead (T : Top K mg A) : FnOk P w K mg base (L2.CX P w) 6 A.a_Ideal_ahead A.d_Ideal_ahead P_Ideal_ahead (spAhead A.c_Ideal A.c_NoOutput A.c_NoKey) := by
  refine T.F_Ideal_ahead.okX sc_Ideal_ahead (fun vs H Q E h => ?_) (fun cdv A' outer s H vs Q E hr h => ?_)
  · obtain ⟨x, R, n, b, c, u, kv, rfl, _⟩ := h
    rfl
  · obtain ⟨x, R, n, b, c, u, kv, rfl, hI, hu, hkv, ke, k0⟩ := h
    obtain ⟨⟨dx, hx⟩, hR, hb⟩ := id hI
    refine ⟨_, (pss_cons (ps_set (i := 3) sc_Ideal_ahead.nd rfl (.inl rfl) (pe_meth (pv 0) T.cl_Ideal T.m_Ideal__row (ok_Ideal__row T) (hr.mono (by decide)) T.b_Ideal__row .nil (GX.passX rfl rfl rfl rfl) (pa_cons (pv 1) pa_nil)))
    (pss_cons (ps_expr (pe_call (ok_check_key T) (hr.mono (by decide)) (by rfl) T.g_check_key T.F_check_key.kp T.b_check_key .nil (GX.passX rfl rfl rfl rfl) (pa_cons (pv 2) pa_nil)))
    (pss_one (ps_ret (pe_call (ok_how_many_less T) (hr.mono (by decide)) (by rfl) T.g_how_many_less T.F_how_many_less.kp T.b_how_many_less .nil pass0 (pa_cons (pv 3) (pa_cons (pv 2) pa_nil))))))), ?_⟩
    refine ⟨_, rfl, x, dx, _, rfl, hx, rfl, _, rfl, x, R, n, b, c, u, rfl, hI, hu, ke, fun j ej hj => ?_⟩
    obtain ⟨kk, k1⟩ := k0 j ej hj
    refine ⟨_, rfl, kv, rfl, hkv, fun ck => ?_, kk⟩
    obtain ⟨ka, p, rfl, hka, hok⟩ := keyB_pair hkv ck
    obtain ⟨kd, ep, hK, hsr, hlen, k⟩ := k1 ka p rfl hka hok
    refine ⟨_, rfl, _, rfl, b j, c j, .ref ka, kd, rfl, SqL.of (hb j hj), fun v hv => ?_, hsr, hlen, k⟩
    rcases List.mem_cons.mp hv with e | hv
    · exact ⟨ka, e, by rw [e, ep]; exact hka⟩
    · exact hK v hv
end

/-! ### ascending rows -/
theorem pw_congr {kd kd' : V → Int × Int} {xs : List V} (h : Pw kd xs) (e : ∀ v ∈ xs, kd' v = kd v) : Pw kd' xs := by
  induction xs with
  | nil => exact .nil
  | cons u r ih =>
    obtain ⟨h1, h2⟩ := List.pairwise_cons.mp h
    refine List.pairwise_cons.mpr ⟨fun v hv => ?_, ih h2 fun v hv => e v (List.mem_cons_of_mem _ hv)⟩
    unfold LtV
    rw [e u List.mem_cons_self, e v (List.mem_cons_of_mem _ hv)]
    exact h1 v hv
theorem pw_ins {kd : V → Int × Int} {k : V} {xs : List V} (h : Pw kd xs) (hk : ∀ v ∈ xs, (kd v).2 ≠ (kd k).2) : Pw kd (insK kd k xs) := by
  obtain ⟨i1, i2⟩ := less_split (k := k) h
  unfold insK Pw
  rw [List.append_assoc, List.pairwise_append]
  refine ⟨List.Pairwise.sublist (List.take_sublist _ _) h, ?_, fun u hu v hv => ?_⟩
  · rw [List.singleton_append, List.pairwise_cons]
    refine ⟨fun v hv => ?_, List.Pairwise.sublist (List.drop_sublist _ _) h⟩
    have q1 := i2 v hv
    have q2 := hk v (List.mem_of_mem_drop hv)
    unfold LtV at q1 ⊢
    omega
  · have q1 := i1 u hu
    rw [List.singleton_append] at hv
    rcases List.mem_cons.mp hv with z | hv
    · rw [z]
      exact q1
    · have q2 := i2 v hv
      have q3 := hk v (List.mem_of_mem_drop hv)
      unfold LtV at q1 q2 ⊢
      omega
theorem pw_tail {kd : V → Int × Int} {v : V} {rest : List V} (h : Pw kd (v :: rest)) : Pw kd rest := (List.pairwise_cons.mp h).2
theorem hasC_no {kd : V → Int × Int} {z : Int} {xs : List V} (h : hasC kd z xs = false) : ∀ v ∈ xs, (kd v).2 ≠ z := fun v hv e => by
  have q := List.any_eq_false.mp h v hv
  exact q (decide_eq_true e)

section
variable {P : Program} {w : World} {K : PySem.W.Frag} {mg : Str → Option Value} {base : Heap} {A : Adr}
/-! ### the law's own keys and rows -/
def spKey : Sp := fun vs H Q _ => ∃ (h g : Addr) (m : Int), vs = [.ref h, .int m] ∧ HandAt H h g ∧ 0 < m ∧ m ≤ 1000000000 ∧
  ∀ (H' : Hp) (a : Addr) (p : Int × Int), Kp h H H' → HandAt H' h g → H a = none → Tup2 H' a p → KeyOk p → Q (.ref a) H'
theorem But.kp {h : Addr} {H H' : Hp} (b : But h H H') : Kp h H H' := fun q o hq e => (b q hq).trans e
theorem Kp.trans {h : Addr} {H H1 H2 : Hp} (a : Kp h H H1) (b : Kp h H1 H2) : Kp h H H2 := fun q o hq e => b q o hq (a q o hq e)
theorem Kp.free {h p : Addr} {H H' : Hp} (a : Kp h H H') (hp : p ≠ h) (e : H' p = none) : H p = none := by
  cases q : H p with
  | none => rfl
  | some o =>
    rw [a p o hp q] at e
    cases e
theorem HandAt.same {h g : Addr} {H H' : Hp} (s : Same H H') (a : HandAt H h g) : HandAt H' h g :=
  ⟨by obtain ⟨ns, e⟩ := a.cells; exact ⟨ns, s _ _ e⟩, by obtain ⟨i, m, s', t, e, q⟩ := a.five; exact ⟨i, m, s', t, s _ _ e, q⟩, a.ne⟩
theorem HandAt.some {h g : Addr} {H : Hp} (a : HandAt H h g) : ∃ o, H h = some o := by
  obtain ⟨i, m, s', t, e, q⟩ := a.five
  exact ⟨_, e⟩
theorem HandAt.ne_none {h g p : Addr} {H : Hp} (a : HandAt H h g) (hp : H p = none) : p ≠ h := by
  obtain ⟨o, e⟩ := a.some
  exact (ne_of_none e hp).symm
theorem ok_law_key (T : Top K mg A) : FnOk P w K mg base CX0 3 A.a_law_key A.d_law_key P_law_key spKey := by
  refine T.F_law_key.ok sc_law_key (fun vs H Q E h => ?_) (fun cdv A' outer s H vs Q E hr h => ?_)
  · obtain ⟨h, g, m, rfl, _⟩ := h
    rfl
  · obtain ⟨h, g, m, rfl, ha, hm, hm2, k⟩ := h
    refine ⟨_, (pss_cons (ps_set (i := 2) sc_law_key.nd rfl (.inl rfl) (pe_call (ok_law_any T) (hr.mono (by decide)) (by rfl) T.g_law_any T.F_law_any.kp T.b_law_any .nil pass0 (pa_cons (pv 0) (pa_cons (pe_lst (pa_cons pe_int (pa_cons pe_int (pa_cons pe_int (pa_cons pe_int (pa_cons (pe_un un_neg pe_int) (pa_cons (pe_op op_pow pe_int pe_int) (pa_cons (pe_un un_neg (pe_op op_pow pe_int pe_int)) (pa_cons (pe_op op_sub (pe_call (ok_law_draw T) (hr.mono (by decide)) (by rfl) T.g_law_draw T.F_law_draw.kp T.b_law_draw .nil pass0 (pa_cons (pv 0) (pa_cons pe_int pa_nil))) pe_int) pa_nil))))))))) pa_nil))))
    (pss_one (ps_ret (pe_tup (pa_cons (pv 2) (pa_cons (pe_call (ok_law_draw T) (hr.mono (by decide)) (by rfl) T.g_law_draw T.F_law_draw.kp T.b_law_draw .nil pass0 (pa_cons (pv 0) (pa_cons (pv 1) pa_nil))) pa_nil)))))), ?_⟩
    -- the list of ranks: its items from the left
    refine ⟨_, rfl, 1, rfl, 10, 18, rfl, rfl, ⟨by decide, by decide, by decide⟩, 10, 18, rfl, rfl, ⟨by decide, by decide, by decide⟩, _, rfl, ?_⟩
    refine ⟨_, rfl, h, g, 50, rfl, ha, by decide, by decide, fun H1 d b1 h1 d0 d1 => ?_⟩
    refine ⟨_, _, rfl, rfl, (by show 8 ≤ sizeLine; decide), fun l hl => ?_⟩
    have hlh := h1.ne_none hl
    refine ⟨h, g, l, _, rfl, h1.same (same_upd hl), SqL.of upd_same, fun H' b => SqL.of (by rw [b l hlh]; exact upd_same), by show 0 < 8; decide, by show 8 ≤ 100000; decide, fun H2 j v b2 h2 hv => ?_⟩
    have hmem := List.mem_of_getElem? hv
    obtain ⟨r, rfl, hr1, hr2⟩ : ∃ r : Int, v = .int r ∧ -1000000000000000000 ≤ r ∧ r ≤ 1000000000000000000 := by
      simp only [List.mem_cons, List.not_mem_nil, or_false] at hmem
      rcases hmem with e | e | e | e | e | e | e | e <;> subst e
      · exact ⟨_, rfl, by omega, by omega⟩
      · exact ⟨_, rfl, by omega, by omega⟩
      · exact ⟨_, rfl, by omega, by omega⟩
      · exact ⟨_, rfl, by omega, by omega⟩
      · exact ⟨_, rfl, by omega, by omega⟩
      · exact ⟨_, rfl, by decide, by decide⟩
      · exact ⟨_, rfl, by decide, by decide⟩
      · exact ⟨_, rfl, by omega, by omega⟩
    -- return (rank, draw(hand, many))
    refine ⟨_, rfl, _, rfl, _, rfl, h, g, m, rfl, h2, hm, by omega, fun H3 c b3 h3 c0 c1 => ?_⟩
    refine ⟨(by show 2 ≤ sizeLine; decide), fun p hp => ?_⟩
    have k3 : Kp h H H3 := (Kp.same b1.kp (same_upd hl)).trans (b2.kp.trans b3.kp)
    exact k _ p (r, c) (k3.same (same_upd hp)) (h3.same (same_upd hp)) (k3.free (h3.ne_none hp) hp) upd_same ⟨hr1, hr2, c0, by show c ≤ 1000000000; omega⟩
theorem cut_lo {xs : List V} {n : Nat} (h : n ≤ xs.length) : cutV xs none (some (n : Int)) = xs.take n := by
  unfold cutV
  rw [HT.sIx_none, HT.sIx_nat, Nat.min_eq_left h]
  rfl
theorem cut_hi {xs : List V} {n : Nat} (h : n ≤ xs.length) : cutV xs (some (n : Int)) none = xs.drop n := by
  unfold cutV
  rw [HT.sIx_none, HT.sIx_nat, Nat.min_eq_left h]
  exact List.take_of_length_le (by rw [List.length_drop]; omega)
def spInserted : Sp := fun vs H Q _ => ∃ (l ka : Addr) (xs : List V) (kd : V → Int × Int), vs = [.ref l, .ref ka] ∧ H l = some (.lst xs) ∧ KeysAt H kd (.ref ka :: xs) ∧ xs.length < 100000 ∧
  ∀ (H' : Hp) (p : Addr), Same H H' → H p = none → H' p = some (.lst (insK kd (.ref ka) xs)) → Q (.ref p) H'
theorem ok_law_inserted (T : Top K mg A) : FnOk P w K mg base CX0 1 A.a_law_inserted A.d_law_inserted P_law_inserted spInserted := by
  refine T.F_law_inserted.ok sc_law_inserted (fun vs H Q E h => ?_) (fun cdv A' outer s H vs Q E hr h => ?_)
  · obtain ⟨l, ka, xs, kd, rfl, _⟩ := h
    rfl
  · obtain ⟨l, ka, xs, kd, rfl, hl, hk, hn, k⟩ := h
    obtain ⟨ka', e, hak⟩ := hk (.ref ka) List.mem_cons_self
    cases e
    refine ⟨_, (pss_cons (ps_set (i := 2) sc_law_inserted.nd rfl (.inl rfl) (pe_callB call_len_seq (by rfl) T.z_len (by decide +kernel) (pa_cons (pe_lc (own := [("_law_one", 3)]) (by rfl) sc_law_inserted.nd (pi_list (pv 0)) (blkOk_by (own := [("_law_one", 3)]) (N := N_law_inserted) (sc := defScope s_law_inserted) (by decide +kernel)) (fun _ _ _ _ _ => (pg_name (i := 3) sc_law_inserted.nd rfl (.inl rfl))) (fun _ _ _ _ _ => (pts_one (pt_cmpR (show OpR _ _ (rLtT K) from (op_ltT hr.units0)) (pv 3) (pv 1) (nomark _)))) (fun _ _ _ _ _ => (pv 3))) pa_nil)))
    (pss_one (ps_ret (pe_op op_cat (pe_op op_cat (pe_slice sl_list (pv 0) po_none (po_some (pv 2))) (pe_lst (pa_cons (pv 1) pa_nil))) (pe_slice sl_list (pv 0) (po_some (pv 2)) po_none))))), ?_⟩
    refine ⟨_, rfl, l, rfl, ⟨_, SqL.of hl⟩, fun D hD => lc_list (K := K) (a := l) (xs := xs) (fun i H' => Same H H' ∧ H' D = some (.lst ((xs.take i).filter (ltK kd (.ref ka))))) ⟨same_upd hD, upd_same⟩ (fun i H' _ h => SqL.of (h.1 _ _ hl)) ?_ ?_⟩
    · rintro i x H' hi ⟨s1, d1⟩
      obtain ⟨a, rfl, ha⟩ := hk x (List.mem_cons_of_mem _ (List.mem_of_getElem? hi))
      have ha' := s1 _ _ ha
      have hak' := s1 _ _ hak
      refine ⟨rfl, ?_⟩
      refine ⟨_, rfl, _, rfl, a, ka, [(kd (.ref a)).1, (kd (.ref a)).2], [(kd (.ref ka)).1, (kd (.ref ka)).2], rfl, rfl, SqT.of ha', SqT.of hak', _, rfl, ?_⟩
      have et := take_fil (ltK kd (.ref ka)) hi
      show (if ltK kd (.ref ka) (.ref a) = true then _ else _)
      by_cases c : ltK kd (.ref ka) (.ref a) = true
      · rw [if_pos c] at et
        rw [c]
        refine iteT ⟨_, rfl, _, d1, fil_lt (Nat.le_of_lt hn), same_to s1 hD, ?_⟩
        rw [upd_same, et]
      · rw [if_neg c, List.append_nil] at et
        rw [Bool.not_eq_true] at c
        rw [c]
        refine iteF ⟨s1, ?_⟩
        rw [et]
        exact d1
    · rintro H' ⟨s1, d1⟩
      rw [List.take_length] at d1
      refine ⟨_, _, rfl, .inl (SqL.of d1), ?_⟩
      have hle := less_le kd (.ref ka) xs
      -- row[:at] + [key] + row[at:]
      have hl' := s1 _ _ hl
      refine ⟨_, rfl, _, rfl, _, rfl, l, xs, rfl, SqL.of hl', fun p1 n1 => ?_⟩
      have e1 : cutV xs none (some ((less kd (.ref ka) xs : Nat) : Int)) = xs.take (less kd (.ref ka) xs) := cut_lo hle
      show _
      have sp1 := same_to s1 (s1.free n1) (o := .lst (cutV xs none (some ((((xs.filter (ltK kd (.ref ka))).length : Nat)) : Int))))
      refine ⟨_, rfl, (by show 1 ≤ sizeLine; decide), fun p2 n2 => ?_⟩
      have hp12 : p1 ≠ p2 := fun e => by
        rw [← e, upd_same] at n2
        cases n2
      have sp2 := same_to sp1 (sp1.free n2) (o := .lst [.ref ka])
      refine ⟨p1, p2, _, _, rfl, rfl, by rw [upd_ne hp12]; exact upd_same, upd_same, ?_, fun p3 n3 => ?_⟩
      · have q := cutV_length xs none (some ((((xs.filter (ltK kd (.ref ka))).length : Nat)) : Int))
        exact Nat.le_trans (Nat.add_le_add_right q 1) (Nat.le_trans hn (by decide))
      have sp3 := same_to sp2 (sp2.free n3) (o := .lst (cutV xs none (some ((((xs.filter (ltK kd (.ref ka))).length : Nat)) : Int)) ++ [.ref ka]))
      refine ⟨_, rfl, _, rfl, _, rfl, l, xs, rfl, SqL.of (sp3 _ _ hl), fun p4 n4 => ?_⟩
      have hp34 : p3 ≠ p4 := fun e => by
        rw [← e, upd_same] at n4
        cases n4
      have sp4 := same_to sp3 (sp3.free n4) (o := .lst (cutV xs (some ((((xs.filter (ltK kd (.ref ka))).length : Nat)) : Int)) none))
      refine ⟨p3, p4, _, _, rfl, rfl, by rw [upd_ne hp34]; exact upd_same, upd_same, ?_, fun p5 n5 => ?_⟩
      · have q1 := cutV_length xs none (some ((((xs.filter (ltK kd (.ref ka))).length : Nat)) : Int))
        have q2 := cutV_length xs (some ((((xs.filter (ltK kd (.ref ka))).length : Nat)) : Int)) none
        rw [List.length_append, List.length_singleton]
        exact Nat.le_trans (by omega) (show 200001 ≤ sizeLine by decide)
      refine k _ p5 (same_to sp4 (sp4.free n5)) (sp4.free n5) ?_
      rw [upd_same]
      unfold insK
      rw [← e1, ← cut_hi hle]
      rfl
/-! ### the law's own looks -/
def spLawInt (C : Addr) : Sp := fun vs H Q _ => ∃ (x : V) (lo hi : Int), vs = [x, .int lo, .int hi] ∧ Thg C H x ∧ Q (.bl (inI lo hi x)) H
theorem ok_law_is_int (T : Top K mg A) : FnOk P w K mg base CX0 1 A.a_law_is_int A.d_law_is_int P_law_is_int (spLawInt A.c_Ideal) := by
  refine T.F_law_is_int.ok sc_law_is_int (fun vs H Q E h => ?_) (fun cdv A' outer s H vs Q E hr h => ?_)
  · obtain ⟨x, lo, hi, rfl, _⟩ := h
    rfl
  · obtain ⟨x, lo, hi, rfl, ht, k⟩ := h
    obtain ⟨t, ty, e1, e2, _⟩ := thg_int T ht
    refine ⟨_, (pss_one (ps_ret (pe_and (pe_callB call_isi (by rfl) T.z_isinstance (by decide +kernel) (pa_cons (pv 0) (pa_cons (pe_bltn (v := .ty "int") (by rfl) T.z_int (by decide +kernel) rfl) pa_nil))) (pe_and (pe_not (pe_callB call_isi (by rfl) T.z_isinstance (by decide +kernel) (pa_cons (pv 0) (pa_cons (pe_bltn (v := .ty "bool") (by rfl) T.z_bool (by decide +kernel) rfl) pa_nil)))) (pe_one (pe_chain op_le op_le (pv 1) (pv 0) (pv 2))))))), ?_⟩
    refine ⟨_, rfl, _, _, _, _, _, rfl, .ty "int", ty, e1, (isI x || isBl x), rfl, ?_⟩
    cases x with
    | int i =>
      refine iteT ?_
      refine ⟨_, rfl, _, _, _, _, _, rfl, .ty "bool", ty, e2, false, rfl, true, rfl, iteT ?_⟩
      refine ⟨_, rfl, _, rfl, _, _, rfl, rfl, _, rfl, ?_⟩
      by_cases c : lo ≤ i
      · simp only [inI, decide_eq_true c, Bool.true_and] at k
        rw [decide_eq_true c]
        refine iteT ⟨_, rfl, _, _, rfl, rfl, k⟩
      · simp only [inI, decide_eq_false c, Bool.false_and] at k
        rw [decide_eq_false c]
        exact iteF k
    | bl b =>
      refine iteT ?_
      exact ⟨_, rfl, _, _, _, _, _, rfl, .ty "bool", ty, e2, true, rfl, false, rfl, iteF k⟩
    | _ => exact iteF k
def spLawIsKey (C : Addr) : Sp := fun vs H Q _ => ∃ x, vs = [x] ∧ Thg C H x ∧ Q (.bl (keyB H x)) H
theorem ok_law_is_key (T : Top K mg A) : FnOk P w K mg base CX0 2 A.a_law_is_key A.d_law_is_key P_law_is_key (spLawIsKey A.c_Ideal) := by
  refine T.F_law_is_key.ok sc_law_is_key (fun vs H Q E h => ?_) (fun cdv A' outer s H vs Q E hr h => ?_)
  · obtain ⟨x, rfl, _⟩ := h
    rfl
  · obtain ⟨x, rfl, ht, k⟩ := h
    obtain ⟨t, ty, _, _, e3⟩ := thg_int T ht
    refine ⟨_, (pss_cons (ps_if (PW.pt (pw_or (pt_not (pt_val (pe_callB call_isi (by rfl) T.z_isinstance (by decide +kernel) (pa_cons (pv 0) (pa_cons (pe_bltn (v := .ty "tuple") (by rfl) T.z_tuple (by decide +kernel) rfl) pa_nil))))) (pw_or (pt_cmpR op_ne (pe_callB call_len_seq (by rfl) T.z_len (by decide +kernel) (pa_cons (pv 0) pa_nil)) pe_int (nomark _)) (pw_or1 (pt_not (pt_val (pe_call (ok_law_is_int T) (hr.mono (by decide)) (by rfl) T.g_law_is_int T.F_law_is_int.kp T.b_law_is_int .nil pass0 (pa_cons (pe_ix ix_tup (pv 0) pe_int (fun _ _ => rfl)) (pa_cons (pe_un un_neg (pe_op op_pow pe_int pe_int)) (pa_cons (pe_op op_pow pe_int pe_int) pa_nil)))))))))) (pss_one (ps_ret pe_bl)) pss_nil)
    (pss_one (ps_ret (pe_call (ok_law_is_int T) (hr.mono (by decide)) (by rfl) T.g_law_is_int T.F_law_is_int.kp T.b_law_is_int .nil pass0 (pa_cons (pe_ix ix_tup (pv 0) pe_int (fun _ _ => rfl)) (pa_cons pe_int (pa_cons (pe_op op_pow pe_int pe_int) pa_nil))))))), ?_⟩
    refine ⟨_, rfl, _, _, _, _, _, rfl, .ty "tuple", ty, e3, _, rfl, ?_⟩
    cases c : isT H x with
    | false =>
      rw [keyB_no (tupB_no c)] at k
      exact iteT k
    | true =>
      obtain ⟨a, xs, rfl, ha⟩ := isT_some c
      refine iteF ?_
      refine ⟨_, rfl, _, _, rfl, .inr (SqT.of ha), rfl, _, rfl, ?_⟩
      by_cases c2 : (xs.length : Int) = 2
      · obtain ⟨u, v, rfl⟩ := len2 c2
        have hp := pair_of ht (by rw [tupB_at ha]; rfl)
        obtain ⟨a', u', v', e, ha', hu, hv⟩ := hp
        cases e
        rw [ha] at ha'
        cases ha'
        rw [keyB_at ha] at k
        refine iteF ?_
        refine ⟨_, rfl, _, _, _, _, rfl, rfl, SqT.of ha, atI_nat (j := 0) rfl, 10, 18, rfl, rfl, ⟨by decide, by decide, by decide⟩, _, rfl, 10, 18, rfl, rfl, ⟨by decide, by decide, by decide⟩, u, _, _, rfl, .atom hu, ?_⟩
        cases c3 : inI (-1000000000000000000) 1000000000000000000 u with
        | false =>
          rw [c3] at k
          exact ⟨_, congrArg V.bl c3, iteT k⟩
        | true =>
          rw [c3] at k
          refine ⟨_, congrArg V.bl c3, iteF ?_⟩
          exact ⟨_, rfl, _, _, _, _, rfl, rfl, SqT.of ha, atI_nat (j := 1) rfl, 10, 9, rfl, rfl, ⟨by decide, by decide, by decide⟩, v, _, _, rfl, .atom hv, k⟩
      · have e0 : keyB H (.ref a) = false := keyB_no (by rw [tupB_at ha, decide_eq_false c2])
        rw [e0] at k
        have e1 : decide (V.int (xs.length : Int) = V.int 2) = false := by rw [dec_int, decide_eq_false c2]
        rw [e1]
        exact iteT k
/-! ### odd things -/
/-- a thing at Hi, new since H0 or o0 itself -/
def Good (C : Addr) (H0 : Hp) (o0 : V) (Hi : Hp) (v : V) : Prop := Thg C Hi v ∧ ∀ a, v = .ref a → H0 a = none ∨ v = o0
theorem good_atom {C : Addr} {H0 Hi : Hp} {o0 v : V} (h : Atom v) : Good C H0 o0 Hi v := ⟨.atom h, fun a e => by rw [e] at h; exact h.elim⟩
theorem good_new {C : Addr} {H0 Hi : Hp} {o0 : V} {L : List V} {p : Addr} {o : HO} (m : ∀ v ∈ L, Good C H0 o0 Hi v) (s : Hi p = none → H0 p = none) (np : Hi p = none) (t : Thg C (upd Hi p o) (.ref p)) :
    ∀ v ∈ V.ref p :: L, Good C H0 o0 (upd Hi p o) v := fun v hv => by
  rcases List.mem_cons.mp hv with e | hv
  · rw [e]
    exact ⟨t, fun a e => by cases e; exact .inl (s np)⟩
  · exact ⟨(m v hv).1.same (same_upd np), (m v hv).2⟩
theorem good_kp {C h : Addr} {H0 Hi H' : Hp} {o0 v : V} (g : Good C H0 o0 Hi v) (k : Kp h Hi H') (hh : ∃ o, H0 h = some o) (ho : o0 ≠ .ref h) : Good C H0 o0 H' v :=
  ⟨g.1.mov fun a o e q => k a o (fun z => by
      subst z
      rcases g.2 a e with h1 | h1
      · obtain ⟨o, h2⟩ := hh
        rw [h1] at h2
        cases h2
      · exact ho (h1.symm.trans e)) q, g.2⟩
def spDeep (C : Addr) : Sp := fun vs H Q _ => ∃ (h g : Addr), vs = [.ref h] ∧ HandAt H h g ∧ ∀ (H' : Hp) (v : V), Kp h H H' → HandAt H' h g → Good C H .non H' v → Q v H'
theorem ok_law_deep (T : Top K mg A) : FnOk P w K mg base CX0 3 A.a_law_deep A.d_law_deep P_law_deep (spDeep A.c_Ideal) := by
  refine T.F_law_deep.ok sc_law_deep (fun vs H Q E h => ?_) (fun cdv A' outer s H vs Q E hr h => ?_)
  · obtain ⟨h, g, rfl, _⟩ := h
    rfl
  · obtain ⟨h, g, rfl, ha, k⟩ := h
    have hh := ha.some
    refine ⟨_, (pss_cons (ps_set (i := 1) sc_law_deep.nd rfl (.inl rfl) (pe_call (ok_law_any T) (hr.mono (by decide)) (by rfl) T.g_law_any T.F_law_any.kp T.b_law_any .nil pass0 (pa_cons (pv 0) (pa_cons (pe_lst (pa_cons pe_int (pa_cons (pe_tup pa_nil) (pa_cons pe_str pa_nil)))) pa_nil))))
    (pss_cons (ps_for PassesOwn.never rfl (pi_range1 rfl T.z_range (pa_cons (pe_op op_add pe_int (pe_call (ok_law_draw T) (hr.mono (by decide)) (by rfl) T.g_law_draw T.F_law_draw.kp T.b_law_draw .nil pass0 (pa_cons (pv 0) (pa_cons pe_int pa_nil)))) pa_nil)) (pg_name (i := 2) sc_law_deep.nd rfl (.inl rfl)) (pss_one (ps_set (i := 1) sc_law_deep.nd rfl (.inl rfl) (pe_ifExp (pt_cmpR op_gt (pe_call (ok_law_draw T) (hr.mono (by decide)) (by rfl) T.g_law_draw T.F_law_draw.kp T.b_law_draw .nil pass0 (pa_cons (pv 0) (pa_cons pe_int pa_nil))) pe_int (nomark _)) (pe_tup (pa_cons (pv 1) pa_nil)) (pe_lst (pa_cons (pv 1) pa_nil))))))
    (pss_one (ps_ret (pv 1))))), ?_⟩
    refine ⟨_, rfl, Nat.zero_le _, fun p1 n1 => ⟨(by show 3 ≤ sizeLine; decide), fun l nl => ?_⟩⟩
    have s1 := same_upd n1 (o := .tup [])
    have s2 := s1.trans (same_upd nl (o := .lst [.int 0, .ref p1, .str "a"]))
    have hl := (ha.same s1).ne_none nl
    have m0 : ∀ v ∈ ([] : List V), Good A.c_Ideal H .non H v := fun v hv => by cases hv
    have m1 := good_new (p := p1) (o := .tup []) m0 id n1 (.tup upd_same fun z => by cases z)
    have m2 : ∀ v ∈ [.int 0, .ref p1, .str "a"], Good A.c_Ideal H .non (upd (upd H p1 (.tup [])) l (.lst [.int 0, .ref p1, .str "a"])) v := by
      have m3 := good_new (p := l) (o := .lst [.int 0, .ref p1, .str "a"]) m1 (fun z => s1.free z) nl (.lst upd_same)
      repeat (first | refine List.forall_mem_cons.mpr ⟨good_atom (by trivial), ?_⟩ | refine List.forall_mem_cons.mpr ⟨m3 _ (by simp), ?_⟩)
      exact fun _ h => nomatch h
    refine ⟨h, g, l, _, rfl, ha.same s2, SqL.of upd_same, fun H' b => SqL.of (by rw [b l hl]; exact upd_same), by show 0 < 3; decide, by show 3 ≤ 100000; decide, fun H2 j v b2 h2 hv => ?_⟩
    have g2 := good_kp (m2 v (List.mem_of_getElem? hv)) b2.kp hh (by intro z; cases z)
    have k2 : Kp h H H2 := Kp.trans (kp_of s2 h) b2.kp
    -- for turn in range(18 + draw(hand, 12))
    refine ⟨_, rfl, h, g, 12, rfl, h2, by decide, by decide, fun H3 d b3 h3 d0 d1 => ?_⟩
    refine ⟨_, _, rfl, rfl, _, rfl, by omega, by omega, ?_⟩
    refine for_range (lo := 0) (n := (18 + d).toNat) (fun i σ H' => ∃ (u : V) (y2 : Option V), σ = [some (.ref h), some u, y2] ∧ Kp h H H' ∧ HandAt H' h g ∧ Good A.c_Ideal H .non H' u)
      ⟨v, none, rfl, k2.trans b3.kp, h3, good_kp g2 b3.kp hh (by intro z; cases z)⟩ ?_ ?_
    · rintro i σ H4 hi ⟨u, y2, rfl, k4, h4, g4⟩
      refine ⟨_, rfl, h, g, 3, rfl, h4, by decide, by decide, fun H5 e b5 h5 e0 e1 => ?_⟩
      have g5 := good_kp g4 b5.kp hh (by intro z; cases z)
      have k5 := k4.trans b5.kp
      have fr : ∀ {p : Addr}, H5 p = none → H p = none := fun {p} np => k5.free (h5.ne_none np) np
      refine ⟨_, _, rfl, rfl, _, rfl, ite2 (fun _ => ?_) (fun _ => ?_)⟩
      · refine ⟨_, rfl, (by show 1 ≤ sizeLine; decide), fun p np => ?_⟩
        have s5 := same_upd np (o := .tup [u])
        exact ⟨_, _, rfl, k5.same s5, h5.same s5, ⟨.tup upd_same (fun z => by cases z), fun a e => by cases e; exact .inl (fr np)⟩⟩
      · refine ⟨_, rfl, (by show 1 ≤ sizeLine; decide), fun p np => ?_⟩
        have s5 := same_upd np (o := .lst [u])
        exact ⟨_, _, rfl, k5.same s5, h5.same s5, ⟨.lst upd_same, fun a e => by cases e; exact .inl (fr np)⟩⟩
    · rintro σ H4 ⟨u, y2, rfl, k4, h4, g4⟩
      exact ⟨_, rfl, k H4 u k4 h4 g4⟩
end

section
variable {P : Program} {w : World} {K : PySem.W.Frag} {mg : Str → Option Value} {base : Heap} {A : Adr}
theorem pair2 {u v : V} (hu : Atom u) (hv : Atom v) : [u, v].length = 2 → ∀ x ∈ [u, v], Atom x := fun _ x hx => by
  simp only [List.mem_cons, List.not_mem_nil, or_false] at hx
  rcases hx with e | e <;> rw [e] <;> assumption
theorem good_sub {C : Addr} {H0 H1 Hi : Hp} {o0 v : V} (g : Good C H1 .non Hi v) (s : ∀ a, H1 a = none → H0 a = none) : Good C H0 o0 Hi v := ⟨g.1, fun a e => by
  rcases g.2 a e with h | h
  · exact .inl (s a h)
  · rw [h] at e
    cases e⟩
def spOdd (C : Addr) : Sp := fun vs H Q _ => ∃ (h g : Addr) (o : V), vs = [.ref h, o] ∧ HandAt H h g ∧ Thg C H o ∧ o ≠ .ref h ∧ ∀ (H' : Hp) (v : V), Kp h H H' → HandAt H' h g → Good C H o H' v → Q v H'
theorem ok_law_odd (T : Top K mg A) : FnOk P w K mg base CX0 4 A.a_law_odd A.d_law_odd P_law_odd (spOdd A.c_Ideal) := by
  refine T.F_law_odd.ok sc_law_odd (fun vs H Q E h => ?_) (fun cdv A' outer s H vs Q E hr h => ?_)
  · obtain ⟨h, g, o, rfl, _⟩ := h
    rfl
  · obtain ⟨h, g, o, rfl, ha, ho, hoh, k⟩ := h
    have hh := ha.some
    refine ⟨_, (pss_cons (ps_set (i := 2) sc_law_odd.nd rfl (.inl rfl) (pe_lst (pa_cons pe_non (pa_cons pe_bl (pa_cons pe_bl (pa_cons (pe_un un_neg pe_int) (pa_cons pe_int (pa_cons pe_int (pa_cons (pe_op op_pow pe_int pe_int) (pa_cons pe_str (pa_cons pe_str (pa_cons (pe_tup pa_nil) (pa_cons (pe_lst pa_nil) (pa_cons pe_dnewK (pa_cons (pe_tup (pa_cons pe_int pa_nil)) (pa_cons (pe_lst (pa_cons pe_int pa_nil)) (pa_cons (pe_tup (pa_cons pe_bl pa_nil)) (pa_cons (pe_tup (pa_cons pe_str pa_nil)) (pa_cons (pe_tup (pa_cons pe_non (pa_cons pe_int pa_nil))) pa_nil)))))))))))))))))))
    (pss_one (ps_ret (pe_call (ok_law_any T) (hr.mono (by decide)) (by rfl) T.g_law_any T.F_law_any.kp T.b_law_any .nil pass0 (pa_cons (pv 0) (pa_cons (pe_op op_cat (pv 2) (pe_lst (pa_cons (pe_disp (pps_cons pe_int pe_int pps_nil) (by rfl) (by rfl) (fun z => by cases z) (by decide)) (pa_cons (pv 1) (pa_cons (pe_call (ok_law_deep T) (hr.mono (by decide)) (by rfl) T.g_law_deep T.F_law_deep.kp T.b_law_deep .nil pass0 (pa_cons (pv 0) pa_nil)) pa_nil))))) pa_nil)))))), ?_⟩
    have m0 : ∀ v ∈ [o], Good A.c_Ideal H o H v := fun v hv => by
      rw [List.mem_singleton.mp hv]
      exact ⟨ho, fun a _ => .inr rfl⟩
    refine ⟨1, rfl, 10, 59, rfl, rfl, ⟨by decide, by decide, by decide⟩, Nat.zero_le _, fun p1 n1 => ?_⟩
    have s1 := same_upd n1 (o := .tup [])
    have m1 := good_new (p := p1) (o := .tup []) m0 id n1 (.tup upd_same fun z => by cases z)
    refine ⟨Nat.zero_le _, fun p2 n2 => ?_⟩
    have m2 := good_new (p := p2) (o := .lst []) m1 (fun z => s1.free z) n2 (.lst upd_same)
    have s2 := s1.trans (same_upd n2 (o := .lst []))
    intro p3 n3
    have m3 := good_new (p := p3) (o := .dK []) m2 (fun z => s2.free z) n3 (.dK upd_same)
    have s3 := s2.trans (same_upd n3 (o := .dK []))
    refine ⟨(by show 1 ≤ sizeLine; decide), fun p4 n4 => ?_⟩
    have m4 := good_new (p := p4) (o := .tup [.int 0]) m3 (fun z => s3.free z) n4 (.tup upd_same fun z => by cases z)
    have s4 := s3.trans (same_upd n4 (o := .tup [.int 0]))
    refine ⟨(by show 1 ≤ sizeLine; decide), fun p5 n5 => ?_⟩
    have m5 := good_new (p := p5) (o := .lst [.int 0]) m4 (fun z => s4.free z) n5 (.lst upd_same)
    have s5 := s4.trans (same_upd n5 (o := .lst [.int 0]))
    refine ⟨(by show 1 ≤ sizeLine; decide), fun p6 n6 => ?_⟩
    have m6 := good_new (p := p6) (o := .tup [.bl true]) m5 (fun z => s5.free z) n6 (.tup upd_same fun z => by cases z)
    have s6 := s5.trans (same_upd n6 (o := .tup [.bl true]))
    refine ⟨(by show 1 ≤ sizeLine; decide), fun p7 n7 => ?_⟩
    have m7 := good_new (p := p7) (o := .tup [.str "0"]) m6 (fun z => s6.free z) n7 (.tup upd_same fun z => by cases z)
    have s7 := s6.trans (same_upd n7 (o := .tup [.str "0"]))
    refine ⟨(by show 2 ≤ sizeLine; decide), fun p8 n8 => ?_⟩
    have m8 := good_new (p := p8) (o := .tup [.non, .int 0]) m7 (fun z => s7.free z) n8 (.tup upd_same fun _ v hv => by
      simp only [List.mem_cons, List.not_mem_nil, or_false] at hv
      rcases hv with e | e <;> rw [e] <;> trivial)
    have s8 := s7.trans (same_upd n8 (o := .tup [.non, .int 0]))
    refine ⟨(by show 17 ≤ sizeLine; decide), fun l nl => ?_⟩
    have m9 := good_new (p := l) (o := .lst [.non, .bl true, .bl false, .int (-1), .int 13, .int 100, .int (10 ^ 59), .str "0", .str "", .ref p1, .ref p2, .ref p3, .ref p4, .ref p5, .ref p6, .ref p7, .ref p8]) m8 (fun z => s8.free z) nl (.lst upd_same)
    have s9 := s8.trans (same_upd nl (o := .lst [.non, .bl true, .bl false, .int (-1), .int 13, .int 100, .int (10 ^ 59), .str "0", .str "", .ref p1, .ref p2, .ref p3, .ref p4, .ref p5, .ref p6, .ref p7, .ref p8]))
    have a9 := ha.same s9
    -- {0: 0}
    refine ⟨_, rfl, _, rfl, fun pd nd => ?_⟩
    refine ⟨upd_same, [(Sum.inl 0, .int 0)], rfl, by decide, ?_⟩
    rw [upd_upd]
    have m10 := good_new (p := pd) (o := .dK (mergeK [] [(Sum.inl 0, .int 0)])) m9 (fun z => s9.free z) nd (.dK upd_same)
    have s10 := s9.trans (same_upd nd (o := .dK (mergeK [] [(Sum.inl 0, .int 0)])))
    have a10 := ha.same s10
    refine ⟨_, rfl, _, rfl, h, g, rfl, a10, fun H' v k4 h4 g4 => ?_⟩
    have m11 : ∀ u ∈ V.ref pd :: v :: V.ref l :: [V.ref p8, .ref p7, .ref p6, .ref p5, .ref p4, .ref p3, .ref p2, .ref p1, o], Good A.c_Ideal H o H' u := fun u hu => by
      rcases List.mem_cons.mp hu with e | hu
      · exact good_kp (m10 u (by rw [e]; exact List.mem_cons_self)) k4 hh hoh
      · rcases List.mem_cons.mp hu with e | hu
        · rw [e]
          exact good_sub g4 fun a z => s10.free z
        · exact good_kp (m10 u (List.mem_cons_of_mem _ hu)) k4 hh hoh
    refine ⟨(by show 3 ≤ sizeLine; decide), fun p3' n3' => ?_⟩
    have k5 : Kp h H H' := Kp.trans (kp_of s10 h) k4
    have m12 := good_new (p := p3') (o := .lst [.ref pd, o, v]) m11 (fun z => k5.free (h4.ne_none z) z) n3' (.lst upd_same)
    have el : H' l = some (.lst [.non, .bl true, .bl false, .int (-1), .int 13, .int 100, .int (10 ^ 59), .str "0", .str "", .ref p1, .ref p2, .ref p3, .ref p4, .ref p5, .ref p6, .ref p7, .ref p8]) := by
      refine k4 _ _ ?_ (by rw [upd_ne (fun z => by rw [z, upd_same] at nd; cases nd)]; exact upd_same)
      exact (ha.same s8).ne_none nl
    refine ⟨l, p3', _, _, rfl, rfl, by rw [upd_ne (ne_of_none el n3')]; exact el, upd_same, (by show 20 ≤ sizeLine; decide), fun q nq => ?_⟩
    have s11 := same_upd n3' (o := .lst [.ref pd, o, v])
    have m13 := good_new (p := q) (o := .lst ([.non, .bl true, .bl false, .int (-1), .int 13, .int 100, .int (10 ^ 59), .str "0", .str "", .ref p1, .ref p2, .ref p3, .ref p4, .ref p5, .ref p6, .ref p7, .ref p8] ++ [.ref pd, o, v])) m12 (fun z => k5.free (h4.ne_none (s11.free z)) (s11.free z)) nq (.lst upd_same)
    have s12 := s11.trans (same_upd nq (o := .lst ([.non, .bl true, .bl false, .int (-1), .int 13, .int 100, .int (10 ^ 59), .str "0", .str "", .ref p1, .ref p2, .ref p3, .ref p4, .ref p5, .ref p6, .ref p7, .ref p8] ++ [.ref pd, o, v])))
    have hq := (h4.same s11).ne_none nq
    refine ⟨h, g, q, _, rfl, h4.same s12, SqL.of upd_same, fun H' b => SqL.of (by rw [b q hq]; exact upd_same), by show 0 < 20; decide, by show 20 ≤ 100000; decide, fun H2 j y b2 h2 hv => ?_⟩
    have gy : ∀ y ∈ ([.non, .bl true, .bl false, .int (-1), .int 13, .int 100, .int (10 ^ 59), .str "0", .str "", .ref p1, .ref p2, .ref p3, .ref p4, .ref p5, .ref p6, .ref p7, .ref p8] ++ [.ref pd, o, v] : List V), Good A.c_Ideal H o (upd (upd H' p3' (.lst [.ref pd, o, v])) q (.lst ([.non, .bl true, .bl false, .int (-1), .int 13, .int 100, .int (10 ^ 59), .str "0", .str "", .ref p1, .ref p2, .ref p3, .ref p4, .ref p5, .ref p6, .ref p7, .ref p8] ++ [.ref pd, o, v]))) y := by
      refine List.forall_mem_append.mpr ⟨?_, ?_⟩
      · repeat (first | refine List.forall_mem_cons.mpr ⟨good_atom (by trivial), ?_⟩ | refine List.forall_mem_cons.mpr ⟨m13 _ (by simp), ?_⟩)
        exact fun _ h => nomatch h
      · repeat (first | refine List.forall_mem_cons.mpr ⟨good_atom (by trivial), ?_⟩ | refine List.forall_mem_cons.mpr ⟨m13 _ (by simp), ?_⟩)
        exact fun _ h => nomatch h
    exact k H2 y ((k5.same s12).trans b2.kp) h2 (good_kp (gy y (List.mem_of_getElem? hv)) b2.kp hh hoh)
/-! ### keys, and what is none -/
def spSomeKey (C : Addr) : Sp := fun vs H Q _ => ∃ (h g : Addr) (o : V), vs = [.ref h, o] ∧ HandAt H h g ∧ Thg C H o ∧ o ≠ .ref h ∧ ∀ (H' : Hp) (v : V), Kp h H H' → HandAt H' h g → Good C H o H' v → Q v H'
theorem ok_law_some_key (T : Top K mg A) : FnOk P w K mg base CX0 5 A.a_law_some_key A.d_law_some_key P_law_some_key (spSomeKey A.c_Ideal) := by
  refine T.F_law_some_key.ok sc_law_some_key (fun vs H Q E h => ?_) (fun cdv A' outer s H vs Q E hr h => ?_)
  · obtain ⟨h, g, o, rfl, _⟩ := h
    rfl
  · obtain ⟨h, g, o, rfl, ha, ho, hoh, k⟩ := h
    have hh := ha.some
    refine ⟨_, (pss_cons (ps_asg (pe_call (ok_law_key T) (hr.mono (by decide)) (by rfl) T.g_law_key T.F_law_key.kp T.b_law_key .nil pass0 (pa_cons (pv 0) (pa_cons pe_int pa_nil))) (pg_tup rfl (pgs_cons (pg_name (i := 2) sc_law_some_key.nd rfl (.inl rfl)) (pgs_cons (pg_name (i := 3) sc_law_some_key.nd rfl (.inl rfl)) pgs_nil))))
    (pss_cons (ps_set (i := 4) sc_law_some_key.nd rfl (.inl rfl) (pe_lst (pa_cons (pe_tup (pa_cons (pe_op op_add (pe_op op_pow pe_int pe_int) pe_int) (pa_cons (pv 3) pa_nil))) (pa_cons (pe_tup (pa_cons (pe_op op_sub (pe_un un_neg (pe_op op_pow pe_int pe_int)) pe_int) (pa_cons (pv 3) pa_nil))) (pa_cons (pe_tup (pa_cons (pv 2) (pa_cons (pe_un un_neg pe_int) pa_nil))) (pa_cons (pe_tup (pa_cons pe_bl (pa_cons (pv 3) pa_nil))) (pa_cons (pe_tup (pa_cons (pv 2) (pa_cons pe_bl pa_nil))) (pa_cons (pe_tup (pa_cons (pv 2) pa_nil)) (pa_cons (pe_tup (pa_cons (pv 2) (pa_cons (pv 3) (pa_cons pe_int pa_nil)))) pa_nil)))))))))
    (pss_cons (ps_set (i := 4) sc_law_some_key.nd rfl (.inl rfl) (pe_op op_cat (pv 4) (pe_lst (pa_cons (pe_lst (pa_cons (pv 2) (pa_cons (pv 3) pa_nil))) (pa_cons (pe_tup (pa_cons pe_str (pa_cons (pv 3) pa_nil))) (pa_cons (pe_tup (pa_cons (pv 2) (pa_cons pe_non pa_nil))) (pa_cons (pe_tup (pa_cons pe_non (pa_cons (pv 3) pa_nil))) (pa_cons (pv 2) (pa_cons (pe_call (ok_law_odd T) (hr.mono (by decide)) (by rfl) T.g_law_odd T.F_law_odd.kp T.b_law_odd .nil pass0 (pa_cons (pv 0) (pa_cons (pv 1) pa_nil))) pa_nil)))))))))
    (pss_one (ps_ret (pe_call (ok_law_any T) (hr.mono (by decide)) (by rfl) T.g_law_any T.F_law_any.kp T.b_law_any .nil pass0 (pa_cons (pv 0) (pa_cons (pe_op op_cat (pe_lst (pa_cons (pe_tup (pa_cons (pv 2) (pa_cons (pv 3) pa_nil))) (pa_cons (pe_tup (pa_cons (pv 2) (pa_cons (pv 3) pa_nil))) (pa_cons (pe_tup (pa_cons (pv 2) (pa_cons (pe_op op_pow pe_int pe_int) pa_nil))) pa_nil)))) (pv 4)) pa_nil)))))))), ?_⟩
    refine ⟨_, rfl, h, g, 12, rfl, ha, by decide, by decide, fun H0 a p k0 h0 na ea hok => ?_⟩
    obtain ⟨r, c⟩ := p
    refine ⟨a, _, rfl, SqT.of ea, rfl, _, _, rfl, _, _, rfl, ?_⟩
    have fr : ∀ {p : Addr}, H0 p = none → H p = none := fun {p} np => k0.free (h0.ne_none np) np
    have m0 : ∀ v ∈ [o], Good A.c_Ideal H o H0 v := fun v hv => by
      rw [List.mem_singleton.mp hv]
      exact good_kp ⟨ho, fun a _ => .inr rfl⟩ k0 hh hoh
    refine ⟨rfl, 10, 18, rfl, rfl, ⟨by decide, by decide, by decide⟩, _, _, rfl, rfl, _, rfl, (by show 2 ≤ sizeLine; decide), fun q1 e1 => ?_⟩
    have m1 := good_new (p := q1) (o := .tup [.int (10 ^ 18 + 1), .int c]) m0 (fun z => fr z) e1 (.tup upd_same (pair2 (by trivial) (by trivial)))
    have s1 := same_upd e1 (o := .tup [.int (10 ^ 18 + 1), .int c])
    refine ⟨10, 18, rfl, rfl, ⟨by decide, by decide, by decide⟩, _, rfl, _, _, rfl, rfl, _, rfl, (by show 2 ≤ sizeLine; decide), fun q2 e2 => ?_⟩
    have m2 := good_new (p := q2) (o := .tup [.int (-(10 ^ 18) - 1), .int c]) m1 (fun z => fr (s1.free z)) e2 (.tup upd_same (pair2 (by trivial) (by trivial)))
    have s2 := s1.trans (same_upd e2 (o := .tup [.int (-(10 ^ 18) - 1), .int c]))
    refine ⟨_, rfl, 1, rfl, (by show 2 ≤ sizeLine; decide), fun q3 e3 => ?_⟩
    have m3 := good_new (p := q3) (o := .tup [.int r, .int (-1)]) m2 (fun z => fr (s2.free z)) e3 (.tup upd_same (pair2 (by trivial) (by trivial)))
    have s3 := s2.trans (same_upd e3 (o := .tup [.int r, .int (-1)]))
    refine ⟨_, rfl, (by show 2 ≤ sizeLine; decide), fun q4 e4 => ?_⟩
    have m4 := good_new (p := q4) (o := .tup [.bl true, .int c]) m3 (fun z => fr (s3.free z)) e4 (.tup upd_same (pair2 (by trivial) (by trivial)))
    have s4 := s3.trans (same_upd e4 (o := .tup [.bl true, .int c]))
    refine ⟨_, rfl, (by show 2 ≤ sizeLine; decide), fun q5 e5 => ?_⟩
    have m5 := good_new (p := q5) (o := .tup [.int r, .bl false]) m4 (fun z => fr (s4.free z)) e5 (.tup upd_same (pair2 (by trivial) (by trivial)))
    have s5 := s4.trans (same_upd e5 (o := .tup [.int r, .bl false]))
    refine ⟨_, rfl, (by show 1 ≤ sizeLine; decide), fun q6 e6 => ?_⟩
    have m6 := good_new (p := q6) (o := .tup [.int r]) m5 (fun z => fr (s5.free z)) e6 (.tup upd_same (fun z => by cases z))
    have s6 := s5.trans (same_upd e6 (o := .tup [.int r]))
    refine ⟨_, rfl, _, rfl, (by show 3 ≤ sizeLine; decide), fun q7 e7 => ?_⟩
    have m7 := good_new (p := q7) (o := .tup [.int r, .int c, .int 0]) m6 (fun z => fr (s6.free z)) e7 (.tup upd_same (fun z => by cases z))
    have s7 := s6.trans (same_upd e7 (o := .tup [.int r, .int c, .int 0]))
    refine ⟨(by show 7 ≤ sizeLine; decide), fun q8 e8 => ?_⟩
    have m8 := good_new (p := q8) (o := .lst [.ref q1, .ref q2, .ref q3, .ref q4, .ref q5, .ref q6, .ref q7]) m7 (fun z => fr (s7.free z)) e8 (.lst upd_same)
    have s8 := s7.trans (same_upd e8 (o := .lst [.ref q1, .ref q2, .ref q3, .ref q4, .ref q5, .ref q6, .ref q7]))
    refine ⟨_, rfl, _, rfl, _, rfl, (by show 2 ≤ sizeLine; decide), fun q9 e9 => ?_⟩
    have m9 := good_new (p := q9) (o := .lst [.int r, .int c]) m8 (fun z => fr (s8.free z)) e9 (.lst upd_same)
    have s9 := s8.trans (same_upd e9 (o := .lst [.int r, .int c]))
    refine ⟨_, rfl, (by show 2 ≤ sizeLine; decide), fun q10 e10 => ?_⟩
    have m10 := good_new (p := q10) (o := .tup [.str "0", .int c]) m9 (fun z => fr (s9.free z)) e10 (.tup upd_same (pair2 (by trivial) (by trivial)))
    have s10 := s9.trans (same_upd e10 (o := .tup [.str "0", .int c]))
    refine ⟨_, rfl, (by show 2 ≤ sizeLine; decide), fun q11 e11 => ?_⟩
    have m11 := good_new (p := q11) (o := .tup [.int r, .non]) m10 (fun z => fr (s10.free z)) e11 (.tup upd_same (pair2 (by trivial) (by trivial)))
    have s11 := s10.trans (same_upd e11 (o := .tup [.int r, .non]))
    refine ⟨_, rfl, (by show 2 ≤ sizeLine; decide), fun q12 e12 => ?_⟩
    have m12 := good_new (p := q12) (o := .tup [.non, .int c]) m11 (fun z => fr (s11.free z)) e12 (.tup upd_same (pair2 (by trivial) (by trivial)))
    have s12 := s11.trans (same_upd e12 (o := .tup [.non, .int c]))
    have a12 := h0.same s12
    refine ⟨_, rfl, _, rfl, _, rfl, h, g, o, rfl, a12, (m12 o (by simp)).1, hoh, fun H1 y b1 h1 gy => ?_⟩
    have k1 : Kp h H H1 := (k0.same s12).trans b1
    have fr : ∀ {p : Addr}, H1 p = none → H p = none := fun {p} np => k1.free (h1.ne_none np) np
    have m0' : ∀ v ∈ y :: [V.ref q12, .ref q11, .ref q10, .ref q9, .ref q8, .ref q7, .ref q6, .ref q5, .ref q4, .ref q3, .ref q2, .ref q1, o], Good A.c_Ideal H o H1 v := fun v hv => by
      rcases List.mem_cons.mp hv with e | hv
      · rw [e]
        refine ⟨gy.1, fun a e => ?_⟩
        rcases gy.2 a e with z | z
        · have z2 := s12.free z
          exact .inl (k0.free (h0.ne_none z2) z2)
        · exact .inr z
      · exact good_kp (m12 v hv) b1 hh hoh
    have el : H1 q8 = some (.lst [.ref q1, .ref q2, .ref q3, .ref q4, .ref q5, .ref q6, .ref q7]) := by
      refine b1 _ _ ?_ ?_
      · exact (h0.same s7).ne_none e8
      · exact (((same_upd e9 (o := .lst [.int r, .int c])).trans (same_upd e10 (o := .tup [.str "0", .int c]))).trans (same_upd e11 (o := .tup [.int r, .non]))).trans (same_upd e12 (o := .tup [.non, .int c])) _ _ upd_same
    refine ⟨(by show 6 ≤ sizeLine; decide), fun q13 e13 => ?_⟩
    have m13 := good_new (p := q13) (o := .lst [.ref q9, .ref q10, .ref q11, .ref q12, .int r, y]) m0' (fun z => fr z) e13 (.lst upd_same)
    have s13 := same_upd e13 (o := .lst [.ref q9, .ref q10, .ref q11, .ref q12, .int r, y])
    refine ⟨q8, q13, _, _, rfl, rfl, s13 _ _ el, upd_same, (by show 13 ≤ sizeLine; decide), fun q14 e14 => ?_⟩
    have m14 := good_new (p := q14) (o := .lst ([.ref q1, .ref q2, .ref q3, .ref q4, .ref q5, .ref q6, .ref q7] ++ [.ref q9, .ref q10, .ref q11, .ref q12, .int r, y])) m13 (fun z => fr (s13.free z)) e14 (.lst upd_same)
    have s14 := s13.trans (same_upd e14 (o := .lst ([.ref q1, .ref q2, .ref q3, .ref q4, .ref q5, .ref q6, .ref q7] ++ [.ref q9, .ref q10, .ref q11, .ref q12, .int r, y])))
    refine ⟨_, rfl, _, rfl, _, rfl, (by show 2 ≤ sizeLine; decide), fun q15 e15 => ?_⟩
    have m15 := good_new (p := q15) (o := .tup [.int r, .int c]) m14 (fun z => fr (s14.free z)) e15 (.tup upd_same (pair2 (by trivial) (by trivial)))
    have s15 := s14.trans (same_upd e15 (o := .tup [.int r, .int c]))
    refine ⟨_, rfl, _, rfl, (by show 2 ≤ sizeLine; decide), fun q16 e16 => ?_⟩
    have m16 := good_new (p := q16) (o := .tup [.int r, .int c]) m15 (fun z => fr (s15.free z)) e16 (.tup upd_same (pair2 (by trivial) (by trivial)))
    have s16 := s15.trans (same_upd e16 (o := .tup [.int r, .int c]))
    refine ⟨_, rfl, 10, 9, rfl, rfl, ⟨by decide, by decide, by decide⟩, (by show 2 ≤ sizeLine; decide), fun q17 e17 => ?_⟩
    have m17 := good_new (p := q17) (o := .tup [.int r, .int (10 ^ 9)]) m16 (fun z => fr (s16.free z)) e17 (.tup upd_same (pair2 (by trivial) (by trivial)))
    have s17 := s16.trans (same_upd e17 (o := .tup [.int r, .int (10 ^ 9)]))
    refine ⟨(by show 3 ≤ sizeLine; decide), fun q18 e18 => ?_⟩
    have m18 := good_new (p := q18) (o := .lst [.ref q15, .ref q16, .ref q17]) m17 (fun z => fr (s17.free z)) e18 (.lst upd_same)
    have s18 := s17.trans (same_upd e18 (o := .lst [.ref q15, .ref q16, .ref q17]))
    have e14' := (((same_upd e15 (o := .tup [.int r, .int c])).trans (same_upd e16 (o := .tup [.int r, .int c]))).trans (same_upd e17 (o := .tup [.int r, .int (10 ^ 9)]))).trans (same_upd e18 (o := .lst [.ref q15, .ref q16, .ref q17])) _ _ upd_same
    refine ⟨_, rfl, q18, q14, _, _, rfl, rfl, upd_same, e14', (by show 16 ≤ sizeLine; decide), fun q19 e19 => ?_⟩
    have m19 := good_new (p := q19) (o := .lst ([.ref q15, .ref q16, .ref q17] ++ ([.ref q1, .ref q2, .ref q3, .ref q4, .ref q5, .ref q6, .ref q7] ++ [.ref q9, .ref q10, .ref q11, .ref q12, .int r, y]))) m18 (fun z => fr (s18.free z)) e19 (.lst upd_same)
    have s19 := s18.trans (same_upd e19 (o := .lst ([.ref q15, .ref q16, .ref q17] ++ ([.ref q1, .ref q2, .ref q3, .ref q4, .ref q5, .ref q6, .ref q7] ++ [.ref q9, .ref q10, .ref q11, .ref q12, .int r, y]))))
    have hq := (h1.same s18).ne_none e19
    have gA : ∀ v ∈ (([.ref q15, .ref q16, .ref q17] ++ ([.ref q1, .ref q2, .ref q3, .ref q4, .ref q5, .ref q6, .ref q7] ++ [.ref q9, .ref q10, .ref q11, .ref q12, .int r, y])) : List V), v ∈ (V.ref q19 :: V.ref q18 :: V.ref q17 :: V.ref q16 :: V.ref q15 :: V.ref q14 :: V.ref q13 :: y :: [V.ref q12, .ref q11, .ref q10, .ref q9, .ref q8, .ref q7, .ref q6, .ref q5, .ref q4, .ref q3, .ref q2, .ref q1, o]) ∨ Atom v := by
      intro v hv
      simp only [List.mem_append, List.mem_cons, List.not_mem_nil, or_false] at hv
      rcases hv with (e | e | e) | (e | e | e | e | e | e | e) | (e | e | e | e | e | e) <;> rw [e] <;> first | exact .inr trivial | exact .inl (by simp)
    refine ⟨h, g, q19, _, rfl, h1.same s19, SqL.of upd_same, fun H' b => SqL.of (by rw [b q19 hq]; exact upd_same), by show 0 < 16; decide, by show 16 ≤ 100000; decide, fun H2 j v b2 h2 hv => ?_⟩
    refine k H2 v ((k1.same s19).trans b2.kp) h2 (good_kp ?_ b2.kp hh hoh)
    rcases gA v (List.mem_of_getElem? hv) with z | z
    · exact m19 v z
    · exact good_atom z
end

section
variable {P : Program} {w : World} {K : PySem.W.Frag} {mg : Str → Option Value} {base : Heap} {A : Adr}
/-! ### words -/
def WordsAt (H : Hp) (wd : V → Str × Bool) (xs : List V) : Prop := ∀ v ∈ xs, ∃ a, v = .ref a ∧ H a = some (.tup [.str (wd v).1, .bl (wd v).2])
theorem WordsAt.same {H H' : Hp} {wd : V → Str × Bool} {xs : List V} (e : Same H H') (h : WordsAt H wd xs) : WordsAt H' wd xs := fun v hv => by
  obtain ⟨a, e1, e2⟩ := h v hv
  exact ⟨a, e1, e _ _ e2⟩
def firstW (wd : V → Str × Bool) (xs : List V) : Str := ((xs.filter fun v => !(wd v).2).map (fun v => (wd v).1) ++ [("let" : Str)]).headD "let"
theorem take_film {xs : List V} {i : Nat} {x : V} (f : V → Bool) (m : V → V) (h : xs[i]? = some x) : ((xs.take (i + 1)).filter f).map m = ((xs.take i).filter f).map m ++ (if f x = true then [m x] else []) := by
  rw [take_fil f h, List.map_append]
  by_cases c : f x = true
  · rw [if_pos c, if_pos c]
    rfl
  · rw [if_neg c, if_neg c]
    rfl
def spFirst (K : PySem.W.Frag) : Sp := fun vs H Q _ => ∃ (l : Addr) (xs : List V) (wd : V → Str × Bool), vs = [.ref l] ∧ SqL K H l xs ∧ WordsAt H wd xs ∧ xs.length ≤ 1000 ∧ ∀ H', Same H H' → Q (.str (firstW wd xs)) H'
theorem ok_law_first (T : Top K mg A) : FnOk P w K mg base CX0 1 A.a_law_first A.d_law_first P_law_first (spFirst K) := by
  refine T.F_law_first.ok sc_law_first (fun vs H Q E h => ?_) (fun cdv A' outer s H vs Q E hr h => ?_)
  · obtain ⟨l, xs, wd, rfl, _⟩ := h
    rfl
  · obtain ⟨l, xs, wd, rfl, hl, hw, hn, k⟩ := h
    refine ⟨_, (pss_one (ps_ret (pe_ix ix_list (pe_op op_cat (pe_lc (own := [("_law_word_here", 1), ("_law_is_right", 2)]) (by rfl) sc_law_first.nd (pi_list (pv 0)) (blkOk_by (own := [("_law_word_here", 1), ("_law_is_right", 2)]) (N := N_law_first) (sc := defScope s_law_first) (by decide +kernel)) (fun _ _ _ _ _ => (show PG _ _ (gTup K 2 _) from (pg_tup rfl (pgs_cons (pg_name (i := 1) sc_law_first.nd rfl (.inl rfl)) (pgs_cons (pg_name (i := 2) sc_law_first.nd rfl (.inl rfl)) pgs_nil))))) (fun _ _ _ _ _ => (pts_one (pt_not (show PT _ _ (GX.tTru K _) from pt_truth (pv 2) (by intro _; rfl))))) (fun _ _ _ _ _ => (pv 1))) (pe_lst (pa_cons pe_str pa_nil))) pe_int (fun _ _ => rfl)))), ?_⟩
    refine ⟨_, rfl, l, rfl, ⟨_, hl⟩, fun D hD => ?_⟩
    refine lc_list (K := K) (a := l) (xs := xs) (fun i H' => Same H H' ∧ H' D = some (.lst (((xs.take i).filter fun v => !(wd v).2).map fun v => V.str (wd v).1))) ⟨same_upd hD, upd_same⟩ (fun i H' _ h => h.1.seq hl) ?_ ?_
    · rintro i x H' hi ⟨s1, d1⟩
      obtain ⟨a, rfl, ha⟩ := hw x (List.mem_of_getElem? hi)
      have ha' := s1 _ _ ha
      refine ⟨a, _, rfl, SqT.of ha', rfl, _, _, rfl, _, _, rfl, rfl, rfl, ?_⟩
      have et := take_film (fun v => !(wd v).2) (fun v => V.str (wd v).1) hi
      refine ⟨_, rfl, (wd (.ref a)).2, rfl, ?_⟩
      cases c : (wd (.ref a)).2 with
      | false =>
        rw [c] at et
        refine iteT ⟨_, rfl, _, d1, ?_, same_to s1 hD, ?_⟩
        · rw [List.length_map]
          exact fil_lt (Nat.le_trans hn (by decide))
        · rw [upd_same, et]
          rfl
      | true =>
        rw [c] at et
        refine iteF ⟨s1, ?_⟩
        rw [et, d1]
        simp
    · rintro H' ⟨s1, d1⟩
      rw [List.take_length] at d1
      refine ⟨(by show 1 ≤ sizeLine; decide), fun p np => ?_⟩
      have hDp : D ≠ p := ne_of_none d1 np
      refine ⟨D, p, _, _, rfl, rfl, by rw [upd_ne hDp]; exact d1, upd_same, ?_, fun q nq => ?_⟩
      · rw [List.length_map]
        have z : (xs.filter fun v => !(wd v).2).length ≤ xs.length := List.length_filter_le _ _
        exact Nat.le_trans (Nat.add_le_add_right (Nat.le_trans z hn) 1) (by decide)
      have s2 := (same_to s1 (s1.free np) (o := .lst [.str "let"]))
      have s3 := same_to s2 (s2.free nq) (o := .lst (((xs.filter fun v => !(wd v).2).map fun v => V.str (wd v).1) ++ [.str "let"]))
      have e0 : (((xs.filter fun v => !(wd v).2).map fun v => V.str (wd v).1) ++ [V.str "let"])[0]? = some (.str (firstW wd xs)) := by
        unfold firstW
        cases (xs.filter fun v => !(wd v).2) with
        | nil => rfl
        | cons a r => rfl
      exact ⟨q, _, _, _, rfl, rfl, SqL.of upd_same, atI_nat (j := 0) e0, k _ s3⟩
/-- the word for an error of a class -/
inductive WordOf (A : Adr) : Value → Str → Prop where
  | lines : WordOf A (.ref A.c_NoLines) "lines"
  | output : WordOf A (.ref A.c_NoOutput) "output"
  | key : WordOf A (.ref A.c_NoKey) "key"
  | there : WordOf A (.ref A.c_KeyThere) "there"
  | nothing : WordOf A (.ref A.c_NothingThere) "nothing"
/-- what _law_word tells of a call -/
def ttWord (A : Adr) (tl : XK → Hp → VK → Prop) (H : Hp) (Q : VK) : Prop :=
  ∀ (E : XK) (Q' : VK), (∀ cls H' w, WordOf A cls w → (∀ H'', Same H' H'' → Q (.str w) H'') → E cls none H') → (∀ v H', Q (.str "let") H' → Q' v H') → tl E H Q'
theorem word_data (T : Top K mg A) {cls : Value} {w : Str} (hw : WordOf A cls w) : ∃ (D : Addr) (b1 b2 b3 b4 b5 : Bool) (j : Nat), cls = .ref D ∧ ExcC K D ∧ PySem.W.exmOne K (.ref D) (.ref A.c_FabricError) = some true ∧ PySem.W.kitOne K (.ref D) (.ref A.c_NoLines) = some b1 ∧ PySem.W.kitOne K (.ref D) (.ref A.c_NoOutput) = some b2 ∧
    PySem.W.kitOne K (.ref D) (.ref A.c_NoKey) = some b3 ∧ PySem.W.kitOne K (.ref D) (.ref A.c_KeyThere) = some b4 ∧ PySem.W.kitOne K (.ref D) (.ref A.c_NothingThere) = some b5 ∧ PySem.W.kitOne K (.ref D) (.type "ValueError") = some true ∧
    [b1, b2, b3, b4, b5].countP (fun b => b == true) = 1 ∧ ([b1, b2, b3, b4, b5].map V.bl)[j]? = some (.bl true) ∧ (∀ m z, m < j → ([b1, b2, b3, b4, b5].map V.bl)[m]? = some z → eqV z (.bl true) = false) ∧ ([.str "lines", .str "output", .str "key", .str "there", .str "nothing"] : List V)[j]? = some (.str w) := by
  cases hw with
  | lines => exact ⟨A.c_NoLines, true, false, false, false, false, 0, rfl, ⟨T.e1_NoLines, T.e2_NoLines, T.s_NoLines, T.e3_NoLines, T.e4_NoLines, T.en1, T.en2, T.e5_NoLines⟩, T.xm_NoLines_FabricError, T.kt_NoLines_NoLines, T.kt_NoLines_NoOutput, T.kt_NoLines_NoKey, T.kt_NoLines_KeyThere, T.kt_NoLines_NothingThere, T.kt_NoLines_ValueError, rfl, rfl, by
      intro m z hm hz
      exact absurd hm (Nat.not_lt_zero _), rfl⟩
  | output => exact ⟨A.c_NoOutput, false, true, false, false, false, 1, rfl, ⟨T.e1_NoOutput, T.e2_NoOutput, T.s_NoOutput, T.e3_NoOutput, T.e4_NoOutput, T.en1, T.en2, T.e5_NoOutput⟩, T.xm_NoOutput_FabricError, T.kt_NoOutput_NoLines, T.kt_NoOutput_NoOutput, T.kt_NoOutput_NoKey, T.kt_NoOutput_KeyThere, T.kt_NoOutput_NothingThere, T.kt_NoOutput_ValueError, rfl, rfl, by
      intro m z hm hz
      match m, hm with
      | 0, _ => (cases hz; rfl), rfl⟩
  | key => exact ⟨A.c_NoKey, false, false, true, false, false, 2, rfl, ⟨T.e1_NoKey, T.e2_NoKey, T.s_NoKey, T.e3_NoKey, T.e4_NoKey, T.en1, T.en2, T.e5_NoKey⟩, T.xm_NoKey_FabricError, T.kt_NoKey_NoLines, T.kt_NoKey_NoOutput, T.kt_NoKey_NoKey, T.kt_NoKey_KeyThere, T.kt_NoKey_NothingThere, T.kt_NoKey_ValueError, rfl, rfl, by
      intro m z hm hz
      match m, hm with
      | 0, _ => (cases hz; rfl)
      | 1, _ => (cases hz; rfl), rfl⟩
  | there => exact ⟨A.c_KeyThere, false, false, false, true, false, 3, rfl, ⟨T.e1_KeyThere, T.e2_KeyThere, T.s_KeyThere, T.e3_KeyThere, T.e4_KeyThere, T.en1, T.en2, T.e5_KeyThere⟩, T.xm_KeyThere_FabricError, T.kt_KeyThere_NoLines, T.kt_KeyThere_NoOutput, T.kt_KeyThere_NoKey, T.kt_KeyThere_KeyThere, T.kt_KeyThere_NothingThere, T.kt_KeyThere_ValueError, rfl, rfl, by
      intro m z hm hz
      match m, hm with
      | 0, _ => (cases hz; rfl)
      | 1, _ => (cases hz; rfl)
      | 2, _ => (cases hz; rfl), rfl⟩
  | nothing => exact ⟨A.c_NothingThere, false, false, false, false, true, 4, rfl, ⟨T.e1_NothingThere, T.e2_NothingThere, T.s_NothingThere, T.e3_NothingThere, T.e4_NothingThere, T.en1, T.en2, T.e5_NothingThere⟩, T.xm_NothingThere_FabricError, T.kt_NothingThere_NoLines, T.kt_NothingThere_NoOutput, T.kt_NothingThere_NoKey, T.kt_NothingThere_KeyThere, T.kt_NothingThere_NothingThere, T.kt_NothingThere_ValueError, rfl, rfl, by
      intro m z hm hz
      match m, hm with
      | 0, _ => (cases hz; rfl)
      | 1, _ => (cases hz; rfl)
      | 2, _ => (cases hz; rfl)
      | 3, _ => (cases hz; rfl), rfl⟩
theorem word_aux (T : Top K mg A) {outer : List Env} {A' : Around} (cdv : Value) (f c' : Addr) (s : Shared) (H : Hp) (Q : VK) (q : Str) (tl : XK → Hp → VK → Prop)
    (hc : ∀ (W : WX) (pn : List (Addr × Obj)) (xe : Value → Shared → Prop) (E : XK) (p1 p2 : Pos), Takes ((cxOf C8.CX0 P w K mg base N_law_word "_law_word" (defScope s_law_word) A.a_law_word cdv A' outer s H C8.E0).tr pn xe) W →
      (∀ (cls : Value) (d : Option Addr) (σ' : L2.St) (H' : Hp), E cls d H' → W cls d σ' H') →
      PE ((cxOf C8.CX0 P w K mg base N_law_word "_law_word" (defScope s_law_word) A.a_law_word cdv A' outer s H C8.E0).tr pn xe) ((Expr.Name "_law_call" p1).Call [] [] p2) fun σZ HZ Q => σZ[0]? = some (some (V.ref f)) ∧ HZ c' = some (LamX.CodeO c' q) ∧ tl E HZ Q)
    (hC : H c' = some (LamX.CodeO c' q)) (hT : ttWord A tl H Q) :
    ∃ t, PSs (cxOf C8.CX0 P w K mg base N_law_word "_law_word" (defScope s_law_word) A.a_law_word cdv A' outer s H C8.E0).nox (defBody s_law_word) t ∧ t { nx := fun x H' => Q V.non H', rt := Q } (L2.start N_law_word [V.ref f]) H := by
  refine ⟨_, (pss_cons (ps_set (i := 1) sc_law_word.nd rfl (.inl rfl) pe_str)
    (pss_cons (ps_try_as (i := 2) rfl rfl sc_law_word.nd rfl rfl (by exact ⟨rfl, by decide, .inl T.gc_FabricError⟩) LamX.takes0 (fun W pn xe tk _ => (pss_one (ps_expr (hc (GX.WL 4 W) pn xe (GX.EE 4 W) _ _ (GX.takes_len tk) (fun _ _ _ _ h hl => h _ hl))))) (fun a oe cls d pn hz hf => by exact (pss_cons (ps_set (i := 3) sc_law_word.nd rfl (.inl rfl) (pe_lst (pa_cons (pe_callB (GX.call_isEg (a := a) (pn := pn) hz hf) (by rfl) T.z_isinstance (by decide +kernel) (pa_cons (pv 2) (pa_cons (pe_glob (v := .ref A.c_NoLines) (by rfl) T.gc_NoLines (by rfl)) pa_nil))) (pa_cons (pe_callB (GX.call_isEg (a := a) (pn := pn) hz hf) (by rfl) T.z_isinstance (by decide +kernel) (pa_cons (pv 2) (pa_cons (pe_glob (v := .ref A.c_NoOutput) (by rfl) T.gc_NoOutput (by rfl)) pa_nil))) (pa_cons (pe_callB (GX.call_isEg (a := a) (pn := pn) hz hf) (by rfl) T.z_isinstance (by decide +kernel) (pa_cons (pv 2) (pa_cons (pe_glob (v := .ref A.c_NoKey) (by rfl) T.gc_NoKey (by rfl)) pa_nil))) (pa_cons (pe_callB (GX.call_isEg (a := a) (pn := pn) hz hf) (by rfl) T.z_isinstance (by decide +kernel) (pa_cons (pv 2) (pa_cons (pe_glob (v := .ref A.c_KeyThere) (by rfl) T.gc_KeyThere (by rfl)) pa_nil))) pa_nil))))))
    (pss_cons (ps_expr (show PE _ _ (tBM K "list" rAppend _ _) from pe_bm PySem.F.plainAttrs_list PySem.F.slot_list_append PySem.F.type_list_append mt_append (pv 3) (pa_cons (pe_callB (GX.call_isEg (a := a) (pn := pn) hz hf) (by rfl) T.z_isinstance (by decide +kernel) (pa_cons (pv 2) (pa_cons (pe_glob (v := .ref A.c_NothingThere) (by rfl) T.gc_NothingThere (by rfl)) pa_nil))) pa_nil)))
    (pss_cons (ps_set (i := 1) sc_law_word.nd rfl (.inl rfl) pe_str)
    (pss_one (ps_if (PW.pt (pw_and (pt_cmpR op_eq (show PE _ _ (tBM K "list" (rCntB K) _ _) from pe_bm PySem.F.plainAttrs_list PySem.F.slot_list_count PySem.F.type_list_count mt_count_bl (pv 3) (pa_cons pe_bl pa_nil)) pe_int (nomark _)) (pw_and1 (pt_val (pe_callB (GX.call_isEg (a := a) (pn := pn) hz hf) (by rfl) T.z_isinstance (by decide +kernel) (pa_cons (pv 2) (pa_cons (pe_bltn (v := .ty "ValueError") (by rfl) T.z_ValueError (by decide +kernel) rfl) pa_nil))))))) (pss_one (ps_set (i := 1) sc_law_word.nd rfl (.inl rfl) (pe_ix (show IxR _ (rIxL K) from ix_list) (pe_lst (pa_cons pe_str (pa_cons pe_str (pa_cons pe_str (pa_cons pe_str (pa_cons pe_str pa_nil)))))) (show PE _ _ (tBM K "list" (rIndex K) _ _) from pe_bm PySem.F.plainAttrs_list PySem.F.slot_list_index PySem.F.type_list_index mt_index (pv 3) (pa_cons pe_bl pa_nil)) (fun _ _ => rfl)))) pss_nil)))))))
    (pss_one (ps_ret (pv 1))))), ?_⟩
  refine ⟨rfl, hC, hT _ _ (fun cls H' w hw hQ => ?_) (fun v H' hQ => ⟨_, rfl, hQ⟩)⟩
  intro σ hσ
  obtain ⟨x0, x1, x2, x3, rfl⟩ : ∃ x0 x1 x2 x3, σ = [x0, x1, x2, x3] := by
    match σ, hσ with
    | [x0, x1, x2, x3], _ => exact ⟨x0, x1, x2, x3, rfl⟩
  obtain ⟨D, b1, b2, b3, b4, b5, j, rfl, xD, xm, k1, k2, k3, k4, k5, kv, hcnt, hj, hbef, hwj⟩ := word_data T hw
  refine ⟨true, xm, fun _ a ha => ?_, fun z => by cases z⟩
  refine ⟨_, rfl, D, rfl, rfl, xD, _, _, b1, rfl, fun u r => r, k1, ?_⟩
  refine ⟨_, rfl, D, rfl, rfl, xD, _, _, b2, rfl, fun u r => r, k2, ?_⟩
  refine ⟨_, rfl, D, rfl, rfl, xD, _, _, b3, rfl, fun u r => r, k3, ?_⟩
  refine ⟨_, rfl, D, rfl, rfl, xD, _, _, b4, rfl, fun u r => r, k4, ?_⟩
  refine ⟨(by show 4 ≤ sizeLine; decide), fun p np => ?_⟩
  have s1 := same_upd np (o := .lst [.bl b1, .bl b2, .bl b3, .bl b4])
  refine ⟨_, rfl, .inl ⟨rfl, _, SqL.of upd_same⟩, _, rfl, D, rfl, rfl, xD, _, _, b5, rfl, fun u r => r, k5, p, _, _, rfl, rfl, upd_same, (by show 4 < sizeLine; decide), ?_⟩
  rw [upd_upd]
  have s2 := same_upd np (o := .lst ([.bl b1, .bl b2, .bl b3, .bl b4] ++ [.bl b5]))
  have d2 : SqL K (upd H' p (.lst ([.bl b1, .bl b2, .bl b3, .bl b4] ++ [.bl b5]))) p ([b1, b2, b3, b4, b5].map V.bl) := SqL.of upd_same
  refine ⟨_, rfl, .inl ⟨rfl, _, d2⟩, p, [b1, b2, b3, b4, b5], true, rfl, rfl, d2, rfl, ?_⟩
  rw [hcnt]
  refine ⟨_, rfl, iteT ?_⟩
  refine ⟨_, rfl, D, rfl, rfl, xD, _, _, true, rfl, fun u r => r, kv, true, rfl, iteT ?_⟩
  refine ⟨(by show 5 ≤ sizeLine; decide), fun q nq => ?_⟩
  have hpq : p ≠ q := fun e => by rw [← e, upd_same] at nq; cases nq
  have s3 := s2.trans (same_upd nq (o := .lst [.str "lines", .str "output", .str "key", .str "there", .str "nothing"]))
  have d3 : SqL K (upd (upd H' p (.lst ([.bl b1, .bl b2, .bl b3, .bl b4] ++ [.bl b5]))) q (.lst [.str "lines", .str "output", .str "key", .str "there", .str "nothing"])) p ([b1, b2, b3, b4, b5].map V.bl) := SqL.of (by rw [upd_ne hpq]; exact upd_same)
  refine ⟨_, rfl, .inl ⟨rfl, _, d3⟩, p, _, .bl true, j, .bl true, rfl, rfl, d3, rfl, rfl, hj, rfl, hbef, ?_⟩
  exact ⟨q, _, _, _, rfl, rfl, SqL.of upd_same, atI_nat hwj, _, rfl, hQ _ s3⟩
theorem gives_law_word (T : Top K mg A) {X : Cx} {q : Str} (hK : X.K = K) (hm : X.mg = mg) : ∀ cdv, LamX.GivesTo X N_law_word "_law_word" (defScope s_law_word) A.a_law_word cdv (defBody s_law_word) "_law_call" q (ttWord A) := by
  intro cdv f c' s H Q tl hc hC hT
  cases hK
  cases hm
  exact word_aux T cdv f c' s H Q q tl hc hC hT
end

/-! ### what stands where -/
inductive Role where
  | h | g | x | R | L | a | b (j : Nat)
def NT (o : HO) : Prop := ∀ ps, o ≠ .tbl ps
/-- as H but at h, tables apart -/
def Mv (h : Addr) (H H' : Hp) : Prop := ∀ q o, q ≠ h → H q = some o → NT o → H' q = some o
theorem Mv.of {h : Addr} {H H' : Hp} (k : Kp h H H') : Mv h H H' := fun q o hq e _ => k q o hq e
theorem Mv.same {h : Addr} {H H' : Hp} (k : Same H H') : Mv h H H' := fun q o _ e _ => k q o e
theorem Mv.ext {h : Addr} {H H' : Hp} (k : LamX.ExtN H H') : Mv h H H' := fun q o _ e n => k q o e n
theorem Mv.trans {h : Addr} {H H1 H2 : Hp} (a : Mv h H H1) (b : Mv h H1 H2) : Mv h H H2 := fun q o hq e n => b q o hq (a q o hq e n) n
abbrev Tb (P : Addr) (q : Str) (H : Hp) : Prop := LamX.Tabs [(P, q)] H
theorem Tb.kp {P x : Addr} {q : Str} {H H' : Hp} (t : Tb P q H) (k : Kp x H H') (hx : ∃ o, H x = some o ∧ NT o ∧ ∀ f, o ≠ .ext f) : Tb P q H' := by
  obtain ⟨o, hx, n1, n2⟩ := hx
  intro p hp
  obtain ⟨ps, e1, e2, e3⟩ := t p hp
  refine ⟨ps, k _ _ (fun z => ?_) e1, e2, fun pos cv hc => ?_⟩
  · rw [z, hx] at e1
    exact n1 _ (Option.some.inj e1)
  · obtain ⟨c, rfl, e4⟩ := e3 pos cv hc
    refine ⟨c, rfl, k _ _ (fun z => ?_) e4⟩
    rw [z, hx] at e4
    exact n2 _ (Option.some.inj e4)
theorem Tb.same {P : Addr} {q : Str} {H H' : Hp} (t : Tb P q H) (s : Same H H') : Tb P q H' := LamX.Tabs.ext t s
theorem nt_lst {xs : List V} : NT (.lst xs) := fun _ z => by cases z
theorem nt_tup {xs : List V} : NT (.tup xs) := fun _ z => by cases z
theorem nt_ins {a b : Addr} {fs : List (Str × V)} : NT (.ins a b fs) := fun _ z => by cases z
theorem Tb.hand {P h g : Addr} {q : Str} {H H' : Hp} (t : Tb P q H) (k : Kp h H H') (a : HandAt H h g) : Tb P q H' := by
  obtain ⟨i, m, s, tt, e, _⟩ := a.five
  exact t.kp k ⟨_, e, nt_lst, fun _ z => by cases z⟩
theorem HandAt.mv {h g h' : Addr} {H H' : Hp} (a : HandAt H h g) (k : Mv h' H H') (h1 : h ≠ h') (h2 : g ≠ h') : HandAt H' h g :=
  ⟨by obtain ⟨ns, e⟩ := a.cells; exact ⟨ns, k _ _ h2 e nt_lst⟩, by obtain ⟨i, m, s', t, e, q⟩ := a.five; exact ⟨i, m, s', t, k _ _ h1 e nt_lst, q⟩, a.ne⟩
theorem Thg.nt {C a : Addr} {H : Hp} {o : HO} (h : Thg C H (.ref a)) (e : H a = some o) : NT o := by
  intro ps z
  subst z
  cases h with
  | atom h => exact h
  | tup h l => rw [e] at h; cases h
  | lst h => rw [e] at h; cases h
  | dK h => rw [e] at h; cases h
  | ins h => rw [e] at h; cases h
theorem Thg.mv {C h : Addr} {H H' : Hp} {v : V} (t : Thg C H v) (k : Mv h H H') (hv : v ≠ .ref h) : Thg C H' v := by
  refine t.mov fun a o e q => ?_
  subst e
  exact k a o (fun z => hv (by rw [z])) q (t.nt q)
theorem keyB_mv {C h : Addr} {H H' : Hp} {v : V} (t : Thg C H v) (k : Mv h H H') (hv : v ≠ .ref h) : keyB H' v = keyB H v := by
  cases v with
  | ref a =>
    obtain ⟨o, e⟩ := t.there
    exact keyB_mov e (k a o (fun z => hv (by rw [z])) e (t.nt e))
  | _ => rfl
/-- a thing that is none of what the law changes -/
def Off (own : Addr → Option Role) (v : V) : Prop := ∀ a, v = .ref a → own a = none ∨ own a = some .x
theorem Off.ne {own : Addr → Option Role} {v : V} {a : Addr} {r : Role} (h : Off own v) (e : own a = some r) (hr : r ≠ .x) : v ≠ .ref a := fun z => by
  rcases h a z with q | q
  · rw [e] at q
    cases q
  · rw [e] at q
    exact hr (Option.some.inj q)
structure LI (A : Adr) (h g x R L : Addr) (n B : Nat) (own : Addr → Option Role) (b a : Nat → Addr) (c d : Nat → List V) (kd : V → Int × Int) (H : Hp) : Prop where
  dom : ∀ p r, own p = some r → ∃ o, H p = some o ∧ NT o
  hand : HandAt H h g
  oh : own h = some .h
  og : own g = some .g
  x : own x = some .x ∧ ∃ dx, H x = some (.ins A.c_Ideal dx [("_rows", .ref R)])
  R : own R = some .R ∧ H R = some (.lst (rowsV n b))
  b : ∀ j, j < n → own (b j) = some (.b j) ∧ H (b j) = some (.lst (c j))
  L : own L = some .L ∧ H L = some (.lst (rowsV n a))
  a : ∀ j, j < n → own (a j) = some .a ∧ H (a j) = some (.lst (d j))
  kc : ∀ j, j < n → KeysAt H kd (c j)
  kk : ∀ j, j < n → KeysAt H kd (d j)
  lc : ∀ j, j < n → (c j).length ≤ B
  ld : ∀ j, j < n → (d j).length ≤ B
  pw : ∀ j, j < n → Pw kd (c j)
  tb : Tb A.tb_law qlam_law H
theorem own_ne {own : Addr → Option Role} {p q : Addr} {s t : Role} (h1 : own p = some s) (h2 : own q = some t) (h : s ≠ t) : p ≠ q := fun e => by
  rw [e, h2] at h1
  exact h (Option.some.inj h1).symm
theorem KeysAt.mv {h : Addr} {H H' : Hp} {kd : V → Int × Int} {xs ys : List V} (hh : H h = some (.lst ys)) (e : Mv h H H') (w : KeysAt H kd xs) : KeysAt H' kd xs := fun v hv => by
  obtain ⟨a, e1, e2⟩ := w v hv
  refine ⟨a, e1, e _ _ (fun z => ?_) e2 nt_tup⟩
  have e3 : H a = some (.tup [.int (kd v).1, .int (kd v).2]) := e2
  rw [z, hh] at e3
  cases e3
section
variable {A : Adr} {h g x R L : Addr} {n B : Nat} {own : Addr → Option Role} {b a : Nat → Addr} {c d : Nat → List V} {kd : V → Int × Int} {H H' : Hp}
/-- everything but the hand stays -/
theorem LI.handed (w : LI A h g x R L n B own b a c d kd H) (k : Mv h H H') (ha : HandAt H' h g) (t : Tb A.tb_law qlam_law H') : LI A h g x R L n B own b a c d kd H' := by
  obtain ⟨hi, hm, hs, ht, he, _⟩ := w.hand.five
  have kq : ∀ {y : Addr} {r : Role} {o : HO}, own y = some r → r ≠ .h → H y = some o → NT o → H' y = some o := fun hy h1 hH no => k _ _ (own_ne hy w.oh h1) hH no
  exact
  { dom := fun p r e => by
      by_cases q : p = h
      · subst q
        obtain ⟨hi, hm, hs, ht, he, _⟩ := ha.five
        exact ⟨_, he, nt_lst⟩
      · obtain ⟨o, e1, e2⟩ := w.dom p r e
        exact ⟨o, k _ _ q e1 e2, e2⟩
    hand := ha
    oh := w.oh
    og := w.og
    x := ⟨w.x.1, by obtain ⟨dx, e⟩ := w.x.2; exact ⟨dx, kq w.x.1 (by intro z; cases z) e nt_ins⟩⟩
    R := ⟨w.R.1, kq w.R.1 (by intro z; cases z) w.R.2 nt_lst⟩
    b := fun j hj => ⟨(w.b j hj).1, kq (w.b j hj).1 (by intro z; cases z) (w.b j hj).2 nt_lst⟩
    L := ⟨w.L.1, kq w.L.1 (by intro z; cases z) w.L.2 nt_lst⟩
    a := fun j hj => ⟨(w.a j hj).1, kq (w.a j hj).1 (by intro z; cases z) (w.a j hj).2 nt_lst⟩
    kc := fun j hj => (w.kc j hj).mv he k
    kk := fun j hj => (w.kk j hj).mv he k
    lc := w.lc
    ld := w.ld
    pw := w.pw
    tb := t }
theorem LI.same (w : LI A h g x R L n B own b a c d kd H) (s : Same H H') : LI A h g x R L n B own b a c d kd H' := w.handed (.same s) (w.hand.same s) (w.tb.same s)
theorem LI.kp (w : LI A h g x R L n B own b a c d kd H) (k : Kp h H H') (ha : HandAt H' h g) : LI A h g x R L n B own b a c d kd H' := w.handed (.of k) ha (w.tb.hand k w.hand)
theorem LI.ext (w : LI A h g x R L n B own b a c d kd H) (k : LamX.ExtN H H') (t : Tb A.tb_law qlam_law H') : LI A h g x R L n B own b a c d kd H' :=
  w.handed (.ext k) ⟨by obtain ⟨ns, e⟩ := w.hand.cells; exact ⟨ns, k _ _ e nt_lst⟩, by obtain ⟨i, m, s', t, e, q⟩ := w.hand.five; exact ⟨i, m, s', t, k _ _ e nt_lst, q⟩, w.hand.ne⟩ t
theorem LI.rows (w : LI A h g x R L n B own b a c d kd H) : RowsAt A.c_Ideal H x R n b c := ⟨w.x.2, w.R.2, fun j hj => (w.b j hj).2⟩
theorem LI.more {B' : Nat} (w : LI A h g x R L n B own b a c d kd H) (hB : B ≤ B') : LI A h g x R L n B' own b a c d kd H := { w with lc := fun j hj => Nat.le_trans (w.lc j hj) hB, ld := fun j hj => Nat.le_trans (w.ld j hj) hB }
/-- a key's pair is known -/
theorem LI.key (w : LI A h g x R L n B own b a c d kd H) {q : Addr} {p : Int × Int} (e : Tup2 H q p) : LI A h g x R L n B own b a c d (fun v => if v = .ref q then p else kd v) H := by
  have m : ∀ {xs : List V}, KeysAt H kd xs → KeysAt H (fun v => if v = .ref q then p else kd v) xs := fun {xs} hk v hv => by
    obtain ⟨y, e1, e2⟩ := hk v hv
    refine ⟨y, e1, ?_⟩
    show Tup2 H y (if v = .ref q then p else kd v)
    by_cases z : v = .ref q
    · rw [if_pos z]
      rw [e1] at z
      cases z
      exact e
    · rw [if_neg z]
      exact e2
  have pw : ∀ j, j < n → Pw (fun v => if v = .ref q then p else kd v) (c j) := fun j hj => pw_congr (w.pw j hj) fun v hv => by
    obtain ⟨y, e1, e2⟩ := w.kc j hj v hv
    show (if v = .ref q then p else kd v) = kd v
    by_cases z : v = .ref q
    · rw [if_pos z]
      rw [e1] at z
      cases z
      have f := e.symm.trans e2
      injection f with f
      injection f with f
      injection f with f1 f2
      injection f2 with f2 _
      exact Prod.ext (V.int.inj f1) (V.int.inj f2)
    · exact if_neg z
  exact { w with kc := fun j hj => m (w.kc j hj), kk := fun j hj => m (w.kk j hj), pw := pw }
/-- a row of the ideal switch is changed -/
theorem LI.setb (w : LI A h g x R L n B own b a c d kd H) {j : Nat} {new : List V} (hj : j < n) (k : Kp (b j) H H') (e1 : H' (b j) = some (.lst new)) (ks : KeysAt H kd new) (hl : new.length ≤ B) (hpw : Pw kd new) :
    LI A h g x R L n B own b a (fun i => if i = j then new else c i) d kd H' := by
  have ob := (w.b j hj).1
  have eb := (w.b j hj).2
  have kq : ∀ {y : Addr} {r : Role} {o : HO}, own y = some r → r ≠ .b j → H y = some o → H' y = some o := fun hy h1 hH => k _ _ (own_ne hy ob h1) hH
  exact
  { dom := fun p r e => by
      by_cases q : p = b j
      · subst q
        exact ⟨_, e1, nt_lst⟩
      · obtain ⟨o, e1, e2⟩ := w.dom p r e
        exact ⟨o, k _ _ q e1, e2⟩
    hand := w.hand.mv (.of k) (own_ne w.oh ob (by intro z; cases z)) (own_ne w.og ob (by intro z; cases z))
    oh := w.oh
    og := w.og
    x := ⟨w.x.1, by obtain ⟨dx, e⟩ := w.x.2; exact ⟨dx, kq w.x.1 (by intro z; cases z) e⟩⟩
    R := ⟨w.R.1, kq w.R.1 (by intro z; cases z) w.R.2⟩
    b := fun i hi => ⟨(w.b i hi).1, by
      show H' (b i) = some (.lst (if i = j then new else c i))
      by_cases z : i = j
      · rw [if_pos z, z]
        exact e1
      · rw [if_neg z]
        exact kq (w.b i hi).1 (by intro y; cases y; exact z rfl) (w.b i hi).2⟩
    L := ⟨w.L.1, kq w.L.1 (by intro z; cases z) w.L.2⟩
    a := fun i hi => ⟨(w.a i hi).1, kq (w.a i hi).1 (by intro z; cases z) (w.a i hi).2⟩
    kc := fun i hi => by
      show KeysAt H' kd (if i = j then new else c i)
      by_cases z : i = j
      · rw [if_pos z]
        exact ks.mv eb (.of k)
      · rw [if_neg z]
        exact (w.kc i hi).mv eb (.of k)
    kk := fun i hi => (w.kk i hi).mv eb (.of k)
    lc := fun i hi => by
      show (if i = j then new else c i).length ≤ B
      by_cases z : i = j
      · rw [if_pos z]
        exact hl
      · rw [if_neg z]
        exact w.lc i hi
    ld := w.ld
    pw := fun i hi => by
      show Pw kd (if i = j then new else c i)
      by_cases z : i = j
      · rw [if_pos z]
        exact hpw
      · rw [if_neg z]
        exact w.pw i hi
    tb := w.tb.kp k ⟨_, eb, nt_lst, fun _ z => by cases z⟩ }
theorem rowsV_set {n : Nat} {b : Nat → Addr} {j : Nat} {p : Addr} (hj : j < n) : (rowsV n b).set j (.ref p) = rowsV n (fun i => if i = j then p else b i) := by
  apply List.ext_getElem?
  intro i
  by_cases hi : i < n
  · by_cases e : i = j
    · subst e
      rw [List.getElem?_set_self (by rw [rowsV_len]; exact hi), rowsV_at hi, if_pos rfl]
    · rw [List.getElem?_set_ne (fun z => e z.symm), rowsV_at hi, rowsV_at hi, if_neg e]
  · rw [List.getElem?_eq_none (by rw [List.length_set, rowsV_len]; omega), List.getElem?_eq_none (by rw [rowsV_len]; omega)]
/-- a row of the law's own is exchanged for a new one -/
theorem LI.seta (w : LI A h g x R L n B own b a c d kd H) {j : Nat} {new : List V} {p : Addr} (hj : j < n) (hp : H p = none) (k : ∀ q o, q ≠ L → H q = some o → H' q = some o) (e1 : H' p = some (.lst new)) (e2 : H' L = some (.lst ((rowsV n a).set j (.ref p)))) (ks : KeysAt H kd new) (hl : new.length ≤ B) :
    ∃ own' a', LI A h g x R L n B own' b a' c (fun i => if i = j then new else d i) kd H' ∧ ∀ v, Off own v → Off own' v ∨ v = .ref p := by
  have oL := w.L.1
  have eL := w.L.2
  have k' : Kp L H H' := k
  have np : own p = none := by
    cases q : own p with
    | none => rfl
    | some r =>
      obtain ⟨o, z, _⟩ := w.dom p r q
      rw [hp] at z
      cases z
  have ow : ∀ {y : Addr} {r : Role}, own y = some r → (if y = p then some Role.a else own y) = some r := fun {y r} h1 => by
    rw [if_neg (fun e2 => by rw [e2, np] at h1; cases h1)]
    exact h1
  have kq : ∀ {y : Addr} {r : Role} {o : HO}, own y = some r → r ≠ .L → H y = some o → H' y = some o := fun hy h1 hH => k _ _ (own_ne hy oL h1) hH
  refine ⟨fun y => if y = p then some .a else own y, fun i => if i = j then p else a i,
  { dom := fun q r e => by
      have e : (if q = p then some Role.a else own q) = some r := e
      by_cases z : q = p
      · rw [z]
        exact ⟨_, e1, nt_lst⟩
      · rw [if_neg z] at e
        by_cases z2 : q = L
        · rw [z2]
          exact ⟨_, e2, nt_lst⟩
        · obtain ⟨o, e3, e4⟩ := w.dom q r e
          exact ⟨o, k _ _ z2 e3, e4⟩
    hand := w.hand.mv (.of k') (own_ne w.oh oL (by intro z; cases z)) (own_ne w.og oL (by intro z; cases z))
    oh := ow w.oh
    og := ow w.og
    x := ⟨ow w.x.1, by obtain ⟨dx, e⟩ := w.x.2; exact ⟨dx, kq w.x.1 (by intro z; cases z) e⟩⟩
    R := ⟨ow w.R.1, kq w.R.1 (by intro z; cases z) w.R.2⟩
    b := fun i hi => ⟨ow (w.b i hi).1, kq (w.b i hi).1 (by intro z; cases z) (w.b i hi).2⟩
    L := ⟨ow oL, by rw [e2, rowsV_set hj]⟩
    a := fun i hi => by
      show (if (if i = j then p else a i) = p then some Role.a else own (if i = j then p else a i)) = some .a ∧ H' (if i = j then p else a i) = some (.lst (if i = j then new else d i))
      by_cases z : i = j
      · rw [if_pos z, if_pos z, if_pos rfl]
        exact ⟨rfl, e1⟩
      · rw [if_neg z, if_neg z]
        exact ⟨ow (w.a i hi).1, kq (w.a i hi).1 (by intro z; cases z) (w.a i hi).2⟩
    kc := fun i hi => (w.kc i hi).mv eL (.of k')
    kk := fun i hi => by
      show KeysAt H' kd (if i = j then new else d i)
      by_cases z : i = j
      · rw [if_pos z]
        exact ks.mv eL (.of k')
      · rw [if_neg z]
        exact (w.kk i hi).mv eL (.of k')
    lc := w.lc
    ld := fun i hi => by
      show (if i = j then new else d i).length ≤ B
      by_cases z : i = j
      · rw [if_pos z]
        exact hl
      · rw [if_neg z]
        exact w.ld i hi
    pw := w.pw
    tb := w.tb.kp k' ⟨_, eL, nt_lst, fun _ z => by cases z⟩ }, fun v hv => ?_⟩
  by_cases z : v = .ref p
  · exact .inr z
  · refine .inl fun y e => ?_
    show (if y = p then some Role.a else own y) = none ∨ (if y = p then some Role.a else own y) = some .x
    rw [if_neg (fun e2 => z (by rw [e, e2]))]
    exact hv y e
end

/-! ### data of keys -/
def keyD (p : Int × Int) : PyData := .tuple [.int p.1, .int p.2]
def rowD (kd : V → Int × Int) (xs : List V) : List PyData := xs.map fun v => keyD (kd v)
theorem lay_key (p : Int × Int) : (keyD p).canLay0 = true := rfl
theorem dep_key (p : Int × Int) : (keyD p).depth = 1 := rfl
theorem lay_row (kd : V → Int × Int) : ∀ xs : List V, PyData.canLayAll0 (rowD kd xs) = true
  | [] => rfl
  | x :: xs => by
    show (PyData.canLay0 (keyD (kd x)) && PyData.canLayAll0 (rowD kd xs)) = true
    rw [lay_key, lay_row kd xs]
    rfl
theorem dep_row (kd : V → Int × Int) : ∀ xs : List V, PyData.depthAll (rowD kd xs) ≤ 1
  | [] => Nat.zero_le _
  | x :: xs => by
    show max (PyData.depth (keyD (kd x))) (PyData.depthAll (rowD kd xs)) ≤ 1
    rw [dep_key]
    exact Nat.max_le.mpr ⟨Nat.le_refl _, dep_row kd xs⟩
theorem sh_key (p : Int × Int) : SeqAt.shaped (keyD p) = true := rfl
def tabD (kd : V → Int × Int) (c : Nat → List V) : List Nat → List PyData
  | [] => []
  | j :: js => .tuple (rowD kd (c j)) :: tabD kd c js
theorem lay_tab (kd : V → Int × Int) (c : Nat → List V) : ∀ js : List Nat, PyData.canLayAll0 (tabD kd c js) = true
  | [] => rfl
  | j :: js => by
    show (PyData.canLayAll0 (rowD kd (c j)) && PyData.canLayAll0 (tabD kd c js)) = true
    rw [lay_row, lay_tab kd c js]
    rfl
theorem dep_tab (kd : V → Int × Int) (c : Nat → List V) : ∀ js : List Nat, PyData.depthAll (tabD kd c js) ≤ 2
  | [] => Nat.zero_le _
  | j :: js => by
    show max (PyData.depthAll (rowD kd (c j)) + 1) (PyData.depthAll (tabD kd c js)) ≤ 2
    exact Nat.max_le.mpr ⟨Nat.succ_le_succ (dep_row kd _), dep_tab kd c js⟩
theorem sh_tab (kd : V → Int × Int) (c : Nat → List V) (js : List Nat) : SeqAt.shaped (.list (tabD kd c js)) = true := by
  unfold SeqAt.shaped
  have h1 : PyData.canLay0 (.list (tabD kd c js)) = true := lay_tab kd c js
  have h2 : PyData.depth (.list (tabD kd c js)) ≤ 64 := Nat.le_trans (Nat.succ_le_succ (dep_tab kd c js)) (by decide)
  rw [h1, decide_eq_true h2]
  rfl
theorem dp_key {K : PySem.W.Frag} {H : Hp} {a : Addr} {p : Int × Int} (h : Tup2 H a p) : Dp K H (.ref a) (keyD p) := .tup (SqT.of h) (.cons (.int _) (.cons (.int _) .nil))
theorem dp_row {K : PySem.W.Frag} {H : Hp} {kd : V → Int × Int} : ∀ {xs : List V}, KeysAt H kd xs → DpAll K H xs (rowD kd xs)
  | [], _ => .nil
  | x :: xs, h => by
    obtain ⟨a, rfl, ha⟩ := h x List.mem_cons_self
    exact .cons (dp_key ha) (dp_row fun v hv => h v (List.mem_cons_of_mem _ hv))
theorem dp_tab {K : PySem.W.Frag} {H : Hp} {kd : V → Int × Int} {c : Nat → List V} {t : Nat → Addr} : ∀ {js : List Nat}, (∀ j ∈ js, H (t j) = some (.tup (c j)) ∧ KeysAt H kd (c j)) → DpAll K H (js.map fun j => V.ref (t j)) (tabD kd c js)
  | [], _ => .nil
  | j :: js, h => by
    obtain ⟨h1, h2⟩ := h j List.mem_cons_self
    exact .cons (.tup (SqT.of h1) (dp_row h2)) (dp_tab fun i hi => h i (List.mem_cons_of_mem _ hi))
theorem insK_mem {kd : V → Int × Int} {k v : V} {xs : List V} (h : v ∈ insK kd k xs) : v = k ∨ v ∈ xs := by
  unfold insK at h
  rw [List.append_assoc, List.mem_append, List.mem_append, List.mem_singleton] at h
  rcases h with h | h | h
  · exact .inr (List.mem_of_mem_take h)
  · exact .inl h
  · exact .inr (List.mem_of_mem_drop h)
theorem insK_len {kd : V → Int × Int} {k : V} {xs : List V} : (insK kd k xs).length = xs.length + 1 := by
  unfold insK
  rw [List.length_append, List.length_append, List.length_take, List.length_drop, List.length_singleton]
  have := less_le kd k xs
  omega
theorem ixN_at {n j : Nat} (h : j < n) : ixN n (j : Int) = some j := by
  unfold ixN
  rw [if_pos (by omega), if_pos (by omega), Int.toNat_natCast]
/-! ### one turn -/
def wd2 (t1 : Addr) (bo bk : Bool) : V → Str × Bool := fun v => if v = .ref t1 then ("output", bo) else ("key", bk)
def wd3 (t1 t3 : Addr) (bo bk b3 : Bool) (w3 : Str) : V → Str × Bool := fun v => if v = .ref t1 then ("output", bo) else if v = .ref t3 then (w3, b3) else ("key", bk)
def w1 (bo : Bool) : Str := if bo then "let" else "output"
def w2 (bo bk : Bool) : Str := if bo then (if bk then "let" else "key") else "output"
def w3 (bo bk b3 : Bool) : Str := if bo then (if bk then (if b3 then "let" else "there") else "key") else "output"
def w4 (bo b3 : Bool) : Str := if bo then (if b3 then "let" else "nothing") else "output"
theorem vne {a b : Addr} (h : a ≠ b) : V.ref a ≠ V.ref b := fun e => h (V.ref.inj e)
theorem fw1 {t1 : Addr} {bo bk : Bool} : firstW (wd2 t1 bo bk) [.ref t1] = w1 bo := by
  unfold firstW wd2 w1
  cases bo <;> simp
theorem fw2 {t1 t2 : Addr} {bo bk : Bool} (h : t1 ≠ t2) : firstW (wd2 t1 bo bk) [.ref t1, .ref t2] = w2 bo bk := by
  unfold firstW wd2 w2
  cases bo <;> cases bk <;> simp [vne h.symm]
theorem fw3 {t1 t2 t3 : Addr} {bo bk b3 : Bool} (h : t1 ≠ t2) (h3 : t1 ≠ t3) (h4 : t2 ≠ t3) : firstW (wd3 t1 t3 bo bk b3 "there") [.ref t1, .ref t2, .ref t3] = w3 bo bk b3 := by
  unfold firstW wd3 w3
  cases bo <;> cases bk <;> cases b3 <;> simp [vne h.symm, vne h3.symm, vne h4]
theorem fw4 {t1 t3 : Addr} {bo bk b3 : Bool} (h3 : t1 ≠ t3) : firstW (wd3 t1 t3 bo bk b3 "nothing") [.ref t1, .ref t3] = w4 bo b3 := by
  unfold firstW wd3 w4
  cases bo <;> cases b3 <;> simp [vne h3.symm]
theorem LI.off {A : Adr} {h g x R L : Addr} {n B : Nat} {own : Addr → Option Role} {b a : Nat → Addr} {c d : Nat → List V} {kd : V → Int × Int} {H Hi : Hp} {v : V} (w : LI A h g x R L n B own b a c d kd H) (s : Good A.c_Ideal H (.ref x) Hi v) : Off own v := fun y e => by
  rcases s.2 y e with q | q
  · refine .inl ?_
    cases z : own y with
    | none => rfl
    | some r =>
      obtain ⟨o, e2, _⟩ := w.dom y r z
      rw [q] at e2
      cases e2
  · rw [e] at q
    cases q
    exact .inr w.x.1
theorem LI.new {A : Adr} {h g x R L : Addr} {n B : Nat} {own : Addr → Option Role} {b a : Nat → Addr} {c d : Nat → List V} {kd : V → Int × Int} {H : Hp} {p : Addr} (w : LI A h g x R L n B own b a c d kd H) (hp : H p = none) : Off own (.ref p) := fun y e => by
  cases e
  refine .inl ?_
  cases z : own p with
  | none => rfl
  | some r =>
    obtain ⟨o, e2, _⟩ := w.dom p r z
    rw [hp] at e2
    cases e2
def KX (kd : V → Int × Int) (kv : V) (bk : Bool) (H : Hp) : Prop := bk = true → ∃ ka, kv = .ref ka ∧ Tup2 H ka (kd (.ref ka)) ∧ KeyOk (kd (.ref ka))
structure TI (A : Adr) (h g x R L : Addr) (n B : Nat) (b : Nat → Addr) (v kv : V) (bo bk : Bool) (lp t1 t2 : Addr) (own : Addr → Option Role) (a : Nat → Addr) (c d : Nat → List V) (kd : V → Int × Int) (H : Hp) : Prop where
  w : LI A h g x R L n B own b a c d kd H
  tv : Thg A.c_Ideal H v
  ov : Off own v
  tk : Thg A.c_Ideal H kv
  ok : Off own kv
  eo : inI 0 ((n : Int) - 1) v = bo
  ek : keyB H kv = bk
  el : H lp = some (.lst [.ref t1, .ref t2])
  e1 : H t1 = some (.tup [.str "output", .bl bo])
  e2 : H t2 = some (.tup [.str "key", .bl bk])
  ne : t1 ≠ t2
  ol : Off own (.ref lp)
  kx : KX kd kv bk H
section
variable {A : Adr} {h g x R L lp t1 t2 : Addr} {n B : Nat} {own own' : Addr → Option Role} {b a a' : Nat → Addr} {c d c' d' : Nat → List V} {kd kd' : V → Int × Int} {H H' : Hp} {v kv : V} {bo bk : Bool}
theorem TI.mv {y : Addr} {ys : List V} (t : TI A h g x R L n B b v kv bo bk lp t1 t2 own a c d kd H) (w : LI A h g x R L n B own' b a' c' d' kd H') (k : Mv y H H') (hy : H y = some (.lst ys)) (n1 : v ≠ .ref y) (n2 : kv ≠ .ref y) (n3 : lp ≠ y)
    (o1 : Off own' v) (o2 : Off own' kv) (o3 : Off own' (.ref lp)) : TI A h g x R L n B b v kv bo bk lp t1 t2 own' a' c' d' kd H' where
  w := w
  tv := t.tv.mv k n1
  ov := o1
  tk := t.tk.mv k n2
  ok := o2
  eo := t.eo
  ek := (keyB_mv t.tk k n2).trans t.ek
  el := k _ _ n3 t.el nt_lst
  e1 := k _ _ (ne_of t.e1 hy (by intro z; cases z)) t.e1 nt_tup
  e2 := k _ _ (ne_of t.e2 hy (by intro z; cases z)) t.e2 nt_tup
  ne := t.ne
  ol := o3
  kx := fun e => by
    obtain ⟨ka, e1, e2, e3⟩ := t.kx e
    exact ⟨ka, e1, k _ _ (fun z => n2 (by rw [e1, z])) e2 nt_tup, e3⟩
theorem Off.nr {r : Role} {y : Addr} (o : Off own (.ref lp)) (e : own y = some r) (hr : r ≠ .x) : lp ≠ y := fun z => o.ne e hr (by rw [z])
theorem TI.hand (t : TI A h g x R L n B b v kv bo bk lp t1 t2 own a c d kd H) (k : Mv h H H') (ha : HandAt H' h g) (tb : Tb A.tb_law qlam_law H') : TI A h g x R L n B b v kv bo bk lp t1 t2 own a c d kd H' := by
  obtain ⟨i, m, s, tt, e, _⟩ := t.w.hand.five
  exact t.mv (t.w.handed k ha tb) k e (t.ov.ne t.w.oh (by intro z; cases z)) (t.ok.ne t.w.oh (by intro z; cases z)) (t.ol.nr t.w.oh (by intro z; cases z)) t.ov t.ok t.ol
theorem TI.same (t : TI A h g x R L n B b v kv bo bk lp t1 t2 own a c d kd H) (s : Same H H') : TI A h g x R L n B b v kv bo bk lp t1 t2 own a c d kd H' := t.hand (.same s) (t.w.hand.same s) (t.w.tb.same s)
theorem TI.ext (t : TI A h g x R L n B b v kv bo bk lp t1 t2 own a c d kd H) (k : LamX.ExtN H H') (tb : Tb A.tb_law qlam_law H') : TI A h g x R L n B b v kv bo bk lp t1 t2 own a c d kd H' := t.hand (.ext k) (t.w.ext k tb).hand tb
theorem TI.kp (t : TI A h g x R L n B b v kv bo bk lp t1 t2 own a c d kd H) (k : Kp h H H') (ha : HandAt H' h g) : TI A h g x R L n B b v kv bo bk lp t1 t2 own a c d kd H' := t.hand (.of k) ha (t.w.tb.hand k t.w.hand)
theorem TI.wds (t : TI A h g x R L n B b v kv bo bk lp t1 t2 own a c d kd H) : WordsAt H (wd2 t1 bo bk) [.ref t1, .ref t2] := fun u hu => by
  simp only [List.mem_cons, List.not_mem_nil, or_false] at hu
  rcases hu with e | e
  · refine ⟨t1, e, ?_⟩
    rw [e]
    show H t1 = some (.tup [.str (wd2 t1 bo bk (.ref t1)).1, .bl (wd2 t1 bo bk (.ref t1)).2])
    unfold wd2
    rw [if_pos rfl]
    exact t.e1
  · refine ⟨t2, e, ?_⟩
    rw [e]
    show H t2 = some (.tup [.str (wd2 t1 bo bk (.ref t2)).1, .bl (wd2 t1 bo bk (.ref t2)).2])
    unfold wd2
    rw [if_neg (vne t.ne.symm)]
    exact t.e2
theorem WordsAt.sub {wd : V → Str × Bool} {xs ys : List V} (w : WordsAt H wd xs) (s : ∀ v ∈ ys, v ∈ xs) : WordsAt H wd ys := fun v hv => w v (s v hv)
theorem TI.wds3 {t3 : Addr} {b3 : Bool} {w3 : Str} (t : TI A h g x R L n B b v kv bo bk lp t1 t2 own a c d kd H) (e3 : H t3 = some (.tup [.str w3, .bl b3])) (n1 : t1 ≠ t3) (n2 : t2 ≠ t3) : WordsAt H (wd3 t1 t3 bo bk b3 w3) [.ref t1, .ref t2, .ref t3] := fun u hu => by
  simp only [List.mem_cons, List.not_mem_nil, or_false] at hu
  rcases hu with e | e | e
  · refine ⟨t1, e, ?_⟩
    rw [e]
    show H t1 = some (.tup [.str (wd3 t1 t3 bo bk b3 w3 (.ref t1)).1, .bl (wd3 t1 t3 bo bk b3 w3 (.ref t1)).2])
    unfold wd3
    rw [if_pos rfl]
    exact t.e1
  · refine ⟨t2, e, ?_⟩
    rw [e]
    show H t2 = some (.tup [.str (wd3 t1 t3 bo bk b3 w3 (.ref t2)).1, .bl (wd3 t1 t3 bo bk b3 w3 (.ref t2)).2])
    unfold wd3
    rw [if_neg (vne t.ne.symm), if_neg (vne n2)]
    exact t.e2
  · refine ⟨t3, e, ?_⟩
    rw [e]
    show H t3 = some (.tup [.str (wd3 t1 t3 bo bk b3 w3 (.ref t3)).1, .bl (wd3 t1 t3 bo bk b3 w3 (.ref t3)).2])
    unfold wd3
    rw [if_neg (vne n1.symm), if_pos rfl]
    exact e3
theorem TI.kd_eq (t : TI A h g x R L n B b v kv bo bk lp t1 t2 own a c d kd H) {ka : Addr} {p : Int × Int} (e : kv = .ref ka) (ep : Tup2 H ka p) (h : KeyOk p) : bk = true ∧ kd (.ref ka) = p := by
  have hb : bk = true := t.ek.symm.trans (by
    rw [e, keyB_at ep]
    obtain ⟨h1, h2, h3, h4⟩ := h
    show ((decide (-1000000000000000000 ≤ p.1) && decide (p.1 ≤ 1000000000000000000)) && (decide (0 ≤ p.2) && decide (p.2 ≤ 1000000000))) = true
    rw [decide_eq_true h1, decide_eq_true h2, decide_eq_true h3, decide_eq_true h4]
    rfl)
  obtain ⟨ka', e1, e2, _⟩ := t.kx hb
  rw [e] at e1
  cases e1
  have q : (some (HO.tup [.int (kd (.ref ka)).1, .int (kd (.ref ka)).2]) : Option HO) = some (.tup [.int p.1, .int p.2]) := e2.symm.trans ep
  injection q with q
  injection q with q
  injection q with q1 q2
  injection q2 with q2 _
  exact ⟨hb, Prod.ext (V.int.inj q1) (V.int.inj q2)⟩
theorem TI.more {B' : Nat} (t : TI A h g x R L n B b v kv bo bk lp t1 t2 own a c d kd H) (hB : B ≤ B') : TI A h g x R L n B' b v kv bo bk lp t1 t2 own a c d kd H := { t with w := t.w.more hB }
theorem TI.setb (t : TI A h g x R L n B b v kv bo bk lp t1 t2 own a c d kd H) {j : Nat} {new : List V} (hj : j < n) (k : Kp (b j) H H') (e1 : H' (b j) = some (.lst new)) (ks : KeysAt H kd new) (hl : new.length ≤ B) (hpw : Pw kd new) :
    TI A h g x R L n B b v kv bo bk lp t1 t2 own a (fun i => if i = j then new else c i) d kd H' :=
  t.mv (t.w.setb hj k e1 ks hl hpw) (.of k) (t.w.b j hj).2 (t.ov.ne (t.w.b j hj).1 (by intro z; cases z)) (t.ok.ne (t.w.b j hj).1 (by intro z; cases z)) (t.ol.nr (t.w.b j hj).1 (by intro z; cases z)) t.ov t.ok t.ol
theorem TI.seta (t : TI A h g x R L n B b v kv bo bk lp t1 t2 own a c d kd H) {j : Nat} {new : List V} {p : Addr} (hj : j < n) (hp : H p = none) (k : ∀ q o, q ≠ L → H q = some o → H' q = some o) (e1 : H' p = some (.lst new)) (e2 : H' L = some (.lst ((rowsV n a).set j (.ref p)))) (ks : KeysAt H kd new) (hl : new.length ≤ B) :
    ∃ own' a', TI A h g x R L n B b v kv bo bk lp t1 t2 own' a' c (fun i => if i = j then new else d i) kd H' := by
  obtain ⟨own', a', w, ho⟩ := t.w.seta hj hp k e1 e2 ks hl
  have f : ∀ {u : V}, Thg A.c_Ideal H u → u ≠ .ref p := fun {u} z e => by
    rw [e] at z
    obtain ⟨o, q⟩ := z.there
    rw [hp] at q
    cases q
  refine ⟨own', a', t.mv w (.of (show Kp L H H' from k)) t.w.L.2 (t.ov.ne t.w.L.1 (by intro z; cases z)) (t.ok.ne t.w.L.1 (by intro z; cases z)) (t.ol.nr t.w.L.1 (by intro z; cases z)) ?_ ?_ ?_⟩
  · exact (ho v t.ov).resolve_right (f t.tv)
  · exact (ho kv t.ok).resolve_right (f t.tk)
  · exact (ho (.ref lp) t.ol).resolve_right (f (.lst t.el))
end
theorem inI_of {v : V} {j n : Nat} (e : v = .int (j : Int)) (h : j < n) : inI 0 ((n : Int) - 1) v = true := by
  rw [e]
  show (decide ((0 : Int) ≤ j) && decide ((j : Int) ≤ (n : Int) - 1)) = true
  rw [decide_eq_true (by omega), decide_eq_true (by omega)]
  rfl
theorem keyB_of {H : Hp} {ka : Addr} {p : Int × Int} (e : Tup2 H ka p) (h : KeyOk p) : keyB H (.ref ka) = true := by
  rw [keyB_at e]
  obtain ⟨h1, h2, h3, h4⟩ := h
  show ((decide (-1000000000000000000 ≤ p.1) && decide (p.1 ≤ 1000000000000000000)) && (decide (0 ≤ p.2) && decide (p.2 ≤ 1000000000))) = true
  rw [decide_eq_true h1, decide_eq_true h2, decide_eq_true h3, decide_eq_true h4]
  rfl
theorem LI.kx {A : Adr} {h g x R L : Addr} {n B : Nat} {own : Addr → Option Role} {b a : Nat → Addr} {c d : Nat → List V} {kd : V → Int × Int} {H : Hp} {kv : V} (w : LI A h g x R L n B own b a c d kd H) (t : Thg A.c_Ideal H kv) : ∃ kd', LI A h g x R L n B own b a c d kd' H ∧ KX kd' kv (keyB H kv) H := by
  cases e : keyB H kv with
  | false => exact ⟨kd, w, fun z => by cases z⟩
  | true =>
    obtain ⟨ka, p, rfl, e2, e3⟩ := keyB_pair t e
    refine ⟨_, w.key e2, fun _ => ⟨ka, rfl, ?_, ?_⟩⟩
    · rw [if_pos rfl]
      exact e2
    · rw [if_pos rfl]
      exact e3

section
variable {P : Program} {w : World} {K : PySem.W.Frag} {mg : Str → Option Value} {base : Heap} {A : Adr}
def rTupS (K : PySem.W.Frag) : List V → Hp → VK → Prop := fun xs H Q => ∃ p ys, xs = [.ref p] ∧ ((SqL K H p ys ∧ ∀ l, H l = none → Q (.ref l) (upd H l (.tup ys))) ∨ (SqT K H p ys ∧ Q (.ref p) H))
theorem kp_same {x : Addr} {H H' : Hp} (s : Same H H') : Kp x H H' := kp_of s x
def spLaw (K : PySem.W.Frag) (A : Adr) : Sp := fun vs H Q _ => ∃ (a : Addr) (ns : List Int), vs = [.ref a] ∧ SqL K H a (ns.map V.int) ∧ ns.length ≤ 63 ∧ Tb A.tb_law qlam_law H ∧ ∀ H', Q (.bl true) H'
theorem same_ext {H H1 H2 : Hp} (x : LamX.ExtN H H1) (s : Same H1 H2) : LamX.ExtN H H2 := fun b o e n => s b o (x b o e n)
theorem ins_same {H : Hp} {x dx : Addr} {C : Addr} (nx : H x = none) (ndx : H dx = none) (ne : dx ≠ x) : Same H (upd (upd H dx (.own x)) x (.ins C dx [])) := fun q o e => by
  rw [upd_ne (ne_of_none e nx), upd_ne (ne_of_none e ndx)]
  exact e
open Classical in
noncomputable def own0 (h g x R L : Addr) (n : Nat) (b a : Nat → Addr) (y : Addr) : Option Role :=
  if y = h then some .h else if y = g then some .g else if y = x then some .x else if y = R then some .R else if y = L then some .L else
    if z : ∃ j, j < n ∧ y = b j then some (.b (Classical.choose z)) else if ∃ j, j < n ∧ y = a j then some .a else none
/-- the start: a new ideal switch and empty rows -/
theorem LI.start {h g x R L : Addr} {n : Nat} {b a : Nat → Addr} {H : Hp} (hand : HandAt H h g) (ex : ∃ dx, H x = some (.ins A.c_Ideal dx [("_rows", .ref R)])) (eR : H R = some (.lst (rowsV n b))) (eb : ∀ j, j < n → H (b j) = some (.lst []))
    (eL : H L = some (.lst (rowsV n a))) (ea : ∀ j, j < n → H (a j) = some (.lst [])) (hR : R ≠ h ∧ R ≠ g) (hL : L ≠ h ∧ L ≠ g ∧ L ≠ R) (hb : ∀ j, j < n → b j ≠ h ∧ b j ≠ g ∧ b j ≠ R ∧ b j ≠ L) (ha : ∀ j, j < n → a j ≠ h ∧ a j ≠ g ∧ a j ≠ R ∧ a j ≠ L ∧ ∀ i, i < n → a j ≠ b i)
    (inj : ∀ i j, i < n → j < n → b i = b j → i = j) (tb : Tb A.tb_law qlam_law H) : LI A h g x R L n 0 (own0 h g x R L n b a) b a (fun _ => []) (fun _ => []) (fun _ => (0, 0)) H := by
  obtain ⟨dx, ex⟩ := ex
  obtain ⟨hi, hm, hs, ht, he, _⟩ := hand.five
  obtain ⟨gs, eg⟩ := hand.cells
  have xh : x ≠ h := ne_of ex he (by intro z; cases z)
  have xg : x ≠ g := ne_of ex eg (by intro z; cases z)
  have Rx : R ≠ x := ne_of eR ex (by intro z; cases z)
  have Lx : L ≠ x := ne_of eL ex (by intro z; cases z)
  have bx : ∀ j, j < n → b j ≠ x := fun j hj => ne_of (eb j hj) ex (by intro z; cases z)
  have ax : ∀ j, j < n → a j ≠ x := fun j hj => ne_of (ea j hj) ex (by intro z; cases z)
  have oh : own0 h g x R L n b a h = some .h := if_pos rfl
  have og : own0 h g x R L n b a g = some .g := by
    unfold own0
    rw [if_neg hand.ne.symm, if_pos rfl]
  have ox : own0 h g x R L n b a x = some .x := by
    unfold own0
    rw [if_neg xh, if_neg xg, if_pos rfl]
  have oR : own0 h g x R L n b a R = some .R := by
    unfold own0
    rw [if_neg hR.1, if_neg hR.2, if_neg Rx, if_pos rfl]
  have oL : own0 h g x R L n b a L = some .L := by
    unfold own0
    rw [if_neg hL.1, if_neg hL.2.1, if_neg Lx, if_neg hL.2.2, if_pos rfl]
  have ob : ∀ j, j < n → own0 h g x R L n b a (b j) = some (.b j) := fun j hj => by
    have z : ∃ i, i < n ∧ b j = b i := ⟨j, hj, rfl⟩
    obtain ⟨h1, h2, h3, h4⟩ := hb j hj
    unfold own0
    rw [if_neg h1, if_neg h2, if_neg (bx j hj), if_neg h3, if_neg h4, dif_pos z]
    have q := Classical.choose_spec z
    rw [← inj j _ hj q.1 q.2]
  have oa : ∀ j, j < n → own0 h g x R L n b a (a j) = some .a := fun j hj => by
    obtain ⟨h1, h2, h3, h4, h5⟩ := ha j hj
    unfold own0
    rw [if_neg h1, if_neg h2, if_neg (ax j hj), if_neg h3, if_neg h4, dif_neg (fun z => by obtain ⟨i, hi, e⟩ := z; exact h5 i hi e), if_pos ⟨j, hj, rfl⟩]
  exact
  { dom := fun p r e => by
      unfold own0 at e
      by_cases c1 : p = h
      · rw [c1]; exact ⟨_, he, nt_lst⟩
      rw [if_neg c1] at e
      by_cases c2 : p = g
      · rw [c2]; exact ⟨_, eg, nt_lst⟩
      rw [if_neg c2] at e
      by_cases c3 : p = x
      · rw [c3]; exact ⟨_, ex, nt_ins⟩
      rw [if_neg c3] at e
      by_cases c4 : p = R
      · rw [c4]; exact ⟨_, eR, nt_lst⟩
      rw [if_neg c4] at e
      by_cases c5 : p = L
      · rw [c5]; exact ⟨_, eL, nt_lst⟩
      rw [if_neg c5] at e
      by_cases c6 : ∃ j, j < n ∧ p = b j
      · obtain ⟨j, hj, ej⟩ := c6
        rw [ej]; exact ⟨_, eb j hj, nt_lst⟩
      rw [dif_neg c6] at e
      by_cases c7 : ∃ j, j < n ∧ p = a j
      · obtain ⟨j, hj, ej⟩ := c7
        rw [ej]; exact ⟨_, ea j hj, nt_lst⟩
      rw [if_neg c7] at e
      cases e
    hand := hand
    oh := oh
    og := og
    x := ⟨ox, dx, ex⟩
    R := ⟨oR, eR⟩
    b := fun j hj => ⟨ob j hj, eb j hj⟩
    L := ⟨oL, eL⟩
    a := fun j hj => ⟨oa j hj, ea j hj⟩
    kc := fun j hj v hv => by cases hv
    kk := fun j hj v hv => by cases hv
    lc := fun j hj => Nat.zero_le _
    ld := fun j hj => Nat.zero_le _
    pw := fun j hj => .nil
    tb := tb }
theorem ok_law (T : Top K mg A) (B : Tbs base mg A) : FnOk P w K mg base CX0 20 A.a_law A.d_law P_law (spLaw K A) := by
  refine T.L_law.ok sc_law (fun vs H Q E h => ?_) (fun A' outer s H vs Q E hr h => ?_)
  · obtain ⟨a, ns, rfl, _⟩ := h
    rfl
  · obtain ⟨sa, ns, rfl, hS, hn, tb0, kq⟩ := h
    refine ⟨_, (pss_cons (ps_set (i := 1) sc_law.nd rfl (.inl rfl) (pe_call (ok_law_hand T) (hr.mono (by decide)) (by rfl) T.g_law_hand T.F_law_hand.kp T.b_law_hand .nil pass0 (pa_cons (pv 0) pa_nil)))
    (pss_cons (ps_set (i := 13) sc_law.nd rfl (.inr rfl) (pe_call (ok_law_any T) (hr.mono (by decide)) (by rfl) T.g_law_any T.F_law_any.kp T.b_law_any .nil pass0 (pa_cons (pv 1) (pa_cons (pe_lst (pa_cons pe_int (pa_cons pe_int (pa_cons pe_int (pa_cons pe_int (pa_cons pe_int (pa_cons (pe_call (ok_law_odd T) (hr.mono (by decide)) (by rfl) T.g_law_odd T.F_law_odd.kp T.b_law_odd .nil pass0 (pa_cons (pv 1) (pa_cons pe_non pa_nil))) pa_nil))))))) pa_nil))))
    (Evl.pss_cut (ps_if (pt_cmpR op_ne (GX.pe_lam (k := 12) (T := [(A.tb_law, qlam_law)]) T.F_law_word sc_law_word (by rfl) T.g_law_word T.b_law_word rfl (.inl rfl) (gives_law_word T rfl rfl) B.t_law rfl (List.mem_singleton.mpr rfl) (fun p hp _ => by rw [List.mem_singleton.mp hp]; rfl) (hr.mono (by decide)) (show LamX.LamS (defScope s_law) _ from LamX.lamS_by (by decide +kernel)) rfl (fun _ _ _ _ _ => rfl) (fun _ _ _ _ _ _ _ hr => (pe_make T.mk_Ideal (ok_Ideal___init__ T) (hr.mono (by decide)) (by rfl) T.gc_Ideal T.b_Ideal___init__ .nil (GX.passX rfl rfl rfl rfl) (pa_cons (pv 13) pa_nil)))) (pe_ifExp (pt_val (pe_call (ok_law_is_int T) (hr.mono (by decide)) (by rfl) T.g_law_is_int T.F_law_is_int.kp T.b_law_is_int .nil pass0 (pa_cons (pv 13) (pa_cons pe_int (pa_cons pe_int pa_nil))))) pe_str pe_str) (nomark _)) (pss_one (ps_ret pe_bl)) pss_nil)
    (pss_cons (ps_set (i := 2) sc_law.nd rfl (.inl rfl) (pe_call (ok_law_any T) (hr.mono (by decide)) (by rfl) T.g_law_any T.F_law_any.kp T.b_law_any .nil pass0 (pa_cons (pv 1) (pa_cons (pe_lst (pa_cons pe_int (pa_cons pe_int (pa_cons pe_int pa_nil)))) pa_nil))))
    (pss_cons (ps_asg (pe_tup (pa_cons (pe_make T.mk_Ideal (ok_Ideal___init__ T) (hr.mono (by decide)) (by rfl) T.gc_Ideal T.b_Ideal___init__ .nil passL (pa_cons (pv 2) pa_nil)) (pa_cons (pe_lc (own := [("_law_output", 3)]) (by rfl) sc_law.nd (pi_range1 rfl T.z_range (pa_cons (pv 2) pa_nil)) (blkOk_by (own := [("_law_output", 3)]) (N := N_law) (sc := defScope s_law) (by decide +kernel)) (fun _ _ _ _ _ => (pg_name (i := 3) sc_law.nd rfl (.inl rfl))) (fun _ _ _ _ _ => pts_nil) (fun _ _ _ _ _ => (pe_lst pa_nil))) pa_nil))) (pg_tup rfl (pgs_cons (pg_name (i := 11) sc_law.nd rfl (.inr rfl)) (pgs_cons (pg_name (i := 4) sc_law.nd rfl (.inl rfl)) pgs_nil))))
    (pss_cons (ps_for PassesOwn.never rfl (pi_range1 rfl T.z_range (pa_cons pe_int pa_nil)) (pg_name (i := 5) sc_law.nd rfl (.inl rfl)) (Evl.pss_cut (ps_asg (pe_tup (pa_cons (pe_call (ok_law_any T) (hr.mono (by decide)) (by rfl) T.g_law_any T.F_law_any.kp T.b_law_any .nil pass0 (pa_cons (pv 1) (pa_cons (pe_lst (pa_cons pe_int (pa_cons (pe_op op_sub (pv 2) pe_int) (pa_cons (pv 2) (pa_cons (pe_un un_neg pe_int) (pa_cons (pe_call (ok_law_odd T) (hr.mono (by decide)) (by rfl) T.g_law_odd T.F_law_odd.kp T.b_law_odd .nil pass0 (pa_cons (pv 1) (pa_cons (pv 11) pa_nil))) pa_nil)))))) pa_nil))) (pa_cons (pe_call (ok_law_some_key T) (hr.mono (by decide)) (by rfl) T.g_law_some_key T.F_law_some_key.kp T.b_law_some_key .nil pass0 (pa_cons (pv 1) (pa_cons (pv 11) pa_nil))) pa_nil))) (pg_tup rfl (pgs_cons (pg_name (i := 3) sc_law.nd rfl (.inr rfl)) (pgs_cons (pg_name (i := 12) sc_law.nd rfl (.inr rfl)) pgs_nil))))
    (Evl.pss_cut (ps_par (by rfl) sc_law.nd (i := 6) (j := 7) rfl rfl (by decide) rfl rfl (pa_cons (pe_call (ok_law_is_int T) (hr.mono (by decide)) (by rfl) T.g_law_is_int T.F_law_is_int.kp T.b_law_is_int .nil pass0 (pa_cons (pv 3) (pa_cons pe_int (pa_cons (pe_op op_sub (pv 2) pe_int) pa_nil)))) (pa_cons (pe_call (ok_law_is_key T) (hr.mono (by decide)) (by rfl) T.g_law_is_key T.F_law_is_key.kp T.b_law_is_key .nil pass0 (pa_cons (pv 12) pa_nil)) pa_nil)) (by rfl))
    (pss_cons (ps_set (i := 8) sc_law.nd rfl (.inl rfl) (pe_lst (pa_cons (pe_tup (pa_cons pe_str (pa_cons (pv 6) pa_nil))) (pa_cons (pe_tup (pa_cons pe_str (pa_cons (pv 7) pa_nil))) pa_nil))))
    (Evl.pss_cut (ps_if (pt_cmpR op_ne (GX.pe_lam (k := 12) (T := [(A.tb_law, qlam_law)]) T.F_law_word sc_law_word (by rfl) T.g_law_word T.b_law_word rfl (.inl rfl) (gives_law_word T rfl rfl) B.t_law rfl (List.mem_singleton.mpr rfl) (fun p hp _ => by rw [List.mem_singleton.mp hp]; rfl) (hr.mono (by decide)) (show LamX.LamS (defScope s_law) _ from LamX.lamS_by (by decide +kernel)) rfl (fun _ _ _ _ _ => rfl) (fun _ _ _ _ _ _ _ hr => (pe_meth (pv 11) T.cl_Ideal T.m_Ideal_due (ok_Ideal_due T) (hr.mono (by decide)) T.b_Ideal_due .nil (GX.passX rfl rfl rfl rfl) (pa_cons (pv 3) pa_nil)))) (pe_call (ok_law_first T) (hr.mono (by decide)) (by rfl) T.g_law_first T.F_law_first.kp T.b_law_first .nil pass0 (pa_cons (pe_slice sl_list (pv 8) po_none (po_some pe_int)) pa_nil)) (nomark _)) (pss_one (ps_ret pe_bl)) pss_nil)
    (Evl.pss_cut (ps_if (pt_cmpR op_ne (GX.pe_lam (k := 12) (T := [(A.tb_law, qlam_law)]) T.F_law_word sc_law_word (by rfl) T.g_law_word T.b_law_word rfl (.inl rfl) (gives_law_word T rfl rfl) B.t_law rfl (List.mem_singleton.mpr rfl) (fun p hp _ => by rw [List.mem_singleton.mp hp]; rfl) (hr.mono (by decide)) (show LamX.LamS (defScope s_law) _ from LamX.lamS_by (by decide +kernel)) rfl (fun _ _ _ _ _ => rfl) (fun _ _ _ _ _ _ _ hr => (pe_meth (pv 11) T.cl_Ideal T.m_Ideal_held (ok_Ideal_held T) (hr.mono (by decide)) T.b_Ideal_held .nil (GX.passX rfl rfl rfl rfl) (pa_cons (pv 3) pa_nil)))) (pe_call (ok_law_first T) (hr.mono (by decide)) (by rfl) T.g_law_first T.F_law_first.kp T.b_law_first .nil pass0 (pa_cons (pe_slice sl_list (pv 8) po_none (po_some pe_int)) pa_nil)) (nomark _)) (pss_one (ps_ret pe_bl)) pss_nil)
    (Evl.pss_cut (ps_if (pt_cmpR op_ne (GX.pe_lam (k := 12) (T := [(A.tb_law, qlam_law)]) T.F_law_word sc_law_word (by rfl) T.g_law_word T.b_law_word rfl (.inl rfl) (gives_law_word T rfl rfl) B.t_law rfl (List.mem_singleton.mpr rfl) (fun p hp _ => by rw [List.mem_singleton.mp hp]; rfl) (hr.mono (by decide)) (show LamX.LamS (defScope s_law) _ from LamX.lamS_by (by decide +kernel)) rfl (fun _ _ _ _ _ => rfl) (fun _ _ _ _ _ _ _ hr => (pe_meth (pv 11) T.cl_Ideal T.m_Ideal_ahead (ok_Ideal_ahead T) (hr.mono (by decide)) T.b_Ideal_ahead .nil (GX.passX rfl rfl rfl rfl) (pa_cons (pv 3) (pa_cons (pv 12) pa_nil))))) (pe_call (ok_law_first T) (hr.mono (by decide)) (by rfl) T.g_law_first T.F_law_first.kp T.b_law_first .nil pass0 (pa_cons (pv 8) pa_nil)) (nomark _)) (pss_one (ps_ret pe_bl)) pss_nil)
    (Evl.pss_cut (ps_set (i := 9) sc_law.nd rfl (.inl rfl) (pe_or (pe_not (pv 6)) (pe_or (pe_not (pv 7)) (pe_one (pe_cmpR op_notIn_seq (pe_ix ix_tup (pv 12) pe_int (fun _ _ => rfl)) (pe_lc (own := [("_law_rank", 16), ("_law_cell", 17)]) (by rfl) sc_law.nd (pi_list (pe_ix ix_list (pv 4) (pv 3) (fun _ _ => rfl))) (blkOk_by (own := [("_law_rank", 16), ("_law_cell", 17)]) (N := N_law) (sc := defScope s_law) (by decide +kernel)) (fun _ _ _ _ _ => (show PG _ _ (gTup K 2 _) from (pg_tup rfl (pgs_cons (pg_name (i := 16) sc_law.nd rfl (.inl rfl)) (pgs_cons (pg_name (i := 17) sc_law.nd rfl (.inl rfl)) pgs_nil))))) (fun _ _ _ _ _ => pts_nil) (fun _ _ _ _ _ => (pv 17))) (by rfl))))))
    (pss_cons (ps_set (i := 10) sc_law.nd rfl (.inl rfl) (pe_call (ok_law_first T) (hr.mono (by decide)) (by rfl) T.g_law_first T.F_law_first.kp T.b_law_first .nil pass0 (pa_cons (pe_op op_cat (pv 8) (pe_lst (pa_cons (pe_tup (pa_cons pe_str (pa_cons (pv 9) pa_nil))) pa_nil))) pa_nil)))
    (Evl.pss_cut (ps_if (pt_cmpR op_ne (GX.pe_lam (k := 12) (T := [(A.tb_law, qlam_law)]) T.F_law_word sc_law_word (by rfl) T.g_law_word T.b_law_word rfl (.inl rfl) (gives_law_word T rfl rfl) B.t_law rfl (List.mem_singleton.mpr rfl) (fun p hp _ => by rw [List.mem_singleton.mp hp]; rfl) (hr.mono (by decide)) (show LamX.LamS (defScope s_law) _ from LamX.lamS_by (by decide +kernel)) rfl (fun _ _ _ _ _ => rfl) (fun _ _ _ _ _ _ _ hr => (pe_meth (pv 11) T.cl_Ideal T.m_Ideal_push (ok_Ideal_push T) (hr.mono (by decide)) T.b_Ideal_push .nil (GX.passX rfl rfl rfl rfl) (pa_cons (pv 3) (pa_cons (pv 12) pa_nil))))) (pv 10) (nomark _)) (pss_one (ps_ret pe_bl)) pss_nil)
    (Evl.pss_cut (ps_if (pt_cmpR op_eq (pv 10) pe_str (nomark _)) (pss_one (ps_asg (pe_call (ok_law_inserted T) (hr.mono (by decide)) (by rfl) T.g_law_inserted T.F_law_inserted.kp T.b_law_inserted .nil pass0 (pa_cons (pe_ix ix_list (pv 4) (pv 3) (fun _ _ => rfl)) (pa_cons (pv 12) pa_nil))) (pg_sub (pv 4) (pv 3) set_list))) pss_nil)
    (Evl.pss_cut (ps_if (pt_cmpR op_eq (pe_call (ok_law_draw T) (hr.mono (by decide)) (by rfl) T.g_law_draw T.F_law_draw.kp T.b_law_draw .nil pass0 (pa_cons (pv 1) (pa_cons pe_int pa_nil))) pe_int (nomark _)) (Evl.pss_cut (ps_set (i := 10) sc_law.nd rfl (.inl rfl) (pe_call (ok_law_first T) (hr.mono (by decide)) (by rfl) T.g_law_first T.F_law_first.kp T.b_law_first .nil pass0 (pa_cons (pe_op op_cat (pe_slice sl_list (pv 8) po_none (po_some pe_int)) (pe_lst (pa_cons (pe_tup (pa_cons pe_str (pa_cons (pe_and (pv 6) (pe_one (pe_cmpR op_gt (pe_callB call_len_seq (by rfl) T.z_len (by decide +kernel) (pa_cons (pe_ix ix_list (pv 4) (pv 3) (fun _ _ => rfl)) pa_nil)) pe_int (nomark _)))) pa_nil))) pa_nil))) pa_nil)))
    (Evl.pss_cut (ps_if (pt_cmpR op_ne (GX.pe_lam (k := 12) (T := [(A.tb_law, qlam_law)]) T.F_law_word sc_law_word (by rfl) T.g_law_word T.b_law_word rfl (.inl rfl) (gives_law_word T rfl rfl) B.t_law rfl (List.mem_singleton.mpr rfl) (fun p hp _ => by rw [List.mem_singleton.mp hp]; rfl) (hr.mono (by decide)) (show LamX.LamS (defScope s_law) _ from LamX.lamS_by (by decide +kernel)) rfl (fun _ _ _ _ _ => rfl) (fun _ _ _ _ _ _ _ hr => (pe_meth (pv 11) T.cl_Ideal T.m_Ideal_let_go (ok_Ideal_let_go T) (hr.mono (by decide)) T.b_Ideal_let_go .nil (GX.passX rfl rfl rfl rfl) (pa_cons (pv 3) pa_nil)))) (pv 10) (nomark _)) (pss_one (ps_ret pe_bl)) pss_nil)
    (pss_one (ps_if (pt_cmpR op_eq (pv 10) pe_str (nomark _)) (pss_one (ps_asg (pe_slice sl_list (pe_ix ix_list (pv 4) (pv 3) (fun _ _ => rfl)) (po_some pe_int) po_none) (pg_sub (pv 4) (pv 3) set_list))) pss_nil)))) pss_nil)
    (pss_one (ps_if (pt_cmpR (op_neD hr.units) (pe_lc (own := [("_law_one", 14)]) (by rfl) sc_law.nd (pi_range1 rfl T.z_range (pa_cons (pv 2) pa_nil)) (blkOk_by (own := [("_law_one", 14)]) (N := N_law) (sc := defScope s_law) (by decide +kernel)) (fun _ _ _ _ _ => (pg_name (i := 14) sc_law.nd rfl (.inl rfl))) (fun _ _ _ _ _ => pts_nil) (fun _ _ _ _ _ => (pe_meth (pv 11) T.cl_Ideal T.m_Ideal_held (ok_Ideal_held T) (hr.mono (by decide)) T.b_Ideal_held .nil passL (pa_cons (pv 14) pa_nil)))) (pe_lc (own := [("_law_row", 15)]) (by rfl) sc_law.nd (pi_list (pv 4)) (blkOk_by (own := [("_law_row", 15)]) (N := N_law) (sc := defScope s_law) (by decide +kernel)) (fun _ _ _ _ _ => (pg_name (i := 15) sc_law.nd rfl (.inl rfl))) (fun _ _ _ _ _ => pts_nil) (fun _ _ _ _ _ => (pe_callTy (show CallR _ _ (rTupS K) from call_tuple_of) (by rfl) T.z_tuple (by decide +kernel) (pa_cons (pv 15) pa_nil)))) (nomark _)) (pss_one (ps_ret pe_bl)) pss_nil))))))))))))))
    (pss_one (ps_ret pe_bl)))))))), ?_⟩
    -- the hand
    refine ⟨_, rfl, sa, ns, rfl, hS, hn, fun H1 h g s1 _ _ a1 => ?_⟩
    have tb1 := tb0.same s1
    -- many
    refine ⟨_, rfl, _, rfl, h, g, .non, rfl, a1, .atom trivial, (by intro z; cases z), fun H2 o k2 a2 g2 => ?_⟩
    refine ⟨(by show 6 ≤ sizeLine; decide), fun l nl => ?_⟩
    have hl := a2.ne_none nl
    have s2 := same_upd nl (o := .lst [.int 0, .int 1, .int 12, .int 13, .int 5, o])
    refine ⟨h, g, l, _, rfl, a2.same s2, SqL.of upd_same, fun H' b => SqL.of (by rw [b l hl]; exact upd_same), by show 0 < 6; decide, by show 6 ≤ 100000; decide, fun H3 j0 u b3 a3 hu => ?_⟩
    have gu : Good A.c_Ideal H1 .non H3 u := by
      refine good_kp (Hi := upd H2 l (.lst [.int 0, .int 1, .int 12, .int 13, .int 5, o])) ?_ b3.kp a1.some (by intro z; cases z)
      have hm := List.mem_of_getElem? hu
      simp only [List.mem_cons, List.not_mem_nil, or_false] at hm
      rcases hm with e | e | e | e | e | e <;> rw [e] <;> first | exact good_atom trivial | exact ⟨g2.1.same s2, g2.2⟩
    have k3 : Kp h H1 H3 := k2.trans (Kp.trans (kp_same s2) b3.kp)
    have tb3 : Tb A.tb_law qlam_law H3 := tb1.hand k3 a1
    -- Ideal(many)
    refine ⟨fun σ' H' => σ' = [some (.ref sa), some (.ref h), none, none, none, none, none, none, none, none, none, none, none, some u, none, none, none, none] ∧ HandAt H' h g ∧ Tb A.tb_law qlam_law H', ?_, ?_⟩
    · refine ⟨tb3, fun H4 x4 t4 E Q' hE hQ => ?_⟩
      have a4 : HandAt H4 h g := ⟨by obtain ⟨ns, e⟩ := a3.cells; exact ⟨ns, x4 _ _ e nt_lst⟩, by obtain ⟨i, m, s', t, e, q⟩ := a3.five; exact ⟨i, m, s', t, x4 _ _ e nt_lst, q⟩, a3.ne⟩
      have u4 : Thg A.c_Ideal H4 u := gu.1.mv (.ext x4) (h := h) fun z => by
        rcases gu.2 h z with q | q
        · exact absurd rfl (a1.ne_none q)
        · rw [q] at z
          cases z
      refine ⟨_, rfl, fun x dx nx ndx ne => ?_⟩
      have si := ins_same (C := A.c_Ideal) nx ndx ne
      refine ⟨x, dx, u, rfl, u4.same si, upd_same, fun c => ?_, fun n en n1 n2 H' R b k' _ _ _ _ _ _ => ⟨rfl, ?_⟩⟩
      · refine hE _ _ "lines" .lines fun H'' s'' => ?_
        have s5 := si.trans s''
        refine ⟨_, rfl, u, 1, 12, rfl, u4.same s5, ?_⟩
        rw [c]
        exact ⟨_, rfl, iteF ⟨rfl, _, rfl, iteF ⟨rfl, a4.same s5, Tb.same t4 s5⟩⟩⟩
      · refine hQ _ _ ?_
        have s5 : Same H4 H' := fun q o e => k' q o (ne_of_none e nx) (si q o e)
        refine ⟨_, rfl, u, 1, 12, rfl, u4.same s5, ?_⟩
        have c : inI 1 12 u = true := by
          rw [en]
          show (decide ((1 : Int) ≤ n) && decide ((n : Int) ≤ 12)) = true
          rw [decide_eq_true (by omega), decide_eq_true (by omega)]
          rfl
        rw [c]
        exact ⟨_, rfl, iteT ⟨rfl, _, rfl, iteF ⟨rfl, a4.same s5, Tb.same t4 s5⟩⟩⟩
    rintro σ' H4 ⟨rfl, a4, tb4⟩
    clear gu hu k3 tb3 a3 g2 s2 hl nl k2
    -- outputs
    refine ⟨_, rfl, (by show 3 ≤ sizeLine; decide), fun l nl => ?_⟩
    have hl := a4.ne_none nl
    have s5 := same_upd nl (o := .lst [.int 1, .int 3, .int 12])
    refine ⟨h, g, l, _, rfl, a4.same s5, SqL.of upd_same, fun H' b => SqL.of (by rw [b l hl]; exact upd_same), by show 0 < 3; decide, by show 3 ≤ 100000; decide, fun H5 j1 v b5 a5 hv => ?_⟩
    have tb5 := (tb4.same s5).hand b5.kp (a4.same s5)
    obtain ⟨n, rfl, hn1, hn2⟩ : ∃ n : Nat, v = .int (n : Int) ∧ 1 ≤ n ∧ n ≤ 12 := by
      have hm := List.mem_of_getElem? hv
      simp only [List.mem_cons, List.not_mem_nil, or_false] at hm
      rcases hm with e | e | e <;> rw [e]
      · exact ⟨1, rfl, by decide, by decide⟩
      · exact ⟨3, rfl, by decide, by decide⟩
      · exact ⟨12, rfl, by decide, by decide⟩
    -- ideal, rows = Ideal(outputs), [[] ..]
    refine ⟨_, rfl, fun x dx nx ndx ne => ?_⟩
    have si := ins_same (C := A.c_Ideal) nx ndx ne
    refine ⟨x, dx, .int (n : Int), rfl, .atom trivial, upd_same, fun c => ?_, fun n' en _ _ H6 R b k6 nR nb inj ex6 eR6 eb6 => ⟨rfl, ?_⟩⟩
    · have c' : (decide ((1 : Int) ≤ n) && decide ((n : Int) ≤ 12)) = false := c
      rw [decide_eq_true (by omega), decide_eq_true (by omega)] at c'
      cases c'
    cases V.int.inj en
    have s6 : Same H5 H6 := fun q o e => k6 q o (ne_of_none e nx) (si q o e)
    have a6 := a5.same s6
    have tb6 := tb5.same s6
    refine ⟨_, rfl, (n : Int), rfl, by omega, by omega, fun D hD => ?_⟩
    refine lc_range (lo := 0) (n := (n : Int).toNat) (fun i H' => ∃ a : Nat → Addr, Same H6 H' ∧ H' D = some (.lst (rowsV i a)) ∧ ∀ j, j < i → H6 (a j) = none ∧ a j ≠ D ∧ H' (a j) = some (.lst []))
      ⟨fun _ => 0, same_upd hD, upd_same, fun j hj => absurd hj (Nat.not_lt_zero _)⟩ ?_ ?_
    · rintro i H' hi ⟨a, s1, d1, hb⟩
      refine ⟨rfl, ?_⟩
      refine ⟨Nat.zero_le _, fun p hp => ?_⟩
      have hpD : p ≠ D := fun e => by
        rw [e, d1] at hp
        cases hp
      have s2 : Same H6 (upd H' p (.lst [])) := same_to s1 (s1.free hp)
      refine ⟨_, by rw [upd_ne hpD.symm]; exact d1, ?_, fun j => if j = i then p else a j, same_to s2 hD, ?_, ?_⟩
      · rw [rowsV_len]
        exact small1000 (by omega)
      · rw [upd_same, rowsV_succ, if_pos rfl]
        congr 2
        congr 1
        exact rowsV_congr fun j hj => (if_neg (Nat.ne_of_lt hj)).symm
      · intro j hj
        dsimp only
        by_cases e : j = i
        · rw [if_pos e]
          exact ⟨s1.free hp, hpD, by rw [upd_ne hpD, upd_same]⟩
        · rw [if_neg e]
          obtain ⟨q1, q2, q3⟩ := hb j (by omega)
          exact ⟨q1, q2, by rw [upd_ne q2, upd_ne (ne_of_none q3 hp)]; exact q3⟩
    rintro H7 ⟨a, s7, d7, ha7⟩
    rw [Int.toNat_natCast] at d7 ha7
    refine ⟨(by show 2 ≤ sizeLine; decide), fun p np => ?_⟩
    have s8 := same_upd np (o := .tup [.ref x, .ref D])
    have h6 := a6.some
    have hx0 : ∀ {q : Addr}, H5 q = none → q ≠ h ∧ q ≠ g := fun {q} e => by
      obtain ⟨i, m, s', t, e1, _⟩ := a5.five
      obtain ⟨gs, e2⟩ := a5.cells
      exact ⟨(ne_of_none e1 e).symm, (ne_of_none e2 e).symm⟩
    have w8 : LI A h g x R D n 0 (own0 h g x R D n b a) b a (fun _ => []) (fun _ => []) (fun _ => (0, 0)) (upd H7 p (.tup [.ref x, .ref D])) := by
      have sf : ∀ {q : Addr}, H6 q = none → H5 q = none := fun {q} e => s6.free e
      have nb5 : ∀ j, j < n → H5 (b j) = none := fun j hj => si.free (nb j hj).1
      have nR5 : H5 R = none := si.free nR
      refine LI.start ((a6.same s7).same s8) ⟨dx, s8 _ _ (s7 _ _ ex6)⟩ (s8 _ _ (s7 _ _ eR6)) (fun j hj => s8 _ _ (s7 _ _ (eb6 j hj))) (s8 _ _ d7) (fun j hj => s8 _ _ (ha7 j hj).2.2) (hx0 nR5)
        ⟨(hx0 (sf hD)).1, (hx0 (sf hD)).2, (ne_of_none eR6 hD).symm⟩ (fun j hj => ⟨(hx0 (nb5 j hj)).1, (hx0 (nb5 j hj)).2, (nb j hj).2, ne_of_none (eb6 j hj) hD⟩)
        (fun j hj => ⟨(hx0 (sf (ha7 j hj).1)).1, (hx0 (sf (ha7 j hj).1)).2, (ne_of_none eR6 (ha7 j hj).1).symm, (ha7 j hj).2.1, fun i hi => (ne_of_none (eb6 i hi) (ha7 j hj).1).symm⟩) inj ((tb6.same s7).same s8)
    refine ⟨p, _, rfl, SqT.of upd_same, rfl, _, _, rfl, _, _, rfl, rfl, ?_⟩
    generalize own0 h g x R D n b a = ow0 at w8
    generalize (upd H7 p (.tup [.ref x, .ref D])) = H8 at w8
    clear s8 np ha7 d7 s7 s6 a6 tb6 hD nR nb inj ex6 eR6 eb6 k6 a5 tb5 hl nl s5 a4 tb4 h6 hx0 si nx ndx ne b5 hv en
    -- for turn in range(10)
    refine ⟨10, rfl, by decide, by decide, for_range (lo := 0) (n := 10) (fun i σ H' => ∃ (y3 y5 y6 y7 y8 y9 y10 y12 : Option V) (own : Addr → Option Role) (a : Nat → Addr) (c : Nat → List V) (kd : V → Int × Int),
        σ = [some (.ref sa), some (.ref h), some (.int (n : Int)), y3, some (.ref D), y5, y6, y7, y8, y9, y10, some (.ref x), y12, some u, none, none, none, none] ∧ LI A h g x R D n i own b a c c kd H')
      ⟨_, _, _, _, _, _, _, _, ow0, a, _, _, rfl, w8⟩ ?_ ?_⟩
    · rintro i σ H9 hi ⟨y3, y5, y6, y7, y8, y9, y10, y12, own, a, c, kd, rfl, w9⟩
      have tx : ∀ {H' : Hp}, (∃ dx, H' x = some (.ins A.c_Ideal dx [("_rows", .ref R)])) → Thg A.c_Ideal H' (.ref x) := fun ⟨dx, e⟩ => .ins e
      have xh : V.ref x ≠ .ref h := vne (own_ne w9.x.1 w9.oh (by intro z; cases z))
      -- output, key
      refine ⟨fun σ' H' => ∃ v kv, σ' = [some (.ref sa), some (.ref h), some (.int (n : Int)), some v, some (.ref D), some (.int (0 + (i : Int))), y6, y7, y8, y9, y10, some (.ref x), some kv, some u, none, none, none, none] ∧
          LI A h g x R D n i own b a c c kd H' ∧ Thg A.c_Ideal H' v ∧ Off own v ∧ Thg A.c_Ideal H' kv ∧ Off own kv, ?_, ?_⟩
      · refine ⟨_, rfl, _, rfl, _, _, rfl, rfl, _, rfl, 1, rfl, _, rfl, _, rfl, h, g, .ref x, rfl, w9.hand, tx w9.x.2, xh, fun H10 o k10 a10 g10 => ?_⟩
        have w10 := w9.kp k10 a10
        refine ⟨(by show 5 ≤ sizeLine; decide), fun l nl => ?_⟩
        have hl := a10.ne_none nl
        have s11 := same_upd nl (o := .lst [.int 0, .int ((n : Int) - 1), .int (n : Int), .int (-1), o])
        have w11 := w10.same s11
        refine ⟨h, g, l, _, rfl, w11.hand, SqL.of upd_same, fun H' b => SqL.of (by rw [b l hl]; exact upd_same), by show 0 < 5; decide, by show 5 ≤ 100000; decide, fun H12 j0 v b12 a12 hv => ?_⟩
        have w12 := w11.kp b12.kp a12
        have gv : Good A.c_Ideal H9 (.ref x) H12 v := by
          refine good_kp (h := h) (Hi := upd H10 l (.lst [.int 0, .int ((n : Int) - 1), .int (n : Int), .int (-1), o])) ?_ b12.kp w9.hand.some xh
          have hm := List.mem_of_getElem? hv
          simp only [List.mem_cons, List.not_mem_nil, or_false] at hm
          rcases hm with e | e | e | e | e <;> rw [e] <;> first | exact good_atom trivial | exact ⟨g10.1.same s11, g10.2⟩
        have ov := w9.off gv
        refine ⟨_, rfl, _, rfl, h, g, .ref x, rfl, w12.hand, tx w12.x.2, xh, fun H13 kv k13 a13 g13 => ?_⟩
        have w13 := w12.kp k13 a13
        have tv13 : Thg A.c_Ideal H13 v := gv.1.mv (.of k13) (ov.ne w9.oh (by intro z; cases z))
        refine ⟨(by show 2 ≤ sizeLine; decide), fun p np => ?_⟩
        have s14 := same_upd np (o := .tup [v, kv])
        refine ⟨p, _, rfl, SqT.of upd_same, rfl, _, _, rfl, _, _, rfl, rfl, ?_⟩
        exact ⟨v, kv, rfl, w13.same s14, tv13.same s14, ov, g13.1.same s14, w12.off g13⟩
      rintro σ' H10 ⟨v, kv, rfl, w10, tv, ov, tk, ok⟩
      clear w9 y12
      -- is_out, is_key
      refine ⟨fun σ' H' => σ' = [some (.ref sa), some (.ref h), some (.int (n : Int)), some v, some (.ref D), some (.int (0 + (i : Int))), some (.bl (inI 0 ((n : Int) - 1) v)), some (.bl (keyB H10 kv)), y8, y9, y10, some (.ref x), some kv, some u, none, none, none, none] ∧ H' = H10, ?_, ?_⟩
      · refine ⟨_, rfl, _, rfl, _, _, rfl, rfl, v, _, _, rfl, tv, _, rfl, kv, rfl, tk, _, _, rfl, rfl, rfl⟩
      rintro σ' H' ⟨rfl, rfl⟩
      obtain ⟨kd', w10', kx⟩ := w10.kx tk
      clear w10
      generalize eo : inI 0 ((n : Int) - 1) v = bo
      generalize ek : keyB H' kv = bk at kx
      have w10 := w10'
      clear w10'
      -- pairs
      refine ⟨_, rfl, (by show 2 ≤ sizeLine; decide), fun t1 n1 => ?_⟩
      refine ⟨_, rfl, (by show 2 ≤ sizeLine; decide), fun t2 n2 => ?_⟩
      refine ⟨(by show 2 ≤ sizeLine; decide), fun lp n3 => ?_⟩
      have s1 := same_upd n1 (o := .tup [.str "output", .bl bo])
      have s2 := s1.trans (same_upd n2 (o := .tup [.str "key", .bl bk]))
      have s3 := s2.trans (same_upd n3 (o := .lst [.ref t1, .ref t2]))
      have ti : TI A h g x R D n i b v kv bo bk lp t1 t2 own a c c kd' (upd (upd (upd H' t1 (.tup [.str "output", .bl bo])) t2 (.tup [.str "key", .bl bk])) lp (.lst [.ref t1, .ref t2])) :=
        { w := w10.same s3
          tv := tv.same s3
          ov := ov
          tk := tk.same s3
          ok := ok
          eo := eo
          ek := (keyB_mv tk (.same s3) (h := h) (ok.ne w10.oh (by intro z; cases z))).trans ek
          el := upd_same
          e1 := (((same_upd n2 (o := .tup [.str "key", .bl bk])).trans (same_upd n3 (o := .lst [.ref t1, .ref t2]))) t1 _ upd_same)
          e2 := (same_upd n3 (o := .lst [.ref t1, .ref t2])) t2 _ upd_same
          ne := fun e => by rw [← e, upd_same] at n2; cases n2
          ol := w10.new (s2.free n3)
          kx := fun z => by
            obtain ⟨ka, z1, z2, z3⟩ := kx z
            exact ⟨ka, z1, s3 _ _ z2, z3⟩ }
      generalize (upd (upd (upd H' t1 (.tup [.str "output", .bl bo])) t2 (.tup [.str "key", .bl bk])) lp (.lst [.ref t1, .ref t2])) = H11 at ti
      clear s3 s2 s1 n3 n2 n1 w10 tv tk kx
      have ec : cutV [V.ref t1, V.ref t2] none (some 1) = [V.ref t1] := cut_lo (n := 1) (by show 1 ≤ 2; decide)
      -- due
      refine ⟨fun σ' H' => σ' = [some (.ref sa), some (.ref h), some (.int (n : Int)), some v, some (.ref D), some (.int (0 + (i : Int))), some (.bl bo), some (.bl bk), some (.ref lp), y9, y10, some (.ref x), some kv, some u, none, none, none, none] ∧ TI A h g x R D n i b v kv bo bk lp t1 t2 own a c c kd' H', ?_, ?_⟩
      · refine ⟨ti.w.tb, fun H4 x4 t4 E Q' hE hQ => ?_⟩
        have ti4 := ti.ext x4 t4
        obtain ⟨dx, ex⟩ := ti4.w.x.2
        refine ⟨_, rfl, x, dx, _, rfl, ex, rfl, _, rfl, x, R, n, b, c, v, rfl, ti4.w.rows, ti4.tv, fun e => ?_, fun j ej hj y => ?_⟩
        · refine hE _ _ "output" .output fun H5 s5 => ?_
          have ti5 := ti4.same s5
          have hb : bo = false := ti.eo.symm.trans e
          refine ⟨_, rfl, _, rfl, lp, _, rfl, SqL.of ti5.el, fun p np => ?_⟩
          have ti6 := ti5.same (same_upd np (o := .lst (cutV [V.ref t1, V.ref t2] none (some 1))))
          refine ⟨p, _, wd2 t1 bo bk, rfl, SqL.of upd_same, (by rw [ec]; exact (ti6.wds.sub (by simp))), (by rw [ec]; show 1 ≤ 1000; decide), fun H6 s6 => ?_⟩
          refine ⟨rfl, _, rfl, ?_⟩
          rw [ec, fw1, show w1 bo = "output" from by rw [hb]; rfl]
          exact iteF ⟨rfl, ti6.same s6⟩
        · refine hQ _ _ ?_
          have ti5 := ti4
          have hb : bo = true := ti.eo.symm.trans (inI_of ej hj)
          refine ⟨_, rfl, _, rfl, lp, _, rfl, SqL.of ti5.el, fun p np => ?_⟩
          have ti6 := ti5.same (same_upd np (o := .lst (cutV [V.ref t1, V.ref t2] none (some 1))))
          refine ⟨p, _, wd2 t1 bo bk, rfl, SqL.of upd_same, (by rw [ec]; exact (ti6.wds.sub (by simp))), (by rw [ec]; show 1 ≤ 1000; decide), fun H6 s6 => ?_⟩
          refine ⟨rfl, _, rfl, ?_⟩
          rw [ec, fw1, show w1 bo = "let" from by rw [hb]; rfl]
          exact iteF ⟨rfl, ti6.same s6⟩
      clear ti
      rintro σ' H' ⟨rfl, ti⟩
      refine ⟨fun σ' H' => σ' = [some (.ref sa), some (.ref h), some (.int (n : Int)), some v, some (.ref D), some (.int (0 + (i : Int))), some (.bl bo), some (.bl bk), some (.ref lp), y9, y10, some (.ref x), some kv, some u, none, none, none, none] ∧ TI A h g x R D n i b v kv bo bk lp t1 t2 own a c c kd' H', ?_, ?_⟩
      · refine ⟨ti.w.tb, fun H4 x4 t4 E Q' hE hQ => ?_⟩
        have ti4 := ti.ext x4 t4
        obtain ⟨dx, ex⟩ := ti4.w.x.2
        refine ⟨_, rfl, x, dx, _, rfl, ex, rfl, _, rfl, x, R, n, b, c, v, rfl, ti4.w.rows, ti4.tv, fun e => ?_, fun j ej hj q nq => ?_⟩
        · refine hE _ _ "output" .output fun H5 s5 => ?_
          have ti5 := ti4.same s5
          have hb : bo = false := ti.eo.symm.trans e
          refine ⟨_, rfl, _, rfl, lp, _, rfl, SqL.of ti5.el, fun p np => ?_⟩
          have ti6 := ti5.same (same_upd np (o := .lst (cutV [V.ref t1, V.ref t2] none (some 1))))
          refine ⟨p, _, wd2 t1 bo bk, rfl, SqL.of upd_same, (by rw [ec]; exact (ti6.wds.sub (by simp))), (by rw [ec]; show 1 ≤ 1000; decide), fun H6 s6 => ?_⟩
          refine ⟨rfl, _, rfl, ?_⟩
          rw [ec, fw1, show w1 bo = "output" from by rw [hb]; rfl]
          exact iteF ⟨rfl, ti6.same s6⟩
        · refine hQ _ _ ?_
          have ti5 := ti4.same (same_upd nq (o := .tup (c j)))
          have hb : bo = true := ti.eo.symm.trans (inI_of ej hj)
          refine ⟨_, rfl, _, rfl, lp, _, rfl, SqL.of ti5.el, fun p np => ?_⟩
          have ti6 := ti5.same (same_upd np (o := .lst (cutV [V.ref t1, V.ref t2] none (some 1))))
          refine ⟨p, _, wd2 t1 bo bk, rfl, SqL.of upd_same, (by rw [ec]; exact (ti6.wds.sub (by simp))), (by rw [ec]; show 1 ≤ 1000; decide), fun H6 s6 => ?_⟩
          refine ⟨rfl, _, rfl, ?_⟩
          rw [ec, fw1, show w1 bo = "let" from by rw [hb]; rfl]
          exact iteF ⟨rfl, ti6.same s6⟩
      clear ti
      rintro σ' H' ⟨rfl, ti⟩
      refine ⟨fun σ' H' => σ' = [some (.ref sa), some (.ref h), some (.int (n : Int)), some v, some (.ref D), some (.int (0 + (i : Int))), some (.bl bo), some (.bl bk), some (.ref lp), y9, y10, some (.ref x), some kv, some u, none, none, none, none] ∧ TI A h g x R D n i b v kv bo bk lp t1 t2 own a c c kd' H', ?_, ?_⟩
      · refine ⟨ti.w.tb, fun H4 x4 t4 E Q' hE hQ => ?_⟩
        have ti4 := ti.ext x4 t4
        obtain ⟨dx, ex⟩ := ti4.w.x.2
        refine ⟨_, rfl, x, dx, _, rfl, ex, rfl, _, rfl, _, rfl, x, R, n, b, c, v, kv, rfl, ti4.w.rows, ti4.tv, ti4.tk, fun e => ?_, fun j ej hj => ⟨fun e => ?_, fun ka p ekv ep hok => ⟨kd', (ti4.kd_eq ekv ep hok).2, ti4.w.kc j hj, ti4.w.pw j hj, Nat.le_trans (ti4.w.lc j hj) (by omega), fun H5 s5 => ?_⟩⟩⟩
        · refine hE _ _ "output" .output fun H5 s5 => ?_
          have ti5 := ti4.same s5
          have hb : bo = false := ti.eo.symm.trans e
          refine ⟨_, rfl, lp, _, wd2 t1 bo bk, rfl, SqL.of ti5.el, ti5.wds, (by show 2 ≤ 1000; decide), fun H6 s6 => ?_⟩
          refine ⟨rfl, _, rfl, ?_⟩
          rw [fw2 ti5.ne, show w2 bo bk = "output" from by rw [hb]; rfl]
          exact iteF ⟨rfl, ti5.same s6⟩
        · refine hE _ _ "key" .key fun H5 s5 => ?_
          have ti5 := ti4.same s5
          have hb : bo = true := ti.eo.symm.trans (inI_of ej hj)
          have hk : bk = false := ti4.ek.symm.trans e
          refine ⟨_, rfl, lp, _, wd2 t1 bo bk, rfl, SqL.of ti5.el, ti5.wds, (by show 2 ≤ 1000; decide), fun H6 s6 => ?_⟩
          refine ⟨rfl, _, rfl, ?_⟩
          rw [fw2 ti5.ne, show w2 bo bk = "key" from by rw [hb, hk]; rfl]
          exact iteF ⟨rfl, ti5.same s6⟩
        · refine hQ _ _ ?_
          have ti5 := ti4.same s5
          have hb : bo = true := ti.eo.symm.trans (inI_of ej hj)
          have hk : bk = true := ti4.ek.symm.trans (by rw [ekv]; exact keyB_of ep hok)
          refine ⟨_, rfl, lp, _, wd2 t1 bo bk, rfl, SqL.of ti5.el, ti5.wds, (by show 2 ≤ 1000; decide), fun H6 s6 => ?_⟩
          refine ⟨rfl, _, rfl, ?_⟩
          rw [fw2 ti5.ne, show w2 bo bk = "let" from by rw [hb, hk]; rfl]
          exact iteF ⟨rfl, ti5.same s6⟩
      clear ti
      rintro σ' H' ⟨rfl, ti⟩
      -- is_new
      refine ⟨fun σ' H' => ∃ bn : Bool, σ' = [some (.ref sa), some (.ref h), some (.int (n : Int)), some v, some (.ref D), some (.int (0 + (i : Int))), some (.bl bo), some (.bl bk), some (.ref lp), some (.bl bn), y10, some (.ref x), some kv, some u, none, none, none, none] ∧ TI A h g x R D n i b v kv bo bk lp t1 t2 own a c c kd' H' ∧ (bo = true → bk = true → ∀ (j : Nat) (ka : Addr), v = .int (j : Int) → kv = .ref ka → bn = !hasC kd' (kd' (.ref ka)).2 (c j)), ?_, ?_⟩
      · refine ⟨_, rfl, bo, rfl, !bo, rfl, ?_⟩
        cases bo with
        | false => exact ⟨true, rfl, ti, fun z => by cases z⟩
        | true =>
          refine ⟨_, rfl, bk, rfl, !bk, rfl, ?_⟩
          cases bk with
          | false => exact ⟨true, rfl, ti, fun _ z => by cases z⟩
          | true =>
            obtain ⟨j, ev, hj⟩ := inI_nat ti.eo
            obtain ⟨ka, ekv, eka, hok⟩ := ti.kx rfl
            subst ev ekv
            have ha := (ti.w.a j hj).2
            refine ⟨_, rfl, ka, _, 1, _, rfl, rfl, SqT.of eka, atI_nat (j := 1) rfl, _, rfl, _, rfl, D, _, _, _, rfl, rfl, SqL.of ti.w.L.2, atI_nat (rowsV_at hj), a j, rfl, ⟨_, SqL.of ha⟩, fun D1 hD1 => ?_⟩
            have hbD : a j ≠ D1 := ne_of_none ha hD1
            refine lc_list (K := K) (a := a j) (xs := c j) (fun i H'' => Same H' H'' ∧ H'' D1 = some (.lst (((c j).take i).map fun v => V.int (kd' v).2))) ⟨same_upd hD1, upd_same⟩ (fun i H'' _ h => SqL.of (h.1 _ _ ha)) ?_ ?_
            · rintro m y H'' hm ⟨s1, d1⟩
              obtain ⟨q, rfl, hq⟩ := ti.w.kk j hj y (List.mem_of_getElem? hm)
              have hq' := s1 _ _ hq
              refine ⟨q, _, rfl, SqT.of hq', rfl, _, _, rfl, _, _, rfl, rfl, rfl, ?_⟩
              refine ⟨_, rfl, _, d1, ?_, same_to s1 hD1, ?_⟩
              · rw [List.length_map, List.length_take]
                exact Nat.lt_of_le_of_lt (Nat.le_trans (Nat.min_le_right _ _) (ti.w.ld j hj)) (small1000 (by omega))
              · rw [upd_same, List.take_add_one, hm, List.map_append]
                rfl
            · rintro H'' ⟨s1, d1⟩
              rw [List.take_length] at d1
              refine ⟨D1, _, rfl, .inl (SqL.of d1), rfl, flat_ints, ?_⟩
              show ∃ bn, _
              refine ⟨!hasC kd' (kd' (.ref ka)).2 (c j), ?_, ti.same s1, fun _ _ j' ka' z1 z2 => ?_⟩
              · have e0 : (if true = true then !inV (V.int (kd' (.ref ka)).2) ((c j).map fun v => V.int (kd' v).2) else inV (V.int (kd' (.ref ka)).2) ((c j).map fun v => V.int (kd' v).2)) = !hasC kd' (kd' (.ref ka)).2 (c j) := by rw [if_pos rfl, hasC_in]
                rw [← e0]
                rfl
              · cases z2
                have ej : j = j' := by
                  have := V.int.inj z1
                  omega
                rw [ej]
      clear ti
      rintro σ' H' ⟨bn, rfl, ti, hbn⟩
      -- due
      refine ⟨_, rfl, _, rfl, (by show 2 ≤ sizeLine; decide), fun t3 n3 => ?_⟩
      refine ⟨(by show 1 ≤ sizeLine; decide), fun l3 n4 => ?_⟩
      have s3 := same_upd n3 (o := .tup [.str "there", .bl bn])
      have s4 := s3.trans (same_upd n4 (o := .lst [.ref t3]))
      have t34 : t3 ≠ l3 := fun e => by rw [← e, upd_same] at n4; cases n4
      refine ⟨lp, l3, _, _, rfl, rfl, s4 _ _ ti.el, upd_same, (by show 3 ≤ sizeLine; decide), fun q n5 => ?_⟩
      have s5 := s4.trans (same_upd n5 (o := .lst ([.ref t1, .ref t2] ++ [.ref t3])))
      have ti5 := ti.same s5
      have n13 : t1 ≠ t3 := ne_of_none ti.e1 n3
      have n23 : t2 ≠ t3 := ne_of_none ti.e2 n3
      have e3 := ((same_upd n4 (o := .lst [.ref t3])).trans (same_upd n5 (o := .lst ([.ref t1, .ref t2] ++ [.ref t3])))) t3 _ upd_same
      refine ⟨q, _, wd3 t1 t3 bo bk bn "there", rfl, SqL.of upd_same, ti5.wds3 e3 n13 n23, (by show 3 ≤ 1000; decide), fun H6 s6 => ?_⟩
      rw [show firstW (wd3 t1 t3 bo bk bn "there") ([V.ref t1, V.ref t2] ++ [V.ref t3]) = w3 bo bk bn from fw3 ti.ne n13 n23]
      have ti6 := ti5.same s6
      clear s5 s4 s3 n5 n4 n3 ti ti5 s6 t34 e3
      -- push
      refine ⟨fun σ' H' => ∃ c', σ' = [some (.ref sa), some (.ref h), some (.int (n : Int)), some v, some (.ref D), some (.int (0 + (i : Int))), some (.bl bo), some (.bl bk), some (.ref lp), some (.bl bn), some (.str (w3 bo bk bn)), some (.ref x), some kv, some u, none, none, none, none] ∧ TI A h g x R D n (i + 1) b v kv bo bk lp t1 t2 own a c' c kd' H' ∧ (w3 bo bk bn = "let" → ∃ (j : Nat) (ka : Addr), v = .int (j : Int) ∧ j < n ∧ kv = .ref ka ∧ c' = fun m => if m = j then insK kd' (.ref ka) (c j) else c m) ∧ (w3 bo bk bn ≠ "let" → c' = c), ?_, ?_⟩
      · refine ⟨ti6.w.tb, fun H4 x4 t4 E Q' hE hQ => ?_⟩
        have ti4 := ti6.ext x4 t4
        obtain ⟨dx, ex⟩ := ti4.w.x.2
        refine ⟨_, rfl, x, dx, _, rfl, ex, rfl, _, rfl, _, rfl, x, R, n, b, c, v, kv, rfl, ti4.w.rows, ti4.tv, ti4.tk, fun e => ?_, fun j ej hj => ⟨fun e => ?_, fun ka p ekv ep hok => ⟨kd', (ti4.kd_eq ekv ep hok).2, ti4.w.kc j hj, ti4.w.pw j hj, Nat.lt_of_le_of_lt (ti4.w.lc j hj) (by omega), fun c3 H5 s5 => ?_, fun c3 H5 k5 e5 => ?_⟩⟩⟩
        · refine hE _ _ "output" .output fun H5 s5 => ?_
          have hw : w3 bo bk bn = "output" := by rw [show bo = false from ti4.eo.symm.trans e]; rfl
          refine ⟨_, rfl, rfl, _, rfl, ?_⟩
          rw [hw]
          exact iteF ⟨c, rfl, (ti4.same s5).more (Nat.le_succ i), fun z => absurd z (by decide), fun _ => rfl⟩
        · refine hE _ _ "key" .key fun H5 s5 => ?_
          have hw : w3 bo bk bn = "key" := by rw [show bo = true from ti4.eo.symm.trans (inI_of ej hj), show bk = false from ti4.ek.symm.trans e]; rfl
          refine ⟨_, rfl, rfl, _, rfl, ?_⟩
          rw [hw]
          exact iteF ⟨c, rfl, (ti4.same s5).more (Nat.le_succ i), fun z => absurd z (by decide), fun _ => rfl⟩
        · refine hE _ _ "there" .there fun H6 s6 => ?_
          have hb : bo = true := ti4.eo.symm.trans (inI_of ej hj)
          have hk := (ti4.kd_eq ekv ep hok).1
          have hn : bn = false := by rw [hbn hb hk j ka ej ekv, (ti4.kd_eq ekv ep hok).2, c3]; rfl
          have hw : w3 bo bk bn = "there" := by rw [hb, hk, hn]; rfl
          refine ⟨_, rfl, rfl, _, rfl, ?_⟩
          rw [hw]
          exact iteF ⟨c, rfl, (ti4.same (s5.trans s6)).more (Nat.le_succ i), fun z => absurd z (by decide), fun _ => rfl⟩
        · refine hQ _ _ ?_
          have hb : bo = true := ti4.eo.symm.trans (inI_of ej hj)
          have hk := (ti4.kd_eq ekv ep hok).1
          have hn : bn = true := by rw [hbn hb hk j ka ej ekv, (ti4.kd_eq ekv ep hok).2, c3]; rfl
          have hw : w3 bo bk bn = "let" := by rw [hb, hk, hn]; rfl
          refine ⟨_, rfl, rfl, _, rfl, ?_⟩
          have kn : KeysAt H4 kd' (insK kd' (.ref ka) (c j)) := fun y hy => by
            rcases insK_mem hy with e | hy
            · exact ⟨ka, e, by rw [e, (ti4.kd_eq ekv ep hok).2]; exact ep⟩
            · exact ti4.w.kc j hj y hy
          have ti5 := (ti4.more (Nat.le_succ i)).setb hj k5 e5 kn (by rw [insK_len]; exact Nat.succ_le_succ (ti4.w.lc j hj)) (pw_ins (ti4.w.pw j hj) fun y hy => by rw [(ti4.kd_eq ekv ep hok).2]; exact hasC_no c3 y hy)
          rw [hw]
          exact iteF ⟨_, rfl, ti5, fun _ => ⟨j, ka, ej, hj, ekv, rfl⟩, fun z => absurd rfl z⟩
      clear ti6 hbn
      rintro σ' H' ⟨c', rfl, ti, hL, hN⟩
      -- rows[output] = inserted(rows[output], key)
      refine ⟨fun σ' H' => ∃ own a c' y9 y10, σ' = [some (.ref sa), some (.ref h), some (.int (n : Int)), some v, some (.ref D), some (.int (0 + (i : Int))), some (.bl bo), some (.bl bk), some (.ref lp), y9, y10, some (.ref x), some kv, some u, none, none, none, none] ∧ TI A h g x R D n (i + 1) b v kv bo bk lp t1 t2 own a c' c' kd' H', ?_, ?_⟩
      · refine ⟨_, rfl, rfl, _, rfl, ite2 (fun cL => ?_) (fun cN => ?_)⟩
        · obtain ⟨j, ka, rfl, hj, rfl, rfl⟩ := hL (V.str.inj (of_decide_eq_true cL))
          have ha := (ti.w.a j hj).2
          have hkk : KeysAt H' kd' (.ref ka :: c j) := fun y hy => by
            rcases List.mem_cons.mp hy with e | hy
            · rw [e]
              refine ti.w.kc j hj (.ref ka) ?_
              show V.ref ka ∈ (if j = j then insK kd' (.ref ka) (c j) else c j)
              rw [if_pos rfl]
              unfold insK
              simp
            · exact ti.w.kk j hj y hy
          have hlen : (c j).length < 100000 := Nat.lt_of_le_of_lt (ti.w.ld j hj) (by omega)
          refine ⟨_, rfl, _, rfl, D, _, _, _, rfl, rfl, SqL.of ti.w.L.2, atI_nat (rowsV_at hj), _, rfl, a j, ka, c j, kd', rfl, ha, hkk, hlen, fun H5 p s5 np e5 => ?_⟩
          have e6 := s5 _ _ ti.w.L.2
          refine ⟨_, rfl, _, rfl, D, _, _, j, rfl, rfl, e6, by rw [rowsV_len]; exact ixN_at hj, ?_⟩
          have hpD : p ≠ D := (ne_of_none ti.w.L.2 np).symm
          obtain ⟨own', a', ti'⟩ := ti.seta (H' := upd H5 D (.lst ((rowsV n a).set j (.ref p)))) hj np (fun q o h1 e => by rw [upd_ne h1]; exact s5 _ _ e) (by rw [upd_ne hpD]; exact e5) upd_same (new := insK kd' (.ref ka) (c j))
            (by
              have q := ti.w.kc j hj
              have q : KeysAt H' kd' (if j = j then insK kd' (.ref ka) (c j) else c j) := q
              rw [if_pos rfl] at q
              exact q) (by
              have q := ti.w.lc j hj
              have q : (if j = j then insK kd' (.ref ka) (c j) else c j).length ≤ i + 1 := q
              rw [if_pos rfl] at q
              exact q)
          exact ⟨own', a', _, _, _, rfl, ti'⟩
        · have e := hN (fun z => by rw [z] at cN; exact absurd cN (by decide))
          subst e
          exact ⟨own, a, _, _, _, rfl, ti⟩
      clear ti hL hN c' 
      rintro σ' H' ⟨own', a', c', z9, z10, rfl, ti⟩
      have ec : cutV [V.ref t1, V.ref t2] none (some 1) = [V.ref t1] := cut_lo (n := 1) (by show 1 ≤ 2; decide)
      -- the least one leaves
      refine ⟨fun σ' H' => ∃ own a c' y9 y10, σ' = [some (.ref sa), some (.ref h), some (.int (n : Int)), some v, some (.ref D), some (.int (0 + (i : Int))), some (.bl bo), some (.bl bk), some (.ref lp), y9, y10, some (.ref x), some kv, some u, none, none, none, none] ∧ TI A h g x R D n (i + 1) b v kv bo bk lp t1 t2 own a c' c' kd' H', ?_, ?_⟩
      · refine ⟨_, rfl, h, g, 3, rfl, ti.w.hand, by decide, by decide, fun H5 dd b5 a5 d0 d1 => ?_⟩
        have ti5 := ti.kp b5.kp a5
        refine ⟨rfl, _, rfl, ite2 (fun _ => ?_) (fun _ => ⟨own', a', c', _, _, rfl, ti5⟩)⟩
        -- due
        refine ⟨fun σ' H' => ∃ b3, σ' = [some (.ref sa), some (.ref h), some (.int (n : Int)), some v, some (.ref D), some (.int (0 + (i : Int))), some (.bl bo), some (.bl bk), some (.ref lp), z9, some (.str (w4 bo b3)), some (.ref x), some kv, some u, none, none, none, none] ∧ TI A h g x R D n (i + 1) b v kv bo bk lp t1 t2 own' a' c' c' kd' H' ∧ (bo = true → ∀ j : Nat, v = .int (j : Int) → b3 = decide (c' j ≠ [])), ?_, ?_⟩
        · refine ⟨_, rfl, _, rfl, lp, _, rfl, SqL.of ti5.el, fun p1 n1 => ?_⟩
          rw [ec]
          have s6 := same_upd n1 (o := .lst [.ref t1])
          have ti6 := ti5.same s6
          refine ⟨_, rfl, bo, rfl, ?_⟩
          cases bo with
          | false =>
            refine iteF ?_
            refine ⟨(by show 2 ≤ sizeLine; decide), fun t3 n3 => ?_⟩
            refine ⟨(by show 1 ≤ sizeLine; decide), fun l3 n4 => ?_⟩
            have s7 := same_upd n3 (o := .tup [.str "nothing", .bl false])
            have s8 := s7.trans (same_upd n4 (o := .lst [.ref t3]))
            refine ⟨p1, l3, _, _, rfl, rfl, s8 _ _ upd_same, upd_same, (by show 2 ≤ sizeLine; decide), fun q n5 => ?_⟩
            have s9 := s8.trans (same_upd n5 (o := .lst ([.ref t1] ++ [.ref t3])))
            have ti9 := ti6.same s9
            have n13 : t1 ≠ t3 := ne_of_none ti6.e1 n3
            have n23 : t2 ≠ t3 := ne_of_none ti6.e2 n3
            have e3 := ((same_upd n4 (o := .lst [.ref t3])).trans (same_upd n5 (o := .lst ([.ref t1] ++ [.ref t3])))) t3 _ upd_same
            refine ⟨q, _, wd3 t1 t3 false bk false "nothing", rfl, SqL.of upd_same, (ti9.wds3 e3 n13 n23).sub (by
                intro y hy
                simp only [List.mem_append, List.mem_cons, List.not_mem_nil, or_false] at hy
                rcases hy with e | e <;> rw [e] <;> simp), (by show 2 ≤ 1000; decide), fun H6 s10 => ?_⟩
            rw [show firstW (wd3 t1 t3 false bk false "nothing") ([V.ref t1] ++ [V.ref t3]) = w4 false false from fw4 n13]
            exact ⟨false, rfl, ti9.same s10, fun z => by cases z⟩
          | true =>
            obtain ⟨j, ev, hj⟩ := inI_nat ti6.eo
            subst ev
            refine iteT ?_
            refine ⟨_, rfl, _, rfl, D, _, _, _, rfl, rfl, SqL.of ti6.w.L.2, atI_nat (rowsV_at hj), a' j, _, rfl, .inl (SqL.of (ti6.w.a j hj).2), _, _, rfl, rfl, ?_⟩
            refine ⟨(by show 2 ≤ sizeLine; decide), fun t3 n3 => ?_⟩
            refine ⟨(by show 1 ≤ sizeLine; decide), fun l3 n4 => ?_⟩
            have s7 := same_upd n3 (o := .tup [.str "nothing", .bl (decide ((0 : Int) < ((c' j).length : Int)))])
            have s8 := s7.trans (same_upd n4 (o := .lst [.ref t3]))
            refine ⟨p1, l3, _, _, rfl, rfl, s8 _ _ upd_same, upd_same, (by show 2 ≤ sizeLine; decide), fun q n5 => ?_⟩
            have s9 := s8.trans (same_upd n5 (o := .lst ([.ref t1] ++ [.ref t3])))
            have ti9 := ti6.same s9
            have n13 : t1 ≠ t3 := ne_of_none ti6.e1 n3
            have n23 : t2 ≠ t3 := ne_of_none ti6.e2 n3
            have e3 := ((same_upd n4 (o := .lst [.ref t3])).trans (same_upd n5 (o := .lst ([.ref t1] ++ [.ref t3])))) t3 _ upd_same
            refine ⟨q, _, wd3 t1 t3 true bk (decide ((0 : Int) < ((c' j).length : Int))) "nothing", rfl, SqL.of upd_same, (ti9.wds3 e3 n13 n23).sub (by
                intro y hy
                simp only [List.mem_append, List.mem_cons, List.not_mem_nil, or_false] at hy
                rcases hy with e | e <;> rw [e] <;> simp), (by show 2 ≤ 1000; decide), fun H6 s10 => ?_⟩
            rw [show firstW (wd3 t1 t3 true bk (decide ((0 : Int) < ((c' j).length : Int))) "nothing") ([V.ref t1] ++ [V.ref t3]) = w4 true (decide ((0 : Int) < ((c' j).length : Int))) from fw4 n13]
            exact ⟨(decide ((0 : Int) < ((c' j).length : Int))), rfl, ti9.same s10, fun _ j' e => by
              have ej : j = j' := by
                have := V.int.inj e
                omega
              rw [← ej]
              cases c' j <;> simp⟩
        clear ti5 ti
        rintro σ' H' ⟨b3, rfl, ti, hb3⟩
        -- let_go
        refine ⟨fun σ' H' => ∃ c2, σ' = [some (.ref sa), some (.ref h), some (.int (n : Int)), some v, some (.ref D), some (.int (0 + (i : Int))), some (.bl bo), some (.bl bk), some (.ref lp), z9, some (.str (w4 bo b3)), some (.ref x), some kv, some u, none, none, none, none] ∧ TI A h g x R D n (i + 1) b v kv bo bk lp t1 t2 own' a' c2 c' kd' H' ∧ (w4 bo b3 = "let" → ∃ j : Nat, v = .int (j : Int) ∧ j < n ∧ c2 = fun m => if m = j then (c' j).drop 1 else c' m) ∧ (w4 bo b3 ≠ "let" → c2 = c'), ?_, ?_⟩
        · refine ⟨ti.w.tb, fun H4 x4 t4 E Q' hE hQ => ?_⟩
          have ti4 := ti.ext x4 t4
          obtain ⟨dx, ex⟩ := ti4.w.x.2
          refine ⟨_, rfl, x, dx, _, rfl, ex, rfl, _, rfl, x, R, n, b, c', v, rfl, ti4.w.rows, ti4.tv, fun e => ?_, fun j ej hj => ⟨fun e => ?_, fun y rest e => ?_⟩⟩
          · refine hE _ _ "output" .output fun H5 s5 => ?_
            have hw : w4 bo b3 = "output" := by rw [show bo = false from ti4.eo.symm.trans e]; rfl
            refine ⟨_, rfl, rfl, _, rfl, ?_⟩
            rw [hw]
            exact iteF ⟨c', rfl, ti4.same s5, fun z => absurd z (by decide), fun _ => rfl⟩
          · refine hE _ _ "nothing" .nothing fun H5 s5 => ?_
            have hb : bo = true := ti4.eo.symm.trans (inI_of ej hj)
            have hn : b3 = false := by rw [hb3 hb j ej, e]; rfl
            have hw : w4 bo b3 = "nothing" := by rw [hb, hn]; rfl
            refine ⟨_, rfl, rfl, _, rfl, ?_⟩
            rw [hw]
            exact iteF ⟨c', rfl, ti4.same s5, fun z => absurd z (by decide), fun _ => rfl⟩
          · refine hQ _ _ ?_
            have hb : bo = true := ti4.eo.symm.trans (inI_of ej hj)
            have hn : b3 = true := by rw [hb3 hb j ej, e]; rfl
            have hw : w4 bo b3 = "let" := by rw [hb, hn]; rfl
            have er : rest = (c' j).drop 1 := by rw [e]; rfl
            refine ⟨_, rfl, rfl, _, rfl, ?_⟩
            have ti5 := ti4.setb (H' := upd H4 (b j) (.lst rest)) (new := (c' j).drop 1) hj (fun q o hq e => by rw [upd_ne hq]; exact e) (by rw [upd_same, er]) (fun y hy => ti4.w.kc j hj y (List.mem_of_mem_drop hy))
              (Nat.le_trans (by rw [List.length_drop]; omega) (ti4.w.lc j hj)) ((ti4.w.pw j hj).sublist (List.drop_sublist _ _))
            rw [hw]
            exact iteF ⟨_, rfl, ti5, fun _ => ⟨j, ej, hj, rfl⟩, fun z => absurd rfl z⟩
        clear ti hb3
        rintro σ' H' ⟨c2, rfl, ti, hL, hN⟩
        -- rows[output] = rows[output][1:]
        refine ⟨_, rfl, rfl, _, rfl, ite2 (fun cL => ?_) (fun cN => ?_)⟩
        · obtain ⟨j, rfl, hj, rfl⟩ := hL (V.str.inj (of_decide_eq_true cL))
          have ha := (ti.w.a j hj).2
          refine ⟨_, rfl, _, rfl, D, _, _, _, rfl, rfl, SqL.of ti.w.L.2, atI_nat (rowsV_at hj), _, rfl, a' j, _, rfl, SqL.of ha, fun p np => ?_⟩
          have ecut : cutV (c' j) (some 1) none = (c' j).drop 1 := by
            cases ec' : c' j with
            | nil => rfl
            | cons y r => exact cut_hi (n := 1) (by rw [List.length_cons]; omega)
          rw [ecut]
          have e6 : (upd H' p (.lst ((c' j).drop 1))) D = some (.lst (rowsV n a')) := by
            rw [upd_ne (ne_of_none ti.w.L.2 np)]
            exact ti.w.L.2
          refine ⟨_, rfl, _, rfl, D, _, _, j, rfl, rfl, e6, by rw [rowsV_len]; exact ixN_at hj, ?_⟩
          have hpD : p ≠ D := (ne_of_none ti.w.L.2 np).symm
          obtain ⟨own2, a2, ti'⟩ := ti.seta (H' := upd (upd H' p (.lst ((c' j).drop 1))) D (.lst ((rowsV n a').set j (.ref p)))) hj np (fun q o h1 e => by rw [upd_ne h1, upd_ne (ne_of_none e np)]; exact e) (by rw [upd_ne hpD, upd_same]) upd_same (new := (c' j).drop 1)
            (fun y hy => ti.w.kk j hj y (List.mem_of_mem_drop hy)) (Nat.le_trans (by rw [List.length_drop]; omega) (ti.w.ld j hj))
          exact ⟨own2, a2, _, _, _, rfl, ti'⟩
        · have e := hN (fun z => by rw [z] at cN; exact absurd cN (by decide))
          subst e
          exact ⟨_, _, _, _, _, rfl, ti⟩
      clear ti
      rintro σ' H9 ⟨own2, a2, c2, z9, z10, rfl, ti⟩
      have w10 := ti.w
      clear ti
      -- [held ..] != [tuple ..]
      refine ⟨_, rfl, (n : Int), rfl, by omega, by omega, fun D1 hD1 => ?_⟩
      refine lc_range (lo := 0) (n := (n : Int).toNat) (fun i H' => ∃ t : Nat → Addr, Same H9 H' ∧ H' D1 = some (.lst (rowsV i t)) ∧ ∀ j, j < i → t j ≠ D1 ∧ H' (t j) = some (.tup (c2 j)))
        ⟨fun _ => 0, same_upd hD1, upd_same, fun j hj => absurd hj (Nat.not_lt_zero _)⟩ ?_ ?_
      · rintro m H' hm ⟨t, s1, d1, ht⟩
        refine ⟨rfl, ?_⟩
        have hin : m < n := by omega
        have w' := w10.same s1
        obtain ⟨dx2, ex2⟩ := w'.x.2
        refine ⟨_, rfl, x, dx2, _, rfl, ex2, rfl, _, rfl, x, R, n, b, c2, .int (0 + (m : Int)), rfl, w'.rows, .atom trivial, fun e => ?_, fun j ej hj p np => ?_⟩
        · rw [inI_of (by rw [Int.zero_add]) hin] at e
          cases e
        have ejm : j = m := by
          have := V.int.inj ej
          omega
        subst ejm
        have hpD : p ≠ D1 := fun e => by
          rw [e, d1] at np
          cases np
        refine ⟨_, by rw [upd_ne hpD.symm]; exact d1, by rw [rowsV_len]; exact small1000 (by omega), fun k => if k = j then p else t k, same_to (same_to s1 (s1.free np)) hD1, ?_, ?_⟩
        · rw [upd_same, rowsV_succ, if_pos rfl]
          congr 2
          congr 1
          exact rowsV_congr fun j hj => (if_neg (Nat.ne_of_lt hj)).symm
        · intro k hk
          dsimp only
          by_cases e : k = j
          · rw [if_pos e, e]
            exact ⟨hpD, by rw [upd_ne hpD, upd_same]⟩
          · rw [if_neg e]
            obtain ⟨a1, a2⟩ := ht k (by omega)
            exact ⟨a1, by rw [upd_ne a1, upd_ne (ne_of_none a2 np)]; exact a2⟩
      rintro H10 ⟨t, s1, d1, ht⟩
      rw [Int.toNat_natCast] at d1 ht
      have w11 := w10.same s1
      refine ⟨_, rfl, D, rfl, ⟨_, SqL.of w11.L.2⟩, fun D2 hD2 => ?_⟩
      refine lc_list (K := K) (a := D) (xs := rowsV n a2) (fun i H' => ∃ u : Nat → Addr, Same H10 H' ∧ H' D2 = some (.lst (rowsV i u)) ∧ ∀ j, j < i → u j ≠ D2 ∧ H' (u j) = some (.tup (c2 j)))
        ⟨fun _ => 0, same_upd hD2, upd_same, fun j hj => absurd hj (Nat.not_lt_zero _)⟩ (fun i H' _ ⟨_, s2, _⟩ => SqL.of (s2 _ _ w11.L.2)) ?_ ?_
      · rintro m y H' hm ⟨u, s2, d2, hu⟩
        have hin : m < n := by
          have q := (List.getElem?_eq_some_iff.mp hm).1
          rw [rowsV_len] at q
          exact q
        rw [rowsV_at hin] at hm
        cases hm
        refine ⟨rfl, ?_⟩
        refine ⟨_, rfl, a2 m, c2 m, rfl, .inl ⟨SqL.of (s2 _ _ (w11.a m hin).2), fun p np => ?_⟩⟩
        have hpD : p ≠ D2 := fun e => by
          rw [e, d2] at np
          cases np
        refine ⟨_, by rw [upd_ne hpD.symm]; exact d2, by rw [rowsV_len]; exact small1000 (by omega), fun j => if j = m then p else u j, same_to (same_to s2 (s2.free np)) hD2, ?_, ?_⟩
        · rw [upd_same, rowsV_succ, if_pos rfl]
          congr 2
          congr 1
          exact rowsV_congr fun j hj => (if_neg (Nat.ne_of_lt hj)).symm
        · intro j hj
          dsimp only
          by_cases e : j = m
          · rw [if_pos e, e]
            exact ⟨hpD, by rw [upd_ne hpD, upd_same]⟩
          · rw [if_neg e]
            obtain ⟨a1, a2⟩ := hu j (by omega)
            exact ⟨a1, by rw [upd_ne a1, upd_ne (ne_of_none a2 np)]; exact a2⟩
      rintro H11 ⟨u', s2, d2, hu⟩
      rw [rowsV_len] at d2 hu
      have w12 := w11.same s2
      have ksA : ∀ j ∈ List.range n, KeysAt H11 kd' (c2 j) := fun j hj => w12.kc j (List.mem_range.mp hj)
      refine ⟨.list (tabD kd' c2 (List.range n)), .list (tabD kd' c2 (List.range n)), .lst (SqL.of (s2 _ _ d1)) (dp_tab fun j hj => ⟨s2 _ _ (ht j (List.mem_range.mp hj)).2, ksA j hj⟩),
        .lst (SqL.of d2) (dp_tab fun j hj => ⟨(hu j (List.mem_range.mp hj)).2, ksA j hj⟩), sh_tab _ _ _, sh_tab _ _ _, ?_⟩
      rw [SeqAt.eqv_refl _ (show PyData.canLay0 (.list (tabD kd' c2 (List.range n))) = true from lay_tab _ _ _)]
      refine ⟨false, rfl, iteF ?_⟩
      exact ⟨_, _, _, _, _, _, _, _, own2, a2, c2, kd', rfl, w12⟩
    · rintro σ H9 ⟨y3, y5, y6, y7, y8, y9, y10, y12, own, a, c, kd, rfl, w9⟩
      exact kq H9
end

theorem top_end {l : PySem.W.OpenLaw} {w : World} {K : PySem.W.Frag} {h : Heap} {mg : Str → Option Value} {fa : Addr} (X : K.In h) (G : h.Ns mainGlobals mg) (hfa : mg "law" = some (.ref fa))
    {f_wall : Addr} {od_wall an_wall : Option Addr} {sl_wall : Array (Option Value)} {oc_wall kV_wall dc_wall pm_wall cd_wall ct_wall : Value}
    {f_is_integer : Addr} {od_is_integer an_is_integer : Option Addr} {sl_is_integer : Array (Option Value)} {oc_is_integer kV_is_integer dc_is_integer pm_is_integer cd_is_integer ct_is_integer : Value}
    {f_is_integer_from : Addr} {od_is_integer_from an_is_integer_from : Option Addr} {sl_is_integer_from : Array (Option Value)} {oc_is_integer_from kV_is_integer_from dc_is_integer_from pm_is_integer_from cd_is_integer_from ct_is_integer_from : Value}
    {f_is_number_below : Addr} {od_is_number_below an_is_number_below : Option Addr} {sl_is_number_below : Array (Option Value)} {oc_is_number_below kV_is_number_below dc_is_number_below pm_is_number_below cd_is_number_below ct_is_number_below : Value}
    {f_is_tuple_of : Addr} {od_is_tuple_of an_is_tuple_of : Option Addr} {sl_is_tuple_of : Array (Option Value)} {oc_is_tuple_of kV_is_tuple_of dc_is_tuple_of pm_is_tuple_of cd_is_tuple_of ct_is_tuple_of : Value}
    {f_check_lines : Addr} {od_check_lines an_check_lines : Option Addr} {sl_check_lines : Array (Option Value)} {oc_check_lines kV_check_lines dc_check_lines pm_check_lines cd_check_lines ct_check_lines : Value}
    {f_is_cell_number : Addr} {od_is_cell_number an_is_cell_number : Option Addr} {sl_is_cell_number : Array (Option Value)} {oc_is_cell_number kV_is_cell_number dc_is_cell_number pm_is_cell_number cd_is_cell_number ct_is_cell_number : Value}
    {f_is_rank : Addr} {od_is_rank an_is_rank : Option Addr} {sl_is_rank : Array (Option Value)} {oc_is_rank kV_is_rank dc_is_rank pm_is_rank cd_is_rank ct_is_rank : Value}
    {f_is_key : Addr} {od_is_key an_is_key : Option Addr} {sl_is_key : Array (Option Value)} {oc_is_key kV_is_key dc_is_key pm_is_key cd_is_key ct_is_key : Value}
    {f_check_key : Addr} {od_check_key an_check_key : Option Addr} {sl_check_key : Array (Option Value)} {oc_check_key kV_check_key dc_check_key pm_check_key cd_check_key ct_check_key : Value}
    {f_how_many_less : Addr} {od_how_many_less an_how_many_less : Option Addr} {sl_how_many_less : Array (Option Value)} {oc_how_many_less kV_how_many_less dc_how_many_less pm_how_many_less cd_how_many_less ct_how_many_less : Value}
    {f_Ideal___init__ : Addr} {od_Ideal___init__ an_Ideal___init__ : Option Addr} {sl_Ideal___init__ : Array (Option Value)} {oc_Ideal___init__ kV_Ideal___init__ dc_Ideal___init__ pm_Ideal___init__ cd_Ideal___init__ ct_Ideal___init__ : Value}
    {f_Ideal__row : Addr} {od_Ideal__row an_Ideal__row : Option Addr} {sl_Ideal__row : Array (Option Value)} {oc_Ideal__row kV_Ideal__row dc_Ideal__row pm_Ideal__row cd_Ideal__row ct_Ideal__row : Value}
    {f_Ideal_push : Addr} {od_Ideal_push an_Ideal_push : Option Addr} {sl_Ideal_push : Array (Option Value)} {oc_Ideal_push kV_Ideal_push dc_Ideal_push pm_Ideal_push cd_Ideal_push ct_Ideal_push : Value}
    {f_Ideal_due : Addr} {od_Ideal_due an_Ideal_due : Option Addr} {sl_Ideal_due : Array (Option Value)} {oc_Ideal_due kV_Ideal_due dc_Ideal_due pm_Ideal_due cd_Ideal_due ct_Ideal_due : Value}
    {f_Ideal_let_go : Addr} {od_Ideal_let_go an_Ideal_let_go : Option Addr} {sl_Ideal_let_go : Array (Option Value)} {oc_Ideal_let_go kV_Ideal_let_go dc_Ideal_let_go pm_Ideal_let_go cd_Ideal_let_go ct_Ideal_let_go : Value}
    {f_Ideal_held : Addr} {od_Ideal_held an_Ideal_held : Option Addr} {sl_Ideal_held : Array (Option Value)} {oc_Ideal_held kV_Ideal_held dc_Ideal_held pm_Ideal_held cd_Ideal_held ct_Ideal_held : Value}
    {f_Ideal_ahead : Addr} {od_Ideal_ahead an_Ideal_ahead : Option Addr} {sl_Ideal_ahead : Array (Option Value)} {oc_Ideal_ahead kV_Ideal_ahead dc_Ideal_ahead pm_Ideal_ahead cd_Ideal_ahead ct_Ideal_ahead : Value}
    {f_Ideal_copy : Addr} {od_Ideal_copy an_Ideal_copy : Option Addr} {sl_Ideal_copy : Array (Option Value)} {oc_Ideal_copy kV_Ideal_copy dc_Ideal_copy pm_Ideal_copy cd_Ideal_copy ct_Ideal_copy : Value}
    {f_law_hand : Addr} {od_law_hand an_law_hand : Option Addr} {sl_law_hand : Array (Option Value)} {oc_law_hand kV_law_hand dc_law_hand pm_law_hand cd_law_hand ct_law_hand : Value}
    {f_law_draw : Addr} {od_law_draw an_law_draw : Option Addr} {sl_law_draw : Array (Option Value)} {oc_law_draw kV_law_draw dc_law_draw pm_law_draw cd_law_draw ct_law_draw : Value}
    {f_law_any : Addr} {od_law_any an_law_any : Option Addr} {sl_law_any : Array (Option Value)} {oc_law_any kV_law_any dc_law_any pm_law_any cd_law_any ct_law_any : Value}
    {f_law_is_int : Addr} {od_law_is_int an_law_is_int : Option Addr} {sl_law_is_int : Array (Option Value)} {oc_law_is_int kV_law_is_int dc_law_is_int pm_law_is_int cd_law_is_int ct_law_is_int : Value}
    {f_law_deep : Addr} {od_law_deep an_law_deep : Option Addr} {sl_law_deep : Array (Option Value)} {oc_law_deep kV_law_deep dc_law_deep pm_law_deep cd_law_deep ct_law_deep : Value}
    {f_law_odd : Addr} {od_law_odd an_law_odd : Option Addr} {sl_law_odd : Array (Option Value)} {oc_law_odd kV_law_odd dc_law_odd pm_law_odd cd_law_odd ct_law_odd : Value}
    {f_law_first : Addr} {od_law_first an_law_first : Option Addr} {sl_law_first : Array (Option Value)} {oc_law_first kV_law_first dc_law_first pm_law_first cd_law_first ct_law_first : Value}
    {f_law_key : Addr} {od_law_key an_law_key : Option Addr} {sl_law_key : Array (Option Value)} {oc_law_key kV_law_key dc_law_key pm_law_key cd_law_key ct_law_key : Value}
    {f_law_inserted : Addr} {od_law_inserted an_law_inserted : Option Addr} {sl_law_inserted : Array (Option Value)} {oc_law_inserted kV_law_inserted dc_law_inserted pm_law_inserted cd_law_inserted ct_law_inserted : Value}
    {f_law_word : Addr} {od_law_word an_law_word : Option Addr} {sl_law_word : Array (Option Value)} {oc_law_word kV_law_word dc_law_word pm_law_word cd_law_word ct_law_word : Value}
    {f_law_is_key : Addr} {od_law_is_key an_law_is_key : Option Addr} {sl_law_is_key : Array (Option Value)} {oc_law_is_key kV_law_is_key dc_law_is_key pm_law_is_key cd_law_is_key ct_law_is_key : Value}
    {f_law_some_key : Addr} {od_law_some_key an_law_some_key : Option Addr} {sl_law_some_key : Array (Option Value)} {oc_law_some_key kV_law_some_key dc_law_some_key pm_law_some_key cd_law_some_key ct_law_some_key : Value}
    {f_law : Addr} {od_law an_law : Option Addr} {sl_law : Array (Option Value)} {oc_law kV_law dc_law pm_law ct_law : Value}
    {c_Ideal : Addr}
    {c_FabricError : Addr}
    {c_NoLines : Addr}
    {c_NoOutput : Addr}
    {c_NoKey : Addr}
    {c_KeyThere : Addr}
    {c_NothingThere : Addr}
    {co_law tb_law : Addr}
    {t_MOST_LINES : Tok}
    {t_GREATEST_CELL : Tok}
    {t_GREATEST_RANK : Tok}
    (ht_law : h.get? tb_law = some (PySem.W.tabObj #[]))
    (hk_law : K.lookup tb_law = none)
    (hd_law : PySem.W.codeHdIn K co_law tb_law = true)
    (ac_Ideal : PySem.W.nsIn K mainGlobals "Ideal" = some (some (.ref c_Ideal)))
    (ac_FabricError : PySem.W.nsIn K mainGlobals "FabricError" = some (some (.ref c_FabricError)))
    (ac_NoLines : PySem.W.nsIn K mainGlobals "NoLines" = some (some (.ref c_NoLines)))
    (ac_NoOutput : PySem.W.nsIn K mainGlobals "NoOutput" = some (some (.ref c_NoOutput)))
    (ac_NoKey : PySem.W.nsIn K mainGlobals "NoKey" = some (some (.ref c_NoKey)))
    (ac_KeyThere : PySem.W.nsIn K mainGlobals "KeyThere" = some (some (.ref c_KeyThere)))
    (ac_NothingThere : PySem.W.nsIn K mainGlobals "NothingThere" = some (some (.ref c_NothingThere)))
    (a_wall : PySem.W.nsIn K mainGlobals "_wall" = some (some (.ref f_wall)))
    (l_wall : K.lookup f_wall = some ⟨oc_wall, od_wall, .func (PySem.W.fnOf "_wall" "_wall" (defArgs s_wall) (defBody s_wall) (defScope s_wall) .none kV_wall dc_wall pm_wall an_wall cd_wall ct_wall), sl_wall⟩)
    (q_wall : PySem.W.codeIn K cd_wall "_wall" = true)
    (p_wall : PySem.W.keepIn K (.ref f_wall) = true)
    (a_is_integer : PySem.W.nsIn K mainGlobals "is_integer" = some (some (.ref f_is_integer)))
    (l_is_integer : K.lookup f_is_integer = some ⟨oc_is_integer, od_is_integer, .func (PySem.W.fnOf "is_integer" "is_integer" (defArgs s_is_integer) (defBody s_is_integer) (defScope s_is_integer) .none kV_is_integer dc_is_integer pm_is_integer an_is_integer cd_is_integer ct_is_integer), sl_is_integer⟩)
    (q_is_integer : PySem.W.codeIn K cd_is_integer "is_integer" = true)
    (p_is_integer : PySem.W.keepIn K (.ref f_is_integer) = true)
    (a_is_integer_from : PySem.W.nsIn K mainGlobals "is_integer_from" = some (some (.ref f_is_integer_from)))
    (l_is_integer_from : K.lookup f_is_integer_from = some ⟨oc_is_integer_from, od_is_integer_from, .func (PySem.W.fnOf "is_integer_from" "is_integer_from" (defArgs s_is_integer_from) (defBody s_is_integer_from) (defScope s_is_integer_from) .none kV_is_integer_from dc_is_integer_from pm_is_integer_from an_is_integer_from cd_is_integer_from ct_is_integer_from), sl_is_integer_from⟩)
    (q_is_integer_from : PySem.W.codeIn K cd_is_integer_from "is_integer_from" = true)
    (p_is_integer_from : PySem.W.keepIn K (.ref f_is_integer_from) = true)
    (a_is_number_below : PySem.W.nsIn K mainGlobals "is_number_below" = some (some (.ref f_is_number_below)))
    (l_is_number_below : K.lookup f_is_number_below = some ⟨oc_is_number_below, od_is_number_below, .func (PySem.W.fnOf "is_number_below" "is_number_below" (defArgs s_is_number_below) (defBody s_is_number_below) (defScope s_is_number_below) .none kV_is_number_below dc_is_number_below pm_is_number_below an_is_number_below cd_is_number_below ct_is_number_below), sl_is_number_below⟩)
    (q_is_number_below : PySem.W.codeIn K cd_is_number_below "is_number_below" = true)
    (p_is_number_below : PySem.W.keepIn K (.ref f_is_number_below) = true)
    (a_is_tuple_of : PySem.W.nsIn K mainGlobals "is_tuple_of" = some (some (.ref f_is_tuple_of)))
    (l_is_tuple_of : K.lookup f_is_tuple_of = some ⟨oc_is_tuple_of, od_is_tuple_of, .func (PySem.W.fnOf "is_tuple_of" "is_tuple_of" (defArgs s_is_tuple_of) (defBody s_is_tuple_of) (defScope s_is_tuple_of) .none kV_is_tuple_of dc_is_tuple_of pm_is_tuple_of an_is_tuple_of cd_is_tuple_of ct_is_tuple_of), sl_is_tuple_of⟩)
    (q_is_tuple_of : PySem.W.codeIn K cd_is_tuple_of "is_tuple_of" = true)
    (p_is_tuple_of : PySem.W.keepIn K (.ref f_is_tuple_of) = true)
    (a_check_lines : PySem.W.nsIn K mainGlobals "check_lines" = some (some (.ref f_check_lines)))
    (l_check_lines : K.lookup f_check_lines = some ⟨oc_check_lines, od_check_lines, .func (PySem.W.fnOf "check_lines" "check_lines" (defArgs s_check_lines) (defBody s_check_lines) (defScope s_check_lines) .none kV_check_lines dc_check_lines pm_check_lines an_check_lines cd_check_lines ct_check_lines), sl_check_lines⟩)
    (q_check_lines : PySem.W.codeIn K cd_check_lines "check_lines" = true)
    (p_check_lines : PySem.W.keepIn K (.ref f_check_lines) = true)
    (a_is_cell_number : PySem.W.nsIn K mainGlobals "is_cell_number" = some (some (.ref f_is_cell_number)))
    (l_is_cell_number : K.lookup f_is_cell_number = some ⟨oc_is_cell_number, od_is_cell_number, .func (PySem.W.fnOf "is_cell_number" "is_cell_number" (defArgs s_is_cell_number) (defBody s_is_cell_number) (defScope s_is_cell_number) .none kV_is_cell_number dc_is_cell_number pm_is_cell_number an_is_cell_number cd_is_cell_number ct_is_cell_number), sl_is_cell_number⟩)
    (q_is_cell_number : PySem.W.codeIn K cd_is_cell_number "is_cell_number" = true)
    (p_is_cell_number : PySem.W.keepIn K (.ref f_is_cell_number) = true)
    (a_is_rank : PySem.W.nsIn K mainGlobals "is_rank" = some (some (.ref f_is_rank)))
    (l_is_rank : K.lookup f_is_rank = some ⟨oc_is_rank, od_is_rank, .func (PySem.W.fnOf "is_rank" "is_rank" (defArgs s_is_rank) (defBody s_is_rank) (defScope s_is_rank) .none kV_is_rank dc_is_rank pm_is_rank an_is_rank cd_is_rank ct_is_rank), sl_is_rank⟩)
    (q_is_rank : PySem.W.codeIn K cd_is_rank "is_rank" = true)
    (p_is_rank : PySem.W.keepIn K (.ref f_is_rank) = true)
    (a_is_key : PySem.W.nsIn K mainGlobals "is_key" = some (some (.ref f_is_key)))
    (l_is_key : K.lookup f_is_key = some ⟨oc_is_key, od_is_key, .func (PySem.W.fnOf "is_key" "is_key" (defArgs s_is_key) (defBody s_is_key) (defScope s_is_key) .none kV_is_key dc_is_key pm_is_key an_is_key cd_is_key ct_is_key), sl_is_key⟩)
    (q_is_key : PySem.W.codeIn K cd_is_key "is_key" = true)
    (p_is_key : PySem.W.keepIn K (.ref f_is_key) = true)
    (a_check_key : PySem.W.nsIn K mainGlobals "check_key" = some (some (.ref f_check_key)))
    (l_check_key : K.lookup f_check_key = some ⟨oc_check_key, od_check_key, .func (PySem.W.fnOf "check_key" "check_key" (defArgs s_check_key) (defBody s_check_key) (defScope s_check_key) .none kV_check_key dc_check_key pm_check_key an_check_key cd_check_key ct_check_key), sl_check_key⟩)
    (q_check_key : PySem.W.codeIn K cd_check_key "check_key" = true)
    (p_check_key : PySem.W.keepIn K (.ref f_check_key) = true)
    (a_how_many_less : PySem.W.nsIn K mainGlobals "how_many_less" = some (some (.ref f_how_many_less)))
    (l_how_many_less : K.lookup f_how_many_less = some ⟨oc_how_many_less, od_how_many_less, .func (PySem.W.fnOf "how_many_less" "how_many_less" (defArgs s_how_many_less) (defBody s_how_many_less) (defScope s_how_many_less) .none kV_how_many_less dc_how_many_less pm_how_many_less an_how_many_less cd_how_many_less ct_how_many_less), sl_how_many_less⟩)
    (q_how_many_less : PySem.W.codeIn K cd_how_many_less "how_many_less" = true)
    (p_how_many_less : PySem.W.keepIn K (.ref f_how_many_less) = true)
    (a_Ideal___init__ : PySem.W.findIn K (.ref c_Ideal) "__init__" = some (some (.ref f_Ideal___init__)))
    (i_Ideal___init__ : PySem.W.isFn K (.ref f_Ideal___init__) = true)
    (l_Ideal___init__ : K.lookup f_Ideal___init__ = some ⟨oc_Ideal___init__, od_Ideal___init__, .func (PySem.W.fnOf "__init__" "Ideal.__init__" (defArgs s_Ideal___init__) (defBody s_Ideal___init__) (defScope s_Ideal___init__) .none kV_Ideal___init__ dc_Ideal___init__ pm_Ideal___init__ an_Ideal___init__ cd_Ideal___init__ ct_Ideal___init__), sl_Ideal___init__⟩)
    (q_Ideal___init__ : PySem.W.codeIn K cd_Ideal___init__ "Ideal.__init__" = true)
    (p_Ideal___init__ : PySem.W.keepIn K (.ref f_Ideal___init__) = true)
    (a_Ideal__row : PySem.W.findIn K (.ref c_Ideal) "_row" = some (some (.ref f_Ideal__row)))
    (i_Ideal__row : PySem.W.isFn K (.ref f_Ideal__row) = true)
    (l_Ideal__row : K.lookup f_Ideal__row = some ⟨oc_Ideal__row, od_Ideal__row, .func (PySem.W.fnOf "_row" "Ideal._row" (defArgs s_Ideal__row) (defBody s_Ideal__row) (defScope s_Ideal__row) .none kV_Ideal__row dc_Ideal__row pm_Ideal__row an_Ideal__row cd_Ideal__row ct_Ideal__row), sl_Ideal__row⟩)
    (q_Ideal__row : PySem.W.codeIn K cd_Ideal__row "Ideal._row" = true)
    (p_Ideal__row : PySem.W.keepIn K (.ref f_Ideal__row) = true)
    (a_Ideal_push : PySem.W.findIn K (.ref c_Ideal) "push" = some (some (.ref f_Ideal_push)))
    (i_Ideal_push : PySem.W.isFn K (.ref f_Ideal_push) = true)
    (l_Ideal_push : K.lookup f_Ideal_push = some ⟨oc_Ideal_push, od_Ideal_push, .func (PySem.W.fnOf "push" "Ideal.push" (defArgs s_Ideal_push) (defBody s_Ideal_push) (defScope s_Ideal_push) .none kV_Ideal_push dc_Ideal_push pm_Ideal_push an_Ideal_push cd_Ideal_push ct_Ideal_push), sl_Ideal_push⟩)
    (q_Ideal_push : PySem.W.codeIn K cd_Ideal_push "Ideal.push" = true)
    (p_Ideal_push : PySem.W.keepIn K (.ref f_Ideal_push) = true)
    (a_Ideal_due : PySem.W.findIn K (.ref c_Ideal) "due" = some (some (.ref f_Ideal_due)))
    (i_Ideal_due : PySem.W.isFn K (.ref f_Ideal_due) = true)
    (l_Ideal_due : K.lookup f_Ideal_due = some ⟨oc_Ideal_due, od_Ideal_due, .func (PySem.W.fnOf "due" "Ideal.due" (defArgs s_Ideal_due) (defBody s_Ideal_due) (defScope s_Ideal_due) .none kV_Ideal_due dc_Ideal_due pm_Ideal_due an_Ideal_due cd_Ideal_due ct_Ideal_due), sl_Ideal_due⟩)
    (q_Ideal_due : PySem.W.codeIn K cd_Ideal_due "Ideal.due" = true)
    (p_Ideal_due : PySem.W.keepIn K (.ref f_Ideal_due) = true)
    (a_Ideal_let_go : PySem.W.findIn K (.ref c_Ideal) "let_go" = some (some (.ref f_Ideal_let_go)))
    (i_Ideal_let_go : PySem.W.isFn K (.ref f_Ideal_let_go) = true)
    (l_Ideal_let_go : K.lookup f_Ideal_let_go = some ⟨oc_Ideal_let_go, od_Ideal_let_go, .func (PySem.W.fnOf "let_go" "Ideal.let_go" (defArgs s_Ideal_let_go) (defBody s_Ideal_let_go) (defScope s_Ideal_let_go) .none kV_Ideal_let_go dc_Ideal_let_go pm_Ideal_let_go an_Ideal_let_go cd_Ideal_let_go ct_Ideal_let_go), sl_Ideal_let_go⟩)
    (q_Ideal_let_go : PySem.W.codeIn K cd_Ideal_let_go "Ideal.let_go" = true)
    (p_Ideal_let_go : PySem.W.keepIn K (.ref f_Ideal_let_go) = true)
    (a_Ideal_held : PySem.W.findIn K (.ref c_Ideal) "held" = some (some (.ref f_Ideal_held)))
    (i_Ideal_held : PySem.W.isFn K (.ref f_Ideal_held) = true)
    (l_Ideal_held : K.lookup f_Ideal_held = some ⟨oc_Ideal_held, od_Ideal_held, .func (PySem.W.fnOf "held" "Ideal.held" (defArgs s_Ideal_held) (defBody s_Ideal_held) (defScope s_Ideal_held) .none kV_Ideal_held dc_Ideal_held pm_Ideal_held an_Ideal_held cd_Ideal_held ct_Ideal_held), sl_Ideal_held⟩)
    (q_Ideal_held : PySem.W.codeIn K cd_Ideal_held "Ideal.held" = true)
    (p_Ideal_held : PySem.W.keepIn K (.ref f_Ideal_held) = true)
    (a_Ideal_ahead : PySem.W.findIn K (.ref c_Ideal) "ahead" = some (some (.ref f_Ideal_ahead)))
    (i_Ideal_ahead : PySem.W.isFn K (.ref f_Ideal_ahead) = true)
    (l_Ideal_ahead : K.lookup f_Ideal_ahead = some ⟨oc_Ideal_ahead, od_Ideal_ahead, .func (PySem.W.fnOf "ahead" "Ideal.ahead" (defArgs s_Ideal_ahead) (defBody s_Ideal_ahead) (defScope s_Ideal_ahead) .none kV_Ideal_ahead dc_Ideal_ahead pm_Ideal_ahead an_Ideal_ahead cd_Ideal_ahead ct_Ideal_ahead), sl_Ideal_ahead⟩)
    (q_Ideal_ahead : PySem.W.codeIn K cd_Ideal_ahead "Ideal.ahead" = true)
    (p_Ideal_ahead : PySem.W.keepIn K (.ref f_Ideal_ahead) = true)
    (a_Ideal_copy : PySem.W.findIn K (.ref c_Ideal) "copy" = some (some (.ref f_Ideal_copy)))
    (i_Ideal_copy : PySem.W.isFn K (.ref f_Ideal_copy) = true)
    (l_Ideal_copy : K.lookup f_Ideal_copy = some ⟨oc_Ideal_copy, od_Ideal_copy, .func (PySem.W.fnOf "copy" "Ideal.copy" (defArgs s_Ideal_copy) (defBody s_Ideal_copy) (defScope s_Ideal_copy) .none kV_Ideal_copy dc_Ideal_copy pm_Ideal_copy an_Ideal_copy cd_Ideal_copy ct_Ideal_copy), sl_Ideal_copy⟩)
    (q_Ideal_copy : PySem.W.codeIn K cd_Ideal_copy "Ideal.copy" = true)
    (p_Ideal_copy : PySem.W.keepIn K (.ref f_Ideal_copy) = true)
    (a_law_hand : PySem.W.nsIn K mainGlobals "_law_hand" = some (some (.ref f_law_hand)))
    (l_law_hand : K.lookup f_law_hand = some ⟨oc_law_hand, od_law_hand, .func (PySem.W.fnOf "_law_hand" "_law_hand" (defArgs s_law_hand) (defBody s_law_hand) (defScope s_law_hand) .none kV_law_hand dc_law_hand pm_law_hand an_law_hand cd_law_hand ct_law_hand), sl_law_hand⟩)
    (q_law_hand : PySem.W.codeIn K cd_law_hand "_law_hand" = true)
    (p_law_hand : PySem.W.keepIn K (.ref f_law_hand) = true)
    (a_law_draw : PySem.W.nsIn K mainGlobals "_law_draw" = some (some (.ref f_law_draw)))
    (l_law_draw : K.lookup f_law_draw = some ⟨oc_law_draw, od_law_draw, .func (PySem.W.fnOf "_law_draw" "_law_draw" (defArgs s_law_draw) (defBody s_law_draw) (defScope s_law_draw) .none kV_law_draw dc_law_draw pm_law_draw an_law_draw cd_law_draw ct_law_draw), sl_law_draw⟩)
    (q_law_draw : PySem.W.codeIn K cd_law_draw "_law_draw" = true)
    (p_law_draw : PySem.W.keepIn K (.ref f_law_draw) = true)
    (a_law_any : PySem.W.nsIn K mainGlobals "_law_any" = some (some (.ref f_law_any)))
    (l_law_any : K.lookup f_law_any = some ⟨oc_law_any, od_law_any, .func (PySem.W.fnOf "_law_any" "_law_any" (defArgs s_law_any) (defBody s_law_any) (defScope s_law_any) .none kV_law_any dc_law_any pm_law_any an_law_any cd_law_any ct_law_any), sl_law_any⟩)
    (q_law_any : PySem.W.codeIn K cd_law_any "_law_any" = true)
    (p_law_any : PySem.W.keepIn K (.ref f_law_any) = true)
    (a_law_is_int : PySem.W.nsIn K mainGlobals "_law_is_int" = some (some (.ref f_law_is_int)))
    (l_law_is_int : K.lookup f_law_is_int = some ⟨oc_law_is_int, od_law_is_int, .func (PySem.W.fnOf "_law_is_int" "_law_is_int" (defArgs s_law_is_int) (defBody s_law_is_int) (defScope s_law_is_int) .none kV_law_is_int dc_law_is_int pm_law_is_int an_law_is_int cd_law_is_int ct_law_is_int), sl_law_is_int⟩)
    (q_law_is_int : PySem.W.codeIn K cd_law_is_int "_law_is_int" = true)
    (p_law_is_int : PySem.W.keepIn K (.ref f_law_is_int) = true)
    (a_law_deep : PySem.W.nsIn K mainGlobals "_law_deep" = some (some (.ref f_law_deep)))
    (l_law_deep : K.lookup f_law_deep = some ⟨oc_law_deep, od_law_deep, .func (PySem.W.fnOf "_law_deep" "_law_deep" (defArgs s_law_deep) (defBody s_law_deep) (defScope s_law_deep) .none kV_law_deep dc_law_deep pm_law_deep an_law_deep cd_law_deep ct_law_deep), sl_law_deep⟩)
    (q_law_deep : PySem.W.codeIn K cd_law_deep "_law_deep" = true)
    (p_law_deep : PySem.W.keepIn K (.ref f_law_deep) = true)
    (a_law_odd : PySem.W.nsIn K mainGlobals "_law_odd" = some (some (.ref f_law_odd)))
    (l_law_odd : K.lookup f_law_odd = some ⟨oc_law_odd, od_law_odd, .func (PySem.W.fnOf "_law_odd" "_law_odd" (defArgs s_law_odd) (defBody s_law_odd) (defScope s_law_odd) .none kV_law_odd dc_law_odd pm_law_odd an_law_odd cd_law_odd ct_law_odd), sl_law_odd⟩)
    (q_law_odd : PySem.W.codeIn K cd_law_odd "_law_odd" = true)
    (p_law_odd : PySem.W.keepIn K (.ref f_law_odd) = true)
    (a_law_first : PySem.W.nsIn K mainGlobals "_law_first" = some (some (.ref f_law_first)))
    (l_law_first : K.lookup f_law_first = some ⟨oc_law_first, od_law_first, .func (PySem.W.fnOf "_law_first" "_law_first" (defArgs s_law_first) (defBody s_law_first) (defScope s_law_first) .none kV_law_first dc_law_first pm_law_first an_law_first cd_law_first ct_law_first), sl_law_first⟩)
    (q_law_first : PySem.W.codeIn K cd_law_first "_law_first" = true)
    (p_law_first : PySem.W.keepIn K (.ref f_law_first) = true)
    (a_law_key : PySem.W.nsIn K mainGlobals "_law_key" = some (some (.ref f_law_key)))
    (l_law_key : K.lookup f_law_key = some ⟨oc_law_key, od_law_key, .func (PySem.W.fnOf "_law_key" "_law_key" (defArgs s_law_key) (defBody s_law_key) (defScope s_law_key) .none kV_law_key dc_law_key pm_law_key an_law_key cd_law_key ct_law_key), sl_law_key⟩)
    (q_law_key : PySem.W.codeIn K cd_law_key "_law_key" = true)
    (p_law_key : PySem.W.keepIn K (.ref f_law_key) = true)
    (a_law_inserted : PySem.W.nsIn K mainGlobals "_law_inserted" = some (some (.ref f_law_inserted)))
    (l_law_inserted : K.lookup f_law_inserted = some ⟨oc_law_inserted, od_law_inserted, .func (PySem.W.fnOf "_law_inserted" "_law_inserted" (defArgs s_law_inserted) (defBody s_law_inserted) (defScope s_law_inserted) .none kV_law_inserted dc_law_inserted pm_law_inserted an_law_inserted cd_law_inserted ct_law_inserted), sl_law_inserted⟩)
    (q_law_inserted : PySem.W.codeIn K cd_law_inserted "_law_inserted" = true)
    (p_law_inserted : PySem.W.keepIn K (.ref f_law_inserted) = true)
    (a_law_word : PySem.W.nsIn K mainGlobals "_law_word" = some (some (.ref f_law_word)))
    (l_law_word : K.lookup f_law_word = some ⟨oc_law_word, od_law_word, .func (PySem.W.fnOf "_law_word" "_law_word" (defArgs s_law_word) (defBody s_law_word) (defScope s_law_word) .none kV_law_word dc_law_word pm_law_word an_law_word cd_law_word ct_law_word), sl_law_word⟩)
    (q_law_word : PySem.W.codeIn K cd_law_word "_law_word" = true)
    (p_law_word : PySem.W.keepIn K (.ref f_law_word) = true)
    (a_law_is_key : PySem.W.nsIn K mainGlobals "_law_is_key" = some (some (.ref f_law_is_key)))
    (l_law_is_key : K.lookup f_law_is_key = some ⟨oc_law_is_key, od_law_is_key, .func (PySem.W.fnOf "_law_is_key" "_law_is_key" (defArgs s_law_is_key) (defBody s_law_is_key) (defScope s_law_is_key) .none kV_law_is_key dc_law_is_key pm_law_is_key an_law_is_key cd_law_is_key ct_law_is_key), sl_law_is_key⟩)
    (q_law_is_key : PySem.W.codeIn K cd_law_is_key "_law_is_key" = true)
    (p_law_is_key : PySem.W.keepIn K (.ref f_law_is_key) = true)
    (a_law_some_key : PySem.W.nsIn K mainGlobals "_law_some_key" = some (some (.ref f_law_some_key)))
    (l_law_some_key : K.lookup f_law_some_key = some ⟨oc_law_some_key, od_law_some_key, .func (PySem.W.fnOf "_law_some_key" "_law_some_key" (defArgs s_law_some_key) (defBody s_law_some_key) (defScope s_law_some_key) .none kV_law_some_key dc_law_some_key pm_law_some_key an_law_some_key cd_law_some_key ct_law_some_key), sl_law_some_key⟩)
    (q_law_some_key : PySem.W.codeIn K cd_law_some_key "_law_some_key" = true)
    (p_law_some_key : PySem.W.keepIn K (.ref f_law_some_key) = true)
    (a_law : PySem.W.nsIn K mainGlobals "law" = some (some (.ref f_law)))
    (l_law : K.lookup f_law = some ⟨oc_law, od_law, .func (PySem.W.fnOf "law" "law" (defArgs s_law) (defBody s_law) (defScope s_law) .none kV_law dc_law pm_law an_law (.ref co_law) ct_law), sl_law⟩)
    (q_law : PySem.W.codeIn K (.ref co_law) "law" = true)
    (p_law : PySem.W.keepIn K (.ref f_law) = true)
    (pg_Ideal : PySem.W.plainGet K c_Ideal Str.empty = true)
    (hd_Ideal : PySem.W.hasDictIn K c_Ideal = true)
    (po_Ideal : PySem.W.plainOver K c_Ideal = true)
    (sa_Ideal : PySem.W.findIn K (.ref c_Ideal) "__setattr__" = some (some (.builtin "object.__setattr__")))
    (mk_Ideal : PySem.W.makesIn K c_Ideal = true)
    (kc_Ideal : PySem.W.keepIn K (.ref c_Ideal) = true)
    (n_Ideal__rows : PySem.W.findIn K (.ref c_Ideal) "_rows" = some none)
    (em_Ideal : PySem.W.mroIn K c_Ideal (.type "object") = some true)
    (es_Ideal : PySem.W.findIn K (.ref c_Ideal) "__eq__" = some (some (.builtin "object.__eq__")))
    (x_NoLines : PySem.W.excIn K c_NoLines [.type "ValueError", .type "Exception", .type "BaseException", .type "object"] "ValueError.__new__" = true)
    (kp_NoLines : PySem.W.keepIn K (.ref c_NoLines) = true)
    (s_NoLines : PySem.W.subIn K (.ref c_NoLines) (.type "BaseException") = some true)
    (t_NoLines : PySem.W.typeIn K (.ref c_NoLines) = some (.type "type"))
    (e1_NoLines : PySem.W.findIn K (.ref c_NoLines) "__getattribute__" = some (some (.builtin "BaseException.__getattribute__")))
    (e2_NoLines : PySem.W.findIn K (.ref c_NoLines) "__getattr__" = some none)
    (e3_NoLines : PySem.W.hasDictIn K c_NoLines = true)
    (e4_NoLines : PySem.W.findIn K (.ref c_NoLines) "__class__" = some (some (.builtin "object.__class__")))
    (e5_NoLines : PySem.W.mroIn K c_NoLines (.type "object") = some true)
    (x_NoKey : PySem.W.excIn K c_NoKey [.type "ValueError", .type "Exception", .type "BaseException", .type "object"] "ValueError.__new__" = true)
    (kp_NoKey : PySem.W.keepIn K (.ref c_NoKey) = true)
    (s_NoKey : PySem.W.subIn K (.ref c_NoKey) (.type "BaseException") = some true)
    (t_NoKey : PySem.W.typeIn K (.ref c_NoKey) = some (.type "type"))
    (e1_NoKey : PySem.W.findIn K (.ref c_NoKey) "__getattribute__" = some (some (.builtin "BaseException.__getattribute__")))
    (e2_NoKey : PySem.W.findIn K (.ref c_NoKey) "__getattr__" = some none)
    (e3_NoKey : PySem.W.hasDictIn K c_NoKey = true)
    (e4_NoKey : PySem.W.findIn K (.ref c_NoKey) "__class__" = some (some (.builtin "object.__class__")))
    (e5_NoKey : PySem.W.mroIn K c_NoKey (.type "object") = some true)
    (x_NoOutput : PySem.W.excIn K c_NoOutput [.type "ValueError", .type "Exception", .type "BaseException", .type "object"] "ValueError.__new__" = true)
    (kp_NoOutput : PySem.W.keepIn K (.ref c_NoOutput) = true)
    (s_NoOutput : PySem.W.subIn K (.ref c_NoOutput) (.type "BaseException") = some true)
    (t_NoOutput : PySem.W.typeIn K (.ref c_NoOutput) = some (.type "type"))
    (e1_NoOutput : PySem.W.findIn K (.ref c_NoOutput) "__getattribute__" = some (some (.builtin "BaseException.__getattribute__")))
    (e2_NoOutput : PySem.W.findIn K (.ref c_NoOutput) "__getattr__" = some none)
    (e3_NoOutput : PySem.W.hasDictIn K c_NoOutput = true)
    (e4_NoOutput : PySem.W.findIn K (.ref c_NoOutput) "__class__" = some (some (.builtin "object.__class__")))
    (e5_NoOutput : PySem.W.mroIn K c_NoOutput (.type "object") = some true)
    (x_KeyThere : PySem.W.excIn K c_KeyThere [.type "ValueError", .type "Exception", .type "BaseException", .type "object"] "ValueError.__new__" = true)
    (kp_KeyThere : PySem.W.keepIn K (.ref c_KeyThere) = true)
    (s_KeyThere : PySem.W.subIn K (.ref c_KeyThere) (.type "BaseException") = some true)
    (t_KeyThere : PySem.W.typeIn K (.ref c_KeyThere) = some (.type "type"))
    (e1_KeyThere : PySem.W.findIn K (.ref c_KeyThere) "__getattribute__" = some (some (.builtin "BaseException.__getattribute__")))
    (e2_KeyThere : PySem.W.findIn K (.ref c_KeyThere) "__getattr__" = some none)
    (e3_KeyThere : PySem.W.hasDictIn K c_KeyThere = true)
    (e4_KeyThere : PySem.W.findIn K (.ref c_KeyThere) "__class__" = some (some (.builtin "object.__class__")))
    (e5_KeyThere : PySem.W.mroIn K c_KeyThere (.type "object") = some true)
    (x_NothingThere : PySem.W.excIn K c_NothingThere [.type "ValueError", .type "Exception", .type "BaseException", .type "object"] "ValueError.__new__" = true)
    (kp_NothingThere : PySem.W.keepIn K (.ref c_NothingThere) = true)
    (s_NothingThere : PySem.W.subIn K (.ref c_NothingThere) (.type "BaseException") = some true)
    (t_NothingThere : PySem.W.typeIn K (.ref c_NothingThere) = some (.type "type"))
    (e1_NothingThere : PySem.W.findIn K (.ref c_NothingThere) "__getattribute__" = some (some (.builtin "BaseException.__getattribute__")))
    (e2_NothingThere : PySem.W.findIn K (.ref c_NothingThere) "__getattr__" = some none)
    (e3_NothingThere : PySem.W.hasDictIn K c_NothingThere = true)
    (e4_NothingThere : PySem.W.findIn K (.ref c_NothingThere) "__class__" = some (some (.builtin "object.__class__")))
    (e5_NothingThere : PySem.W.mroIn K c_NothingThere (.type "object") = some true)
    (ci_Ideal : PySem.W.findIn K (.ref c_Ideal) "__class__" = some (some (.builtin "object.__class__")))
    (en1 : PySem.W.specialIn K (.builtin "object.__class__") "__get__" = some (some (.builtin "getset_descriptor.__get__")))
    (en2 : PySem.W.takesIn K (.builtin "object.__class__") = some true)
    (su_Ideal_int : PySem.W.subIn K (.ref c_Ideal) (.type "int") = some false)
    (su_Ideal_bool : PySem.W.subIn K (.ref c_Ideal) (.type "bool") = some false)
    (su_Ideal_tuple : PySem.W.subIn K (.ref c_Ideal) (.type "tuple") = some false)
    (s_FabricError : PySem.W.subIn K (.ref c_FabricError) (.type "BaseException") = some true)
    (t_FabricError : PySem.W.typeIn K (.ref c_FabricError) = some (.type "type"))
    (e3_FabricError : PySem.W.hasDictIn K c_FabricError = true)
    (su_FabricError_FabricError : PySem.W.subIn K (.ref c_FabricError) (.ref c_FabricError) = some true)
    (su_NoLines_FabricError : PySem.W.subIn K (.ref c_NoLines) (.ref c_FabricError) = some true)
    (su_NoLines_ValueError : PySem.W.subIn K (.ref c_NoLines) (.type "ValueError") = some true)
    (su_NoLines_NothingThere : PySem.W.subIn K (.ref c_NoLines) (.ref c_NothingThere) = some false)
    (su_NoLines_KeyThere : PySem.W.subIn K (.ref c_NoLines) (.ref c_KeyThere) = some false)
    (su_NoLines_NoKey : PySem.W.subIn K (.ref c_NoLines) (.ref c_NoKey) = some false)
    (su_NoLines_NoOutput : PySem.W.subIn K (.ref c_NoLines) (.ref c_NoOutput) = some false)
    (su_NoLines_NoLines : PySem.W.subIn K (.ref c_NoLines) (.ref c_NoLines) = some true)
    (su_NoKey_FabricError : PySem.W.subIn K (.ref c_NoKey) (.ref c_FabricError) = some true)
    (su_NoKey_ValueError : PySem.W.subIn K (.ref c_NoKey) (.type "ValueError") = some true)
    (su_NoKey_NothingThere : PySem.W.subIn K (.ref c_NoKey) (.ref c_NothingThere) = some false)
    (su_NoKey_KeyThere : PySem.W.subIn K (.ref c_NoKey) (.ref c_KeyThere) = some false)
    (su_NoKey_NoKey : PySem.W.subIn K (.ref c_NoKey) (.ref c_NoKey) = some true)
    (su_NoKey_NoOutput : PySem.W.subIn K (.ref c_NoKey) (.ref c_NoOutput) = some false)
    (su_NoKey_NoLines : PySem.W.subIn K (.ref c_NoKey) (.ref c_NoLines) = some false)
    (su_NoOutput_FabricError : PySem.W.subIn K (.ref c_NoOutput) (.ref c_FabricError) = some true)
    (su_NoOutput_ValueError : PySem.W.subIn K (.ref c_NoOutput) (.type "ValueError") = some true)
    (su_NoOutput_NothingThere : PySem.W.subIn K (.ref c_NoOutput) (.ref c_NothingThere) = some false)
    (su_NoOutput_KeyThere : PySem.W.subIn K (.ref c_NoOutput) (.ref c_KeyThere) = some false)
    (su_NoOutput_NoKey : PySem.W.subIn K (.ref c_NoOutput) (.ref c_NoKey) = some false)
    (su_NoOutput_NoOutput : PySem.W.subIn K (.ref c_NoOutput) (.ref c_NoOutput) = some true)
    (su_NoOutput_NoLines : PySem.W.subIn K (.ref c_NoOutput) (.ref c_NoLines) = some false)
    (su_KeyThere_FabricError : PySem.W.subIn K (.ref c_KeyThere) (.ref c_FabricError) = some true)
    (su_KeyThere_ValueError : PySem.W.subIn K (.ref c_KeyThere) (.type "ValueError") = some true)
    (su_KeyThere_NothingThere : PySem.W.subIn K (.ref c_KeyThere) (.ref c_NothingThere) = some false)
    (su_KeyThere_KeyThere : PySem.W.subIn K (.ref c_KeyThere) (.ref c_KeyThere) = some true)
    (su_KeyThere_NoKey : PySem.W.subIn K (.ref c_KeyThere) (.ref c_NoKey) = some false)
    (su_KeyThere_NoOutput : PySem.W.subIn K (.ref c_KeyThere) (.ref c_NoOutput) = some false)
    (su_KeyThere_NoLines : PySem.W.subIn K (.ref c_KeyThere) (.ref c_NoLines) = some false)
    (su_NothingThere_FabricError : PySem.W.subIn K (.ref c_NothingThere) (.ref c_FabricError) = some true)
    (su_NothingThere_ValueError : PySem.W.subIn K (.ref c_NothingThere) (.type "ValueError") = some true)
    (su_NothingThere_NothingThere : PySem.W.subIn K (.ref c_NothingThere) (.ref c_NothingThere) = some true)
    (su_NothingThere_KeyThere : PySem.W.subIn K (.ref c_NothingThere) (.ref c_KeyThere) = some false)
    (su_NothingThere_NoKey : PySem.W.subIn K (.ref c_NothingThere) (.ref c_NoKey) = some false)
    (su_NothingThere_NoOutput : PySem.W.subIn K (.ref c_NothingThere) (.ref c_NoOutput) = some false)
    (su_NothingThere_NoLines : PySem.W.subIn K (.ref c_NothingThere) (.ref c_NoLines) = some false)
    (k_MOST_LINES : PySem.W.nsIn K mainGlobals "MOST_LINES" = some (some (.int 12 t_MOST_LINES)))
    (k_GREATEST_CELL : PySem.W.nsIn K mainGlobals "GREATEST_CELL" = some (some (.int 1000000000 t_GREATEST_CELL)))
    (k_GREATEST_RANK : PySem.W.nsIn K mainGlobals "GREATEST_RANK" = some (some (.int 1000000000000000000 t_GREATEST_RANK)))
    (z_ValueError : PySem.W.nsIn K mainGlobals "ValueError" = some none)
    (z_abs : PySem.W.nsIn K mainGlobals "abs" = some none)
    (z_bool : PySem.W.nsIn K mainGlobals "bool" = some none)
    (z_int : PySem.W.nsIn K mainGlobals "int" = some none)
    (z_isinstance : PySem.W.nsIn K mainGlobals "isinstance" = some none)
    (z_len : PySem.W.nsIn K mainGlobals "len" = some none)
    (z_range : PySem.W.nsIn K mainGlobals "range" = some none)
    (z_tuple : PySem.W.nsIn K mainGlobals "tuple" = some none)
    : LamX.LawAtS l w K CX0 20 63 "_law_script" mg fa h := by
  obtain ⟨A, T, ed, ea, ec_law, et_law⟩ := top_mk (l := l) (w := w) (tb_law := tb_law) X G ac_Ideal ac_FabricError ac_NoLines ac_NoOutput ac_NoKey ac_KeyThere ac_NothingThere a_wall l_wall q_wall p_wall a_is_integer l_is_integer q_is_integer p_is_integer a_is_integer_from l_is_integer_from q_is_integer_from p_is_integer_from a_is_number_below l_is_number_below q_is_number_below p_is_number_below a_is_tuple_of l_is_tuple_of q_is_tuple_of p_is_tuple_of a_check_lines l_check_lines q_check_lines p_check_lines a_is_cell_number l_is_cell_number q_is_cell_number p_is_cell_number a_is_rank l_is_rank q_is_rank p_is_rank a_is_key l_is_key q_is_key p_is_key a_check_key l_check_key q_check_key p_check_key a_how_many_less l_how_many_less q_how_many_less p_how_many_less a_Ideal___init__ i_Ideal___init__ l_Ideal___init__ q_Ideal___init__ p_Ideal___init__ a_Ideal__row i_Ideal__row l_Ideal__row q_Ideal__row p_Ideal__row a_Ideal_push i_Ideal_push l_Ideal_push q_Ideal_push p_Ideal_push a_Ideal_due i_Ideal_due l_Ideal_due q_Ideal_due p_Ideal_due a_Ideal_let_go i_Ideal_let_go l_Ideal_let_go q_Ideal_let_go p_Ideal_let_go a_Ideal_held i_Ideal_held l_Ideal_held q_Ideal_held p_Ideal_held a_Ideal_ahead i_Ideal_ahead l_Ideal_ahead q_Ideal_ahead p_Ideal_ahead a_Ideal_copy i_Ideal_copy l_Ideal_copy q_Ideal_copy p_Ideal_copy a_law_hand l_law_hand q_law_hand p_law_hand a_law_draw l_law_draw q_law_draw p_law_draw a_law_any l_law_any q_law_any p_law_any a_law_is_int l_law_is_int q_law_is_int p_law_is_int a_law_deep l_law_deep q_law_deep p_law_deep a_law_odd l_law_odd q_law_odd p_law_odd a_law_first l_law_first q_law_first p_law_first a_law_key l_law_key q_law_key p_law_key a_law_inserted l_law_inserted q_law_inserted p_law_inserted a_law_word l_law_word q_law_word p_law_word a_law_is_key l_law_is_key q_law_is_key p_law_is_key a_law_some_key l_law_some_key q_law_some_key p_law_some_key a_law l_law q_law p_law pg_Ideal hd_Ideal po_Ideal sa_Ideal mk_Ideal kc_Ideal n_Ideal__rows em_Ideal es_Ideal x_NoLines kp_NoLines s_NoLines t_NoLines e1_NoLines e2_NoLines e3_NoLines e4_NoLines e5_NoLines x_NoKey kp_NoKey s_NoKey t_NoKey e1_NoKey e2_NoKey e3_NoKey e4_NoKey e5_NoKey x_NoOutput kp_NoOutput s_NoOutput t_NoOutput e1_NoOutput e2_NoOutput e3_NoOutput e4_NoOutput e5_NoOutput x_KeyThere kp_KeyThere s_KeyThere t_KeyThere e1_KeyThere e2_KeyThere e3_KeyThere e4_KeyThere e5_KeyThere x_NothingThere kp_NothingThere s_NothingThere t_NothingThere e1_NothingThere e2_NothingThere e3_NothingThere e4_NothingThere e5_NothingThere ci_Ideal en1 en2 su_Ideal_int su_Ideal_bool su_Ideal_tuple s_FabricError t_FabricError e3_FabricError su_FabricError_FabricError su_NoLines_FabricError su_NoLines_ValueError su_NoLines_NothingThere su_NoLines_KeyThere su_NoLines_NoKey su_NoLines_NoOutput su_NoLines_NoLines su_NoKey_FabricError su_NoKey_ValueError su_NoKey_NothingThere su_NoKey_KeyThere su_NoKey_NoKey su_NoKey_NoOutput su_NoKey_NoLines su_NoOutput_FabricError su_NoOutput_ValueError su_NoOutput_NothingThere su_NoOutput_KeyThere su_NoOutput_NoKey su_NoOutput_NoOutput su_NoOutput_NoLines su_KeyThere_FabricError su_KeyThere_ValueError su_KeyThere_NothingThere su_KeyThere_KeyThere su_KeyThere_NoKey su_KeyThere_NoOutput su_KeyThere_NoLines su_NothingThere_FabricError su_NothingThere_ValueError su_NothingThere_NothingThere su_NothingThere_KeyThere su_NothingThere_NoKey su_NothingThere_NoOutput su_NothingThere_NoLines k_MOST_LINES k_GREATEST_CELL k_GREATEST_RANK z_ValueError z_abs z_bool z_int z_isinstance z_len z_range z_tuple
  have e := hfa.symm.trans T.g_law
  cases e
  subst ec_law et_law
  refine ⟨A.d_law, [(A.cd_law, A.tb_law)], spLaw K A, fun p hp => by
    simp only [List.mem_cons, List.not_mem_nil, or_false] at hp
    rcases hp with rfl
    · exact ht_law, fun p hp => by
    simp only [List.mem_cons, List.not_mem_nil, or_false] at hp
    rcases hp with rfl
    · exact hk_law, fun p hp => by
    simp only [List.mem_cons, List.not_mem_nil, or_false] at hp
    rcases hp with rfl
    · exact PySem.W.codeHd_of_K X hd_law, fun s v => by rw [ed]; exact .of_eq rfl, fun H a ns hn hb ht hS => ⟨a, ns, rfl, hS, hn, ?_, fun _ => rfl⟩, fun base kin gl tb => ok_law T ⟨tb (A.cd_law, A.tb_law) (by simp)⟩⟩
  · intro p hp
    simp only [List.mem_cons, List.not_mem_nil, or_false] at hp
    rcases hp with rfl
    · exact LamX.TabS.nil (ht (A.cd_law, A.tb_law) (by simp))

end KX
open PySem PySem.W PyProof.Rows in
set_option maxRecDepth 100000 in
set_option maxHeartbeats 0 in
theorem PySem.Challenge.cw_exactbeats_k06_ideal_outputs_refused_holds : PySem.Challenge.rw_exactbeats_k06_ideal_outputs_refused.Holds := by
  w_on; o_law; km_head; (case hw => w_witness2)
  refine LamX.walk_ofTs (l := PySem.Challenge.rw_exactbeats_k06_ideal_outputs_refused) (n := 63) (k := 20) (x := "_law_script") (CX := fun _ => L2.CX0) rfl (by decide) rfl ⟨rfl, by decide, by decide⟩ (fun w h Y => PySem.W.km_in_of Y) ?F (fun _ _ _ _ _ h => h)
  case F =>
    intro w mg fa h Y_ KX_ G hmg
    have YT_ := PySem.W.km_tabs_of Y_
    refine' KX.top_end KX_ G hmg (YT_ _ List.mem_cons_self) ?hk_law ?hd_law ?ac_Ideal ?ac_FabricError ?ac_NoLines ?ac_NoOutput ?ac_NoKey ?ac_KeyThere ?ac_NothingThere ?a_wall ?l_wall ?q_wall ?p_wall ?a_is_integer ?l_is_integer ?q_is_integer ?p_is_integer ?a_is_integer_from ?l_is_integer_from ?q_is_integer_from ?p_is_integer_from ?a_is_number_below ?l_is_number_below ?q_is_number_below ?p_is_number_below ?a_is_tuple_of ?l_is_tuple_of ?q_is_tuple_of ?p_is_tuple_of ?a_check_lines ?l_check_lines ?q_check_lines ?p_check_lines ?a_is_cell_number ?l_is_cell_number ?q_is_cell_number ?p_is_cell_number ?a_is_rank ?l_is_rank ?q_is_rank ?p_is_rank ?a_is_key ?l_is_key ?q_is_key ?p_is_key ?a_check_key ?l_check_key ?q_check_key ?p_check_key ?a_how_many_less ?l_how_many_less ?q_how_many_less ?p_how_many_less ?a_Ideal___init__ ?i_Ideal___init__ ?l_Ideal___init__ ?q_Ideal___init__ ?p_Ideal___init__ ?a_Ideal__row ?i_Ideal__row ?l_Ideal__row ?q_Ideal__row ?p_Ideal__row ?a_Ideal_push ?i_Ideal_push ?l_Ideal_push ?q_Ideal_push ?p_Ideal_push ?a_Ideal_due ?i_Ideal_due ?l_Ideal_due ?q_Ideal_due ?p_Ideal_due ?a_Ideal_let_go ?i_Ideal_let_go ?l_Ideal_let_go ?q_Ideal_let_go ?p_Ideal_let_go ?a_Ideal_held ?i_Ideal_held ?l_Ideal_held ?q_Ideal_held ?p_Ideal_held ?a_Ideal_ahead ?i_Ideal_ahead ?l_Ideal_ahead ?q_Ideal_ahead ?p_Ideal_ahead ?a_Ideal_copy ?i_Ideal_copy ?l_Ideal_copy ?q_Ideal_copy ?p_Ideal_copy ?a_law_hand ?l_law_hand ?q_law_hand ?p_law_hand ?a_law_draw ?l_law_draw ?q_law_draw ?p_law_draw ?a_law_any ?l_law_any ?q_law_any ?p_law_any ?a_law_is_int ?l_law_is_int ?q_law_is_int ?p_law_is_int ?a_law_deep ?l_law_deep ?q_law_deep ?p_law_deep ?a_law_odd ?l_law_odd ?q_law_odd ?p_law_odd ?a_law_first ?l_law_first ?q_law_first ?p_law_first ?a_law_key ?l_law_key ?q_law_key ?p_law_key ?a_law_inserted ?l_law_inserted ?q_law_inserted ?p_law_inserted ?a_law_word ?l_law_word ?q_law_word ?p_law_word ?a_law_is_key ?l_law_is_key ?q_law_is_key ?p_law_is_key ?a_law_some_key ?l_law_some_key ?q_law_some_key ?p_law_some_key ?a_law ?l_law ?q_law ?p_law ?pg_Ideal ?hd_Ideal ?po_Ideal ?sa_Ideal ?mk_Ideal ?kc_Ideal ?n_Ideal__rows ?em_Ideal ?es_Ideal ?x_NoLines ?kp_NoLines ?s_NoLines ?t_NoLines ?e1_NoLines ?e2_NoLines ?e3_NoLines ?e4_NoLines ?e5_NoLines ?x_NoKey ?kp_NoKey ?s_NoKey ?t_NoKey ?e1_NoKey ?e2_NoKey ?e3_NoKey ?e4_NoKey ?e5_NoKey ?x_NoOutput ?kp_NoOutput ?s_NoOutput ?t_NoOutput ?e1_NoOutput ?e2_NoOutput ?e3_NoOutput ?e4_NoOutput ?e5_NoOutput ?x_KeyThere ?kp_KeyThere ?s_KeyThere ?t_KeyThere ?e1_KeyThere ?e2_KeyThere ?e3_KeyThere ?e4_KeyThere ?e5_KeyThere ?x_NothingThere ?kp_NothingThere ?s_NothingThere ?t_NothingThere ?e1_NothingThere ?e2_NothingThere ?e3_NothingThere ?e4_NothingThere ?e5_NothingThere ?ci_Ideal ?en1 ?en2 ?su_Ideal_int ?su_Ideal_bool ?su_Ideal_tuple ?s_FabricError ?t_FabricError ?e3_FabricError ?su_FabricError_FabricError ?su_NoLines_FabricError ?su_NoLines_ValueError ?su_NoLines_NothingThere ?su_NoLines_KeyThere ?su_NoLines_NoKey ?su_NoLines_NoOutput ?su_NoLines_NoLines ?su_NoKey_FabricError ?su_NoKey_ValueError ?su_NoKey_NothingThere ?su_NoKey_KeyThere ?su_NoKey_NoKey ?su_NoKey_NoOutput ?su_NoKey_NoLines ?su_NoOutput_FabricError ?su_NoOutput_ValueError ?su_NoOutput_NothingThere ?su_NoOutput_KeyThere ?su_NoOutput_NoKey ?su_NoOutput_NoOutput ?su_NoOutput_NoLines ?su_KeyThere_FabricError ?su_KeyThere_ValueError ?su_KeyThere_NothingThere ?su_KeyThere_KeyThere ?su_KeyThere_NoKey ?su_KeyThere_NoOutput ?su_KeyThere_NoLines ?su_NothingThere_FabricError ?su_NothingThere_ValueError ?su_NothingThere_NothingThere ?su_NothingThere_KeyThere ?su_NothingThere_NoKey ?su_NothingThere_NoOutput ?su_NothingThere_NoLines ?k_MOST_LINES ?k_GREATEST_CELL ?k_GREATEST_RANK ?z_ValueError ?z_abs ?z_bool ?z_int ?z_isinstance ?z_len ?z_range ?z_tuple
    (case ac_Ideal => k_is)
    (case ac_FabricError => k_is)
    (case ac_NoLines => k_is)
    (case ac_NoOutput => k_is)
    (case ac_NoKey => k_is)
    (case ac_KeyThere => k_is)
    (case ac_NothingThere => k_is)
    (case a_wall => k_is)
    (case l_wall => k_is)
    (case q_wall => k_is)
    (case p_wall => k_is)
    (case a_is_integer => k_is)
    (case l_is_integer => k_is)
    (case q_is_integer => k_is)
    (case p_is_integer => k_is)
    (case a_is_integer_from => k_is)
    (case l_is_integer_from => k_is)
    (case q_is_integer_from => k_is)
    (case p_is_integer_from => k_is)
    (case a_is_number_below => k_is)
    (case l_is_number_below => k_is)
    (case q_is_number_below => k_is)
    (case p_is_number_below => k_is)
    (case a_is_tuple_of => k_is)
    (case l_is_tuple_of => k_is)
    (case q_is_tuple_of => k_is)
    (case p_is_tuple_of => k_is)
    (case a_check_lines => k_is)
    (case l_check_lines => k_is)
    (case q_check_lines => k_is)
    (case p_check_lines => k_is)
    (case a_is_cell_number => k_is)
    (case l_is_cell_number => k_is)
    (case q_is_cell_number => k_is)
    (case p_is_cell_number => k_is)
    (case a_is_rank => k_is)
    (case l_is_rank => k_is)
    (case q_is_rank => k_is)
    (case p_is_rank => k_is)
    (case a_is_key => k_is)
    (case l_is_key => k_is)
    (case q_is_key => k_is)
    (case p_is_key => k_is)
    (case a_check_key => k_is)
    (case l_check_key => k_is)
    (case q_check_key => k_is)
    (case p_check_key => k_is)
    (case a_how_many_less => k_is)
    (case l_how_many_less => k_is)
    (case q_how_many_less => k_is)
    (case p_how_many_less => k_is)
    (case a_Ideal___init__ => k_is)
    (case i_Ideal___init__ => k_is)
    (case l_Ideal___init__ => k_is)
    (case q_Ideal___init__ => k_is)
    (case p_Ideal___init__ => k_is)
    (case a_Ideal__row => k_is)
    (case i_Ideal__row => k_is)
    (case l_Ideal__row => k_is)
    (case q_Ideal__row => k_is)
    (case p_Ideal__row => k_is)
    (case a_Ideal_push => k_is)
    (case i_Ideal_push => k_is)
    (case l_Ideal_push => k_is)
    (case q_Ideal_push => k_is)
    (case p_Ideal_push => k_is)
    (case a_Ideal_due => k_is)
    (case i_Ideal_due => k_is)
    (case l_Ideal_due => k_is)
    (case q_Ideal_due => k_is)
    (case p_Ideal_due => k_is)
    (case a_Ideal_let_go => k_is)
    (case i_Ideal_let_go => k_is)
    (case l_Ideal_let_go => k_is)
    (case q_Ideal_let_go => k_is)
    (case p_Ideal_let_go => k_is)
    (case a_Ideal_held => k_is)
    (case i_Ideal_held => k_is)
    (case l_Ideal_held => k_is)
    (case q_Ideal_held => k_is)
    (case p_Ideal_held => k_is)
    (case a_Ideal_ahead => k_is)
    (case i_Ideal_ahead => k_is)
    (case l_Ideal_ahead => k_is)
    (case q_Ideal_ahead => k_is)
    (case p_Ideal_ahead => k_is)
    (case a_Ideal_copy => k_is)
    (case i_Ideal_copy => k_is)
    (case l_Ideal_copy => k_is)
    (case q_Ideal_copy => k_is)
    (case p_Ideal_copy => k_is)
    (case a_law_hand => k_is)
    (case l_law_hand => k_is)
    (case q_law_hand => k_is)
    (case p_law_hand => k_is)
    (case a_law_draw => k_is)
    (case l_law_draw => k_is)
    (case q_law_draw => k_is)
    (case p_law_draw => k_is)
    (case a_law_any => k_is)
    (case l_law_any => k_is)
    (case q_law_any => k_is)
    (case p_law_any => k_is)
    (case a_law_is_int => k_is)
    (case l_law_is_int => k_is)
    (case q_law_is_int => k_is)
    (case p_law_is_int => k_is)
    (case a_law_deep => k_is)
    (case l_law_deep => k_is)
    (case q_law_deep => k_is)
    (case p_law_deep => k_is)
    (case a_law_odd => k_is)
    (case l_law_odd => k_is)
    (case q_law_odd => k_is)
    (case p_law_odd => k_is)
    (case a_law_first => k_is)
    (case l_law_first => k_is)
    (case q_law_first => k_is)
    (case p_law_first => k_is)
    (case a_law_key => k_is)
    (case l_law_key => k_is)
    (case q_law_key => k_is)
    (case p_law_key => k_is)
    (case a_law_inserted => k_is)
    (case l_law_inserted => k_is)
    (case q_law_inserted => k_is)
    (case p_law_inserted => k_is)
    (case a_law_word => k_is)
    (case l_law_word => k_is)
    (case q_law_word => k_is)
    (case p_law_word => k_is)
    (case a_law_is_key => k_is)
    (case l_law_is_key => k_is)
    (case q_law_is_key => k_is)
    (case p_law_is_key => k_is)
    (case a_law_some_key => k_is)
    (case l_law_some_key => k_is)
    (case q_law_some_key => k_is)
    (case p_law_some_key => k_is)
    (case a_law => k_is)
    (case l_law => k_is)
    (case q_law => k_is)
    (case p_law => k_is)
    (case pg_Ideal => k_is)
    (case hd_Ideal => k_is)
    (case po_Ideal => k_is)
    (case sa_Ideal => k_is)
    (case mk_Ideal => k_is)
    (case kc_Ideal => k_is)
    (case n_Ideal__rows => k_is)
    (case em_Ideal => k_is)
    (case es_Ideal => k_is)
    (case x_NoLines => k_exc)
    (case kp_NoLines => k_is)
    (case s_NoLines => k_is)
    (case t_NoLines => k_is)
    (case e1_NoLines => k_is)
    (case e2_NoLines => k_is)
    (case e3_NoLines => k_is)
    (case e4_NoLines => k_is)
    (case e5_NoLines => k_is)
    (case x_NoKey => k_exc)
    (case kp_NoKey => k_is)
    (case s_NoKey => k_is)
    (case t_NoKey => k_is)
    (case e1_NoKey => k_is)
    (case e2_NoKey => k_is)
    (case e3_NoKey => k_is)
    (case e4_NoKey => k_is)
    (case e5_NoKey => k_is)
    (case x_NoOutput => k_exc)
    (case kp_NoOutput => k_is)
    (case s_NoOutput => k_is)
    (case t_NoOutput => k_is)
    (case e1_NoOutput => k_is)
    (case e2_NoOutput => k_is)
    (case e3_NoOutput => k_is)
    (case e4_NoOutput => k_is)
    (case e5_NoOutput => k_is)
    (case x_KeyThere => k_exc)
    (case kp_KeyThere => k_is)
    (case s_KeyThere => k_is)
    (case t_KeyThere => k_is)
    (case e1_KeyThere => k_is)
    (case e2_KeyThere => k_is)
    (case e3_KeyThere => k_is)
    (case e4_KeyThere => k_is)
    (case e5_KeyThere => k_is)
    (case x_NothingThere => k_exc)
    (case kp_NothingThere => k_is)
    (case s_NothingThere => k_is)
    (case t_NothingThere => k_is)
    (case e1_NothingThere => k_is)
    (case e2_NothingThere => k_is)
    (case e3_NothingThere => k_is)
    (case e4_NothingThere => k_is)
    (case e5_NothingThere => k_is)
    (case ci_Ideal => k_is)
    (case en1 => k_is)
    (case en2 => k_is)
    (case su_Ideal_int => k_is)
    (case su_Ideal_bool => k_is)
    (case su_Ideal_tuple => k_is)
    (case s_FabricError => k_is)
    (case t_FabricError => k_is)
    (case e3_FabricError => k_is)
    (case su_FabricError_FabricError => k_is)
    (case su_NoLines_FabricError => k_is)
    (case su_NoLines_ValueError => k_is)
    (case su_NoLines_NothingThere => k_is)
    (case su_NoLines_KeyThere => k_is)
    (case su_NoLines_NoKey => k_is)
    (case su_NoLines_NoOutput => k_is)
    (case su_NoLines_NoLines => k_is)
    (case su_NoKey_FabricError => k_is)
    (case su_NoKey_ValueError => k_is)
    (case su_NoKey_NothingThere => k_is)
    (case su_NoKey_KeyThere => k_is)
    (case su_NoKey_NoKey => k_is)
    (case su_NoKey_NoOutput => k_is)
    (case su_NoKey_NoLines => k_is)
    (case su_NoOutput_FabricError => k_is)
    (case su_NoOutput_ValueError => k_is)
    (case su_NoOutput_NothingThere => k_is)
    (case su_NoOutput_KeyThere => k_is)
    (case su_NoOutput_NoKey => k_is)
    (case su_NoOutput_NoOutput => k_is)
    (case su_NoOutput_NoLines => k_is)
    (case su_KeyThere_FabricError => k_is)
    (case su_KeyThere_ValueError => k_is)
    (case su_KeyThere_NothingThere => k_is)
    (case su_KeyThere_KeyThere => k_is)
    (case su_KeyThere_NoKey => k_is)
    (case su_KeyThere_NoOutput => k_is)
    (case su_KeyThere_NoLines => k_is)
    (case su_NothingThere_FabricError => k_is)
    (case su_NothingThere_ValueError => k_is)
    (case su_NothingThere_NothingThere => k_is)
    (case su_NothingThere_KeyThere => k_is)
    (case su_NothingThere_NoKey => k_is)
    (case su_NothingThere_NoOutput => k_is)
    (case su_NothingThere_NoLines => k_is)
    (case k_MOST_LINES => k_is)
    (case k_GREATEST_CELL => k_is)
    (case k_GREATEST_RANK => k_is)
    (case z_ValueError => k_is)
    (case z_abs => k_is)
    (case z_bool => k_is)
    (case z_int => k_is)
    (case z_isinstance => k_is)
    (case z_len => k_is)
    (case z_range => k_is)
    (case z_tuple => k_is)
    (case hd_law => first | rfl | kernel_rfl | decide +kernel)
    (case hk_law => first | rfl | kernel_rfl | decide +kernel)
