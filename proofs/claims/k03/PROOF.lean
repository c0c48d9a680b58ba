import PyProof.Rows.All
import Wide.All
import OpenK.AllK
import Wide.FinOn
import KE.GoesMore
import KE.GoesEnum
import HandS.Base
import HandS.Call
import HandS.List
import HandS.Comp
import HandS.Dict
import HandS.Iter
import HandS.Walk
import HandS.Exc
import HandS.ExcOwn
import Flt.Len
import HandS.ForMost
import HandS.ForExc
import HandS.Wide
import HandS.IsInst
import HandS.ExcIs
import HandS.Conv
import HandS.TupAny
import HandS.SetFor
import HandS.Style
import HandS.CallSlots
import HandS.Codes
import PySem.Challenge.RW_heldbehind_k03_errors_of_forests
set_option Elab.async false
set_option linter.all false
set_option maxRecDepth 100000
set_option maxHeartbeats 4000000
/-! Z0: rules of my own beside the hand layer: enumerate over a tuple, powers of great ints, an own error without arguments, list.count of flat items. -/
namespace L2
open PySem PySem.Spec PyProof.Rows
/-! ### enumerate(tuple) -/
theorem zen_new (t : Addr) (items : Array Value) :
    Meets (Builtin.«enumerate.__new__» ⟨[.type "enumerate", .ref t], []⟩) (fun _ R s => s.heap.IsTuple t items ∧
      R (.ok (.ret (.ref (s.heap.push { cls := .type "tuple_iterator", data := .fields #[.ref t, .int 0 0] }).objs.size)))
        { s with heap := (s.heap.push { cls := .type "tuple_iterator", data := .fields #[.ref t, .int 0 0] }).push { cls := .type "enumerate", data := .fields #[.none, .bool false, .ref s.heap.objs.size, rawInt 0, .none, .none] } }) :=
  .of_wp fun prog w A R s hs => by
    obtain ⟨hp, g, d, tk, os⟩ := s; obtain ⟨ht, hs⟩ := hs
    have hsb := sub_enumerate
    have q1 : ∀ {A' : Around} {E : Value → Shared → Prop} {Q : Value → Shared → Prop}, Q (.ref hp.objs.size) ⟨hp.push { cls := .type "tuple_iterator", data := .fields #[.ref t, .int 0 0] }, g, d, tk, os⟩ → wpAny (model prog w) A' (pyIter (.ref t)) Q E ⟨hp, g, d, tk, os⟩ :=
      fun q => wpAny_pyIter_tuple (s := ⟨hp, g, d, tk, os⟩) ht q
    wp_walk using q1
    refine wpAny_stack_any fun st => wpAny_pure ?_
    split
    · rename_i c _ _ _ _ _
      cases hce : (c == Value.type "enumerate")
      · wp_walk using q1
        exact ⟨_, rfl, hs⟩
      · wp_walk using q1
        exact ⟨_, rfl, hs⟩
    · wp_walk using q1
      exact ⟨_, rfl, hs⟩
section
variable {prog : Program} {w : World} {A : Around} {E : Value → Shared → Prop} {s : Shared}
theorem zen_call {t : Addr} {items : Array Value} {Q : Value → Shared → Prop} (ht : s.heap.IsTuple t items)
    (h : ∀ h', IsEnum h' (s.heap.objs.size + 1) s.heap.objs.size 0 .none → h'.IsTupleIter s.heap.objs.size t 0 →
      (∀ b o, s.heap.get? b = some o → h'.get? b = some o) → Q (.ref (s.heap.objs.size + 1)) { s with heap := h' }) :
    wpAny (model prog w) A (call (.type "enumerate") [.ref t]) Q E s := by
  refine callType_new F.called_enumerate (by decide) (F.typeCall_enumerate_1 _) (F.newCall_enumerate_1 _) (fun obj => F.args_object_init_2 obj _) F.entry_enumerate_new (zen_new t items) ⟨ht, ?_⟩
  have hz : (s.heap.push { cls := .type "tuple_iterator", data := .fields #[.ref t, .int 0 0] }).objs.size = s.heap.objs.size + 1 := Heap.size_push ..
  show _ ∧ _
  rw [hz]
  have he := Heap.get?_push_size (s.heap.push { cls := .type "tuple_iterator", data := .fields #[.ref t, .int 0 0] }) (o := { cls := .type "enumerate", data := .fields #[.none, .bool false, .ref s.heap.objs.size, rawInt 0, .none, .none] }) rfl
  rw [hz] at he
  refine ⟨⟨_, he, rfl⟩, h _ he ⟨_, Heap.get?_push_of_some _ (Heap.get?_push_size _ rfl), rfl, rfl⟩ fun b o e => Heap.get?_push_of_some _ (Heap.get?_push_of_some _ e)⟩
end
/-- the tuple at a as it stands at each turn, each item in a new pair -/
def IteT (K : PySem.W.Frag) (a : Addr) : It :=
  ⟨fun i H => ∃ (xs : List V) (x : V), SqT K H a xs ∧ xs[i]? = some x, fun i H v H' => ∃ T x, v = .ref T ∧ H T = none ∧ H' = upd H T (.tup [.int (i : Nat), x]) ∧ ∀ ys, SqT K H a ys → ys[i]? = some x, fun i H => ∃ xs : List V, SqT K H a xs ∧ xs.length = i⟩
theorem zen_turn {P : Program} {w : World} {K : PySem.W.Frag} {elts : List Expr} {kk : Nat} {tpos : Pos} (a e it : Addr) :
    Turn P w K (.Tuple elts kk tpos) (IteT K a) [e, it] e (fun i h => (∃ old, IsEnum h e it ((i : Nat) : Int) old) ∧ h.IsTupleIter it a i ∧ e ≠ it) where
  mem := by simp
  obj := fun i h st b hb => by
    obtain ⟨⟨old, he⟩, ⟨o, ho, hc, hd⟩, _⟩ := st
    have e' : b = e ∨ b = it := by simpa using hb
    rcases e' with z | z
    · exact ⟨_, by rw [z]; exact he, fun v q => by cases q⟩
    · exact ⟨o, by rw [z]; exact ho, fun v q => by rw [hd] at q; cases q⟩
  keep := fun i h h' st k => let ⟨⟨old, he⟩, hi, hne⟩ := st; ⟨⟨old, k e (by simp) _ he⟩, hi.at fun o q => k it (by simp) o q, hne⟩
  item := by
    intro X hP hw hK hc i pins s σ H E I hf st hg
    subst hP hw hK
    obtain ⟨⟨old, he⟩, hit, hne⟩ := st
    obtain ⟨xs, x, hq, hx⟩ := hg
    obtain ⟨its, rv, p, hz⟩ := I.tuple hq
    obtain ⟨u, hu, ru⟩ := rv.get hx
    have hel : e < s.heap.objs.size := Heap.lt_size he
    have hil : it < s.heap.objs.size := by obtain ⟨_, q, _⟩ := hit; exact Heap.lt_size q
    have hai : a ≠ it := by
      intro z
      obtain ⟨o1, q1, c1, _⟩ := p
      obtain ⟨o2, q2, c2, _⟩ := hit
      rw [z, q2] at q1
      cases q1
      rw [c2] at c1
      exact absurd c1 (by decide)
    have hae : a ≠ e := by
      intro z
      obtain ⟨o1, q1, c1, _⟩ := p
      rw [z] at q1
      have q3 := he.symm.trans q1
      cases q3
      have c2 : ("enumerate" : String) = "tuple" := Value.type.inj c1
      exact absurd c2 (by decide)
    have hlt : i < its.toArray.size := by
      have := (List.getElem?_eq_some_iff.mp hu).1
      simpa using this
    have D := Draws.tuple (prog := X.prog) (w := X.w) (A := X.A.in1) (I.ok.hd hc) it a hai its.toArray
    refine wpAny_pyNext_enum_itemD D he ⟨hit, p⟩ hlt hne (by simp [hne, Ne.symm hae]) fun y h' tk hy ho hst hT hsz hk => ?_
    have ey : y = u := by
      have q4 : its[i]? = some y := by simpa using hy
      rw [hu] at q4
      exact (Option.some.inj q4).symm
    subst ey
    refine ⟨_, rfl, wpAny_letOwnedTupleGo_enum (s := { s with heap := h', toks := tk + 1 }) ho fun h'' he' sb => ?_⟩
    have hT2 : h''.get? s.heap.objs.size = some { cls := .type "tuple", data := .seq #[.int i tk, y] } := (sb.2 _ (Nat.ne_of_gt hel)).trans hT
    have new : ObjOk X.prog X.w (upd H s.heap.objs.size (.tup [.int (i : Nat), x])) h'' s.heap.objs.size (.tup [.int (i : Nat), x]) :=
      ⟨by show 2 ≤ sizeLine; decide, [.int i tk, y], .cons ⟨_, rfl⟩ (.cons ru .nil), ⟨_, hT2, rfl, _, rfl⟩⟩
    have I1 : Inv X pins σ (upd H s.heap.objs.size (.tup [.int (i : Nat), x])) { s with heap := h'', toks := tk + 1 } :=
      I.turnedNew (ch := [e, it]) (fun b ob hb q => (sb.2 b (fun z => hb (by simp [z]))).trans (hk b ob (fun z => hb (by simp [z])) (fun z => hb (by simp [z])) q)) hf (Nat.le_refl _) new
    refine ⟨.ref s.heap.objs.size, _, I1, rfl, ⟨_, x, rfl, I.hok.fresh (Nat.le_refl _), rfl, fun ys hy => by rw [I.tuple_inj hy hq]; exact hx⟩, ⟨⟨y, ?_⟩, hst.1.at fun o q => (sb.2 it (Ne.symm hne)).trans q, hne⟩, fun b hb => ?_⟩
    · have e1 : ((i + 1 : Nat) : Int) = (i : Int) + 1 := by omega
      rw [e1]; exact he'
    · have hb' : b < s.heap.objs.size := by
        rcases (by simpa using hb : b = e ∨ b = it) with z | z
        · rw [z]; exact hel
        · rw [z]; exact hil
      rw [upd_ne (Nat.ne_of_lt hb')]; exact (hf b hb).1
  done := by
    intro X hP hw hK hc i pins s σ H E I hf st hg
    subst hP hw hK
    obtain ⟨⟨old, he⟩, hit, hne⟩ := st
    obtain ⟨xs, hq, hx⟩ := hg
    obtain ⟨its, rv, p, hz⟩ := I.tuple hq
    obtain ⟨f0, f1, f2, f3, f4, f5⟩ := hf it (by simp)
    have hl := rv.length
    have hai : a ≠ it := by
      intro z
      obtain ⟨o1, q1, c1, _⟩ := p
      obtain ⟨o2, q2, c2, _⟩ := hit
      rw [z, q2] at q1; cases q1
      rw [c2] at c1
      exact absurd c1 (by decide)
    have hn : its.toArray.size = i := by simp only [List.size_toArray]; omega
    have D := Draws.tuple (prog := X.prog) (w := X.w) (A := X.A.in1) (I.ok.hd hc) it a hai its.toArray
    rw [hn] at D
    exact wpAny_pyNext_enum_endD D he ⟨hit, p⟩ fun h' eb => ⟨rfl, I.turned (t' := s.toks) (fun b o hb q => eb b o hb q) f0 f1 f3 f4 f5⟩
  self := fun A i s Q E st h => let ⟨⟨_, he⟩, _⟩ := st; wpAny_pyIter_enum he h
def iEnumT (K : PySem.W.Frag) (ta : TA) : TI := fun σ H R => ta σ H fun vs H1 => ∃ a xs, vs = [.ref a] ∧ SqT K H1 a xs ∧ R (IteT K a) H1
theorem pi_enumT {X : Cx} {e : Expr} {ta : TA} {p pos tpos : Pos} {elts : List Expr} {kk : Nat} (hg : Gl X "enumerate") (hm : X.mg "enumerate" = none) (ha : PA X [e] ta) (hs : starEach [e] X.env = [(false, eval e X.env)] := by rfl) :
    PI X (.Tuple elts kk tpos) (.Call (.Name "enumerate" p) [e] [] pos) (iEnumT X.K ta) := by
  refine ⟨fun pins s σ H R I h => Call_ (ld_blt I hg hm boot_enumerate (PyProof.Rows.callWith_type1 (thn (ha.run pos pins s σ H _ I h) fun us s1 ⟨vs, H1, I1, r1, q1⟩ => ?_) hs rfl))⟩
  obtain ⟨a, xs, ex, hq, q⟩ := q1
  subst ex
  cases r1 with
  | cons r rr =>
    cases rr; cases r
    obtain ⟨its, rv, p', hz⟩ := I1.tuple hq
    refine zen_call p' fun h' he hit hk => wpAny_pyIter_enum he ?_
    have I2 : Inv X pins σ H1 { s1 with heap := h' } := I1.kept (t' := s1.toks) hk
    refine ⟨s1.heap.objs.size + 1, [s1.heap.objs.size + 1, s1.heap.objs.size], _, _, H1, rfl, I2, zen_turn a (s1.heap.objs.size + 1) s1.heap.objs.size, ⟨⟨.none, he⟩, hit, Nat.succ_ne_self _⟩, fun b hb => ?_, q⟩
    have hle : s1.heap.objs.size ≤ b := by
      rcases (by simpa using hb : b = s1.heap.objs.size + 1 ∨ b = s1.heap.objs.size) with z | z
      · rw [z]; exact Nat.le_add_right _ _
      · rw [z]; exact Nat.le_refl _
    exact I1.fpOk hle (I1.hok.fresh hle)
theorem walk_enumT {K : PySem.W.Frag} {a : Addr} {xs : List V} : Walk (IteT K a) xs.length (fun H => SqT K H a xs) (YPair (fun i => some (.int (i : Nat))) (fun i => xs[i]?)) := by
  refine ⟨fun i _ hi q => ⟨xs, xs[i], q, by simp [hi]⟩, fun _ q => ⟨xs, q, rfl⟩, fun i H v H' _ q ⟨T, x, h1, h2, h3, h4⟩ => ⟨T, .int (i : Nat), x, h1, h2, h3, rfl, h4 xs q⟩⟩
/-! ### powers -/
def CPowW (i j : Int) : Prop := 0 ≤ j ∧ (Builtin.Int.intBits i : Int) * j ≤ 2 ^ 27
theorem op_powW {X : Cx} : OpR X (binaryOp .Pow) (rI CPowW fun i j => .int (i ^ j.toNat)) := opI fun _ _ _ _ _ _ _ hc q => pow_int hc.1 hc.2 q
theorem cpow3 {i : Int} {b : Nat} (h : i.natAbs < 2 ^ b) (hb : 0 < b) (h9 : b ≤ 9000) : CPowW i 3 := by
  refine ⟨by decide, ?_⟩
  have z : Builtin.Int.intBits i ≤ b := by
    unfold Builtin.Int.intBits
    have y := PySem.Flt.log2_lt_of hb h
    split <;> omega
  have e : (2 : Int) ^ 27 = 134217728 := by decide
  rw [e]; omega
/-! ### an own error without arguments -/
theorem pmk_own0 {X : Cx} {C : Addr} {bmB : List Value} {B newId initId : String} {x : Str} {p pos : Pos} (F : ExcBaseFacts B newId initId bmB) (q : PySem.W.excIn X.K C bmB newId = true) (gC : X.mg x = some (.ref C)) (kC : PySem.W.keepIn X.K (.ref C) = true) (r : Raises X (.ref C)) (hg : Gl X x)
    (hdb : (x == ("__debug__" : Str)) = false := by decide) : PMk X (.Call (.Name x p) [] [] pos) (fun _ H Q => Q (.ref C) none H) := by
  intro pins s σ H Q I h
  refine wpAny_Call_Name_kw (ld_glob I hg gC ?_ hdb)
  refine PySem.W.callWith_K0 I.kIn kC ?_
  obtain ⟨bm, N, nm, qn, bs, hdct, sn, sub, ab, col, dd, k0, k1, k2, k3, k5, mN, hC, hN, hni, T⟩ := exc_obj I.kIn q
  exact wpAny_call_exc_subT F T hC hN hni (fun h' e hm => mk_of I hm r h (I.hok.gone hm.new)) (Nat.zero_le _)
/-! ### list.count of flat items -/
def cntV (y : V) (xs : List V) : Nat := xs.countP fun z => eqV z y
theorem count_eqU {x : V} : ∀ {xs : List V} {us : List Value}, Vals xs us → xs.all flatV = true → us.countP (eqU x) = cntV x xs
  | _, _, .nil, _ => rfl
  | y :: xs, u :: us, .cons r t, f => by
    rw [List.all_cons, Bool.and_eq_true] at f
    unfold cntV
    rw [List.countP_cons, List.countP_cons, eqU_of r f.1, count_eqU t f.2]; rfl
def rCntV (K : PySem.W.Frag) : V → List V → Hp → VK → Prop := fun x xs H Q => ∃ (a : Addr) (ys : List V) (y : V), x = .ref a ∧ xs = [y] ∧ SqL K H a ys ∧ flatV y = true ∧ ys.all flatV = true ∧ Q (.int (cntV y ys : Nat)) H
theorem mt_lcountV {X : Cx} : MtR X "list.count" (rCntV X.K) := by
  intro pins s σ H x xs v us Q I rx rxs h
  obtain ⟨a, ys, y, rfl, rfl, hs, fy, fys, q⟩ := h
  cases rx
  obtain ⟨u, rfl, ru⟩ := rxs.one
  obtain ⟨its, rv, ⟨⟨cls, dd, data, sl⟩, n, ho, hc, hdn, hd⟩, hlen⟩ := I.list hs
  simp only at hc hd
  subst hc hd
  refine call_meets PySem.F.slot_list_count ⟨_, ho, rfl⟩ PySem.F.entry_list_count (PySem.F.args_list_count_2 _ _) (SeqAt.list_countAt a its.toArray n dd sl u (eqU y)) ⟨ho, fun z hz => mem_eqAt ru fy rv fys z (by simpa using hz), ?_⟩
  exact ⟨.int (cntV y ys : Nat), H, I.tok _, ⟨s.toks, by rw [← count_eqU rv fys]⟩, q⟩
end L2

namespace L2
open PySem PySem.Spec PyProof.Rows
/-! ### a def of the text with its name, and one that keeps its promise -/
structure Df (K : PySem.W.Frag) (mg : Str → Option Value) (x : Str) (st : Stmt) (ps : List Str) : Prop where
  ex : ∃ (f : Addr) (fd : FuncData), Fun K x x st f fd ∧ mg x = some (.ref f) ∧ Binds K fd ps [] ∧
    ∃ (kV doc pm : Value) (an : Option Addr) (cdv ct : Value), fd = PySem.W.fnOf x x (defArgs st) (defBody st) (defScope st) .none kV doc pm an cdv ct
structure Kn (P : Program) (w : World) (K : PySem.W.Frag) (mg : Str → Option Value) (base : Heap) (CX : CXT) (k : Nat) (x : Str) (st : Stmt) (ps : List Str) (sp : Sp) : Prop where
  ex : ∃ (f : Addr) (fd : FuncData), FnOk P w K mg base CX k f fd ps sp ∧ mg x = some (.ref f) ∧ PySem.W.keepIn K (.ref f) = true ∧ Binds K fd ps [] ∧
    ∃ (kV doc pm : Value) (an : Option Addr) (cdv ct : Value), fd = PySem.W.fnOf x x (defArgs st) (defBody st) (defScope st) .none kV doc pm an cdv ct
section
variable {P : Program} {w : World} {K : PySem.W.Frag} {mg : Str → Option Value} {base : Heap} {x : Str} {st : Stmt} {ps N : List Str} {k : Nat} {sp : Sp}
theorem Df.mk' {f : Addr} {oc : Value} {od an : Option Addr} {osl : Array (Option Value)} {kV doc pm cdv ct : Value} (l : K.lookup f = some ⟨oc, od, .func (PySem.W.fnOf x x (defArgs st) (defBody st) (defScope st) .none kV doc pm an cdv ct), osl⟩)
    (c : PySem.W.codeIn K cdv x = true) (kp : PySem.W.keepIn K (.ref f) = true) (g : mg x = some (.ref f))
    (h : ∀ (kV doc pm : Value) (an : Option Addr) (cdv ct : Value) (us : List Value), us.length = ps.length → bindArgs (PySem.W.fnOf x x (defArgs st) (defBody st) (defScope st) .none kV doc pm an cdv ct) ⟨us, []⟩ = pure (ps.zip us)) : Df K mg x st ps :=
  ⟨f, _, fun_mk l c kp, g, (fun_mk l c kp).binds h, _, _, _, _, _, _, rfl⟩
theorem Df.ok (D : Df K mg x st ps) (S : FnScope N ps (defScope st)) (len : ∀ vs H Q E, sp vs H Q E → vs.length = ps.length)
    (hb : ∀ (f : Addr) (cdv : Value) (A : Around) (outer : List Env) (s : Shared) (H : Hp) (vs : List V) (Q : VK) (E : XK), Room k (A.deeper (envOfC x (defScope st) s.heap.objs.size f cdv)) → sp vs H Q E →
      ∃ t, PSs (cxOf CX0 P w K mg base N x (defScope st) f cdv A outer s H E).nox (defBody st) t ∧ t { nx := fun _ H' => Q .non H', rt := Q } (start N vs) H) : Kn P w K mg base CX0 (k + 1) x st ps sp := by
  obtain ⟨f, fd, F, g, b, e⟩ := D.ex
  exact ⟨f, fd, F.ok S len fun cdv A outer s H vs Q E hr h => hb f cdv A outer s H vs Q E hr h, g, F.kp, b, e⟩
theorem Df.okX (D : Df K mg x st ps) (S : FnScope N ps (defScope st)) (len : ∀ vs H Q E, sp vs H Q E → vs.length = ps.length)
    (hb : ∀ (f : Addr) (cdv : Value) (A : Around) (outer : List Env) (s : Shared) (H : Hp) (vs : List V) (Q : VK) (E : XK), Room k (A.deeper (envOfC x (defScope st) s.heap.objs.size f cdv)) → sp vs H Q E →
      ∃ t, PSs (cxOf (L2.CX P w) P w K mg base N x (defScope st) f cdv A outer s H E) (defBody st) t ∧ t { nx := fun _ H' => Q .non H', rt := Q } (start N vs) H) : Kn P w K mg base (L2.CX P w) (k + 1) x st ps sp := by
  obtain ⟨f, fd, F, g, b, e⟩ := D.ex
  exact ⟨f, fd, F.okX S len fun cdv A outer s H vs Q E hr h => hb f cdv A outer s H vs Q E hr h, g, F.kp, b, e⟩
end
section
variable {X : Cx} {CX : CXT} {k : Nat} {x : Str} {st : Stmt} {ps ks : List Str} {sp : Sp} {E : XK} {p pos : Pos} {e : Expr} {es : List Expr} {kws : List Keyword} {t tk : TA}
theorem pe_callF (h : Kn X.prog X.w X.K X.mg X.base CX k x st ps sp) (hr : Room k X.A) (hx : Passes CX X E) (ha : PA X (e :: es) t) (hg : Gl X x := by rfl)
    (hdb : (x == ("__debug__" : Str)) = false := by decide) (he : starEach (e :: es) X.env = (false, eval e X.env) :: starEach es X.env := by rfl) (hpl : (backTo pos (starEach es X.env)).any (·.1) = false := by rfl) :
    PE X (.Call (.Name x p) (e :: es) [] pos) (tCall sp [] E t) := by
  obtain ⟨f, fd, F, g, kp, b, _⟩ := h.ex
  exact pe_call F hr hg g kp b .nil hx ha hdb he hpl
theorem pe_callF0 (h : Kn X.prog X.w X.K X.mg X.base CX k x st ps sp) (hr : Room k X.A) (hx : Passes CX X E) (hg : Gl X x := by rfl) (hdb : (x == ("__debug__" : Str)) = false := by decide) : PE X (.Call (.Name x p) [] [] pos) (tCall sp [] E tNil) := by
  obtain ⟨f, fd, F, g, kp, b, _⟩ := h.ex
  exact pe_call0 F hr hg g kp b .nil hx hdb
theorem pe_callFS {E : St → XK} (h : Kn X.prog X.w X.K X.mg X.base CX k x st ps sp) (hr : Room k X.A) (hx : ∀ σ, PassesAt CX X σ (E σ)) (ha : PA X (e :: es) t) (hg : Gl X x := by rfl)
    (hdb : (x == ("__debug__" : Str)) = false := by decide) (he : starEach (e :: es) X.env = (false, eval e X.env) :: starEach es X.env := by rfl) (hpl : (backTo pos (starEach es X.env)).any (·.1) = false := by rfl) :
    PE X (.Call (.Name x p) (e :: es) [] pos) (tCallS sp E t) := by
  obtain ⟨f, fd, F, g, kp, b, _⟩ := h.ex
  exact pe_callS F hr hg g kp b hx ha hdb he hpl
/-- how keywords bind, whatever the def's loose parts are -/
def KwB (x : Str) (st : Stmt) (ps ks : List Str) (g : List Value → List Value → List Value) (gV : List V → List V → List V) : Prop :=
  (∀ (kV doc pm : Value) (an : Option Addr) (cdv ct : Value) (us ws : List Value), (g us ws).length = ps.length →
    bindArgs (PySem.W.fnOf x x (defArgs st) (defBody st) (defScope st) .none kV doc pm an cdv ct) ⟨us, ks.zip ws⟩ = pure (ps.zip (g us ws))) ∧
  ∀ {vs : List V} {us : List Value} {zs : List V} {ws : List Value}, Vals vs us → Vals zs ws → Vals (gV vs zs) (g us ws)
variable {g : List Value → List Value → List Value} {gV : List V → List V → List V}
theorem pe_callFK (h : Kn X.prog X.w X.K X.mg X.base CX k x st ps sp) (hr : Room k X.A) (hb : KwB x st ps ks g gV) (hx : Passes CX X E) (ha : PA X (e :: es) t) (hkw : PK X kws tk) (hg : Gl X x := by rfl)
    (hall : (backToKw pos (keywordEach kws X.env)).all (·.1.isSome) = true := by rfl) (hks : (backToKw pos (keywordEach kws X.env)).filterMap (·.1) = ks := by rfl)
    (hdb : (x == ("__debug__" : Str)) = false := by decide) (he : starEach (e :: es) X.env = (false, eval e X.env) :: starEach es X.env := by rfl)
    (hpl : ((backTo pos (starEach (e :: es) X.env)).any (·.1) || (backToKw pos (keywordEach kws X.env)).any (·.1.isNone)) = false := by rfl) :
    PE X (.Call (.Name x p) (e :: es) kws pos) (tCallK sp gV E t tk) := by
  obtain ⟨f, fd, F, gm, kp, b, kV, doc, pm, an, cdv, ct, rfl⟩ := h.ex
  exact pe_callK F hr hg gm kp ⟨fun s us ws _ hl => .of_eq (hb.1 kV doc pm an cdv ct us ws hl), hb.2⟩ hx ha hkw hall hks hdb he hpl
/-- f(k = v, ..), no positional -/
theorem pe_callFK0 (h : Kn X.prog X.w X.K X.mg X.base CX k x st ps sp) (hr : Room k X.A) (hb : KwB x st ps ks g gV) (hx : Passes CX X E) (hkw : PK X kws tk) (hg : Gl X x := by rfl)
    (hall : (backToKw pos (keywordEach kws X.env)).all (·.1.isSome) = true := by rfl) (hks : (backToKw pos (keywordEach kws X.env)).filterMap (·.1) = ks := by rfl)
    (hdb : (x == ("__debug__" : Str)) = false := by decide)
    (hpl : ((backTo pos (starEach [] X.env)).any (·.1) || (backToKw pos (keywordEach kws X.env)).any (·.1.isNone)) = false := by rfl) :
    PE X (.Call (.Name x p) [] kws pos) (tCallK sp gV E tNil tk) := by
  obtain ⟨f, fd, F, gm, kp, b, kV, doc, pm, an, cdv, ct, rfl⟩ := h.ex
  have hbb : KBinds X.K (PySem.W.fnOf x x (defArgs st) (defBody st) (defScope st) .none kV doc pm an cdv ct) ps ks g gV := ⟨fun s us ws _ hl => .of_eq (hb.1 kV doc pm an cdv ct us ws hl), hb.2⟩
  refine ⟨fun pins s σ H Q I hq => wpAny_Call_Name_kw (ld_glob I hg gm ?_ hdb)⟩
  refine PySem.W.callWith_KW0 (h₀ := X.base) I.ok.mod.kin kp hall (thn (hkw.run pos pins s σ H _ I hq) fun ws s2 ⟨zs, H2, I2, rz, q2⟩ => ⟨I2.kIn, ?_⟩) hpl
  rw [hks]
  exact run_fnk F hr hbb hx I2 .nil rz q2
end
/-! ### rules whose reading names K outright (for a comprehension's block) -/
def rLenK (K : PySem.W.Frag) : List V → Hp → VK → Prop := fun xs H Q => ∃ x n, xs = [x] ∧ LenV K x H n ∧ Q (.int n) H
theorem call_lenK {X : Cx} (K : PySem.W.Frag) (e : X.K = K := by rfl) : CallR X (.builtin "len") (rLenK K) := by subst e; exact call_len
theorem call_isiK1 {X : Cx} (K : PySem.W.Frag) (e : X.K = K := by rfl) : CallR X (.builtin "isinstance") (rIsi K) := by subst e; exact call_isi
theorem ix_listK {X : Cx} (K : PySem.W.Frag) (e : X.K = K := by rfl) : IxR X (rIxL K) := by subst e; exact ix_list
theorem ix_tupK {X : Cx} (K : PySem.W.Frag) (e : X.K = K := by rfl) : IxR X (rIxT K) := by subst e; exact ix_tup
theorem op_in_seqK {X : Cx} (K : PySem.W.Frag) (e : X.K = K := by rfl) : OpR X (compareOp .In) (rIn K false) := by subst e; exact op_in_seq
theorem op_notIn_seqK {X : Cx} (K : PySem.W.Frag) (e : X.K = K := by rfl) : OpR X (compareOp .NotIn) (rIn K true) := by subst e; exact op_notIn_seq
theorem op_eqDK {X : Cx} (K : PySem.W.Frag) (hu : X.A.units + 64 < cLine) (e : X.K = K := by rfl) : OpR X (compareOp .Eq) (rEqD K) := by subst e; exact op_eqD hu
theorem op_neDK {X : Cx} (K : PySem.W.Frag) (hu : X.A.units + 64 < cLine) (e : X.K = K := by rfl) : OpR X (compareOp .NotEq) (rNeD K) := by subst e; exact op_neD hu
/-! ### heaps -/
theorem Same.upd {H H' : Hp} {p : Addr} {o : HO} (s : Same H H') (h : H p = none) : Same H (upd H' p o) := fun b u e => by
  rw [upd_ne (ne_of_none e h)]; exact s b u e
theorem Same.new {H H' : Hp} {p : Addr} {o : HO} (s : Same H H') (h : H' p = none) : Same H (L2.upd H' p o) := s.upd (s.free h)
theorem Same.tseq {K : PySem.W.Frag} {H H' : Hp} {a : Addr} {xs : List V} (e : Same H H') (h : SqT K H a xs) : SqT K H' a xs := by
  rcases h with (h | ⟨o, h⟩) | h
  · exact .inl (.inl (e _ _ h))
  · exact .inl (.inr ⟨o, e _ _ h⟩)
  · exact .inr h
/-- all but what stands at a is as it was -/
def Keep (a : Addr) (H H' : Hp) : Prop := ∀ b o, b ≠ a → H b = some o → H' b = some o
theorem Keep.refl (a : Addr) (H : Hp) : Keep a H H := fun _ _ _ h => h
theorem Keep.trans {a : Addr} {H H1 H2 : Hp} (x : Keep a H H1) (y : Keep a H1 H2) : Keep a H H2 := fun b o hb h => y b o hb (x b o hb h)
theorem Same.keep {a : Addr} {H H' : Hp} (s : Same H H') : Keep a H H' := fun b o _ h => s b o h
theorem Keep.upd (a : Addr) (H : Hp) (o : HO) : Keep a H (upd H a o) := fun b u hb h => by rw [upd_ne hb]; exact h
theorem Keep.new {a p : Addr} {H H' : Hp} {o : HO} (x : Keep a H H') (h : H' p = none) : Keep a H (L2.upd H' p o) := fun b u hb e => by
  have q := x b u hb e
  rw [upd_ne (ne_of_none q h)]; exact q
end L2

namespace My
open PySem PySem.Spec PyProof.Rows L2
/-! ### the row's text, the built-ins, the errors' classes -/
abbrev topS (i : Nat) : Stmt := PySem.Challenge.pw_heldbehind_k03_errors_of_forests.main.body.getD i (.Pass ⟨0, 0, 0, 0⟩)
structure Bl (mg : Str → Option Value) : Prop where
  isinstance : mg "isinstance" = none
  int : mg "int" = none
  bool : mg "bool" = none
  tuple : mg "tuple" = none
  len : mg "len" = none
  all : mg "all" = none
  enumerate : mg "enumerate" = none
  reversed : mg "reversed" = none
  sorted : mg "sorted" = none
  max : mg "max" = none
  min : mg "min" = none
  abs : mg "abs" = none
  range : mg "range" = none
  list : mg "list" = none
  repr : mg "repr" = none
  sum : mg "sum" = none
  any : mg "any" = none
  zip : mg "zip" = none
  str : mg "str" = none
  set : mg "set" = none
  dict : mg "dict" = none
structure Ex1 (K : PySem.W.Frag) (mg : Str → Option Value) (nm : Str) (C : Addr) : Prop where
  x : PySem.W.excIn K C [.type "ValueError", .type "Exception", .type "BaseException", .type "object"] "ValueError.__new__" = true
  g : mg nm = some (.ref C)
  k : PySem.W.keepIn K (.ref C) = true
  b : PySem.W.subIn K (.ref C) (.type "BaseException") = some true
  t : PySem.W.typeIn K (.ref C) = some (.type "type")
theorem passX {X : Cx} {E : XK} (tk : Takes X (fun cls d _ H => E cls d H)) : Passes (L2.CX X.prog X.w) X E := passes_call tk (fun _ _ _ _ h => h)
/-! ### what a value is -/
def tupAt (H : Hp) : V → Option (List V)
  | .ref a => match H a with
    | some (.tup xs) => some xs
    | _ => none
  | _ => none
def isInt : V → Bool
  | .int _ => true
  | _ => false
def isBl : V → Bool
  | .bl _ => true
  | _ => false
def isIdx (n : Int) : V → Bool
  | .int i => decide (0 ≤ i) && decide (i < n)
  | _ => false
inductive Vd (H : Hp) : V → Prop where
  | non : Vd H .non
  | bl (b : Bool) : Vd H (.bl b)
  | int (i : Int) : Vd H (.int i)
  | str (z : Str) : Vd H (.str z)
  | lst {a : Addr} {xs : List V} (h : H a = some (.lst xs)) : Vd H (.ref a)
  | tup {a : Addr} {xs : List V} (h : H a = some (.tup xs)) : Vd H (.ref a)
  | dK {a : Addr} {kvs : List (Key × V)} (h : H a = some (.dK kvs)) : Vd H (.ref a)
theorem Vd.same {H H' : Hp} {x : V} (v : Vd H x) (s : Same H H') : Vd H' x := by
  cases v with
  | non => exact .non
  | bl b => exact .bl b
  | int i => exact .int i
  | str z => exact .str z
  | lst h => exact .lst (s _ _ h)
  | tup h => exact .tup (s _ _ h)
  | dK h => exact .dK (s _ _ h)
theorem tupAt_tup {H : Hp} {a : Addr} {xs : List V} (h : H a = some (.tup xs)) : tupAt H (.ref a) = some xs := by simp only [tupAt, h]
theorem tupAt_lst {H : Hp} {a : Addr} {xs : List V} (h : H a = some (.lst xs)) : tupAt H (.ref a) = none := by simp only [tupAt, h]
theorem tupAt_dK {H : Hp} {a : Addr} {xs : List (Key × V)} (h : H a = some (.dK xs)) : tupAt H (.ref a) = none := by simp only [tupAt, h]
theorem Vd.ty {K : PySem.W.Frag} {H : Hp} {x : V} (v : Vd H x) : ∃ t : String, TyX K H x (.type t) ∧ kitB t "int" = some (isInt x || isBl x) ∧ kitB t "bool" = some (isBl x) ∧ kitB t "tuple" = some (tupAt H x).isSome := by
  cases v with
  | non => exact ⟨_, .base .non, (by decide +kernel : kitB "NoneType" "int" = some false), (by decide +kernel : kitB "NoneType" "bool" = some false), (by decide +kernel : kitB "NoneType" "tuple" = some false)⟩
  | bl b => exact ⟨_, .base (.bl b), (by decide +kernel : kitB "bool" "int" = some true), (by decide +kernel : kitB "bool" "bool" = some true), (by decide +kernel : kitB "bool" "tuple" = some false)⟩
  | int i => exact ⟨_, .base (.int i), (by decide +kernel : kitB "int" "int" = some true), (by decide +kernel : kitB "int" "bool" = some false), (by decide +kernel : kitB "int" "tuple" = some false)⟩
  | str z => exact ⟨_, .base (.str z), (by decide +kernel : kitB "str" "int" = some false), (by decide +kernel : kitB "str" "bool" = some false), (by decide +kernel : kitB "str" "tuple" = some false)⟩
  | lst h => exact ⟨_, .base (.lst h), (by decide +kernel : kitB "list" "int" = some false), (by decide +kernel : kitB "list" "bool" = some false), by rw [tupAt_lst h]; exact (by decide +kernel : kitB "list" "tuple" = some false)⟩
  | tup h => exact ⟨_, .base (.tup h), (by decide +kernel : kitB "tuple" "int" = some false), (by decide +kernel : kitB "tuple" "bool" = some false), by rw [tupAt_tup h]; exact (by decide +kernel : kitB "tuple" "tuple" = some true)⟩
  | dK h => exact ⟨_, .base (.dK h), (by decide +kernel : kitB "dict" "int" = some false), (by decide +kernel : kitB "dict" "bool" = some false), by rw [tupAt_dK h]; exact (by decide +kernel : kitB "dict" "tuple" = some false)⟩
/-! ### heldbehind.integers -/
def spIsInteger : Sp := fun vs H Q _ => ∃ x : V, vs = [x] ∧ Vd H x ∧ Q (.bl (isInt x)) H
def isBtw (n m : Int) : V → Bool
  | .int i => decide (n ≤ i) && decide (i ≤ m)
  | _ => false
theorem isBtw_idx (n : Int) (x : V) : isBtw 0 (n - 1) x = isIdx n x := by
  cases x with
  | int i =>
    show (decide (0 ≤ i) && decide (i ≤ n - 1)) = (decide (0 ≤ i) && decide (i < n))
    rw [show decide (i ≤ n - 1) = decide (i < n) from decide_eq_decide.mpr (by omega)]
  | _ => rfl
def spIsBetween : Sp := fun vs H Q _ => ∃ (x : V) (n m : Int), vs = [x, .int n, .int m] ∧ Vd H x ∧ Q (.bl (isBtw n m x)) H
def spIsIndex : Sp := fun vs H Q _ => ∃ (x : V) (n : Int), vs = [x, .int n] ∧ Vd H x ∧ Q (.bl (isIdx n x)) H
section
variable {P : Program} {w : World} {K : PySem.W.Frag} {mg : Str → Option Value} {base : Heap}
abbrev st_is_integer : Stmt := topS 5
abbrev N_is_integer : List Str := ["value"]
theorem sc_is_integer : FnScope N_is_integer ["value"] (defScope st_is_integer) := ⟨rfl, rfl, rfl, by decide +kernel, rfl, by decide +kernel, by decide +kernel⟩
theorem ok_is_integer (D : Df K mg "is_integer" st_is_integer ["value"]) (B : Bl mg) : Kn P w K mg base CX0 1 "is_integer" st_is_integer ["value"] spIsInteger := by
  refine D.ok sc_is_integer (fun vs H Q E h => ?_) (fun f cdv A outer s H vs Q E hr h => ?_)
  · obtain ⟨x, rfl, _⟩ := h; rfl
  obtain ⟨x, rfl, v, q⟩ := h
  refine ⟨_, ((pss_one (ps_ret (pe_and (pe_callB call_isi (by rfl) B.isinstance (by decide +kernel) (pa_cons (pv 0) (pa_cons (pe_bltn (v := .ty "int") (u := .type "int") (by rfl) B.int (by decide +kernel) rfl) pa_nil))) (pe_one (pe_not (pe_callB call_isi (by rfl) B.isinstance (by decide +kernel) (pa_cons (pv 0) (pa_cons (pe_bltn (v := .ty "bool") (u := .type "bool") (by rfl) B.bool (by decide +kernel) rfl) pa_nil))))))))), ?_⟩
  obtain ⟨t, ty, k1, k2, _⟩ := v.ty (K := K)
  refine ⟨_, rfl, _, _, _, _, _, rfl, .ty _, ty, kit_ty k1, _, rfl, ?_⟩
  cases e1 : isInt x with
  | true =>
    have e2 : isBl x = false := by cases x <;> first | rfl | cases e1
    rw [e2] at k2 ⊢
    refine iteT ⟨_, rfl, _, _, _, _, _, rfl, .ty _, ty, kit_ty k2, _, rfl, ?_⟩
    rw [e1] at q; exact q
  | false =>
    rw [e1] at q
    cases e2 : isBl x with
    | false => exact iteF q
    | true =>
      rw [e2] at k2
      exact iteT ⟨_, rfl, _, _, _, _, _, rfl, .ty _, ty, kit_ty k2, _, rfl, q⟩
abbrev st_is_between : Stmt := topS 6
abbrev N_is_between : List Str := ["value", "least", "greatest"]
theorem sc_is_between : FnScope N_is_between ["value", "least", "greatest"] (defScope st_is_between) := ⟨rfl, rfl, rfl, by decide +kernel, rfl, by decide +kernel, by decide +kernel⟩
theorem ok_is_between (D : Df K mg "is_between" st_is_between ["value", "least", "greatest"]) (B : Bl mg) (Kis_integer : Kn P w K mg base CX0 1 "is_integer" st_is_integer ["value"] spIsInteger) :
    Kn P w K mg base CX0 2 "is_between" st_is_between ["value", "least", "greatest"] spIsBetween := by
  refine D.ok sc_is_between (fun vs H Q E h => ?_) (fun f cdv A outer s H vs Q E hr h => ?_)
  · obtain ⟨x, n, m, rfl, _⟩ := h; rfl
  obtain ⟨x, n, m, rfl, v, q⟩ := h
  refine ⟨_, ((pss_one (ps_ret (pe_and (pe_callF Kis_integer (hr.mono (by decide)) pass0 (pa_cons (pv 0) pa_nil)) (pe_one (pe_chain op_le op_le (pv 1) (pv 0) (pv 2))))))), ?_⟩
  refine ⟨_, rfl, _, rfl, v, _, rfl, ?_⟩
  cases x with
  | int i =>
    refine iteT ⟨_, rfl, _, rfl, _, _, rfl, rfl, _, rfl, ?_⟩
    have q' : Q (.bl (decide (n ≤ i) && decide (i ≤ m))) H := q
    refine ite2 (fun c => ?_) (fun c => ?_)
    · rw [c, Bool.true_and] at q'
      exact ⟨_, rfl, _, _, rfl, rfl, q'⟩
    · rw [Bool.eq_false_iff.mpr c, Bool.false_and] at q'
      exact q'
  | _ => exact iteF q
abbrev st_is_index : Stmt := topS 7
abbrev N_is_index : List Str := ["value", "many"]
theorem sc_is_index : FnScope N_is_index ["value", "many"] (defScope st_is_index) := ⟨rfl, rfl, rfl, by decide +kernel, rfl, by decide +kernel, by decide +kernel⟩
theorem ok_is_index (D : Df K mg "is_index" st_is_index ["value", "many"]) (B : Bl mg) (Kis_between : Kn P w K mg base CX0 2 "is_between" st_is_between ["value", "least", "greatest"] spIsBetween) :
    Kn P w K mg base CX0 3 "is_index" st_is_index ["value", "many"] spIsIndex := by
  refine D.ok sc_is_index (fun vs H Q E h => ?_) (fun f cdv A outer s H vs Q E hr h => ?_)
  · obtain ⟨x, n, rfl, _⟩ := h; rfl
  obtain ⟨x, n, rfl, v, q⟩ := h
  refine ⟨_, ((pss_one (ps_ret (pe_callF Kis_between (hr.mono (by decide)) pass0 (pa_cons (pv 0) (pa_cons pe_int (pa_cons (pe_op op_sub (pv 1) pe_int) pa_nil))))))), ?_⟩
  refine ⟨_, rfl, _, rfl, _, _, rfl, rfl, x, 0, n - 1, rfl, v, ?_⟩
  rw [isBtw_idx]
  exact q
end

end My

namespace My
open PySem PySem.Spec PyProof.Rows L2
/-! ### forests as lists of holders -/
def hv : Option Nat → V
  | none => .non
  | some u => .int (u : Int)
abbrev Hs := List (Option Nat)
def nv (l : List Nat) : List V := l.map fun v : Nat => V.int (v : Int)
def kidsTo (hs : Hs) (u i : Nat) : List Nat := (List.range i).filter fun v => decide (hs[v]? = some (some u))
def rootsTo (hs : Hs) (i : Nat) : List Nat := (List.range i).filter fun v => decide (hs[v]? = some none)
def kids (hs : Hs) (u : Nat) : List Nat := kidsTo hs u hs.length
def roots (hs : Hs) : List Nat := rootsTo hs hs.length
theorem kidsTo_succ (hs : Hs) (u i : Nat) : kidsTo hs u (i + 1) = kidsTo hs u i ++ (if hs[i]? = some (some u) then [i] else []) := by
  unfold kidsTo
  rw [List.range_succ, List.filter_append]
  by_cases h : hs[i]? = some (some u) <;> simp [h]
theorem rootsTo_succ (hs : Hs) (i : Nat) : rootsTo hs (i + 1) = rootsTo hs i ++ (if hs[i]? = some none then [i] else []) := by
  unfold rootsTo
  rw [List.range_succ, List.filter_append]
  by_cases h : hs[i]? = some none <;> simp [h]
theorem mem_kids {hs : Hs} {u v : Nat} : v ∈ kids hs u ↔ hs[v]? = some (some u) := by
  unfold kids kidsTo
  rw [List.mem_filter, List.mem_range, decide_eq_true_eq]
  exact ⟨fun h => h.2, fun h => ⟨(List.getElem?_eq_some_iff.mp h).1, h⟩⟩
theorem mem_roots {hs : Hs} {v : Nat} : v ∈ roots hs ↔ hs[v]? = some none := by
  unfold roots rootsTo
  rw [List.mem_filter, List.mem_range, decide_eq_true_eq]
  exact ⟨fun h => h.2, fun h => ⟨(List.getElem?_eq_some_iff.mp h).1, h⟩⟩
theorem nodup_kids (hs : Hs) (u : Nat) : (kids hs u).Nodup := List.nodup_range.filter _
theorem nodup_roots (hs : Hs) : (roots hs).Nodup := List.nodup_range.filter _
theorem kidsTo_len (hs : Hs) (u i : Nat) : (kidsTo hs u i).length ≤ i := by
  have h := List.length_filter_le (fun v => decide (hs[v]? = some (some u))) (List.range i)
  rw [List.length_range] at h; exact h
theorem rootsTo_len (hs : Hs) (i : Nat) : (rootsTo hs i).length ≤ i := by
  have h := List.length_filter_le (fun v => decide (hs[v]? = some none)) (List.range i)
  rw [List.length_range] at h; exact h
theorem nv_append (a b : List Nat) : nv (a ++ b) = nv a ++ nv b := List.map_append
theorem nv_length (a : List Nat) : (nv a).length = a.length := List.length_map _
theorem nv_get {a : List Nat} {i v : Nat} (h : a[i]? = some v) : (nv a)[i]? = some (.int (v : Int)) := by
  unfold nv; rw [List.getElem?_map, h]; rfl
theorem hv_get {hs : Hs} {i : Nat} {x : V} (h : (hs.map hv)[i]? = some x) : ∃ o, hs[i]? = some o ∧ x = hv o := by
  rw [List.getElem?_map] at h
  cases e : hs[i]? with
  | none => rw [e] at h; cases h
  | some o => rw [e] at h; exact ⟨o, rfl, (Option.some.inj h).symm⟩
theorem hv_at {hs : Hs} {i : Nat} {o : Option Nat} (h : hs[i]? = some o) : (hs.map hv)[i]? = some (hv o) := by rw [List.getElem?_map, h]; rfl
theorem szl {n : Nat} (h : n ≤ 1000) : n < sizeLine := small1000 h
/-! ### heldbehind.forests: the private lists -/
def spWithout (K : PySem.W.Frag) : Sp := fun vs H Q _ => ∃ (a : Addr) (hs : Hs), vs = [.ref a] ∧ SqT K H a (hs.map hv) ∧ hs.length ≤ 1000 ∧
  ∀ p H', Same H H' → H p = none → H' p = some (.lst (nv (roots hs))) → Q (.ref p) H'
section
variable {P : Program} {w : World} {K : PySem.W.Frag} {mg : Str → Option Value} {base : Heap}
abbrev st__without_holder : Stmt := topS 19
abbrev N__without_holder : List Str := ["forest", "thing", "holder"]
theorem sc__without_holder : FnScope N__without_holder ["forest"] (defScope st__without_holder) := ⟨rfl, rfl, rfl, by decide +kernel, rfl, by decide +kernel, by decide +kernel⟩
theorem ok__without_holder (D : Df K mg "_without_holder" st__without_holder ["forest"]) (B : Bl mg) : Kn P w K mg base CX0 1 "_without_holder" st__without_holder ["forest"] (spWithout K) := by
  refine D.ok sc__without_holder (fun vs H Q E h => ?_) (fun f cdv A outer s H vs Q E hr h => ?_)
  · obtain ⟨a, hs, rfl, _⟩ := h; rfl
  obtain ⟨a, hs, rfl, hS, hn, q⟩ := h
  refine ⟨_, ((pss_one (ps_ret (pe_lc (own := [("thing", 1), ("holder", 2)]) (g := gTup K 2 (gCons (gName 1) (gCons (gName 2) gNil))) rfl sc__without_holder.nd (pi_enumT (by rfl) B.enumerate (pa_cons (pv 0) pa_nil)) (blkOk_by (N := N__without_holder) (sc := defScope st__without_holder) (own := [("thing", 1), ("holder", 2)]) (by decide +kernel)) (fun _ _ _ _ _ => by (refine pg_tup (n := 2) ?hc ?h ?hn ?hst; (case hc => rfl); (case hn => rfl); (case hst => rfl); case h => (refine pgs_cons ?g1 ?g2; (case g1 => exact (pg_name (i := 1) sc__without_holder.nd rfl (Or.inl rfl))); case g2 => (refine pgs_cons ?g1 ?g2; (case g1 => exact (pg_name (i := 2) sc__without_holder.nd rfl (Or.inl rfl))); case g2 => (exact pgs_nil))))) (fun _ _ _ _ _ => by exact (pts_one (pt_cmpR op_isN (pv 2) pe_non (nomark _)))) (fun _ _ _ _ _ => by exact (pv 1)))))), ?_⟩
  refine ⟨_, rfl, a, _, rfl, hS, fun D hD => lc_it (walk_enumT (xs := hs.map hv)) (fun i H' => Same H H' ∧ H' D = some (.lst (nv (rootsTo hs i)))) ⟨(Same.refl H).new hD, upd_same⟩ (fun i H' _ p => p.1.tseq hS) ?_ ?_⟩
  · rintro i x H1 H2 hi ⟨s1, hD1⟩ ⟨T, x1, x2, rfl, hT, rfl, e1, e2⟩
    have e1' := Option.some.inj e1; subst e1'
    obtain ⟨o, ho, rfl⟩ := hv_get e2
    have hDT : D ≠ T := ne_of_none hD1 hT
    refine ⟨T, _, rfl, SqT.of upd_same, rfl, _, _, rfl, _, _, rfl, rfl, rfl, _, rfl, rfl, _, rfl, ?_⟩
    have s2 : Same H (upd H1 T (.tup [.int (i : Int), hv o])) := s1.new hT
    have hi' : (rootsTo hs i).length ≤ i := rootsTo_len hs i
    have hil : i < hs.length := (List.getElem?_eq_some_iff.mp ho).1
    have hD2 : upd H1 T (.tup [.int (i : Int), hv o]) D = some (.lst (nv (rootsTo hs i))) := by rw [upd_ne hDT]; exact hD1
    refine ite2 (fun c => ?_) (fun c => ?_)
    · have eo : o = none := by
        cases o with
        | none => rfl
        | some u => exact absurd (of_decide_eq_true c) (by intro z; cases z)
      refine ⟨_, rfl, _, hD2, by rw [nv_length]; exact szl (by omega), s2.upd hD, ?_⟩
      rw [upd_same, rootsTo_succ, ho, eo, if_pos rfl, nv_append]; rfl
    · have eo : ¬ some o = some none := by intro z; cases z; exact c rfl
      refine ⟨s2, ?_⟩
      rw [hD2, rootsTo_succ, ho, if_neg eo, List.append_nil]
  · rintro H1 ⟨s1, hD1⟩
    refine q D H1 s1 hD ?_
    rw [hD1, List.length_map]; rfl
end

end My

namespace My
open PySem PySem.Spec PyProof.Rows L2
def InB (hs : Hs) : Prop := ∀ v u : Nat, hs[v]? = some (some u) → u < hs.length
structure HeldTo (H : Hp) (p : Addr) (as : List Addr) (hs : Hs) (i : Nat) : Prop where
  lst : H p = some (.lst (as.map V.ref))
  len : as.length = hs.length
  nd : as.Nodup
  at_ : ∀ (j : Nat) (c : Addr), as[j]? = some c → H c = some (.lst (nv (kidsTo hs j i)))
abbrev HeldAt (H : Hp) (p : Addr) (as : List Addr) (hs : Hs) : Prop := HeldTo H p as hs hs.length
theorem HeldTo.same {H H' : Hp} {p : Addr} {as : List Addr} {hs : Hs} {i : Nat} (h : HeldTo H p as hs i) (s : Same H H') : HeldTo H' p as hs i :=
  ⟨s _ _ h.lst, h.len, h.nd, fun j c e => s _ _ (h.at_ j c e)⟩
theorem nodup_at {as : List Addr} (nd : as.Nodup) {i j : Nat} {c : Addr} (h1 : as[i]? = some c) (h2 : as[j]? = some c) : i = j := by
  obtain ⟨l1, e1⟩ := List.getElem?_eq_some_iff.mp h1
  obtain ⟨l2, e2⟩ := List.getElem?_eq_some_iff.mp h2
  exact (List.getElem_inj nd).mp (e1.trans e2.symm)
/-- nothing is held by a thing beyond the turns: the turn of a thing without a holder -/
theorem HeldTo.skip {H : Hp} {p : Addr} {as : List Addr} {hs : Hs} {i : Nat} (h : HeldTo H p as hs i) (e : hs[i]? = some none) : HeldTo H p as hs (i + 1) :=
  ⟨h.lst, h.len, h.nd, fun j c q => by
    have z : ¬ hs[i]? = some (some j) := by rw [e]; intro w; cases w
    rw [kidsTo_succ, if_neg z, List.append_nil]; exact h.at_ j c q⟩
theorem HeldTo.put {H : Hp} {p c : Addr} {as : List Addr} {hs : Hs} {i u : Nat} (h : HeldTo H p as hs i) (e : hs[i]? = some (some u)) (hc : as[u]? = some c) :
    HeldTo (upd H c (.lst (nv (kidsTo hs u i) ++ [.int (i : Int)]))) p as hs (i + 1) := by
  have hcl := h.at_ u c hc
  have hpc : p ≠ c := by
    intro z
    have q := h.lst
    rw [z, hcl] at q
    have q2 := HO.lst.inj (Option.some.inj q)
    have hl : as ≠ [] := by intro w; rw [w] at hc; cases hc
    cases as with
    | nil => exact hl rfl
    | cons a0 r =>
      cases hk : kidsTo hs u i with
      | nil => rw [hk] at q2; cases q2
      | cons k0 kr => rw [hk] at q2; cases q2
  refine ⟨by rw [upd_ne hpc]; exact h.lst, h.len, h.nd, fun j c' q => ?_⟩
  by_cases hj : j = u
  · subst hj
    have ec : c' = c := Option.some.inj (q.symm.trans hc)
    subst ec
    rw [upd_same, kidsTo_succ, if_pos e, nv_append]; rfl
  · have ec : c' ≠ c := fun z => hj (nodup_at h.nd q (by rw [z]; exact hc))
    have z : ¬ hs[i]? = some (some j) := by rw [e]; intro w; cases w; exact hj rfl
    rw [upd_ne ec, kidsTo_succ, if_neg z, List.append_nil]; exact h.at_ j c' q
def spHeld (K : PySem.W.Frag) : Sp := fun vs H Q _ => ∃ (a : Addr) (hs : Hs), vs = [.ref a] ∧ SqT K H a (hs.map hv) ∧ hs.length ≤ 1000 ∧ InB hs ∧
  ∀ p as H', Same H H' → H p = none → (∀ c ∈ as, H c = none) → HeldAt H' p as hs → Q (.ref p) H'
section
variable {P : Program} {w : World} {K : PySem.W.Frag} {mg : Str → Option Value} {base : Heap}
abbrev st__held_lists : Stmt := topS 20
abbrev N__held_lists : List Str := ["forest", "held", "thing", "holder", "_"]
theorem sc__held_lists : FnScope N__held_lists ["forest"] (defScope st__held_lists) := ⟨rfl, rfl, rfl, by decide +kernel, rfl, by decide +kernel, by decide +kernel⟩
theorem ok__held_lists (D : Df K mg "_held_lists" st__held_lists ["forest"]) (B : Bl mg) : Kn P w K mg base CX0 1 "_held_lists" st__held_lists ["forest"] (spHeld K) := by
  refine D.ok sc__held_lists (fun vs H Q E h => ?_) (fun f cdv A outer s H vs Q E hr h => ?_)
  · obtain ⟨a, hs, rfl, _⟩ := h; rfl
  obtain ⟨a, hs, rfl, hS, hn, hin, q⟩ := h
  refine ⟨_, ((pss_cons (ps_setLc (i := 1) (own := [("_", 4)]) (g := gName 4) rfl sc__held_lists.nd rfl rfl (sw_true rfl rfl rfl (by decide +kernel)) (pi_tup (pv 0)) (blkOk_by (N := N__held_lists) (sc := defScope st__held_lists) (own := [("_", 4)]) (by decide +kernel)) (fun _ _ _ _ _ => by (exact (pg_name (i := 4) sc__held_lists.nd rfl (Or.inl rfl)))) (fun _ _ _ _ _ => by exact pts_nil) (fun _ _ _ _ _ => by exact (pe_lst pa_nil)))
      (pss_cons (ps_for PassesOwn.never rfl (pi_enumT (by rfl) B.enumerate (pa_cons (pv 0) pa_nil)) (pg_tup rfl (pgs_cons (pg_name (i := 2) sc__held_lists.nd rfl (Or.inl rfl)) (pgs_cons (pg_name (i := 3) sc__held_lists.nd rfl (Or.inl rfl)) pgs_nil))) (pss_one (ps_if (pt_cmpR op_notN (pv 3) pe_non (nomark _)) (pss_one (ps_expr (pe_bm PySem.F.plainAttrs_list PySem.F.slot_list_append PySem.F.type_list_append mt_append (pe_ix ix_list (pv 1) (pv 3) (fun _ _ => rfl)) (pa_cons (pv 2) pa_nil)))) pss_nil)))
      (pss_one (ps_ret (pv 1)))))), ?_⟩
  refine ⟨_, rfl, a, rfl, ⟨_, hS⟩, fun D hD => lc_it (walk_tup (xs := hs.map hv)) (fun i H' => Same H H' ∧ ∃ as : List Addr, as.length = i ∧ as.Nodup ∧ H' D = some (.lst (as.map V.ref)) ∧ ∀ c ∈ as, H' c = some (.lst []) ∧ H c = none ∧ c ≠ D)
    ⟨(Same.refl H).new hD, [], rfl, List.nodup_nil, upd_same, fun c hc => by cases hc⟩ (fun i H' _ p => p.1.tseq hS) ?_ ?_⟩
  · rintro i x H1 H2 hi ⟨s1, as, hlen, nd, hD1, hcs⟩ ⟨rfl, e1⟩
    rw [List.length_map] at hi
    refine ⟨rfl, ⟨by show 0 ≤ sizeLine; decide, fun p hp => ?_⟩⟩
    have hDp : D ≠ p := ne_of_none hD1 hp
    have hpn : H p = none := s1.free hp
    refine ⟨_, by rw [upd_ne hDp]; exact hD1, by rw [List.length_map]; exact szl (by omega), (s1.upd hpn).upd hD, as ++ [p], ?_, ?_, ?_, ?_⟩
    · rw [List.length_append, hlen]; rfl
    · refine List.nodup_append.mpr ⟨nd, by simp, fun x hx y hy => ?_⟩
      have ey : y = p := by simpa using hy
      rw [ey]
      exact ne_of_none (hcs x hx).1 hp
    · rw [upd_same, List.map_append]; rfl
    · intro c hc
      rcases List.mem_append.mp hc with hc | hc
      · obtain ⟨c1, c2, c3⟩ := hcs c hc
        exact ⟨by rw [upd_ne c3, upd_ne (ne_of_none c1 hp)]; exact c1, c2, c3⟩
      · have ec : c = p := by simpa using hc
        rw [ec]
        exact ⟨by rw [upd_ne hDp.symm, upd_same], hpn, hDp.symm⟩
  · rintro H1 ⟨s1, as, hlen, nd, hD1, hcs⟩
    rw [List.length_map] at hlen
    have h0 : HeldTo H1 D as hs 0 := ⟨hD1, hlen, nd, fun j c e => (hcs c (List.mem_of_getElem? e)).1⟩
    refine ⟨_, rfl, a, _, rfl, s1.tseq hS, for_it (walk_enumT (xs := hs.map hv)) (fun i σ H' => ∃ v2 v3, σ = [some (.ref a), some (.ref D), v2, v3, none] ∧ Same H H' ∧ HeldTo H' D as hs i)
      ⟨none, none, rfl, s1, h0⟩ (fun i σ H' _ p => by obtain ⟨_, _, _, p, _⟩ := p; exact p.tseq hS) ?_ ?_⟩
    · rintro i x σ H2 H3 hi ⟨v2, v3, rfl, s2, hh⟩ ⟨T, x1, x2, rfl, hT, rfl, e1, e2⟩
      have e1' := Option.some.inj e1; subst e1'
      obtain ⟨o, ho, rfl⟩ := hv_get e2
      have s3 : Same H2 (upd H2 T (.tup [.int (i : Int), hv o])) := (Same.refl _).new hT
      have hh3 := hh.same s3
      refine ⟨T, _, rfl, SqT.of upd_same, rfl, _, _, rfl, _, _, rfl, rfl, _, rfl, rfl, _, rfl, ?_⟩
      cases o with
      | none => exact iteF ⟨_, _, rfl, s2.trans s3, hh3.skip ho⟩
      | some u =>
        have hu := hin i u ho
        have hil : i < hs.length := (List.getElem?_eq_some_iff.mp ho).1
        obtain ⟨c, hc⟩ : ∃ c, as[u]? = some c := ⟨as[u]'(by rw [hlen]; exact hu), List.getElem?_eq_getElem _⟩
        have hc2 : (as.map V.ref)[u]? = some (.ref c) := by rw [List.getElem?_map, hc]; rfl
        have hcl := hh3.at_ u c hc
        have hk := kidsTo_len hs u i
        refine iteT ⟨_, rfl, _, rfl, D, _, _, _, rfl, rfl, SqL.of hh3.lst, atI_nat hc2, .inl ⟨rfl, _, SqL.of hcl⟩, _, rfl, c, _, _, rfl, rfl, hcl, by rw [nv_length]; exact szl (by omega), ?_⟩
        exact ⟨_, _, rfl, (s2.trans s3).upd (hcs c (List.mem_of_getElem? hc)).2.1, hh3.put ho hc⟩
    · rintro σ H2 ⟨v2, v3, rfl, s2, hh⟩
      rw [List.length_map] at hh
      exact ⟨_, rfl, q D as H2 s2 hD (fun c hc => (hcs c hc).2.1) hh⟩
end

end My

namespace My
open PySem PySem.Spec PyProof.Rows L2
theorem nodup_len : ∀ (n : Nat) (l : List Nat), l.Nodup → (∀ v ∈ l, v < n) → l.length ≤ n
  | 0, l, _, h => by
    cases l with
    | nil => exact Nat.le_refl _
    | cons a r => exact absurd (h a List.mem_cons_self) (Nat.not_lt_zero _)
  | n + 1, l, nd, h => by
    by_cases hm : n ∈ l
    · have h1 : (l.erase n).Nodup := nd.erase n
      have h2 : ∀ v ∈ l.erase n, v < n := fun v hv => by
        have h3 := h v (List.mem_of_mem_erase hv)
        have h4 : v ≠ n := fun e => by
          rw [e] at hv
          exact (List.Nodup.not_mem_erase nd) hv
        omega
      have ih := nodup_len n _ h1 h2
      have hl := List.length_erase_of_mem hm
      have hp := List.length_pos_of_mem hm
      omega
    · have ih := nodup_len n l nd fun v hv => by
        have h3 := h v hv
        have h4 : v ≠ n := fun e => hm (e ▸ hv)
        omega
      omega
/-- how far a walk has come: found, and what is waiting (its last one next) -/
structure WT (hs : Hs) (st : List Nat) (Rn : Nat → Prop) (found wait : List Nat) : Prop where
  nd : (found ++ wait).Nodup
  ok : ∀ v ∈ found ++ wait, v < hs.length ∧ Rn v ∧ (v ∈ st ∨ ∃ u ∈ found, hs[v]? = some (some u))
  sm : ∀ v ∈ st, v ∈ found ++ wait
  cl : ∀ v u : Nat, hs[v]? = some (some u) → u ∈ found → v ∈ found ++ wait
  od : ∀ i v : Nat, found[i]? = some v → v ∈ st ∨ ∃ j u : Nat, j < i ∧ found[j]? = some u ∧ hs[v]? = some (some u)
  pr : ∀ pre : Nat → List Nat, (∀ v, Rn v → pre v = v :: (kids hs v).flatMap pre) → found ++ wait.reverse.flatMap pre = st.flatMap pre
structure Starts (hs : Hs) (st : List Nat) (Rn : Nat → Prop) : Prop where
  nd : st.Nodup
  ok : ∀ s ∈ st, s < hs.length ∧ Rn s
  down : ∀ v u : Nat, hs[v]? = some (some u) → Rn u → Rn v
  no : ∀ s ∈ st, ∀ u : Nat, hs[s]? = some (some u) → ¬ Rn u
theorem WT.start {hs : Hs} {st : List Nat} {Rn : Nat → Prop} (S : Starts hs st Rn) : WT hs st Rn [] st.reverse where
  nd := by rw [List.nil_append]; exact (List.reverse_perm st).nodup_iff.mpr S.nd
  ok := fun v hv => by
    rw [List.nil_append, List.mem_reverse] at hv
    exact ⟨(S.ok v hv).1, (S.ok v hv).2, .inl hv⟩
  sm := fun v hv => by rw [List.nil_append, List.mem_reverse]; exact hv
  cl := fun v u _ hu => by cases hu
  od := fun i v e => by cases e
  pr := fun pre _ => by rw [List.nil_append, List.reverse_reverse]
theorem WT.step {hs : Hs} {st : List Nat} {Rn : Nat → Prop} {found w : List Nat} {t : Nat} (S : Starts hs st Rn) (h : WT hs st Rn found (w ++ [t])) : WT hs st Rn (found ++ [t]) (w ++ (kids hs t).reverse) := by
  have ht : t ∈ found ++ (w ++ [t]) := by simp
  have htf : t ∉ found := fun z => by
    have q := h.nd
    rw [List.nodup_append] at q
    exact q.2.2 t z t (by simp) rfl
  have hRt := (h.ok t ht).2.1
  have hno : ∀ v ∈ found ++ (w ++ [t]), hs[v]? ≠ some (some t) := fun v hv e => by
    rcases (h.ok v hv).2.2 with z | ⟨u, hu, z⟩
    · exact S.no v z t e hRt
    · rw [e] at z
      cases z
      exact htf hu
  have mem : ∀ v, v ∈ (found ++ [t]) ++ (w ++ (kids hs t).reverse) ↔ v ∈ found ++ (w ++ [t]) ∨ v ∈ kids hs t := fun v => by
    simp only [List.mem_append, List.mem_singleton, List.mem_reverse]
    constructor
    · rintro ((a | a) | (a | a))
      · exact .inl (.inl a)
      · exact .inl (.inr (.inr a))
      · exact .inl (.inr (.inl a))
      · exact .inr a
    · rintro ((a | (a | a)) | a)
      · exact .inl (.inl a)
      · exact .inr (.inl a)
      · exact .inl (.inr a)
      · exact .inr (.inr a)
  refine ⟨?_, fun v hv => ?_, fun v hv => (mem v).mpr (.inl (h.sm v hv)), fun v u e hu => ?_, fun i v e => ?_, fun pre hp => ?_⟩
  · have p : ((found ++ [t]) ++ (w ++ (kids hs t).reverse)).Perm ((found ++ (w ++ [t])) ++ kids hs t) := by
      have p1 : ((found ++ [t]) ++ w).Perm (found ++ (w ++ [t])) := by
        rw [List.append_assoc]
        exact List.Perm.append_left found List.perm_append_comm
      rw [← List.append_assoc]
      exact p1.append (List.reverse_perm _)
    refine p.nodup_iff.mpr (List.nodup_append.mpr ⟨h.nd, nodup_kids hs t, fun x hx y hy e => ?_⟩)
    subst e
    exact hno x hx (mem_kids.mp hy)
  · rcases (mem v).mp hv with z | z
    · obtain ⟨a, b, c⟩ := h.ok v z
      refine ⟨a, b, ?_⟩
      rcases c with c | ⟨u, hu, e⟩
      · exact .inl c
      · exact .inr ⟨u, List.mem_append_left _ hu, e⟩
    · have e := mem_kids.mp z
      exact ⟨(List.getElem?_eq_some_iff.mp e).1, S.down v t e hRt, .inr ⟨t, by simp, e⟩⟩
  · rcases List.mem_append.mp hu with z | z
    · exact (mem v).mpr (.inl (h.cl v u e z))
    · have eu : u = t := by simpa using z
      rw [eu] at e
      exact (mem v).mpr (.inr (mem_kids.mpr e))
  · by_cases hi : i < found.length
    · rw [List.getElem?_append_left hi] at e
      rcases h.od i v e with z | ⟨j, u, hj, e1, e2⟩
      · exact .inl z
      · exact .inr ⟨j, u, hj, by rw [List.getElem?_append_left (by omega)]; exact e1, e2⟩
    · have hi2 : found.length ≤ i := by omega
      rw [List.getElem?_append_right hi2] at e
      have hz : i - found.length = 0 := by
        cases hk : i - found.length with
        | zero => rfl
        | succ k => rw [hk] at e; cases e
      rw [hz] at e
      have ev : t = v := Option.some.inj e
      subst ev
      rcases (h.ok t ht).2.2 with z | ⟨u, hu, e2⟩
      · exact .inl z
      · obtain ⟨j, ej⟩ := List.getElem?_of_mem hu
        have hj := (List.getElem?_eq_some_iff.mp ej).1
        exact .inr ⟨j, u, by omega, by rw [List.getElem?_append_left hj]; exact ej, e2⟩
  · have q := h.pr pre hp
    rw [← q, List.reverse_append, List.reverse_append, List.reverse_reverse]
    show _ = found ++ (t :: w.reverse).flatMap pre
    rw [List.flatMap_cons, hp t hRt, List.flatMap_append]
    simp
theorem WT.room {hs : Hs} {st : List Nat} {Rn : Nat → Prop} {found w : List Nat} {t : Nat} (h : WT hs st Rn found (w ++ [t])) : found.length < hs.length ∧ (w.length + 1) ≤ hs.length := by
  have q := nodup_len hs.length _ h.nd fun v hv => (h.ok v hv).1
  rw [List.length_append, List.length_append] at q
  have e : [t].length = 1 := rfl
  omega
theorem WT.lens {hs : Hs} {st : List Nat} {Rn : Nat → Prop} {found wait : List Nat} (h : WT hs st Rn found wait) : found.length + wait.length ≤ hs.length := by
  have q := nodup_len hs.length _ h.nd fun v hv => (h.ok v hv).1
  rw [List.length_append] at q
  exact q
def spWalkT (K : PySem.W.Frag) : Sp := fun vs H Q _ => ∃ (p q : Addr) (as : List Addr) (hs : Hs) (st : List Nat) (Rn : Nat → Prop), vs = [.ref p, .ref q] ∧ HeldAt H p as hs ∧ SqL K H q (nv st) ∧ hs.length ≤ 1000 ∧ Starts hs st Rn ∧
  ∀ r l H', Same H H' → H r = none → H' r = some (.lst (nv l)) → WT hs st Rn l [] → Q (.ref r) H'
theorem snoc_of {α : Type} {l : List α} (h : 0 < l.length) : ∃ w t, l = w ++ [t] := by
  have hne : l ≠ [] := by
    intro e; subst e; exact absurd h (Nat.lt_irrefl 0)
  refine ⟨l.dropLast, l.getLast hne, ?_⟩
  exact (List.dropLast_concat_getLast _).symm
section
variable {P : Program} {w : World} {K : PySem.W.Frag} {mg : Str → Option Value} {base : Heap}
abbrev st__walk_through : Stmt := topS 21
abbrev N__walk_through : List Str := ["held", "starts", "found", "waiting", "thing"]
theorem sc__walk_through : FnScope N__walk_through ["held", "starts"] (defScope st__walk_through) := ⟨rfl, rfl, rfl, by decide +kernel, rfl, by decide +kernel, by decide +kernel⟩
theorem ok__walk_through (D : Df K mg "_walk_through" st__walk_through ["held", "starts"]) (B : Bl mg) : Kn P w K mg base CX0 1 "_walk_through" st__walk_through ["held", "starts"] (spWalkT K) := by
  refine D.ok sc__walk_through (fun vs H Q E h => ?_) (fun f cdv A outer s H vs Q E hr h => ?_)
  · obtain ⟨p, q, as, hs, st, Rn, rfl, _⟩ := h; rfl
  obtain ⟨p, q, as, hs, st, Rn, rfl, hA, hq, hn, S, k⟩ := h
  refine ⟨_, ((pss_cons (ps_set (i := 2) sc__walk_through.nd rfl (Or.inl rfl) (pe_lst pa_nil))
      (pss_cons (ps_set (i := 3) sc__walk_through.nd rfl (Or.inl rfl) (pe_revL (pv 1)))
      (pss_cons (ps_while PassesOwn.never (pt_cmpR op_gt (pe_callB call_len (by rfl) B.len (by decide +kernel) (pa_cons (pv 3) pa_nil)) pe_int (nomark _)) (pss_cons (ps_set (i := 4) sc__walk_through.nd rfl (Or.inl rfl) (pe_bm0 PySem.F.plainAttrs_list PySem.F.slot_list_pop PySem.F.type_list_pop mt_pop (pv 3)))
      (pss_cons (ps_expr (pe_bm PySem.F.plainAttrs_list PySem.F.slot_list_append PySem.F.type_list_append mt_append (pv 2) (pa_cons (pv 4) pa_nil)))
      (pss_one (ps_expr (pe_bm PySem.F.plainAttrs_list PySem.F.slot_list_extend PySem.F.type_list_extend mt_extend (pv 3) (pa_cons (pe_revL (pe_ix ix_list (pv 0) (pv 4) (fun _ _ => rfl))) pa_nil)))))))
      (pss_one (ps_ret (pv 2))))))), ?_⟩
  refine ⟨by show 0 ≤ sizeLine; decide, fun F hF => ?_⟩
  have s1 : Same H (upd H F (.lst [])) := (Same.refl H).new hF
  refine ⟨_, rfl, q, _, rfl, s1.seq hq, fun W hW => ?_⟩
  have hFW : F ≠ W := ne_of_none upd_same hW
  have hWn : H W = none := s1.free hW
  refine ⟨fun m σ H' => ∃ found wait v4, σ = [some (.ref p), some (.ref q), some (.ref F), some (.ref W), v4] ∧ Same H H' ∧ H' F = some (.lst (nv found)) ∧ H' W = some (.lst (nv wait)) ∧ WT hs st Rn found wait ∧ m = hs.length - found.length,
    ⟨_, [], st.reverse, none, rfl, s1.upd hWn, by rw [upd_ne hFW, upd_same]; rfl, ?_, WT.start S, rfl⟩, ?_⟩
  · rw [upd_same]
    unfold nv
    rw [List.map_reverse]
  · rintro m σ H' ⟨found, wait, v4, rfl, s2, hF2, hW2, hwt, rfl⟩
    refine ⟨_, rfl, _, _, rfl, .inl ⟨_, SqL.of hW2, rfl⟩, _, _, rfl, rfl, _, rfl, ?_⟩
    refine ite2 (fun c => ?_) (fun c => ?_)
    · have hpos : 0 < wait.length := by
        have c' := of_decide_eq_true c
        rw [nv_length] at c'
        omega
      obtain ⟨w', t, rfl⟩ := snoc_of hpos
      have hroom := hwt.room
      have hlens := (hwt.step S).lens
      rw [List.length_append, List.length_append, List.length_reverse] at hlens
      have h1 : [t].length = 1 := rfl
      refine ⟨fun σ' H' => ∃ m', m' < hs.length - found.length ∧ ∃ found wait v4, σ' = [some (.ref p), some (.ref q), some (.ref F), some (.ref W), v4] ∧ Same H H' ∧ H' F = some (.lst (nv found)) ∧ H' W = some (.lst (nv wait)) ∧ WT hs st Rn found wait ∧ m' = hs.length - found.length, fun _ _ h => h, ?_⟩
      -- thing = waiting.pop()
      refine ⟨_, rfl, .inl ⟨rfl, _, SqL.of hW2⟩, W, _, .int (t : Int), rfl, rfl, hW2, ?_, ?_⟩
      · rw [nv_append, List.length_append]
        show (nv w' ++ [V.int (t : Int)])[(nv w').length + 1 - 1]? = _
        simp
      have hW3 : upd H' W (.lst (nv (w' ++ [t])).dropLast) W = some (.lst (nv w')) := by
        rw [upd_same, nv_append]
        show some (HO.lst (nv w' ++ [V.int (t : Int)]).dropLast) = _
        rw [List.dropLast_concat]
      have hF3 : upd H' W (.lst (nv (w' ++ [t])).dropLast) F = some (.lst (nv found)) := by rw [upd_ne hFW]; exact hF2
      have s3 : Same H (upd H' W (.lst (nv (w' ++ [t])).dropLast)) := s2.upd hWn
      generalize upd H' W (.lst (nv (w' ++ [t])).dropLast) = H3 at hW3 hF3 s3 ⊢
      -- found.append(thing)
      refine ⟨_, rfl, .inl ⟨rfl, _, SqL.of hF3⟩, _, rfl, F, _, _, rfl, rfl, hF3, by rw [nv_length]; exact szl (by omega), ?_⟩
      have hF4 : upd H3 F (.lst (nv found ++ [V.int (t : Int)])) F = some (.lst (nv (found ++ [t]))) := by rw [upd_same, nv_append]; rfl
      have hW4 : upd H3 F (.lst (nv found ++ [V.int (t : Int)])) W = some (.lst (nv w')) := by rw [upd_ne hFW.symm]; exact hW3
      have s4 : Same H (upd H3 F (.lst (nv found ++ [V.int (t : Int)]))) := s3.upd hF
      generalize upd H3 F (.lst (nv found ++ [V.int (t : Int)])) = H4 at hF4 hW4 s4 ⊢
      -- waiting.extend(held[thing][::-1])
      have hA4 := hA.same s4
      have htl : t < hs.length := (hwt.ok t (by simp)).1
      obtain ⟨c2, hc2⟩ : ∃ c2, as[t]? = some c2 := ⟨as[t]'(by rw [hA.len]; exact htl), List.getElem?_eq_getElem _⟩
      have hc3 : (as.map V.ref)[t]? = some (.ref c2) := by rw [List.getElem?_map, hc2]; rfl
      refine ⟨_, rfl, .inl ⟨rfl, _, SqL.of hW4⟩, _, rfl, _, rfl, p, _, _, _, rfl, rfl, SqL.of hA4.lst, atI_nat hc3, c2, _, rfl, SqL.of (hA4.at_ t c2 hc2), fun R hR => ?_⟩
      have hWR : W ≠ R := ne_of_none hW4 hR
      have hFR : F ≠ R := ne_of_none hF4 hR
      refine ⟨W, R, _, _, rfl, rfl, by rw [upd_ne hWR]; exact hW4, upd_same, ?_, ?_⟩
      · rw [List.length_reverse, nv_length, nv_length]
        exact Nat.le_of_lt (szl (by show w'.length + (kids hs t).length ≤ 1000; omega))
      · refine ⟨_, ?_, found ++ [t], w' ++ (kids hs t).reverse, _, rfl, (s4.upd (s4.free hR)).upd hWn, by rw [upd_ne hFW, upd_ne hFR]; exact hF4, ?_, hwt.step S, rfl⟩
        · rw [List.length_append, h1]; omega
        · rw [upd_same, nv_append]
          congr 2
          unfold nv
          rw [List.map_reverse]; rfl
    · have hz : wait = [] := by
        cases wait with
        | nil => rfl
        | cons a r =>
          refine absurd (decide_eq_true ?_) c
          rw [nv_length, List.length_cons]; omega
      subst hz
      exact ⟨_, rfl, k F found H' s2 hF hF2 hwt⟩
end

end My

namespace My
open PySem PySem.Spec PyProof.Rows L2
inductive Rch (hs : Hs) : Nat → Prop where
  | root {v : Nat} (h : hs[v]? = some none) : Rch hs v
  | step {v u : Nat} (h : hs[v]? = some (some u)) (r : Rch hs u) : Rch hs v
/-- a forest as a list of holders -/
structure Fo (hs : Hs) : Prop where
  ne : hs ≠ []
  inb : InB hs
  all : ∀ v : Nat, v < hs.length → Rch hs v
theorem starts_roots (hs : Hs) : Starts hs (roots hs) (Rch hs) where
  nd := nodup_roots hs
  ok := fun s h => ⟨(List.getElem?_eq_some_iff.mp (mem_roots.mp h)).1, .root (mem_roots.mp h)⟩
  down := fun _ _ e r => .step e r
  no := fun s h u e => by rw [mem_roots.mp h] at e; cases e
theorem WT.all_found {hs : Hs} {l : List Nat} {Rn : Nat → Prop} (h : WT hs (roots hs) Rn l []) {v : Nat} (r : Rch hs v) : v ∈ l := by
  have z : ∀ w, w ∈ l ++ [] → w ∈ l := fun w q => by rw [List.append_nil] at q; exact q
  induction r with
  | root e => exact z _ (h.sm _ (mem_roots.mpr e))
  | step e _ ih => exact z _ (h.cl _ _ e ih)
theorem mem_of_full : ∀ (n : Nat) (l : List Nat), l.Nodup → (∀ v ∈ l, v < n) → l.length = n → ∀ v, v < n → v ∈ l := fun n l nd h e v hv => by
  refine Classical.byContradiction fun hm => ?_
  have q := nodup_len n (v :: l) (List.nodup_cons.mpr ⟨hm, nd⟩) fun w hw => by
    rcases List.mem_cons.mp hw with rfl | hw
    · exact hv
    · exact h w hw
  rw [List.length_cons] at q
  omega
theorem nodup_sub : ∀ (a l : List Nat), a.Nodup → (∀ v ∈ a, v ∈ l) → a.length ≤ l.length
  | [], l, _, _ => Nat.zero_le _
  | x :: r, l, nd, h => by
    have hx := h x List.mem_cons_self
    have ih := nodup_sub r (l.erase x) (List.nodup_cons.mp nd).2 fun v hv => by
      have hne : v ≠ x := fun e => (List.nodup_cons.mp nd).1 (e ▸ hv)
      exact (List.mem_erase_of_ne hne).mpr (h v (List.mem_cons_of_mem _ hv))
    have hl := List.length_erase_of_mem hx
    have hp := List.length_pos_of_mem hx
    rw [List.length_cons]
    omega
def holdOk (n : Int) : V → Bool
  | .non => true
  | x => isIdx n x
def toHold : V → Option Nat
  | .int i => some i.toNat
  | _ => none
theorem holds_of {n : Nat} : ∀ (xs : List V), (xs.all fun y => holdOk (n : Int) y) = true → xs = (xs.map toHold).map hv ∧ ∀ v u : Nat, (xs.map toHold)[v]? = some (some u) → u < n
  | [], _ => ⟨rfl, fun v u h => by simp at h⟩
  | x :: xs, h => by
    rw [List.all_cons, Bool.and_eq_true] at h
    obtain ⟨e, z⟩ := holds_of xs h.2
    have hx : x = hv (toHold x) ∧ ∀ u, toHold x = some u → u < n := by
      cases x with
      | non => exact ⟨rfl, fun u w => by cases w⟩
      | int i =>
        have c : (decide (0 ≤ i) && decide (i < (n : Int))) = true := h.1
        rw [Bool.and_eq_true, decide_eq_true_eq, decide_eq_true_eq] at c
        refine ⟨?_, fun u w => ?_⟩
        · show V.int i = V.int ((i.toNat : Nat) : Int)
          congr 1; omega
        · have w' := Option.some.inj w
          omega
      | _ => exact absurd (show false = true from h.1) Bool.false_ne_true
    refine ⟨?_, fun v u w => ?_⟩
    · rw [List.map_cons, List.map_cons, ← e, ← hx.1]
    · cases v with
      | zero => exact hx.2 u (Option.some.inj w)
      | succ v => exact z v u w
theorem holdOk_hv {hs : Hs} (h : InB hs) : ((hs.map hv).all fun y => holdOk (hs.length : Int) y) = true := by
  rw [List.all_eq_true]
  intro y hy
  obtain ⟨o, ho, rfl⟩ := List.mem_map.mp hy
  cases o with
  | none => rfl
  | some u =>
    obtain ⟨v, hv'⟩ := List.getElem?_of_mem ho
    have q := h v u hv'
    show (decide (0 ≤ (u : Int)) && decide ((u : Int) < (hs.length : Int))) = true
    rw [Bool.and_eq_true, decide_eq_true_eq, decide_eq_true_eq]
    omega
theorem hv_inj : ∀ {a b : Hs}, a.map hv = b.map hv → a = b
  | [], [], _ => rfl
  | [], _ :: _, h => by cases h
  | _ :: _, [], h => by cases h
  | x :: a, y :: b, h => by
    rw [List.map_cons, List.map_cons] at h
    injection h with h1 h2
    have e := hv_inj h2
    have e1 : x = y := by
      cases x with
      | none => cases y with
        | none => rfl
        | some u => cases h1
      | some v => cases y with
        | none => cases h1
        | some u =>
          have q := V.int.inj h1
          congr 1; omega
    rw [e, e1]
def IsF (H : Hp) (x : V) : Prop := ∃ hs : Hs, tupAt H x = some (hs.map hv) ∧ Fo hs
/-- what is_forest may be asked: a value whose tuple's items are told too -/
structure Askd (H : Hp) (x : V) : Prop where
  vd : Vd H x
  items : ∀ xs, tupAt H x = some xs → xs.length ≤ 1000 ∧ ∀ y ∈ xs, Vd H y
theorem tupAt_ref {H : Hp} {x : V} {xs : List V} (h : tupAt H x = some xs) : ∃ a, x = .ref a ∧ H a = some (.tup xs) := by
  cases x with
  | ref a =>
    refine ⟨a, rfl, ?_⟩
    cases e : H a with
    | none => simp only [tupAt, e] at h; cases h
    | some o =>
      cases o with
      | tup ys => simp only [tupAt, e] at h; rw [Option.some.inj h]
      | _ => simp only [tupAt, e] at h; cases h
  | _ => cases h
def spIsForest : Sp := fun vs H Q _ => ∃ x : V, vs = [x] ∧ Askd H x ∧ ∀ b H', Same H H' → (b = true ↔ IsF H x) → Q (.bl b) H'
section
variable {P : Program} {w : World} {K : PySem.W.Frag} {mg : Str → Option Value} {base : Heap}
abbrev st_is_forest : Stmt := topS 9
abbrev N_is_forest : List Str := ["value", "holder"]
theorem sc_is_forest : FnScope N_is_forest ["value"] (defScope st_is_forest) := ⟨rfl, rfl, rfl, by decide +kernel, rfl, by decide +kernel, by decide +kernel⟩
theorem ok_is_forest (D : Df K mg "is_forest" st_is_forest ["value"]) (B : Bl mg) (Kis_index : Kn P w K mg base CX0 3 "is_index" st_is_index ["value", "many"] spIsIndex)
    (K_without_holder : Kn P w K mg base CX0 1 "_without_holder" st__without_holder ["forest"] (spWithout K)) (K_held_lists : Kn P w K mg base CX0 1 "_held_lists" st__held_lists ["forest"] (spHeld K))
    (K_walk_through : Kn P w K mg base CX0 1 "_walk_through" st__walk_through ["held", "starts"] (spWalkT K)) : Kn P w K mg base CX0 4 "is_forest" st_is_forest ["value"] spIsForest := by
  refine D.ok sc_is_forest (fun vs H Q E h => ?_) (fun f cdv A outer s H vs Q E hr h => ?_)
  · obtain ⟨x, rfl, _⟩ := h; rfl
  obtain ⟨x, rfl, ask, q⟩ := h
  refine ⟨_, ((pss_cons (ps_if (PW.pt (pw_or (pt_not (pt_val (pe_callB call_isi (by rfl) B.isinstance (by decide +kernel) (pa_cons (pv 0) (pa_cons (pe_bltn (v := .ty "tuple") (u := .type "tuple") (by rfl) B.tuple (by decide +kernel) rfl) pa_nil))))) (pw_or1 (pt_cmpR op_eq (pe_callB call_len (by rfl) B.len (by decide +kernel) (pa_cons (pv 0) pa_nil)) pe_int (nomark _))))) (pss_one (ps_ret pe_bl)) pss_nil)
      (pss_cons (ps_if (pt_not (pt_val (pe_callB (cr_all rfl) (by rfl) B.all (by decide +kernel) (pa_cons (pe_lc (own := [("holder", 1)]) (g := gName 1) rfl sc_is_forest.nd (pi_tup (pv 0)) (blkOk_by (N := N_is_forest) (sc := defScope st_is_forest) (own := [("holder", 1)]) (by decide +kernel)) (fun _ _ _ _ _ => by (exact (pg_name (i := 1) sc_is_forest.nd rfl (Or.inl rfl)))) (fun _ _ _ _ _ => by exact pts_nil) (fun _ _ _ _ _ => by exact (pe_or (pe_cmpR op_isN (pv 1) pe_non (nomark _)) (pe_one (pe_callF Kis_index (hr.mono (by decide)) pass0 (pa_cons (pv 1) (pa_cons (pe_callB (call_lenK K) (by rfl) B.len (by decide +kernel) (pa_cons (pv 0) pa_nil)) pa_nil))))))) pa_nil)))) (pss_one (ps_ret pe_bl)) pss_nil)
      (pss_one (ps_ret (pe_cmpR op_eq (pe_callB call_len (by rfl) B.len (by decide +kernel) (pa_cons (pe_callF K_walk_through (hr.mono (by decide)) pass0 (pa_cons (pe_callF K_held_lists (hr.mono (by decide)) pass0 (pa_cons (pv 0) pa_nil)) (pa_cons (pe_callF K_without_holder (hr.mono (by decide)) pass0 (pa_cons (pv 0) pa_nil)) pa_nil))) pa_nil)) (pe_callB call_len (by rfl) B.len (by decide +kernel) (pa_cons (pv 0) pa_nil)) (nomark _))))))), ?_⟩
  obtain ⟨t, ty, _, _, k3⟩ := ask.vd.ty (K := K)
  refine ⟨_, rfl, _, _, _, _, _, rfl, .ty _, ty, kit_ty k3, _, rfl, ?_⟩
  have no : (¬ IsF H x) → ∀ H', Same H H' → Q (.bl false) H' := fun hn H' s' => q false H' s' ⟨fun z => absurd z Bool.false_ne_true, fun z => absurd z hn⟩
  cases e : tupAt H x with
  | none =>
    refine iteT (iteT ?_)
    exact no (fun ⟨hs, z, _⟩ => by rw [e] at z; cases z) H (Same.refl H)
  | some xs =>
    obtain ⟨a, rfl, ha⟩ := tupAt_ref e
    obtain ⟨hlen, hvd⟩ := ask.items xs e
    refine iteF ⟨_, rfl, _, _, rfl, .inr ⟨_, SqT.of ha, rfl⟩, rfl, _, rfl, ?_⟩
    refine ite2 (fun c => ?_) (fun c => ?_)
    · refine no (fun ⟨hs, z, fo⟩ => ?_) H (Same.refl H)
      rw [e] at z
      have z' := Option.some.inj z
      have c' := of_decide_eq_true c
      have c2 := V.int.inj c'
      rw [z', List.length_map] at c2
      exact fo.ne (List.eq_nil_of_length_eq_zero (by omega))
    · -- all([..])
      refine ⟨_, rfl, a, rfl, ⟨_, SqT.of ha⟩, fun L hL => lc_it (walk_tup (xs := xs)) (fun i H' => Same H H' ∧ H' L = some (.lst ((xs.take i).map fun y => V.bl (holdOk (xs.length : Int) y))))
        ⟨(Same.refl H).new hL, upd_same⟩ (fun i H' _ p => p.1.tseq (SqT.of ha)) ?_ ?_⟩
      · rintro i y H1 H2 hi ⟨s1, hL1⟩ ⟨rfl, e1⟩
        have hvy := (hvd y (List.mem_of_getElem? e1)).same s1
        have fin : ∃ acc, H2 L = some (.lst acc) ∧ acc.length < sizeLine ∧ (Same H (upd H2 L (.lst (acc ++ [V.bl (holdOk (xs.length : Int) y)]))) ∧ upd H2 L (.lst (acc ++ [V.bl (holdOk (xs.length : Int) y)])) L = some (.lst ((xs.take (i + 1)).map fun y => V.bl (holdOk (xs.length : Int) y)))) := by
          refine ⟨_, hL1, ?_, s1.upd hL, ?_⟩
          · rw [List.length_map, List.length_take]; exact szl (by omega)
          · rw [upd_same, List.take_add_one, e1]
            show _ = some (HO.lst (((xs.take i) ++ [y]).map _))
            rw [List.map_append]; rfl
        refine ⟨rfl, _, rfl, rfl, _, rfl, ?_⟩
        cases y with
        | non => exact iteT fin
        | _ =>
          refine iteF ⟨_, rfl, _, rfl, _, _, rfl, .inr ⟨_, s1.tseq (SqT.of ha), rfl⟩, _, _, rfl, hvy, ?_⟩
          exact fin
      · rintro H1 ⟨s1, hL1⟩
        rw [List.take_length] at hL1
        refine ⟨L, (xs.map fun y => holdOk (xs.length : Int) y), rfl, SqL.of (by rw [hL1, List.map_map]; rfl), _, rfl, ?_⟩
        have eall : (xs.map fun y => holdOk (xs.length : Int) y).all id = xs.all fun y => holdOk (xs.length : Int) y := by rw [List.all_map]; rfl
        rw [eall]
        cases ea : xs.all fun y => holdOk (xs.length : Int) y with
        | false =>
          refine iteT (no (fun ⟨hs, z, fo⟩ => ?_) H1 s1)
          rw [e] at z
          have z' := Option.some.inj z
          have w := holdOk_hv fo.inb
          rw [z', List.length_map, w] at ea
          cases ea
        | true =>
          refine iteF ?_
          obtain ⟨ex, hb⟩ := holds_of xs ea
          have hlh : (xs.map toHold).length = xs.length := List.length_map _
          rw [← hlh] at hb
          have hS1 : SqT K H1 a ((xs.map toHold).map hv) := by rw [← ex]; exact s1.tseq (SqT.of ha)
          generalize hhs : xs.map toHold = hs at ex hb hlh hS1
          have e' : tupAt H (.ref a) = some (hs.map hv) := by rw [e, ex]
          -- len(_walk_through(..)) == len(value)
          refine ⟨_, rfl, a, hs, rfl, hS1, by omega, hb, fun p as H2 s2 hp hpc hA => ?_⟩
          refine ⟨_, rfl, a, hs, rfl, s2.tseq hS1, by omega, fun p2 H3 s3 hp2 hr2 => ?_⟩
          refine ⟨p, p2, as, hs, roots hs, Rch hs, rfl, hA.same s3, SqL.of hr2, by omega, starts_roots hs, fun r l H4 s4 hr4 hl4 hwt => ?_⟩
          refine ⟨_, _, rfl, .inl ⟨_, SqL.of hl4, rfl⟩, _, rfl, _, _, rfl, .inr ⟨_, s4.tseq (s3.tseq (s2.tseq hS1)), rfl⟩, rfl, ?_⟩
          refine q _ _ (((s1.trans s2).trans s3).trans s4) ⟨fun z => ?_, fun z => ?_⟩
          · have z2 := V.int.inj (of_decide_eq_true z)
            rw [nv_length, List.length_map] at z2
            have c3 : ¬ V.int (xs.length : Int) = V.int 0 := fun w => c (decide_eq_true w)
            refine ⟨hs, e', ?_, hb, fun v hv' => ?_⟩
            · intro w
              rw [w] at hlh
              exact c3 (by rw [← hlh]; rfl)
            · have hl2 : l.length = hs.length := by omega
              have nd2 := hwt.nd
              rw [List.append_nil] at nd2
              have hlt : ∀ w ∈ l, w < hs.length := fun w hw => (hwt.ok w (by rw [List.append_nil]; exact hw)).1
              have hm := mem_of_full hs.length l nd2 hlt hl2 v hv'
              exact (hwt.ok v (by rw [List.append_nil]; exact hm)).2.1
          · obtain ⟨hs', z1, fo⟩ := z
            rw [e'] at z1
            have eh := hv_inj (Option.some.inj z1)
            subst eh
            refine decide_eq_true ?_
            rw [nv_length, List.length_map]
            have h1 := hwt.lens
            rw [List.length_nil] at h1
            have h2 : hs.length ≤ l.length := by
              have q2 := nodup_sub (List.range hs.length) l List.nodup_range fun v hv' => hwt.all_found (fo.all v (List.mem_range.mp hv'))
              rw [List.length_range] at q2; exact q2
            have h3 : l.length = hs.length := by omega
            rw [h3]
end

end My

namespace My
open PySem PySem.Spec PyProof.Rows L2
/-! ### the law's well of numbers -/
structure Well (H : Hp) (wl : Addr) (n : Nat) : Prop where
  ex : ∃ a b c : Int, H wl = some (.lst [.int a, .int b, .int c]) ∧ 0 ≤ a ∧ 0 ≤ b ∧ b.natAbs < 2 ^ 200 ∧ 0 ≤ c ∧ c ≤ (n : Int)
theorem Well.mono {H : Hp} {wl : Addr} {n m : Nat} (h : Well H wl n) (l : n ≤ m) : Well H wl m := by
  obtain ⟨a, b, c, e, h1, h2, h3, h4, h5⟩ := h.ex
  exact ⟨a, b, c, e, h1, h2, h3, h4, by omega⟩
theorem Well.same {H H' : Hp} {wl : Addr} {n : Nat} (h : Well H wl n) (s : Same H H') : Well H' wl n := by
  obtain ⟨a, b, c, e, r⟩ := h.ex
  exact ⟨a, b, c, s _ _ e, r⟩
theorem Well.here {H : Hp} {wl : Addr} {n : Nat} (h : Well H wl n) : ∃ l, H wl = some (.lst l) := by
  obtain ⟨a, b, c, e, r⟩ := h.ex
  exact ⟨_, e⟩
def spWell (K : PySem.W.Frag) : Sp := fun vs H Q _ => ∃ (a : Addr) (ns : List Int) (i : Nat), vs = [.ref a, .int (i : Int)] ∧ SqL K H a (ns.map V.int) ∧ i < 64 ∧ ∀ p H', Same H H' → H p = none → Well H' p 0 → Q (.ref p) H'
def spDraw : Sp := fun vs H Q _ => ∃ (wl : Addr) (n : Nat) (m : Int), vs = [.ref wl, .int m] ∧ Well H wl n ∧ n < 2 ^ 60 ∧ 1 ≤ m ∧ m.natAbs < 2 ^ 100 ∧ ∀ d H', 0 ≤ d → d < m → Keep wl H H' → Well H' wl (n + 1) → Q (.int d) H'
theorem mul_small {i j : Int} (h : -(2 ^ 64) < i ∧ i < 2 ^ 64) : CMul i j := .inl h
theorem mod_abs {x m : Int} {b : Nat} (h0 : 0 < m) (h : m.natAbs < 2 ^ b) : (x % m).natAbs < 2 ^ b := by
  have h1 := Int.emod_nonneg x (show m ≠ 0 by omega)
  have h2 := Int.emod_lt_of_pos x h0
  omega
theorem cpow10 {k : Int} (h0 : 0 ≤ k) (h : k ≤ 1000) : CPowW 10 k := by
  refine ⟨h0, ?_⟩
  have e : (Builtin.Int.intBits 10 : Int) = 4 := by decide
  have e2 : (2 : Int) ^ 27 = 134217728 := by decide
  rw [e, e2]; omega
section
variable {P : Program} {w : World} {K : PySem.W.Frag} {mg : Str → Option Value} {base : Heap}
abbrev st__law_draw : Stmt := topS 24
abbrev N__law_draw : List Str := ["well", "most", "digit", "blend"]
theorem sc__law_draw : FnScope N__law_draw ["well", "most"] (defScope st__law_draw) := ⟨rfl, rfl, rfl, by decide +kernel, rfl, by decide +kernel, by decide +kernel⟩
theorem ok__law_draw (D : Df K mg "_law_draw" st__law_draw ["well", "most"]) (B : Bl mg) : Kn P w K mg base CX0 1 "_law_draw" st__law_draw ["well", "most"] spDraw := by
  refine D.ok sc__law_draw (fun vs H Q E h => ?_) (fun f cdv A outer s H vs Q E hr h => ?_)
  · obtain ⟨wl, n, m, rfl, _⟩ := h; rfl
  obtain ⟨wl, n, m, rfl, hw, hn, h1, hm, q⟩ := h
  refine ⟨_, ((pss_cons (ps_if (pt_cmpR op_gt (pe_ix ix_list (pv 0) pe_int (fun _ _ => rfl)) pe_int (nomark _)) (pss_cons (ps_set (i := 2) sc__law_draw.nd rfl (Or.inl rfl) (pe_op op_mod (pe_callTy call_int1 (by rfl) B.int (by decide +kernel) (pa_cons (pe_ix ix_list (pv 0) pe_int (fun _ _ => rfl)) pa_nil)) (pv 1)))
      (pss_cons (ps_asg (pe_op op_fdivW (pe_ix ix_list (pv 0) pe_int (fun _ _ => rfl)) (pv 1)) (pg_sub (pv 0) pe_int set_list))
      (pss_one (ps_ret (pv 2))))) pss_nil)
      (pss_cons (ps_asg (pe_op op_add (pe_ix ix_list (pv 0) pe_int (fun _ _ => rfl)) pe_int) (pg_sub (pv 0) pe_int set_list))
      (pss_cons (ps_set (i := 3) sc__law_draw.nd rfl (Or.inl rfl) (pe_op op_mod (pe_op op_powW (pe_callTy call_int1 (by rfl) B.int (by decide +kernel) (pa_cons (pe_op op_add (pe_ix ix_list (pv 0) pe_int (fun _ _ => rfl)) (pe_op op_mul pe_int (pe_ix ix_list (pv 0) pe_int (fun _ _ => rfl)))) pa_nil)) pe_int) (pe_op op_add (pe_op op_powW pe_int pe_int) pe_int)))
      (pss_cons (ps_set (i := 3) sc__law_draw.nd rfl (Or.inl rfl) (pe_op op_mod (pe_op op_powW (pe_callTy call_int1 (by rfl) B.int (by decide +kernel) (pa_cons (pe_op op_add (pv 3) (pe_op op_mul pe_int (pe_ix ix_list (pv 0) pe_int (fun _ _ => rfl)))) pa_nil)) pe_int) (pe_op op_add (pe_op op_powW pe_int pe_int) pe_int)))
      (pss_one (ps_ret (pe_op op_mod (pe_callTy call_int1 (by rfl) B.int (by decide +kernel) (pa_cons (pe_op op_fdivW (pv 3) pe_int) pa_nil)) (pv 1))))))))), ?_⟩
  obtain ⟨a, b, c, e, ha, hb, hb2, hc, hc2⟩ := hw.ex
  have g0 : ∀ {H' : Hp} {x y z : V}, H' wl = some (.lst [x, y, z]) → SqL K H' wl [x, y, z] := fun h => SqL.of h
  -- if well[0] > 0
  refine ⟨_, rfl, wl, _, _, _, rfl, rfl, g0 e, rfl, _, _, rfl, rfl, _, rfl, ?_⟩
  refine ite2 (fun c1 => ?_) (fun c1 => ?_)
  · -- digit = int(well[0]) % most; well[0] = well[0] // most; return digit
    refine ⟨_, rfl, wl, _, _, _, rfl, rfl, g0 e, rfl, .inl ⟨_, rfl, _, rfl, _, _, rfl, rfl, by show (0 : Int) < m; omega, ?_⟩⟩
    refine ⟨_, rfl, wl, _, _, _, rfl, rfl, g0 e, rfl, _, rfl, _, _, rfl, rfl, wide_div (by omega) hm (by decide) (by decide), ?_⟩
    refine ⟨_, rfl, wl, _, _, 0, rfl, rfl, e, rfl, ?_⟩
    refine ⟨_, rfl, q _ _ (Int.emod_nonneg a (by omega)) (Int.emod_lt_of_pos a (by omega)) (Keep.upd _ _ _) ⟨a / m, b, c, upd_same, Int.ediv_nonneg ha (by omega), hb, hb2, hc, by omega⟩⟩
  · -- well[2] = well[2] + 1
    refine ⟨_, rfl, wl, _, _, _, rfl, rfl, g0 e, rfl, _, _, rfl, rfl, ?_⟩
    refine ⟨_, rfl, wl, _, _, 2, rfl, rfl, e, rfl, ?_⟩
    have e2 : upd H wl (.lst (([V.int a, V.int b, V.int c]).set 2 (V.int (c + 1)))) wl = some (.lst [V.int a, V.int b, V.int (c + 1)]) := upd_same
    have k2 : Keep wl H (upd H wl (.lst (([V.int a, V.int b, V.int c]).set 2 (V.int (c + 1))))) := Keep.upd _ _ _
    have w2 : Well (upd H wl (.lst (([V.int a, V.int b, V.int c]).set 2 (V.int (c + 1))))) wl (n + 1) := ⟨a, b, c + 1, e2, ha, hb, hb2, by omega, by omega⟩
    generalize upd H wl (.lst (([V.int a, V.int b, V.int c]).set 2 (V.int (c + 1)))) = H2 at e2 k2 w2 ⊢
    have p60 : (2 : Nat) ^ 60 = 1152921504606846976 := by decide
    have p64 : (2 : Int) ^ 64 = 18446744073709551616 := by decide
    have p200 : (2 : Nat) ^ 200 = 1606938044258990275541962092341162602522202993782792835301376 := by decide +kernel
    have p201 : (2 : Nat) ^ 201 = 3213876088517980551083924184682325205044405987565585670602752 := by decide +kernel
    have b1 : (b + 715827883 * (c + 1)).natAbs < 2 ^ 201 := by omega
    have m1 : (10 : Int) ^ (41 : Int).toNat + 109 = 100000000000000000000000000000000000000109 := by decide +kernel
    have m2 : (10 : Int) ^ (39 : Int).toNat + 3 = 1000000000000000000000000000000000000003 := by decide +kernel
    -- blend = int(well[1] + 715827883 * well[2]) ** 3 % (10 ** 41 + 109)
    refine ⟨_, rfl, wl, _, _, _, rfl, rfl, g0 e2, rfl, _, rfl, wl, _, _, _, rfl, rfl, g0 e2, rfl, _, _, rfl, rfl, mul_small ⟨by rw [p64]; decide, by rw [p64]; decide⟩, _, _, rfl, rfl, .inl ⟨_, rfl, _, _, rfl, rfl, cpow3 b1 (by decide) (by decide),
      _, _, rfl, rfl, cpow10 (by decide) (by decide), _, _, rfl, rfl, _, _, rfl, rfl, by rw [m1]; show (0 : Int) < 100000000000000000000000000000000000000109; decide, ?_⟩⟩
    rw [m1]
    have b2 : ∀ x : Int, 0 ≤ x → x < 100000000000000000000000000000000000000109 → (x + 198491317 * (c + 1)).natAbs < 2 ^ 201 := fun x h h' => by omega
    have b3 : ∀ z : Int, (z % 100000000000000000000000000000000000000109 + 198491317 * (c + 1)).natAbs < 2 ^ 201 := fun z => b2 _ (Int.emod_nonneg _ (by decide)) (Int.emod_lt_of_pos _ (by decide))
    -- blend = int(blend + 198491317 * well[2]) ** 3 % (10 ** 39 + 3)
    refine ⟨_, rfl, _, rfl, wl, _, _, _, rfl, rfl, g0 e2, rfl, _, _, rfl, rfl, mul_small ⟨by rw [p64]; decide, by rw [p64]; decide⟩, _, _, rfl, rfl, .inl ⟨_, rfl, _, _, rfl, rfl, cpow3 (b3 _) (by decide) (by decide),
      _, _, rfl, rfl, cpow10 (by decide) (by decide), _, _, rfl, rfl, _, _, rfl, rfl, by rw [m2]; show (0 : Int) < 1000000000000000000000000000000000000003; decide, ?_⟩⟩
    rw [m2]
    -- return int(blend // 1048576) % most
    refine ⟨_, rfl, _, _, rfl, rfl, ⟨by decide, by decide +kernel⟩, .inl ⟨_, rfl, _, rfl, _, _, rfl, rfl, by omega, ?_⟩⟩
    exact q _ _ (Int.emod_nonneg _ (by omega)) (Int.emod_lt_of_pos _ (by omega)) k2 w2
abbrev st__law_well : Stmt := topS 23
abbrev N__law_well : List Str := ["script", "at", "cell"]
theorem sc__law_well : FnScope N__law_well ["script", "at"] (defScope st__law_well) := ⟨rfl, rfl, rfl, by decide +kernel, rfl, by decide +kernel, by decide +kernel⟩
theorem ok__law_well (D : Df K mg "_law_well" st__law_well ["script", "at"]) (B : Bl mg) : Kn P w K mg base CX0 1 "_law_well" st__law_well ["script", "at"] (spWell K) := by
  refine D.ok sc__law_well (fun vs H Q E h => ?_) (fun f cdv A outer s H vs Q E hr h => ?_)
  · obtain ⟨a, ns, i, rfl, _⟩ := h; rfl
  obtain ⟨a, ns, i, rfl, hS, hi, q⟩ := h
  refine ⟨_, ((pss_cons (ps_set (i := 2) sc__law_well.nd rfl (Or.inl rfl) (pe_ifExp (pt_cmpR op_lt (pv 1) (pe_callB call_len (by rfl) B.len (by decide +kernel) (pa_cons (pv 0) pa_nil)) (nomark _)) (pe_ix ix_list (pv 0) (pv 1) (fun _ _ => rfl)) pe_int))
      (pss_one (ps_ret (pe_lst (pa_cons (pe_callB (call_max2 rfl) (by rfl) B.max (by decide +kernel) (pa_cons pe_int (pa_cons (pe_op op_sub (pe_callB call_abs (by rfl) B.abs (by decide +kernel) (pa_cons (pv 2) pa_nil)) (pe_op op_powW pe_int pe_int)) pa_nil))) (pa_cons (pe_op op_add (pe_op op_add (pe_op op_mul (pe_op op_mod (pe_callTy call_int1 (by rfl) B.int (by decide +kernel) (pa_cons (pv 2) pa_nil)) (pe_op op_add (pe_op op_powW pe_int pe_int) pe_int)) pe_int) (pe_op op_mul pe_int (pv 1))) pe_int) (pa_cons pe_int pa_nil)))))))), ?_⟩
  have p64 : (2 : Int) ^ 64 = 18446744073709551616 := by decide
  have m1 : (10 : Int) ^ (37 : Int).toNat + 141 = 10000000000000000000000000000000000141 := by decide +kernel
  have p200 : (2 : Nat) ^ 200 = 1606938044258990275541962092341162602522202993782792835301376 := by decide +kernel
  -- what follows once the cell is known
  have rest : ∀ cell : Int, (tRet (tLst (tCons (tCB (fun xs H Q => ∃ i j, xs = [V.int i, V.int j] ∧ Q (.int (if j > i then j else i)) H) (tCons (tC (.int 0)) (tCons (tOp (rI0 fun i j => .int (i - j)) (tCB (fun xs H Q => ∃ i, xs = [V.int i] ∧ Q (.int (if i < 0 then -i else i)) H) (tCons (tVar 2) tNil)) (tOp (rI CPowW fun i j => .int (i ^ j.toNat)) (tC (.int 10)) (tC (.int 18)))) tNil)))
      (tCons (tOp (rI0 fun i j => .int (i + j)) (tOp (rI0 fun i j => .int (i + j)) (tOp (rI CMul fun i j => .int (i * j)) (tOp (rI (fun _ j => 0 < j) fun i j => .int (i % j)) (tCB (fun xs H Q => (∃ i, xs = [V.int i] ∧ Q (.int i) H) ∨ ∃ k, xs = [V.bl k] ∧ Q (.int (if k then 1 else 0)) H) (tCons (tVar 2) tNil)) (tOp (rI0 fun i j => .int (i + j)) (tOp (rI CPowW fun i j => .int (i ^ j.toNat)) (tC (.int 10)) (tC (.int 37))) (tC (.int 141)))) (tC (.int 101))) (tOp (rI CMul fun i j => .int (i * j)) (tC (.int 67)) (tVar 1))) (tC (.int 41)))
        (tCons (tC (.int 0)) tNil))))) { nx := fun _ H' => Q .non H', rt := Q } [some (.ref a), some (.int (i : Int)), some (.int cell)] H := fun cell => by
    refine ⟨_, rfl, _, rfl, _, _, rfl, rfl, cpow10 (by decide) (by decide), _, _, rfl, rfl, _, _, rfl, ?_⟩
    refine ⟨_, rfl, .inl ⟨_, rfl, _, _, rfl, rfl, cpow10 (by decide) (by decide), _, _, rfl, rfl, _, _, rfl, rfl, by rw [m1]; show (0 : Int) < 10000000000000000000000000000000000141; decide, _, _, rfl, rfl, .inr ⟨by decide, by decide⟩, _, rfl, _, _, rfl, rfl, .inl ⟨by decide, by decide⟩, _, _, rfl, rfl, _, _, rfl, rfl, by show 3 ≤ sizeLine; decide, fun p hp => ?_⟩⟩
    rw [m1]
    have x0 : 0 ≤ cell % 10000000000000000000000000000000000141 := Int.emod_nonneg _ (by decide)
    have x1 : cell % 10000000000000000000000000000000000141 < 10000000000000000000000000000000000141 := Int.emod_lt_of_pos _ (by decide)
    refine q p _ ((Same.refl H).new hp) hp ⟨_, _, 0, upd_same, ?_, ?_, ?_, Int.le_refl _, Int.le_refl _⟩
    · split <;> omega
    · omega
    · omega
  refine ⟨_, rfl, _, rfl, _, _, rfl, .inl ⟨_, hS, rfl⟩, _, _, rfl, rfl, _, rfl, ?_⟩
  refine ite2 (fun c1 => ?_) (fun c1 => ?_)
  · have hl : i < (ns.map V.int).length := by
      have c2 := of_decide_eq_true c1
      omega
    have hl2 : i < ns.length := by rw [List.length_map] at hl; exact hl
    refine ⟨_, rfl, _, rfl, a, _, _, _, rfl, rfl, hS, atI_nat (v := V.int ns[i]) (by rw [List.getElem?_map, List.getElem?_eq_getElem hl2]; rfl), ?_⟩
    exact rest _
  · exact rest 0
end

end My

namespace My
open PySem PySem.Spec PyProof.Rows L2
/-! ### a drawn forest: the mathematics -/
theorem walk_range0 {n : Nat} : Walk (Itr 0 n) n (fun _ => True) (YFn fun i => .int (i : Int)) :=
  (walk_range (lo := 0)).mono (fun _ h => h) fun i H x H' _ _ y => ⟨y.1, by rw [y.2]; show V.int (0 + (i : Int)) = V.int (i : Int); rw [Int.zero_add]⟩
def LtF (l : Hs) : Prop := ∀ j u : Nat, l[j]? = some (some u) → u < j
theorem LtF.snoc {l : Hs} {o : Option Nat} (h : LtF l) (ho : ∀ u, o = some u → u < l.length) : LtF (l ++ [o]) := fun j u e => by
  by_cases hj : j < l.length
  · rw [List.getElem?_append_left hj] at e; exact h j u e
  · have hj2 : l.length ≤ j := by omega
    rw [List.getElem?_append_right hj2] at e
    by_cases hz : j - l.length = 0
    · rw [hz] at e
      have q := ho u (Option.some.inj e)
      omega
    · obtain ⟨k, hk⟩ := Nat.exists_eq_succ_of_ne_zero hz
      rw [hk] at e; cases e
theorem fo_plain {l : Hs} (hne : l ≠ []) (h : LtF l) : Fo l := by
  refine ⟨hne, fun v u e => ?_, fun v hv => ?_⟩
  · have h1 := h v u e
    have h2 := (List.getElem?_eq_some_iff.mp e).1
    omega
  · induction v using Nat.strongRecOn with
    | _ v ih =>
      cases e : l[v]? with
      | none => rw [List.getElem?_eq_none_iff] at e; omega
      | some o =>
        cases o with
        | none => exact .root e
        | some u =>
          have q := h v u e
          exact .step e (ih u q (by omega))
def ren (nm : List Nat) : Option Nat → Option Nat
  | none => none
  | some u => some (nm.getD u 0)
theorem fo_turned {l T : Hs} {nm : List Nat} (hne : l ≠ []) (h : LtF l) (hp : nm.Perm (List.range l.length)) (hT : T.length = l.length)
    (hr : ∀ (j v : Nat) (o : Option Nat), nm[j]? = some v → l[j]? = some o → T[v]? = some (ren nm o)) : Fo T := by
  have hlen : nm.length = l.length := by rw [hp.length_eq, List.length_range]
  have hat : ∀ j : Nat, j < l.length → ∃ v o, nm[j]? = some v ∧ l[j]? = some o ∧ v < l.length := fun j hj => by
    have h1 : j < nm.length := by omega
    refine ⟨nm[j], l[j], List.getElem?_eq_getElem h1, List.getElem?_eq_getElem hj, ?_⟩
    have q := hp.mem_iff.mp (List.getElem_mem h1)
    exact List.mem_range.mp q
  have back : ∀ v : Nat, v < l.length → ∃ j : Nat, nm[j]? = some v := fun v hv => by
    have q := hp.mem_iff.mpr (List.mem_range.mpr hv)
    exact List.getElem?_of_mem q
  have jl : ∀ {j v : Nat}, nm[j]? = some v → j < l.length := fun {j v} e => by
    have q := (List.getElem?_eq_some_iff.mp e).1
    omega
  have rc : ∀ j v : Nat, nm[j]? = some v → Rch T v := fun j => by
    induction j using Nat.strongRecOn with
    | _ j ih =>
      intro v e
      obtain ⟨v', o, e1, e2, e3⟩ := hat j (jl e)
      have ev : v' = v := Option.some.inj (e1.symm.trans e)
      subst ev
      have q := hr j v' o e e2
      cases o with
      | none => exact .root q
      | some u =>
        have hu := h j u e2
        obtain ⟨vu, ou, f1, f2, f3⟩ := hat u (Nat.lt_trans hu (jl e))
        have g : nm.getD u 0 = vu := by rw [List.getD_eq_getElem?_getD, f1]; rfl
        refine .step (u := vu) ?_ (ih u hu vu f1)
        rw [q]; show some (some (nm.getD u 0)) = _; rw [g]
  refine ⟨fun z => hne (List.eq_nil_of_length_eq_zero (by rw [z] at hT; exact hT.symm)), fun v u e => ?_, fun v hv => ?_⟩
  · have hv := (List.getElem?_eq_some_iff.mp e).1
    rw [hT] at hv
    obtain ⟨j, ej⟩ := back v hv
    obtain ⟨v', o, e1, e2, e3⟩ := hat j (jl ej)
    have q := hr j v o ej e2
    rw [q] at e
    cases o with
    | none => cases e
    | some w =>
      have hw := h j w e2
      obtain ⟨vu, ou, f1, f2, f3⟩ := hat w (Nat.lt_trans hw (jl ej))
      have g : nm.getD w 0 = vu := by rw [List.getD_eq_getElem?_getD, f1]; rfl
      have e4 : nm.getD w 0 = u := Option.some.inj (Option.some.inj e)
      rw [hT]; omega
  · rw [hT] at hv
    obtain ⟨j, ej⟩ := back v hv
    exact rc j v ej
theorem nv_erase : ∀ (l : List Nat) (k : Nat), nv (l.eraseIdx k) = (nv l).eraseIdx k
  | [], k => by simp [nv]
  | a :: r, 0 => rfl
  | a :: r, k + 1 => by
    have ih := nv_erase r k
    show V.int (a : Int) :: nv (r.eraseIdx k) = V.int (a : Int) :: (nv r).eraseIdx k
    rw [ih]
theorem nv_range (n : Nat) : rgV 0 (n : Int) = nv (List.range n) := by
  unfold rgV nv
  have e : ((n : Int) - 0).toNat = n := by omega
  rw [e]
  refine List.map_congr_left fun i _ => ?_
  show V.int (0 + (i : Int)) = V.int (i : Int)
  rw [Int.zero_add]
theorem ixN_nat {n j : Nat} (h : j < n) : ixN n (j : Int) = some j := by
  unfold ixN
  rw [if_pos (by omega), if_pos (by omega)]
  congr 1
theorem seq_nat {n j : Nat} (h : j < n) : seqIndex? (j : Int) n = some j := (ixN_seq (ixN_nat h)).1
theorem rep_non : ∀ k : Nat, (List.replicate k [V.non]).flatten = (List.replicate k (none : Option Nat)).map hv
  | 0 => rfl
  | k + 1 => by
    rw [List.replicate_succ, List.flatten_cons, rep_non k, List.replicate_succ, List.map_cons]; rfl
theorem erase_perm : ∀ (l : List Nat) (j : Nat) (h : j < l.length), (l[j] :: l.eraseIdx j).Perm l
  | a :: r, 0, _ => List.Perm.refl _
  | a :: r, j + 1, h => by
    have hj : j < r.length := by rw [List.length_cons] at h; omega
    have ih := erase_perm r j hj
    exact (List.Perm.swap a (r[j]'hj) (r.eraseIdx j)).trans (List.Perm.cons a ih)
/-- one of a few, by a drawn number -/
theorem pick {xs : List V} {d : Int} (h0 : 0 ≤ d) (h1 : d < (xs.length : Int)) : ∃ v, v ∈ xs ∧ atI xs d = some v := by
  have hl : d.toNat < xs.length := by omega
  refine ⟨xs[d.toNat], List.getElem_mem hl, ?_⟩
  have e : d = ((d.toNat : Nat) : Int) := by omega
  have q := atI_nat (List.getElem?_eq_getElem hl)
  rw [← e] at q; exact q
def OkV (k : Nat) (v : V) : Prop := ∃ o : Option Nat, v = hv o ∧ ∀ u, o = some u → u < k
theorem OkV.non (k : Nat) : OkV k .non := ⟨none, rfl, fun _ h => by cases h⟩
theorem OkV.int {k : Nat} {i : Int} (h0 : 0 ≤ i) (h1 : i < (k : Int)) : OkV k (.int i) := by
  refine ⟨some i.toNat, ?_, fun u h => ?_⟩
  · show V.int i = V.int ((i.toNat : Nat) : Int)
    congr 1; omega
  · have e := Option.some.inj h
    omega
/-- slots of the drawing def -/
abbrev slF (wl F : Addr) (m sz way : Int) (v5 v6 v7 v8 v9 : Option V) : L2.St := [some (.ref wl), some (.int m), some (.int sz), some (.int way), some (.ref F), v5, v6, v7, v8, v9]
def spLForest : Sp := fun vs H Q _ => ∃ (wl : Addr) (n : Nat) (m : Int), vs = [.ref wl, .int m] ∧ Well H wl n ∧ n < 2 ^ 50 ∧ 1 ≤ m ∧ m ≤ 60 ∧
  ∀ t hs H', Fo hs → (hs.length : Int) ≤ m → Keep wl H H' → Well H' wl (n + 400) → H t = none → H' t = some (.tup (hs.map hv)) → Q (.ref t) H'
section
variable {P : Program} {w : World} {K : PySem.W.Frag} {mg : Str → Option Value} {base : Heap}
abbrev st__law_forest : Stmt := topS 25
abbrev N__law_forest : List Str := ["well", "most", "size", "way", "found", "k", "some", "names", "left", "turned_here"]
theorem sc__law_forest : FnScope N__law_forest ["well", "most"] (defScope st__law_forest) := ⟨rfl, rfl, rfl, by decide +kernel, rfl, by decide +kernel, by decide +kernel⟩
theorem ok__law_forest (D : Df K mg "_law_forest" st__law_forest ["well", "most"]) (B : Bl mg) (K_law_draw : Kn P w K mg base CX0 1 "_law_draw" st__law_draw ["well", "most"] spDraw) :
    Kn P w K mg base CX0 3 "_law_forest" st__law_forest ["well", "most"] spLForest := by
  refine D.ok sc__law_forest (fun vs H Q E h => ?_) (fun f cdv A outer s H vs Q E hr h => ?_)
  · obtain ⟨wl, n, m, rfl, _⟩ := h; rfl
  obtain ⟨wl, n, m, rfl, hw, hn, hm1, hm2, q⟩ := h
  refine ⟨_, ((pss_cons (ps_set (i := 2) sc__law_forest.nd rfl (Or.inl rfl) (pe_op op_add pe_int (pe_callF K_law_draw (hr.mono (by decide)) pass0 (pa_cons (pv 0) (pa_cons (pv 1) pa_nil)))))
      (pss_cons (ps_set (i := 3) sc__law_forest.nd rfl (Or.inl rfl) (pe_callF K_law_draw (hr.mono (by decide)) pass0 (pa_cons (pv 0) (pa_cons pe_int pa_nil))))
      (pss_cons (ps_set (i := 4) sc__law_forest.nd rfl (Or.inl rfl) (pe_lst pa_nil))
      (pss_cons (ps_for PassesOwn.never rfl (pi_range1 (by rfl) B.range (pa_cons (pv 2) pa_nil)) (pg_name (i := 5) sc__law_forest.nd rfl (Or.inl rfl)) (C8.pss_cut (ps_set (i := 6) sc__law_forest.nd rfl (Or.inl rfl) (pe_ifExp (pt_cmpR op_gt (pv 5) pe_int (nomark _)) (pe_ix ix_list (pe_lst (pa_cons pe_non (pa_cons (pe_op op_sub (pv 5) pe_int) (pa_cons (pe_callF K_law_draw (hr.mono (by decide)) pass0 (pa_cons (pv 0) (pa_cons (pe_callB (call_max2 rfl) (by rfl) B.max (by decide +kernel) (pa_cons pe_int (pa_cons (pv 5) pa_nil))) pa_nil))) pa_nil)))) (pe_callF K_law_draw (hr.mono (by decide)) pass0 (pa_cons (pv 0) (pa_cons pe_int pa_nil))) (fun _ _ => rfl)) pe_non))
      (C8.pss_cut (ps_if (PW.pt (pw_and (pt_cmpR op_gt (pv 5) pe_int (nomark _)) (pw_and1 (pt_cmpR op_eq (pv 3) pe_int (nomark _))))) (pss_one (ps_set (i := 6) sc__law_forest.nd rfl (Or.inl rfl) (pe_ix ix_list (pe_lst (pa_cons (pe_op op_sub (pv 5) pe_int) (pa_cons (pe_callB (call_max2 rfl) (by rfl) B.max (by decide +kernel) (pa_cons pe_int (pa_cons (pe_op op_sub (pv 5) pe_int) pa_nil))) pa_nil))) (pe_callF K_law_draw (hr.mono (by decide)) pass0 (pa_cons (pv 0) (pa_cons pe_int pa_nil))) (fun _ _ => rfl)))) pss_nil)
      (C8.pss_cut (ps_if (PW.pt (pw_and (pt_cmpR op_gt (pv 5) pe_int (nomark _)) (pw_and1 (pt_cmpR op_eq (pv 3) pe_int (nomark _))))) (pss_one (ps_set (i := 6) sc__law_forest.nd rfl (Or.inl rfl) (pe_ix ix_list (pe_lst (pa_cons pe_int (pa_cons pe_int (pa_cons pe_non (pa_cons (pe_callF K_law_draw (hr.mono (by decide)) pass0 (pa_cons (pv 0) (pa_cons (pv 5) pa_nil))) pa_nil))))) (pe_callF K_law_draw (hr.mono (by decide)) pass0 (pa_cons (pv 0) (pa_cons pe_int pa_nil))) (fun _ _ => rfl)))) pss_nil)
      (pss_one (ps_expr (pe_bm PySem.F.plainAttrs_list PySem.F.slot_list_append PySem.F.type_list_append mt_append (pv 4) (pa_cons (pv 6) pa_nil))))))))
      (pss_cons (ps_if (pt_cmpR op_eq (pe_callF K_law_draw (hr.mono (by decide)) pass0 (pa_cons (pv 0) (pa_cons pe_int pa_nil))) pe_int (nomark _)) (pss_one (ps_ret (pe_callTy call_tuple_of (by rfl) B.tuple (by decide +kernel) (pa_cons (pv 4) pa_nil)))) pss_nil)
      (pss_cons (ps_par (i := 7) (j := 8) (by rfl) sc__law_forest.nd rfl rfl (by decide) rfl rfl (pa_cons (pe_lst pa_nil) (pa_cons (pe_listRg rfl (by rfl) B.list (prg_1 (by rfl) B.range (pv 2))) pa_nil)) (by rfl))
      (pss_cons (ps_for PassesOwn.never rfl (pi_range1 (by rfl) B.range (pa_cons (pv 2) pa_nil)) (pg_name (i := 5) sc__law_forest.nd rfl (Or.inl rfl)) (pss_one (ps_expr (pe_bm PySem.F.plainAttrs_list PySem.F.slot_list_append PySem.F.type_list_append mt_append (pv 7) (pa_cons (pe_bm PySem.F.plainAttrs_list PySem.F.slot_list_pop PySem.F.type_list_pop mt_popAt (pv 8) (pa_cons (pe_callF K_law_draw (hr.mono (by decide)) pass0 (pa_cons (pv 0) (pa_cons (pe_callB call_len (by rfl) B.len (by decide +kernel) (pa_cons (pv 8) pa_nil)) pa_nil))) pa_nil)) pa_nil)))))
      (pss_cons (ps_set (i := 9) sc__law_forest.nd rfl (Or.inl rfl) (pe_op op_rep (pe_lst (pa_cons pe_non pa_nil)) (pv 2)))
      (pss_cons (ps_for PassesOwn.never rfl (pi_range1 (by rfl) B.range (pa_cons (pv 2) pa_nil)) (pg_name (i := 5) sc__law_forest.nd rfl (Or.inl rfl)) (pss_one (ps_asg (pe_ifExp (pt_cmpR op_isN (pe_ix ix_list (pv 4) (pv 5) (fun _ _ => rfl)) pe_non (nomark _)) pe_non (pe_ix ix_list (pv 7) (pe_ix ix_list (pv 4) (pv 5) (fun _ _ => rfl)) (fun _ _ => rfl))) (pg_sub (pv 9) (pe_ix ix_list (pv 7) (pv 5) (fun _ _ => rfl)) set_list))))
      (pss_one (ps_ret (pe_callTy call_tuple_of (by rfl) B.tuple (by decide +kernel) (pa_cons (pv 9) pa_nil)))))))))))))), ?_⟩
  have p50 : (2 : Nat) ^ 50 = 1125899906842624 := by decide
  have p60 : (2 : Nat) ^ 60 = 1152921504606846976 := by decide
  have p100 : (2 : Nat) ^ 100 = 1267650600228229401496703205376 := by decide +kernel
  have p62 : (2 : Int) ^ 62 = 4611686018427387904 := by decide
  have p63 : (2 : Int) ^ 63 = 9223372036854775808 := by decide
  obtain ⟨wl0, hwl0⟩ := hw.here
  -- size = 1 + _law_draw(well, most); way = _law_draw(well, 4); found = []
  refine ⟨_, rfl, _, rfl, wl, n, _, rfl, hw, by omega, by omega, by omega, fun d0 H1 d00 d01 k1 w1 => ⟨_, _, rfl, rfl, ?_⟩⟩
  refine ⟨_, rfl, wl, n + 1, _, rfl, w1, by omega, by omega, by omega, fun way H2 _ _ k2 w2 => ?_⟩
  refine ⟨by show 0 ≤ sizeLine; decide, fun F hF2 => ?_⟩
  obtain ⟨sz, hsz⟩ : ∃ sz : Nat, 1 + d0 = (sz : Int) := ⟨(1 + d0).toNat, by omega⟩
  have hsz1 : 1 ≤ sz := by omega
  have hsz2 : (sz : Int) ≤ m := by omega
  have hsz3 : sz ≤ 60 := by omega
  have k02 := k1.trans k2
  have hFw : F ≠ wl := by
    obtain ⟨l2, e2⟩ := w2.here
    exact (ne_of_none e2 hF2).symm
  have hFn : H F = none := by
    cases eF : H F with
    | none => rfl
    | some o =>
      have z := k02 F o hFw eF
      rw [hF2] at z; cases z
  -- for k in range(size)
  refine ⟨_, rfl, _, rfl, by omega, by omega, for_it walk_range0 (fun i σ H' => ∃ v5 v6, σ = slF wl F m (1 + d0) way v5 v6 none none none ∧ Keep wl H H' ∧ Well H' wl (n + 2 + 5 * i) ∧ ∃ l : Hs, l.length = i ∧ LtF l ∧ H' F = some (.lst (l.map hv)))
    ⟨none, none, rfl, k02.new hF2, (w2.same ((Same.refl H2).new hF2)), [], rfl, fun j u e => (by cases e), upd_same⟩ (fun _ _ _ _ _ => trivial) ?_ ?_⟩
  · rintro i x σ H3 H4 hi ⟨v5, v6, rfl, k3, w3, l, hl, hlt, hF3⟩ ⟨rfl, rfl⟩
    have hi' : i < sz := by omega
    -- some = [None, k - 1, draw(max(1, k))][draw(3)] if k > 0 else None
    refine ⟨fun σ' H' => ∃ v6, OkV i v6 ∧ σ' = slF wl F m (1 + d0) way (some (.int (i : Int))) (some v6) none none none ∧ Keep wl H H' ∧ Well H' wl (n + 2 + 5 * i + 2) ∧ H' F = some (.lst (l.map hv)), ?_, ?_⟩
    · refine ⟨_, rfl, _, _, rfl, rfl, _, rfl, ?_⟩
      refine ite2 (fun c => ?_) (fun c => ?_)
      · have ci : (0 : Int) < (i : Int) := of_decide_eq_true c
        refine ⟨_, rfl, _, _, rfl, rfl, ?_⟩
        refine ⟨_, rfl, _, rfl, _, _, rfl, wl, _, _, rfl, w3, by omega, by split <;> omega, by split <;> omega, fun d H5 d0 d1 k5 w5 => ⟨by show 3 ≤ sizeLine; decide, fun L hL => ?_⟩⟩
        have w6 := w5.same ((Same.refl H5).new (o := .lst [.non, .int ((i : Int) - 1), .int d]) hL)
        refine ⟨_, rfl, wl, _, _, rfl, w6, by omega, by omega, by omega, fun d2 H6 e0 e1 k6 w6 => ?_⟩
        have hLw : L ≠ wl := by
          obtain ⟨l2, e2⟩ := w5.here
          exact (ne_of_none e2 hL).symm
        have hL6 : H6 L = some (.lst [.non, .int ((i : Int) - 1), .int d]) := k6 L _ hLw upd_same
        obtain ⟨v, hv1, hv2⟩ := pick (xs := [.non, .int ((i : Int) - 1), .int d]) e0 e1
        refine ⟨L, _, _, v, rfl, rfl, SqL.of hL6, hv2, v, ?_, rfl, (k3.trans (k5.new hL)).trans k6, w6, k6 F _ hFw ?_⟩
        · have d2' : d < (i : Int) := by
            split at d1 <;> omega
          simp only [List.mem_cons, List.not_mem_nil, or_false] at hv1
          rcases hv1 with rfl | rfl | rfl
          · exact .non i
          · exact .int (by omega) (by omega)
          · exact .int d0 d2'
        · have z := k5 F _ hFw hF3
          rw [upd_ne (ne_of_none z hL)]; exact z
      · exact ⟨.non, .non i, rfl, k3, w3.mono (by omega), hF3⟩
    · rintro σ' H5 ⟨v6, ok6, rfl, k5, w5, hF5⟩
      -- if k > 0 and way == 0
      refine ⟨fun σ' H' => ∃ v6, OkV i v6 ∧ σ' = slF wl F m (1 + d0) way (some (.int (i : Int))) (some v6) none none none ∧ Keep wl H H' ∧ Well H' wl (n + 2 + 5 * i + 3) ∧ H' F = some (.lst (l.map hv)), ?_, ?_⟩
      · refine ⟨_, rfl, _, _, rfl, rfl, _, rfl, ?_⟩
        refine ite2 (fun c => ?_) (fun c => ?_)
        · have ci : (0 : Int) < (i : Int) := of_decide_eq_true c
          refine ⟨_, rfl, rfl, _, rfl, ?_⟩
          refine ite2 (fun c2 => ?_) (fun c2 => ?_)
          · refine ⟨_, rfl, _, _, rfl, rfl, _, rfl, _, _, rfl, rfl, _, _, rfl, by show 2 ≤ sizeLine; decide, fun L hL => ?_⟩
            have w6 := w5.same ((Same.refl H5).new (o := .lst [.int ((i : Int) - 1), .int (if (i : Int) - 2 > 0 then (i : Int) - 2 else 0)]) hL)
            refine ⟨_, rfl, wl, _, _, rfl, w6, by omega, by omega, by omega, fun d2 H6 e0 e1 k6 w6 => ?_⟩
            have hLw : L ≠ wl := by
              obtain ⟨l2, e2⟩ := w5.here
              exact (ne_of_none e2 hL).symm
            have hL6 : H6 L = some (.lst [.int ((i : Int) - 1), .int (if (i : Int) - 2 > 0 then (i : Int) - 2 else 0)]) := k6 L _ hLw upd_same
            obtain ⟨v, hv1, hv2⟩ := pick (xs := [.int ((i : Int) - 1), .int (if (i : Int) - 2 > 0 then (i : Int) - 2 else 0)]) e0 e1
            refine ⟨L, _, _, v, rfl, rfl, SqL.of hL6, hv2, v, ?_, rfl, (k5.new hL).trans k6, w6, k6 F _ hFw ?_⟩
            · simp only [List.mem_cons, List.not_mem_nil, or_false] at hv1
              rcases hv1 with rfl | rfl
              · exact .int (by omega) (by omega)
              · exact .int (by split <;> omega) (by split <;> omega)
            · rw [upd_ne (ne_of_none hF5 hL)]; exact hF5
          · exact ⟨v6, ok6, rfl, k5, w5.mono (by omega), hF5⟩
        · exact ⟨v6, ok6, rfl, k5, w5.mono (by omega), hF5⟩
      · rintro σ' H6 ⟨v6, ok6, rfl, k6, w6, hF6⟩
        -- if k > 0 and way == 1
        refine ⟨fun σ' H' => ∃ v6, OkV i v6 ∧ σ' = slF wl F m (1 + d0) way (some (.int (i : Int))) (some v6) none none none ∧ Keep wl H H' ∧ Well H' wl (n + 2 + 5 * i + 5) ∧ H' F = some (.lst (l.map hv)), ?_, ?_⟩
        · refine ⟨_, rfl, _, _, rfl, rfl, _, rfl, ?_⟩
          refine ite2 (fun c => ?_) (fun c => ?_)
          · have ci : (0 : Int) < (i : Int) := of_decide_eq_true c
            refine ⟨_, rfl, rfl, _, rfl, ?_⟩
            refine ite2 (fun c2 => ?_) (fun c2 => ?_)
            · refine ⟨_, rfl, _, rfl, wl, _, _, rfl, w6, by omega, by omega, by omega, fun d H7 d0 d1 k7 w7 => ⟨by show 4 ≤ sizeLine; decide, fun L hL => ?_⟩⟩
              have w8 := w7.same ((Same.refl H7).new (o := .lst [.int 0, .int 0, .non, .int d]) hL)
              refine ⟨_, rfl, wl, _, _, rfl, w8, by omega, by omega, by omega, fun d2 H8 e0 e1 k8 w8 => ?_⟩
              have hLw : L ≠ wl := by
                obtain ⟨l2, e2⟩ := w7.here
                exact (ne_of_none e2 hL).symm
              have hL8 : H8 L = some (.lst [.int 0, .int 0, .non, .int d]) := k8 L _ hLw upd_same
              obtain ⟨v, hv1, hv2⟩ := pick (xs := [.int 0, .int 0, .non, .int d]) e0 e1
              refine ⟨L, _, _, v, rfl, rfl, SqL.of hL8, hv2, v, ?_, rfl, (k6.trans (k7.new hL)).trans k8, w8, k8 F _ hFw ?_⟩
              · simp only [List.mem_cons, List.not_mem_nil, or_false] at hv1
                rcases hv1 with rfl | rfl | rfl | rfl
                · exact .int (by omega) (by omega)
                · exact .int (by omega) (by omega)
                · exact .non i
                · exact .int d0 d1
              · have z := k7 F _ hFw hF6
                rw [upd_ne (ne_of_none z hL)]; exact z
            · exact ⟨v6, ok6, rfl, k6, w6.mono (by omega), hF6⟩
          · exact ⟨v6, ok6, rfl, k6, w6.mono (by omega), hF6⟩
        · rintro σ' H7 ⟨v6, ⟨o, rfl, ho⟩, rfl, k7, w7, hF7⟩
          -- found.append(some)
          refine ⟨_, rfl, .inl ⟨rfl, _, SqL.of hF7⟩, _, rfl, F, _, _, rfl, rfl, hF7, by rw [List.length_map]; exact szl (by omega), ?_⟩
          have kf : Keep wl H (upd H7 F (.lst (l.map hv ++ [hv o]))) := fun b u hb e => by
            rw [upd_ne (ne_of_none e hFn)]; exact k7 b u hb e
          refine ⟨_, _, rfl, kf, ?_, l ++ [o], by rw [List.length_append, hl]; rfl, hlt.snoc (by rw [hl]; exact ho), by rw [upd_same, List.map_append]; rfl⟩
          obtain ⟨a, b, c, e, r⟩ := w7.ex
          exact ⟨a, b, c, by rw [upd_ne hFw.symm]; exact e, r.1, r.2.1, r.2.2.1, r.2.2.2.1, by omega⟩
  · rintro σ H3 ⟨v5, v6, rfl, k3, w3, l, hl, hlt, hF3⟩
    have e0 : (1 + d0).toNat = sz := by omega
    rw [e0] at w3 hl
    have hlne : l ≠ [] := by
      intro z; rw [z] at hl; rw [← hl] at hsz1; exact absurd hsz1 (by decide)
    -- if _law_draw(well, 3) == 0: return tuple(found)
    refine ⟨_, rfl, wl, _, _, rfl, w3, by omega, by omega, by omega, fun d H4 _ _ k4 w4 => ?_⟩
    have hF4 := k4 F _ hFw hF3
    have k04 := k3.trans k4
    refine ⟨rfl, _, rfl, ?_⟩
    refine ite2 (fun c => ?_) (fun c => ?_)
    · refine ⟨_, rfl, F, _, rfl, .inl ⟨SqL.of hF4, fun t ht => ?_⟩⟩
      have w5 := w4.same ((Same.refl H4).new (o := .tup (l.map hv)) ht)
      have htn : H t = none := by
        cases et : H t with
        | none => rfl
        | some o =>
          by_cases htw : t = wl
          · obtain ⟨l2, e2⟩ := w4.here
            rw [htw, e2] at ht; cases ht
          · have z := k04 t o htw et
            rw [ht] at z; cases z
      refine q t l _ (fo_plain hlne hlt) (by omega) (k04.new ht) (w5.mono (by omega)) htn upd_same
    · -- names, left = [], list(range(size))
      refine ⟨by show 0 ≤ sizeLine; decide, fun N hN => ?_⟩
      refine ⟨_, rfl, _, rfl, RgOk.of_le (by omega) (by omega) (by omega) (by omega), fun L hL => ⟨_, _, rfl, ?_⟩⟩
      have hNn : H N = none := by
        cases et : H N with
        | none => rfl
        | some o =>
          by_cases htw : N = wl
          · obtain ⟨l2, e2⟩ := w4.here
            rw [htw, e2] at hN; cases hN
          · have z := k04 N o htw et
            rw [hN] at z; cases z
      have hNw : N ≠ wl := by
        obtain ⟨l2, e2⟩ := w4.here
        exact (ne_of_none e2 hN).symm
      have hNL : N ≠ L := ne_of_none upd_same hL
      have hNF : F ≠ N := ne_of_none hF4 hN
      have hL4 : H4 L = none := by rw [upd_ne hNL.symm] at hL; exact hL
      have hLw : L ≠ wl := by
        obtain ⟨l2, e2⟩ := w4.here
        exact (ne_of_none e2 hL4).symm
      have hFL : F ≠ L := ne_of_none hF4 hL4
      have hLn : H L = none := by
        cases et : H L with
        | none => rfl
        | some o =>
          have z := k04 L o hLw et
          rw [hL4] at z; cases z
      have kk : ∀ {H' : Hp} {a : Addr} {o : HO}, Keep wl H H' → H a = none → Keep wl H (upd H' a o) := fun {H' a o} k hn b u hb e => by
        rw [upd_ne (ne_of_none e hn)]; exact k b u hb e
      have ww : ∀ {H' : Hp} {a : Addr} {o : HO} {k : Nat}, Well H' wl k → a ≠ wl → Well (upd H' a o) wl k := fun {H' a o k} h hn => by
        obtain ⟨x, y, z, e, r⟩ := h.ex
        exact ⟨x, y, z, by rw [upd_ne hn.symm]; exact e, r⟩
      -- for k in range(size): names.append(left.pop(_law_draw(well, len(left))))
      refine ⟨_, rfl, _, rfl, by omega, by omega, for_it walk_range0 (fun i σ H' => ∃ v5, σ = slF wl F m (1 + d0) way v5 v6 (some (.ref N)) (some (.ref L)) none ∧ Keep wl H H' ∧ Well H' wl (n + 3 + 5 * sz + i) ∧ H' F = some (.lst (l.map hv)) ∧
          ∃ nm lf : List Nat, nm.length = i ∧ (nm ++ lf).Perm (List.range sz) ∧ H' N = some (.lst (nv nm)) ∧ H' L = some (.lst (nv lf)))
        ⟨v5, rfl, kk (kk k04 hNn) hLn, (ww (ww w4 hNw) hLw).mono (by omega), by rw [upd_ne hFL, upd_ne hNF]; exact hF4, [], List.range sz, rfl, List.Perm.refl _, by rw [upd_ne hNL, upd_same]; rfl, by rw [upd_same, hsz, nv_range]⟩ (fun _ _ _ _ _ => trivial) ?_ ?_⟩
      · rintro i x σ H5 H6 hi ⟨v5, rfl, k5, w5, hF5, nm, lf, hnm, hp, hN5, hL5⟩ ⟨rfl, rfl⟩
        have hi' : i < sz := by omega
        have hlf : nm.length + lf.length = sz := by
          have z := hp.length_eq
          rw [List.length_append, List.length_range] at z; exact z
        refine ⟨_, rfl, .inl ⟨rfl, _, SqL.of hN5⟩, ?_⟩
        refine ⟨_, rfl, .inl ⟨rfl, _, SqL.of hL5⟩, ?_⟩
        refine ⟨_, rfl, _, rfl, _, _, rfl, .inl ⟨_, SqL.of hL5, rfl⟩, wl, _, _, rfl, w5, by omega, by rw [nv_length]; omega, by rw [nv_length]; omega, fun d H6 d0 d1 k6 w6 => ?_⟩
        rw [nv_length] at d1
        obtain ⟨j, hj⟩ : ∃ j : Nat, d = (j : Int) := ⟨d.toNat, by omega⟩
        subst hj
        have hjl : j < lf.length := by omega
        have hL6 := k6 L _ hLw hL5
        have hN6 := k6 N _ hNw hN5
        have hF6 := k6 F _ hFw hF5
        refine ⟨L, _, _, j, _, rfl, rfl, hL6, by omega, by omega, by rw [nv_length]; exact seq_nat hjl, nv_get (List.getElem?_eq_getElem hjl), ?_⟩
        refine ⟨N, _, _, rfl, rfl, by rw [upd_ne hNL]; exact hN6, by rw [nv_length]; exact szl (by omega), ?_⟩
        refine ⟨_, rfl, kk (kk (k5.trans k6) hLn) hNn, (ww (ww w6 hLw) hNw).mono (by omega), by rw [upd_ne hNF, upd_ne hFL]; exact hF6, nm ++ [lf[j]], lf.eraseIdx j, by rw [List.length_append, hnm]; rfl, ?_, by rw [upd_same, nv_append]; rfl, by rw [upd_ne hNL.symm, upd_same, nv_erase]⟩
        have pe := erase_perm lf j hjl
        rw [List.append_assoc]
        exact (List.Perm.append_left nm pe).trans hp
      · rintro σ H5 ⟨v5, rfl, k5, w5, hF5, nm, lf, hnm, hp, hN5, hL5⟩
        rw [e0] at hnm w5
        have hlf : nm.length + lf.length = sz := by
          have z := hp.length_eq
          rw [List.length_append, List.length_range] at z; exact z
        have hlf0 : lf = [] := List.eq_nil_of_length_eq_zero (by omega)
        subst hlf0
        rw [List.append_nil] at hp
        -- turned_here = [None] * size
        refine ⟨by show 1 ≤ sizeLine; decide, fun O hO => ?_⟩
        refine ⟨_, rfl, O, _, _, rfl, rfl, upd_same, by omega, by omega, ?_, fun T hT => ?_⟩
        · show 1 * (1 + d0).toNat ≤ sizeLine
          rw [e0, Nat.one_mul]; exact Nat.le_of_lt (szl (by omega))
        have hT5 : H5 T = none := by
          have z := hT
          rw [upd_ne (ne_of_none upd_same hT).symm] at z; exact z
        have fresh : ∀ {a : Addr}, H5 a = none → H a = none ∧ a ≠ wl ∧ F ≠ a ∧ N ≠ a := fun {a} ha => by
          have h1 : a ≠ wl := by
            obtain ⟨l2, e2⟩ := w5.here
            exact (ne_of_none e2 ha).symm
          refine ⟨?_, h1, ne_of_none hF5 ha, ne_of_none hN5 ha⟩
          cases et : H a with
          | none => rfl
          | some o =>
            have z := k5 a o h1 et
            rw [ha] at z; cases z
        obtain ⟨o1, o2, o3, o4⟩ := fresh hO
        obtain ⟨t1, t2, t3, t4⟩ := fresh hT5
        have hnl : ∀ j : Nat, j < sz → ∃ v, nm[j]? = some v ∧ v < sz := fun j hj => by
          have h1 : j < nm.length := by omega
          exact ⟨nm[j], List.getElem?_eq_getElem h1, List.mem_range.mp (hp.mem_iff.mp (List.getElem_mem h1))⟩
        have hnd : nm.Nodup := hp.nodup_iff.mpr List.nodup_range
        -- for k in range(size): turned_here[names[k]] = ..
        refine ⟨_, rfl, _, rfl, by omega, by omega, for_it walk_range0 (fun i σ H' => ∃ v5, σ = slF wl F m (1 + d0) way v5 v6 (some (.ref N)) (some (.ref L)) (some (.ref T)) ∧ Keep wl H H' ∧ Well H' wl (n + 3 + 6 * sz) ∧ H' F = some (.lst (l.map hv)) ∧ H' N = some (.lst (nv nm)) ∧
            ∃ th : Hs, th.length = sz ∧ (∀ (j v : Nat) (o : Option Nat), j < i → nm[j]? = some v → l[j]? = some o → th[v]? = some (ren nm o)) ∧ H' T = some (.lst (th.map hv)))
          ⟨v5, rfl, kk (kk k5 o1) t1, (ww (ww w5 o2) t2).mono (by omega), by rw [upd_ne t3, upd_ne o3]; exact hF5, by rw [upd_ne t4, upd_ne o4]; exact hN5, List.replicate sz none, List.length_replicate, fun j v o hj => absurd hj (Nat.not_lt_zero j), by rw [upd_same, rep_non, e0]⟩ (fun _ _ _ _ _ => trivial) ?_ ?_⟩
        · rintro i x σ H6 H7 hi ⟨v5, rfl, k6, w6, hF6, hN6, th, hth, hr, hT6⟩ ⟨rfl, rfl⟩
          have hi' : i < sz := by omega
          have hil : i < l.length := by omega
          obtain ⟨v, ev, hv'⟩ := hnl i hi'
          have eo : l[i]? = some l[i] := List.getElem?_eq_getElem hil
          generalize l[i] = o at eo
          have fin : ∀ x : V, x = hv (ren nm o) → gSub (tVar 9) (tOp (rIxL K) (tVar 7) (tVar 5)) rSetL x (slF wl F m (1 + d0) way (some (.int (i : Int))) v6 (some (.ref N)) (some (.ref L)) (some (.ref T))) H7
              (fun σ H' => ∃ v5, σ = slF wl F m (1 + d0) way v5 v6 (some (.ref N)) (some (.ref L)) (some (.ref T)) ∧ Keep wl H H' ∧ Well H' wl (n + 3 + 6 * sz) ∧ H' F = some (.lst (l.map hv)) ∧ H' N = some (.lst (nv nm)) ∧
                ∃ th : Hs, th.length = sz ∧ (∀ (j v : Nat) (o : Option Nat), j < i + 1 → nm[j]? = some v → l[j]? = some o → th[v]? = some (ren nm o)) ∧ H' T = some (.lst (th.map hv))) := by
            rintro x rfl
            refine ⟨_, rfl, _, rfl, _, rfl, N, _, _, _, rfl, rfl, SqL.of hN6, atI_nat (nv_get ev), T, _, _, v, rfl, rfl, hT6, by rw [List.length_map, hth]; exact ixN_nat hv', ?_⟩
            refine ⟨_, rfl, kk k6 t1, ww w6 t2, by rw [upd_ne t3]; exact hF6, by rw [upd_ne t4]; exact hN6, th.set v (ren nm o), by rw [List.length_set]; exact hth, ?_, by rw [upd_same, List.map_set]⟩
            intro j v' o' hj e1 e2
            by_cases hji : j = i
            · subst hji
              have q1 : v' = v := Option.some.inj (e1.symm.trans ev)
              have q2 : o' = o := Option.some.inj (e2.symm.trans eo)
              subst q1 q2
              exact List.getElem?_set_self (by rw [hth]; exact hv')
            · have hne : v ≠ v' := fun z => hji (nodup_at hnd e1 (by rw [← z]; exact ev))
              rw [List.getElem?_set_ne hne]
              exact hr j v' o' (by omega) e1 e2
          refine ⟨_, rfl, _, rfl, F, _, _, _, rfl, rfl, SqL.of hF6, atI_nat (hv_at eo), rfl, _, rfl, ?_⟩
          cases o with
          | none => exact iteT (fin _ rfl)
          | some u =>
            have hu := hlt i u eo
            obtain ⟨vu, eu, _⟩ := hnl u (by omega)
            refine iteF ⟨_, rfl, _, rfl, _, rfl, F, _, _, _, rfl, rfl, SqL.of hF6, atI_nat (hv_at eo), N, _, _, _, rfl, rfl, SqL.of hN6, atI_nat (nv_get eu), fin _ ?_⟩
            show V.int (vu : Int) = V.int ((nm.getD u 0 : Nat) : Int)
            rw [List.getD_eq_getElem?_getD, eu]; rfl
        · rintro σ H6 ⟨v5, rfl, k6, w6, hF6, hN6, th, hth, hr, hT6⟩
          rw [e0] at hr
          refine ⟨_, rfl, T, _, rfl, .inl ⟨SqL.of hT6, fun t ht => ?_⟩⟩
          have w7 := w6.same ((Same.refl H6).new (o := .tup (th.map hv)) ht)
          have htn : H t = none := by
            have h1 : t ≠ wl := by
              obtain ⟨l2, e2⟩ := w6.here
              exact (ne_of_none e2 ht).symm
            cases et : H t with
            | none => rfl
            | some o =>
              have z := k6 t o h1 et
              rw [ht] at z; cases z
          refine q t th _ (fo_turned hlne hlt (by rw [hl]; exact hp) (by rw [hth, hl]) fun j v o e1 e2 => hr j v o ?_ e1 e2) (by omega) (k6.new ht) (w7.mono (by omega)) htn upd_same
          have z := (List.getElem?_eq_some_iff.mp e2).1
          omega
end

end My

namespace My
open PySem PySem.Spec PyProof.Rows L2
/-! ### what the functions of heldbehind.forests raise and hand back -/
def spCheckF (C : Addr) : Sp := fun vs H Q E => ∃ x : V, vs = [x] ∧ Askd H x ∧ (IsF H x → ∀ H', Same H H' → Q .non H') ∧ (¬ IsF H x → ∀ H', Same H H' → E (.ref C) none H')
def spCheckT (C : Addr) : Sp := fun vs H Q E => ∃ (a : Addr) (xs : List V) (y : V), vs = [.ref a, y] ∧ H a = some (.tup xs) ∧ Vd H y ∧ (isIdx (xs.length : Int) y = true → Q .non H) ∧ (isIdx (xs.length : Int) y = false → E (.ref C) none H)
/-- a function of a forest alone: R what its answer's list may be -/
def spOf (C : Addr) (R : Hs → List V → Prop) : Sp := fun vs H Q E => ∃ x : V, vs = [x] ∧ Askd H x ∧ (∀ hs : Hs, tupAt H x = some (hs.map hv) → hs.length ≤ 60) ∧ (¬ IsF H x → ∀ H', Same H H' → E (.ref C) none H') ∧
  ∀ hs : Hs, tupAt H x = some (hs.map hv) → Fo hs → ∀ r l H', R hs l → Same H H' → H r = none → H' r = some (.lst l) → Q (.ref r) H'
/-- a function of a forest and a thing -/
def spOf2 (C C2 : Addr) (R : Hs → Nat → List V → Prop) : Sp := fun vs H Q E => ∃ x y : V, vs = [x, y] ∧ Askd H x ∧ Vd H y ∧ (∀ hs : Hs, tupAt H x = some (hs.map hv) → hs.length ≤ 60) ∧ (¬ IsF H x → ∀ H', Same H H' → E (.ref C) none H') ∧
  (∀ hs : Hs, tupAt H x = some (hs.map hv) → Fo hs → isIdx (hs.length : Int) y = false → ∀ H', Same H H' → E (.ref C2) none H') ∧
  ∀ hs : Hs, tupAt H x = some (hs.map hv) → Fo hs → ∀ t : Nat, y = .int (t : Int) → t < hs.length → ∀ r l H', R hs t l → Same H H' → H r = none → H' r = some (.lst l) → Q (.ref r) H'
theorem tupAt_same {H H' : Hp} {x : V} {xs : List V} (h : tupAt H x = some xs) (s : Same H H') : tupAt H' x = some xs := by
  obtain ⟨a, rfl, ha⟩ := tupAt_ref h
  exact tupAt_tup (s _ _ ha)
theorem Askd.same {H H' : Hp} {x : V} (h : Askd H x) (s : Same H H') (hi : ∀ xs, tupAt H' x = some xs → tupAt H x = some xs) : Askd H' x :=
  ⟨h.vd.same s, fun xs e => ⟨(h.items xs (hi xs e)).1, fun y hy => ((h.items xs (hi xs e)).2 y hy).same s⟩⟩
theorem isIdx_true {n : Nat} {y : V} (h : isIdx (n : Int) y = true) : ∃ t : Nat, y = .int (t : Int) ∧ t < n := by
  cases y with
  | int i =>
    have c : (decide (0 ≤ i) && decide (i < (n : Int))) = true := h
    rw [Bool.and_eq_true, decide_eq_true_eq, decide_eq_true_eq] at c
    exact ⟨i.toNat, by congr 1; omega, by omega⟩
  | _ => cases h
theorem vd_hv {H : Hp} (o : Option Nat) : Vd H (hv o) := by
  cases o with
  | none => exact .non
  | some u => exact .int _
section
variable {P : Program} {w : World} {K : PySem.W.Frag} {mg : Str → Option Value} {base : Heap} {CF CT : Addr}
abbrev st_check_forest : Stmt := topS 10
abbrev N_check_forest : List Str := ["forest"]
theorem sc_check_forest : FnScope N_check_forest ["forest"] (defScope st_check_forest) := ⟨rfl, rfl, rfl, by decide +kernel, rfl, by decide +kernel, by decide +kernel⟩
theorem ok_check_forest (D : Df K mg "check_forest" st_check_forest ["forest"]) (B : Bl mg) (EInvalidForest : Ex1 K mg "InvalidForest" CF) (Kis_forest : Kn P w K mg base CX0 4 "is_forest" st_is_forest ["value"] spIsForest) :
    Kn P w K mg base (L2.CX P w) 5 "check_forest" st_check_forest ["forest"] (spCheckF CF) := by
  refine D.okX sc_check_forest (fun vs H Q E h => ?_) (fun f cdv A outer s H vs Q E hr h => ?_)
  · obtain ⟨x, rfl, _⟩ := h; rfl
  obtain ⟨x, rfl, ask, q1, q2⟩ := h
  refine ⟨_, ((pss_one (ps_if (pt_not (pt_val (pe_callF Kis_forest (hr.mono (by decide)) pass0 (pa_cons (pv 0) pa_nil)))) (pss_one (ps_raise rfl (takes_of rfl rfl rfl rfl) (pmk_own0 PySem.F.excBase_ValueError EInvalidForest.x EInvalidForest.g EInvalidForest.k (raises_own EInvalidForest.b EInvalidForest.t) rfl))) pss_nil))), ?_⟩
  refine ⟨_, rfl, x, rfl, ask, fun b H' s' hb => ⟨_, rfl, ?_⟩⟩
  cases b with
  | true => exact iteF (q1 (hb.mp rfl) H' s')
  | false => exact iteT (q2 (fun z => Bool.false_ne_true (hb.mpr z)) H' s')
abbrev st_check_thing : Stmt := topS 11
abbrev N_check_thing : List Str := ["forest", "thing"]
theorem sc_check_thing : FnScope N_check_thing ["forest", "thing"] (defScope st_check_thing) := ⟨rfl, rfl, rfl, by decide +kernel, rfl, by decide +kernel, by decide +kernel⟩
theorem ok_check_thing (D : Df K mg "check_thing" st_check_thing ["forest", "thing"]) (B : Bl mg) (EInvalidThing : Ex1 K mg "InvalidThing" CT) (Kis_index : Kn P w K mg base CX0 3 "is_index" st_is_index ["value", "many"] spIsIndex) :
    Kn P w K mg base (L2.CX P w) 5 "check_thing" st_check_thing ["forest", "thing"] (spCheckT CT) := by
  refine D.okX sc_check_thing (fun vs H Q E h => ?_) (fun f cdv A outer s H vs Q E hr h => ?_)
  · obtain ⟨a, xs, y, rfl, _⟩ := h; rfl
  obtain ⟨a, xs, y, rfl, ha, vy, q1, q2⟩ := h
  refine ⟨_, ((pss_one (ps_if (pt_not (pt_val (pe_callF Kis_index (hr.mono (by decide)) pass0 (pa_cons (pv 1) (pa_cons (pe_callB call_len (by rfl) B.len (by decide +kernel) (pa_cons (pv 0) pa_nil)) pa_nil))))) (pss_one (ps_raise rfl (takes_of rfl rfl rfl rfl) (pmk_own0 PySem.F.excBase_ValueError EInvalidThing.x EInvalidThing.g EInvalidThing.k (raises_own EInvalidThing.b EInvalidThing.t) rfl))) pss_nil))), ?_⟩
  refine ⟨_, rfl, _, rfl, _, _, rfl, .inr ⟨_, SqT.of ha, rfl⟩, y, _, rfl, vy, _, rfl, ?_⟩
  cases b : isIdx (xs.length : Int) y with
  | true => exact iteF (q1 b)
  | false => exact iteT (q2 b)
abbrev st_walk : Stmt := topS 18
abbrev N_walk : List Str := ["forest"]
theorem sc_walk : FnScope N_walk ["forest"] (defScope st_walk) := ⟨rfl, rfl, rfl, by decide +kernel, rfl, by decide +kernel, by decide +kernel⟩
theorem ok_walk (D : Df K mg "walk" st_walk ["forest"]) (B : Bl mg) (Kcheck_forest : Kn P w K mg base (L2.CX P w) 5 "check_forest" st_check_forest ["forest"] (spCheckF CF))
    (K_without_holder : Kn P w K mg base CX0 1 "_without_holder" st__without_holder ["forest"] (spWithout K)) (K_held_lists : Kn P w K mg base CX0 1 "_held_lists" st__held_lists ["forest"] (spHeld K))
    (K_walk_through : Kn P w K mg base CX0 1 "_walk_through" st__walk_through ["held", "starts"] (spWalkT K)) :
    Kn P w K mg base (L2.CX P w) 6 "walk" st_walk ["forest"] (spOf CF fun hs l => ∃ o, l = nv o ∧ WT hs (roots hs) (Rch hs) o []) := by
  refine D.okX sc_walk (fun vs H Q E h => ?_) (fun f cdv A outer s H vs Q E hr h => ?_)
  · obtain ⟨x, rfl, _⟩ := h; rfl
  obtain ⟨x, rfl, ask, _, q2, q⟩ := h
  refine ⟨_, ((pss_cons (ps_expr (pe_callF Kcheck_forest (hr.mono (by decide)) (passX (takes_of rfl rfl rfl rfl)) (pa_cons (pv 0) pa_nil)))
      (pss_one (ps_ret (pe_callF K_walk_through (hr.mono (by decide)) pass0 (pa_cons (pe_callF K_held_lists (hr.mono (by decide)) pass0 (pa_cons (pv 0) pa_nil)) (pa_cons (pe_callF K_without_holder (hr.mono (by decide)) pass0 (pa_cons (pv 0) pa_nil)) pa_nil))))))), ?_⟩
  refine ⟨_, rfl, x, rfl, ask, fun ⟨hs, e, fo⟩ H1 s1 => ?_, q2⟩
  obtain ⟨a, rfl, ha⟩ := tupAt_ref e
  have hl := (ask.items _ e).1
  rw [List.length_map] at hl
  have hS1 : SqT K H1 a (hs.map hv) := SqT.of (s1 _ _ ha)
  refine ⟨_, rfl, a, hs, rfl, hS1, hl, fo.inb, fun p as H2 s2 hp hpc hA => ?_⟩
  refine ⟨_, rfl, a, hs, rfl, s2.tseq hS1, hl, fun p2 H3 s3 hp2 hr2 => ?_⟩
  refine ⟨p, p2, as, hs, roots hs, Rch hs, rfl, hA.same s3, SqL.of hr2, hl, starts_roots hs, fun r l H4 s4 hr4 hl4 hwt => ?_⟩
  have s14 := (s1.trans s2).trans s3
  exact q hs e fo r _ H4 ⟨l, rfl, hwt⟩ (s14.trans s4) (s14.free hr4) hl4
abbrev st_firsts : Stmt := topS 16
abbrev N_firsts : List Str := ["forest"]
theorem sc_firsts : FnScope N_firsts ["forest"] (defScope st_firsts) := ⟨rfl, rfl, rfl, by decide +kernel, rfl, by decide +kernel, by decide +kernel⟩
theorem ok_firsts (D : Df K mg "firsts" st_firsts ["forest"]) (B : Bl mg) (Kcheck_forest : Kn P w K mg base (L2.CX P w) 5 "check_forest" st_check_forest ["forest"] (spCheckF CF))
    (K_without_holder : Kn P w K mg base CX0 1 "_without_holder" st__without_holder ["forest"] (spWithout K)) :
    Kn P w K mg base (L2.CX P w) 6 "firsts" st_firsts ["forest"] (spOf CF fun hs l => l = nv (roots hs)) := by
  refine D.okX sc_firsts (fun vs H Q E h => ?_) (fun f cdv A outer s H vs Q E hr h => ?_)
  · obtain ⟨x, rfl, _⟩ := h; rfl
  obtain ⟨x, rfl, ask, _, q2, q⟩ := h
  refine ⟨_, ((pss_cons (ps_expr (pe_callF Kcheck_forest (hr.mono (by decide)) (passX (takes_of rfl rfl rfl rfl)) (pa_cons (pv 0) pa_nil)))
      (pss_one (ps_ret (pe_callF K_without_holder (hr.mono (by decide)) pass0 (pa_cons (pv 0) pa_nil)))))), ?_⟩
  refine ⟨_, rfl, x, rfl, ask, fun ⟨hs, e, fo⟩ H1 s1 => ?_, q2⟩
  obtain ⟨a, rfl, ha⟩ := tupAt_ref e
  have hl := (ask.items _ e).1
  rw [List.length_map] at hl
  refine ⟨_, rfl, a, hs, rfl, SqT.of (s1 _ _ ha), hl, fun p2 H3 s3 hp2 hr2 => ?_⟩
  exact q hs e fo p2 _ H3 rfl (s1.trans s3) (s1.free hp2) hr2
end

end My

namespace My
open PySem PySem.Spec PyProof.Rows L2
/-! ### the ways up -/
inductive Ups (hs : Hs) : Nat → List Nat → Prop where
  | root {v : Nat} (h : hs[v]? = some none) : Ups hs v []
  | step {v u : Nat} {l : List Nat} (h : hs[v]? = some (some u)) (r : Ups hs u l) : Ups hs v (u :: l)
theorem Rch.ups {hs : Hs} {v : Nat} (r : Rch hs v) : ∃ l, Ups hs v l := by
  induction r with
  | root h => exact ⟨[], .root h⟩
  | step h _ ih => obtain ⟨l, hl⟩ := ih; exact ⟨_, .step h hl⟩
theorem Ups.inj {hs : Hs} {v : Nat} {l m : List Nat} (a : Ups hs v l) (b : Ups hs v m) : l = m := by
  induction a generalizing m with
  | root h => cases b with
    | root _ => rfl
    | step h2 _ => rw [h] at h2; cases h2
  | step h r ih => cases b with
    | root h2 => rw [h] at h2; cases h2
    | step h2 r2 =>
      rw [h] at h2; cases h2
      rw [ih r2]
theorem Ups.lt {hs : Hs} {v : Nat} {l : List Nat} (a : Ups hs v l) : v < hs.length := by
  cases a with
  | root h => exact (List.getElem?_eq_some_iff.mp h).1
  | step h r => exact (List.getElem?_eq_some_iff.mp h).1
theorem Ups.mem {hs : Hs} {v : Nat} {l : List Nat} (a : Ups hs v l) : ∀ w ∈ l, ∃ m, Ups hs w m ∧ m.length < l.length := by
  induction a with
  | root h => intro w hw; cases hw
  | step h r ih =>
    intro w hw
    rcases List.mem_cons.mp hw with rfl | hw
    · exact ⟨_, r, Nat.lt_succ_self _⟩
    · obtain ⟨m, hm, hl⟩ := ih w hw
      exact ⟨m, hm, Nat.lt_succ_of_lt hl⟩
theorem Ups.nd {hs : Hs} {v : Nat} {l : List Nat} (a : Ups hs v l) : (v :: l).Nodup := by
  induction a with
  | root h => simp
  | step h r ih =>
    refine List.nodup_cons.mpr ⟨fun hm => ?_, ih⟩
    obtain ⟨m, hm, hl⟩ := (Ups.step h r).mem _ hm
    rw [hm.inj (.step h r)] at hl
    exact Nat.lt_irrefl _ hl
theorem Ups.len {hs : Hs} {v : Nat} {l : List Nat} (a : Ups hs v l) : l.length < hs.length := by
  have q := nodup_len hs.length _ a.nd fun w hw => by
    rcases List.mem_cons.mp hw with rfl | hw
    · exact a.lt
    · obtain ⟨m, hm, _⟩ := a.mem w hw
      exact hm.lt
  rw [List.length_cons] at q; omega
/-- below: a thing's held ones, and theirs -/
inductive Blw (hs : Hs) (t : Nat) : Nat → Prop where
  | kid {v : Nat} (h : hs[v]? = some (some t)) : Blw hs t v
  | step {v u : Nat} (h : hs[v]? = some (some u)) (r : Blw hs t u) : Blw hs t v
theorem Blw.ups {hs : Hs} {t v : Nat} (b : Blw hs t v) {l : List Nat} (a : Ups hs v l) : t ∈ l := by
  induction b generalizing l with
  | kid h => cases a with
    | root h2 => rw [h] at h2; cases h2
    | step h2 r => rw [h] at h2; cases h2; exact List.mem_cons_self
  | step h r ih => cases a with
    | root h2 => rw [h] at h2; cases h2
    | step h2 r2 => rw [h] at h2; cases h2; exact List.mem_cons_of_mem _ (ih r2)
theorem ups_blw {hs : Hs} {t v : Nat} {l : List Nat} (a : Ups hs v l) (h : t ∈ l) : Blw hs t v := by
  induction a with
  | root _ => cases h
  | step e r ih =>
    rcases List.mem_cons.mp h with rfl | h
    · exact .kid e
    · exact .step e (ih h)
theorem Blw.irr {hs : Hs} {t : Nat} (r : Rch hs t) : ¬ Blw hs t t := fun b => by
  obtain ⟨l, a⟩ := r.ups
  exact (List.nodup_cons.mp a.nd).1 (b.ups a)
theorem starts_kids {hs : Hs} {t : Nat} (r : Rch hs t) : Starts hs (kids hs t) (Blw hs t) where
  nd := nodup_kids hs t
  ok := fun s h => ⟨(List.getElem?_eq_some_iff.mp (mem_kids.mp h)).1, .kid (mem_kids.mp h)⟩
  down := fun _ _ e b => .step e b
  no := fun s h u e => by
    rw [mem_kids.mp h] at e
    cases e
    exact Blw.irr r
theorem WT.blw {hs : Hs} {t : Nat} {l : List Nat} (h : WT hs (kids hs t) (Blw hs t) l []) (v : Nat) : v ∈ l ↔ Blw hs t v := by
  have z : ∀ w, w ∈ l ++ [] ↔ w ∈ l := fun w => by rw [List.append_nil]
  refine ⟨fun hv => (h.ok v ((z v).mpr hv)).2.1, fun b => ?_⟩
  induction b with
  | kid e => exact (z _).mp (h.sm _ (mem_kids.mpr e))
  | step e _ ih => exact (z _).mp (h.cl _ _ e ih)
/-! ### sizes -/
def sumP (hs : Hs) (F : List Int) (D : List Nat) (v : Nat) : Int := (((kids hs v).filter fun c => decide (c ∈ D)).map fun c => F.getD c 0).sum
def SizeOk (hs : Hs) (F : List Int) : Prop := F.length = hs.length ∧ ∀ v : Nat, v < hs.length → F.getD v 0 = 1 + ((kids hs v).map fun c => F.getD c 0).sum
theorem filter_cons_sum (f : Nat → Int) (D : List Nat) (t : Nat) (ht : t ∉ D) : ∀ l : List Nat, l.Nodup → ((l.filter fun c => decide (c ∈ t :: D)).map f).sum = ((l.filter fun c => decide (c ∈ D)).map f).sum + (if t ∈ l then f t else 0)
  | [], _ => by simp
  | a :: r, nd => by
    have ih := filter_cons_sum f D t ht r (List.nodup_cons.mp nd).2
    have nd1 := (List.nodup_cons.mp nd).1
    by_cases e : a = t
    · subst e
      have h1 : decide (a ∈ a :: D) = true := decide_eq_true List.mem_cons_self
      have h2 : decide (a ∈ D) = false := decide_eq_false ht
      rw [if_neg nd1] at ih
      rw [List.filter_cons_of_pos (by exact h1), List.filter_cons_of_neg (by rw [h2]; exact Bool.false_ne_true), if_pos List.mem_cons_self, List.map_cons, List.sum_cons, ih]
      omega
    · have h3 : (t ∈ a :: r) ↔ t ∈ r := by
        rw [List.mem_cons]
        exact ⟨fun h => h.resolve_left fun z => e z.symm, .inr⟩
      by_cases hd : a ∈ D
      · have h1 : decide (a ∈ t :: D) = true := decide_eq_true (List.mem_cons_of_mem _ hd)
        have h2 : decide (a ∈ D) = true := decide_eq_true hd
        rw [List.filter_cons_of_pos (by exact h1), List.filter_cons_of_pos (by exact h2), List.map_cons, List.sum_cons, List.map_cons, List.sum_cons, ih]
        by_cases h : t ∈ r
        · rw [if_pos h, if_pos (h3.mpr h)]; omega
        · rw [if_neg h, if_neg (fun z => h (h3.mp z))]; omega
      · have h1 : decide (a ∈ t :: D) = false := decide_eq_false fun z => (List.mem_cons.mp z).elim e hd
        have h2 : decide (a ∈ D) = false := decide_eq_false hd
        rw [List.filter_cons_of_neg (by rw [h1]; exact Bool.false_ne_true), List.filter_cons_of_neg (by rw [h2]; exact Bool.false_ne_true), ih]
        by_cases h : t ∈ r
        · rw [if_pos h, if_pos (h3.mpr h)]
        · rw [if_neg h, if_neg (fun z => h (h3.mp z))]
/-- how far the sizes are summed up: of the things in D all is said to their holders -/
def SizeTo (hs : Hs) (F : List Int) (D : List Nat) : Prop := F.length = hs.length ∧ ∀ v : Nat, v < hs.length → F.getD v 0 = 1 + sumP hs F D v
theorem sumP_nil (hs : Hs) (F : List Int) (v : Nat) : sumP hs F [] v = 0 := by
  unfold sumP
  have e : ((kids hs v).filter fun c => decide (c ∈ ([] : List Nat))) = [] := by simp
  rw [e]; rfl
theorem getD_set_self {F : List Int} {u : Nat} {x : Int} (h : u < F.length) : (F.set u x).getD u 0 = x := by
  rw [List.getD_eq_getElem?_getD, List.getElem?_set_self h]; rfl
theorem getD_set_ne {F : List Int} {u v : Nat} {x : Int} (h : u ≠ v) : (F.set u x).getD v 0 = F.getD v 0 := by
  rw [List.getD_eq_getElem?_getD, List.getElem?_set_ne h, List.getD_eq_getElem?_getD]
theorem sumP_set {hs : Hs} {F : List Int} {D : List Nat} {u : Nat} {x : Int} (v : Nat) (h : u ∉ D) : sumP hs (F.set u x) D v = sumP hs F D v := by
  unfold sumP
  congr 1
  refine List.map_congr_left fun c hc => ?_
  have h2 := of_decide_eq_true (List.mem_filter.mp hc).2
  exact getD_set_ne fun e => h (e ▸ h2)
theorem SizeTo.skip {hs : Hs} {F : List Int} {D : List Nat} {t : Nat} (h : SizeTo hs F D) (ht : t ∉ D) (e : hs[t]? = some none) : SizeTo hs F (t :: D) := by
  refine ⟨h.1, fun v hv => ?_⟩
  rw [h.2 v hv]
  unfold sumP
  rw [filter_cons_sum _ D t ht _ (nodup_kids hs v), if_neg (fun z => by rw [mem_kids.mp z] at e; cases e)]
  omega
theorem SizeTo.put {hs : Hs} {F : List Int} {D : List Nat} {t u : Nat} (h : SizeTo hs F D) (ht : t ∉ D) (hu : u ∉ D) (hut : u ≠ t) (e : hs[t]? = some (some u)) (hul : u < hs.length) : SizeTo hs (F.set u (F.getD u 0 + F.getD t 0)) (t :: D) := by
  have hlu : u < F.length := by rw [h.1]; exact hul
  have hu2 : u ∉ t :: D := fun z => (List.mem_cons.mp z).elim hut hu
  refine ⟨by rw [List.length_set]; exact h.1, fun v hv => ?_⟩
  rw [sumP_set v hu2]
  have q : sumP hs F (t :: D) v = sumP hs F D v + (if t ∈ kids hs v then F.getD t 0 else 0) := filter_cons_sum _ D t ht _ (nodup_kids hs v)
  rw [q]
  by_cases hvu : v = u
  · subst hvu
    rw [getD_set_self hlu, if_pos (mem_kids.mpr e), h.2 v hv]; omega
  · rw [getD_set_ne (fun z => hvu z.symm), if_neg (fun z => by
      rw [mem_kids.mp z] at e; cases e; exact hvu rfl), h.2 v hv]; omega
theorem SizeTo.all {hs : Hs} {F : List Int} {D : List Nat} (h : SizeTo hs F D) (hD : ∀ v : Nat, v < hs.length → v ∈ D) : SizeOk hs F := by
  refine ⟨h.1, fun v hv => ?_⟩
  rw [h.2 v hv]
  unfold sumP
  rw [List.filter_eq_self.mpr]
  intro c hc
  exact decide_eq_true (hD c (List.getElem?_eq_some_iff.mp (mem_kids.mp hc)).1)
/-- a forest's walk has all things, each behind its holder -/
structure Ord (hs : Hs) (l : List Nat) : Prop where
  nd : l.Nodup
  len : l.length = hs.length
  lt : ∀ v ∈ l, v < hs.length
  mem : ∀ v : Nat, v < hs.length → v ∈ l
  od : ∀ i v u : Nat, l[i]? = some v → hs[v]? = some (some u) → ∃ j : Nat, j < i ∧ l[j]? = some u
theorem WT.ord {hs : Hs} {l : List Nat} (fo : Fo hs) (h : WT hs (roots hs) (Rch hs) l []) : Ord hs l := by
  have nd := h.nd
  rw [List.append_nil] at nd
  have lt : ∀ v ∈ l, v < hs.length := fun v hv => (h.ok v (by rw [List.append_nil]; exact hv)).1
  have mem : ∀ v : Nat, v < hs.length → v ∈ l := fun v hv => h.all_found (fo.all v hv)
  refine ⟨nd, ?_, lt, mem, fun i v u e e2 => ?_⟩
  · have h1 := nodup_len hs.length l nd lt
    have h2 := nodup_sub (List.range hs.length) l List.nodup_range fun v hv => mem v (List.mem_range.mp hv)
    rw [List.length_range] at h2; omega
  · rcases h.od i v e with z | ⟨j, u', hj, e3, e4⟩
    · rw [mem_roots.mp z] at e2; cases e2
    · rw [e2] at e4; cases e4
      exact ⟨j, hj, e3⟩
/-! ### depths -/
def DepthOk (hs : Hs) (F : List Int) : Prop := F.length = hs.length ∧ ∀ v : Nat, v < hs.length → ∀ l, Ups hs v l → F.getD v 0 = (l.length : Int)
def iv (l : List Int) : List V := l.map V.int
theorem iv_get {F : List Int} {v : Nat} (h : v < F.length) : (iv F)[v]? = some (.int (F.getD v 0)) := by
  unfold iv
  rw [List.getElem?_map, List.getElem?_eq_getElem h, List.getD_eq_getElem?_getD, List.getElem?_eq_getElem h]; rfl
theorem iv_rep (x : Int) : ∀ k : Nat, (List.replicate k [V.int x]).flatten = iv (List.replicate k x)
  | 0 => rfl
  | k + 1 => by rw [List.replicate_succ, List.flatten_cons, iv_rep x k]; rfl
theorem iv_set (F : List Int) (u : Nat) (x : Int) : (iv F).set u (.int x) = iv (F.set u x) := by unfold iv; rw [List.map_set]
theorem iv_length (F : List Int) : (iv F).length = F.length := List.length_map _
section
variable {P : Program} {w : World} {K : PySem.W.Frag} {mg : Str → Option Value} {base : Heap} {CF CT : Addr}
abbrev st_above : Stmt := topS 14
abbrev N_above : List Str := ["forest", "thing", "found", "holder"]
theorem sc_above : FnScope N_above ["forest", "thing"] (defScope st_above) := ⟨rfl, rfl, rfl, by decide +kernel, rfl, by decide +kernel, by decide +kernel⟩
theorem ok_above (D : Df K mg "above" st_above ["forest", "thing"]) (B : Bl mg) (Kcheck_forest : Kn P w K mg base (L2.CX P w) 5 "check_forest" st_check_forest ["forest"] (spCheckF CF)) (Kcheck_thing : Kn P w K mg base (L2.CX P w) 5 "check_thing" st_check_thing ["forest", "thing"] (spCheckT CT)) :
    Kn P w K mg base (L2.CX P w) 6 "above" st_above ["forest", "thing"] (spOf2 CF CT fun hs t l => ∃ o, l = nv o ∧ Ups hs t o) := by
  refine D.okX sc_above (fun vs H Q E h => ?_) (fun f cdv A outer s H vs Q E hr h => ?_)
  · obtain ⟨x, y, rfl, _⟩ := h; rfl
  obtain ⟨x, y, rfl, ask, vy, _, q2, q3, q⟩ := h
  refine ⟨_, ((pss_cons (ps_expr (pe_callF Kcheck_forest (hr.mono (by decide)) (passX (takes_of rfl rfl rfl rfl)) (pa_cons (pv 0) pa_nil)))
      (pss_cons (ps_expr (pe_callF Kcheck_thing (hr.mono (by decide)) (passX (takes_of rfl rfl rfl rfl)) (pa_cons (pv 0) (pa_cons (pv 1) pa_nil))))
      (pss_cons (ps_set (i := 2) sc_above.nd rfl (Or.inl rfl) (pe_lst pa_nil))
      (pss_cons (ps_set (i := 3) sc_above.nd rfl (Or.inl rfl) (pe_ix ix_tup (pv 0) (pv 1) (fun _ _ => rfl)))
      (pss_cons (ps_while (passes_of rfl) (pt_cmpR op_notN (pv 3) pe_non (nomark _)) (pss_cons (ps_expr (pe_bm PySem.F.plainAttrs_list PySem.F.slot_list_append PySem.F.type_list_append mt_append (pv 2) (pa_cons (pv 3) pa_nil)))
      (pss_one (ps_set (i := 3) sc_above.nd rfl (Or.inl rfl) (pe_ix ix_tup (pv 0) (pv 3) (fun _ _ => rfl))))))
      (pss_one (ps_ret (pv 2))))))))), ?_⟩
  refine ⟨_, rfl, x, rfl, ask, fun ⟨hs, e, fo⟩ H1 s1 => ?_, q2⟩
  obtain ⟨a, rfl, ha⟩ := tupAt_ref e
  have hl := (ask.items _ e).1
  rw [List.length_map] at hl
  have ha1 := s1 _ _ ha
  refine ⟨_, rfl, _, rfl, a, _, y, rfl, ha1, vy.same s1, fun b => ?_, fun b => ?_⟩
  · rw [List.length_map] at b
    obtain ⟨t, rfl, ht⟩ := isIdx_true b
    obtain ⟨ups, hu⟩ := (fo.all t ht).ups
    refine ⟨by show 0 ≤ sizeLine; decide, fun F hF => ?_⟩
    have hFn : H F = none := s1.free hF
    have s2 : Same H (upd H1 F (.lst [])) := s1.new hF
    have sq : ∀ {H' : Hp}, Same H H' → SqT K H' a (hs.map hv) := fun s' => SqT.of (s' _ _ ha)
    obtain ⟨o, eo⟩ : ∃ o, hs[t]? = some o := ⟨hs[t], List.getElem?_eq_getElem ht⟩
    refine ⟨_, rfl, _, rfl, a, _, _, hv o, rfl, rfl, sq s2, atI_nat (hv_at eo), ?_⟩
    refine ⟨fun m σ H' => ∃ (o : Option Nat) (done rest : List Nat), σ = [some (.ref a), some (.int (t : Int)), some (.ref F), some (hv o)] ∧ Same H H' ∧ H' F = some (.lst (nv done)) ∧ ups = done ++ rest ∧
        ((o = none ∧ rest = []) ∨ ∃ u r', o = some u ∧ rest = u :: r' ∧ Ups hs u r') ∧ m = rest.length, ⟨_, o, [], ups, rfl, s2, upd_same, rfl, ?_, rfl⟩, ?_⟩
    · cases hu with
      | root h => rw [h] at eo; cases eo; exact .inl ⟨rfl, rfl⟩
      | step h r => rw [h] at eo; cases eo; exact .inr ⟨_, _, rfl, rfl, r⟩
    · rintro m σ H' ⟨o, done, rest, rfl, s3, hF3, eu, hor, rfl⟩
      have hlen := hu.len
      refine ⟨_, rfl, rfl, _, rfl, ?_⟩
      rcases hor with ⟨rfl, rfl⟩ | ⟨u, r', rfl, rfl, hur⟩
      · refine iteF ?_
        rw [List.append_nil] at eu
        subst eu
        exact ⟨_, rfl, q hs e fo t rfl ht F _ H' ⟨_, rfl, hu⟩ s3 hFn hF3⟩
      · have hdl : done.length ≤ 1000 := by
          rw [eu, List.length_append] at hlen; omega
        refine iteT ⟨fun σ' H' => ∃ m', m' < (u :: r').length ∧ ∃ (o : Option Nat) (done rest : List Nat), σ' = [some (.ref a), some (.int (t : Int)), some (.ref F), some (hv o)] ∧ Same H H' ∧ H' F = some (.lst (nv done)) ∧ ups = done ++ rest ∧
            ((o = none ∧ rest = []) ∨ ∃ u r', o = some u ∧ rest = u :: r' ∧ Ups hs u r') ∧ m' = rest.length, fun _ _ h => h, ?_⟩
        refine ⟨_, rfl, .inl ⟨rfl, _, SqL.of hF3⟩, _, rfl, F, _, _, rfl, rfl, hF3, by rw [nv_length]; exact szl hdl, ?_⟩
        have s4 : Same H (upd H' F (.lst (nv done ++ [hv (some u)]))) := s3.upd hFn
        have hul := hur.lt
        obtain ⟨o2, eo2⟩ : ∃ o, hs[u]? = some o := ⟨hs[u], List.getElem?_eq_getElem hul⟩
        refine ⟨_, rfl, _, rfl, a, _, _, hv o2, rfl, rfl, sq s4, atI_nat (hv_at eo2), ?_⟩
        refine ⟨r'.length, Nat.lt_succ_self _, o2, done ++ [u], r', rfl, s4, ?_, by rw [eu, List.append_assoc]; rfl, ?_, rfl⟩
        · rw [upd_same, nv_append]; rfl
        · cases hur with
          | root h => rw [h] at eo2; cases eo2; exact .inl ⟨rfl, rfl⟩
          | step h r => rw [h] at eo2; cases eo2; exact .inr ⟨_, _, rfl, rfl, r⟩
  · rw [List.length_map] at b
    exact q3 hs e fo b H1 s1
abbrev st_held_by : Stmt := topS 17
abbrev N_held_by : List Str := ["forest", "thing", "held", "holder"]
theorem sc_held_by : FnScope N_held_by ["forest", "thing"] (defScope st_held_by) := ⟨rfl, rfl, rfl, by decide +kernel, rfl, by decide +kernel, by decide +kernel⟩
theorem ok_held_by (D : Df K mg "held_by" st_held_by ["forest", "thing"]) (B : Bl mg) (Kcheck_forest : Kn P w K mg base (L2.CX P w) 5 "check_forest" st_check_forest ["forest"] (spCheckF CF)) (Kcheck_thing : Kn P w K mg base (L2.CX P w) 5 "check_thing" st_check_thing ["forest", "thing"] (spCheckT CT)) :
    Kn P w K mg base (L2.CX P w) 6 "held_by" st_held_by ["forest", "thing"] (spOf2 CF CT fun hs t l => l = nv (kids hs t)) := by
  refine D.okX sc_held_by (fun vs H Q E h => ?_) (fun f cdv A outer s H vs Q E hr h => ?_)
  · obtain ⟨x, y, rfl, _⟩ := h; rfl
  obtain ⟨x, y, rfl, ask, vy, _, q2, q3, q⟩ := h
  refine ⟨_, ((pss_cons (ps_expr (pe_callF Kcheck_forest (hr.mono (by decide)) (passX (takes_of rfl rfl rfl rfl)) (pa_cons (pv 0) pa_nil)))
      (pss_cons (ps_expr (pe_callF Kcheck_thing (hr.mono (by decide)) (passX (takes_of rfl rfl rfl rfl)) (pa_cons (pv 0) (pa_cons (pv 1) pa_nil))))
      (pss_one (ps_ret (pe_lc (own := [("held", 2), ("holder", 3)]) (g := gTup K 2 (gCons (gName 2) (gCons (gName 3) gNil))) rfl sc_held_by.nd (pi_enumT (by rfl) B.enumerate (pa_cons (pv 0) pa_nil)) (blkOk_by (N := N_held_by) (sc := defScope st_held_by) (own := [("held", 2), ("holder", 3)]) (by decide +kernel)) (fun _ _ _ _ _ => by (refine pg_tup (n := 2) ?hc ?h ?hn ?hst; (case hc => rfl); (case hn => rfl); (case hst => rfl); case h => (refine pgs_cons ?g1 ?g2; (case g1 => exact (pg_name (i := 2) sc_held_by.nd rfl (Or.inl rfl))); case g2 => (refine pgs_cons ?g1 ?g2; (case g1 => exact (pg_name (i := 3) sc_held_by.nd rfl (Or.inl rfl))); case g2 => (exact pgs_nil))))) (fun _ _ _ _ _ => by exact (pts_one (pt_cmpR op_eq (pv 3) (pv 1) (nomark _)))) (fun _ _ _ _ _ => by exact (pv 2)))))))), ?_⟩
  refine ⟨_, rfl, x, rfl, ask, fun ⟨hs, e, fo⟩ H1 s1 => ?_, q2⟩
  obtain ⟨a, rfl, ha⟩ := tupAt_ref e
  have hl := (ask.items _ e).1
  rw [List.length_map] at hl
  have ha1 := s1 _ _ ha
  refine ⟨_, rfl, _, rfl, a, _, y, rfl, ha1, vy.same s1, fun b => ?_, fun b => ?_⟩
  · rw [List.length_map] at b
    obtain ⟨t, rfl, ht⟩ := isIdx_true b
    refine ⟨_, rfl, a, _, rfl, SqT.of ha1, fun L hL => lc_it (walk_enumT (xs := hs.map hv)) (fun i H' => Same H1 H' ∧ H' L = some (.lst (nv (kidsTo hs t i)))) ⟨(Same.refl H1).new hL, upd_same⟩ (fun i H' _ p => p.1.tseq (SqT.of ha1)) ?_ ?_⟩
    · rintro i x H2 H3 hi ⟨s2, hL2⟩ ⟨T, x1, x2, rfl, hT, rfl, e1, e2⟩
      have e1' := Option.some.inj e1; subst e1'
      obtain ⟨o, ho, rfl⟩ := hv_get e2
      have hLT : L ≠ T := ne_of_none hL2 hT
      have s3 : Same H1 (upd H2 T (.tup [.int (i : Int), hv o])) := s2.new hT
      have hL3 : upd H2 T (.tup [.int (i : Int), hv o]) L = some (.lst (nv (kidsTo hs t i))) := by rw [upd_ne hLT]; exact hL2
      have hil : i < hs.length := (List.getElem?_eq_some_iff.mp ho).1
      have hk := kidsTo_len hs t i
      have sc : scal (hv o) (.int (t : Int)) = true := by cases o <;> rfl
      refine ⟨T, _, rfl, SqT.of upd_same, rfl, _, _, rfl, _, _, rfl, rfl, rfl, _, rfl, _, rfl, sc, _, rfl, ?_⟩
      refine ite2 (fun c => ?_) (fun c => ?_)
      · have eo : o = some t := by
          have z := of_decide_eq_true c
          cases o with
          | none => cases z
          | some u =>
            have z2 := V.int.inj z
            congr 1; omega
        refine ⟨_, rfl, _, hL3, by rw [nv_length]; exact szl (by omega), s3.upd hL, ?_⟩
        rw [upd_same, kidsTo_succ, ho, eo, if_pos rfl, nv_append]; rfl
      · have eo : ¬ some o = some (some t) := by intro z; cases z; exact c (decide_eq_true rfl)
        refine ⟨s3, ?_⟩
        rw [hL3, kidsTo_succ, ho, if_neg eo, List.append_nil]
    · rintro H2 ⟨s2, hL2⟩
      rw [List.length_map] at hL2
      exact q hs e fo t rfl ht L _ H2 rfl (s1.trans s2) (s1.free hL) hL2
  · rw [List.length_map] at b
    exact q3 hs e fo b H1 s1
abbrev st_below : Stmt := topS 15
abbrev N_below : List Str := ["forest", "thing", "held"]
theorem sc_below : FnScope N_below ["forest", "thing"] (defScope st_below) := ⟨rfl, rfl, rfl, by decide +kernel, rfl, by decide +kernel, by decide +kernel⟩
theorem ok_below (D : Df K mg "below" st_below ["forest", "thing"]) (B : Bl mg) (Kcheck_forest : Kn P w K mg base (L2.CX P w) 5 "check_forest" st_check_forest ["forest"] (spCheckF CF)) (Kcheck_thing : Kn P w K mg base (L2.CX P w) 5 "check_thing" st_check_thing ["forest", "thing"] (spCheckT CT))
    (K_held_lists : Kn P w K mg base CX0 1 "_held_lists" st__held_lists ["forest"] (spHeld K)) (K_walk_through : Kn P w K mg base CX0 1 "_walk_through" st__walk_through ["held", "starts"] (spWalkT K)) :
    Kn P w K mg base (L2.CX P w) 6 "below" st_below ["forest", "thing"] (spOf2 CF CT fun hs t l => ∃ ns : List Int, l = iv ns ∧ ns.Pairwise (· ≤ ·) ∧ ∃ o : List Nat, ns.Perm (o.map fun v : Nat => (v : Int)) ∧ o.Nodup ∧ ∀ v, v ∈ o ↔ Blw hs t v) := by
  refine D.okX sc_below (fun vs H Q E h => ?_) (fun f cdv A outer s H vs Q E hr h => ?_)
  · obtain ⟨x, y, rfl, _⟩ := h; rfl
  obtain ⟨x, y, rfl, ask, vy, q1, q2, q3, q⟩ := h
  refine ⟨_, ((pss_cons (ps_expr (pe_callF Kcheck_forest (hr.mono (by decide)) (passX (takes_of rfl rfl rfl rfl)) (pa_cons (pv 0) pa_nil)))
      (pss_cons (ps_expr (pe_callF Kcheck_thing (hr.mono (by decide)) (passX (takes_of rfl rfl rfl rfl)) (pa_cons (pv 0) (pa_cons (pv 1) pa_nil))))
      (pss_cons (ps_set (i := 2) sc_below.nd rfl (Or.inl rfl) (pe_callF K_held_lists (hr.mono (by decide)) pass0 (pa_cons (pv 0) pa_nil)))
      (pss_one (ps_ret (pe_callB cr_sorted (by rfl) B.sorted (by decide +kernel) (pa_cons (pe_callF K_walk_through (hr.mono (by decide)) pass0 (pa_cons (pv 2) (pa_cons (pe_ix ix_list (pv 2) (pv 1) (fun _ _ => rfl)) pa_nil))) pa_nil)))))))), ?_⟩
  refine ⟨_, rfl, x, rfl, ask, fun ⟨hs, e, fo⟩ H1 s1 => ?_, q2⟩
  obtain ⟨a, rfl, ha⟩ := tupAt_ref e
  have hl := (ask.items _ e).1
  rw [List.length_map] at hl
  have ha1 := s1 _ _ ha
  have hl60 := q1 hs e
  refine ⟨_, rfl, _, rfl, a, _, y, rfl, ha1, vy.same s1, fun b => ?_, fun b => ?_⟩
  · rw [List.length_map] at b
    obtain ⟨t, rfl, ht⟩ := isIdx_true b
    refine ⟨_, rfl, a, hs, rfl, SqT.of ha1, hl, fo.inb, fun p as H2 s2 hp hpc hA => ?_⟩
    obtain ⟨c, hc⟩ : ∃ c, as[t]? = some c := ⟨as[t]'(by rw [hA.len]; exact ht), List.getElem?_eq_getElem _⟩
    have hc2 : (as.map V.ref)[t]? = some (.ref c) := by rw [List.getElem?_map, hc]; rfl
    refine ⟨_, rfl, _, rfl, _, rfl, p, _, _, _, rfl, rfl, SqL.of hA.lst, atI_nat hc2, p, c, as, hs, kids hs t, Blw hs t, rfl, hA, SqL.of (hA.at_ t c hc), hl, starts_kids (fo.all t ht), fun r l H3 s3 hr3 hl3 hwt => ?_⟩
    have hll := hwt.lens
    rw [List.length_nil] at hll
    have el : nv l = iv (l.map fun v : Nat => (v : Int)) := by unfold nv iv; rw [List.map_map]; rfl
    refine ⟨r, l.map (fun v : Nat => (v : Int)), rfl, SqL.of (by rw [hl3, el]; rfl), by rw [List.length_map]; omega, fun ns p2 hperm hpw hp2 => ?_⟩
    have nd := hwt.nd
    rw [List.append_nil] at nd
    have s13 := (s1.trans s2).trans s3
    exact q hs e fo t rfl ht p2 _ _ ⟨ns, rfl, hpw, l, hperm, nd, hwt.blw⟩ (s13.new hp2) (s13.free hp2) upd_same
  · rw [List.length_map] at b
    exact q3 hs e fo b H1 s1
end

end My

namespace My
open PySem PySem.Spec PyProof.Rows L2
theorem sizeTo_start (hs : Hs) : SizeTo hs (List.replicate hs.length 1) [] := by
  refine ⟨List.length_replicate, fun v hv => ?_⟩
  rw [sumP_nil, List.getD_eq_getElem?_getD, List.getElem?_replicate, if_pos hv]; rfl
theorem drop_back {l : List Nat} {i t : Nat} (hi : i < l.length) (h : l[l.length - 1 - i]? = some t) : l.drop (l.length - (i + 1)) = t :: l.drop (l.length - i) := by
  have e : l.length - (i + 1) = l.length - 1 - i := by omega
  have e2 : l.length - i = l.length - 1 - i + 1 := by omega
  have hlt : l.length - 1 - i < l.length := by omega
  rw [e, e2, List.drop_eq_getElem_cons hlt]
  rw [List.getElem?_eq_getElem hlt] at h
  rw [Option.some.inj h]
theorem nv_at {l : List Nat} {i : Nat} {x : V} (h : (nv l)[i]? = some x) : ∃ t : Nat, l[i]? = some t ∧ x = .int (t : Int) := by
  unfold nv at h
  rw [List.getElem?_map] at h
  cases e : l[i]? with
  | none => rw [e] at h; cases h
  | some t => rw [e] at h; exact ⟨t, rfl, (Option.some.inj h).symm⟩
theorem not_mem_drop {l : List Nat} (nd : l.Nodup) {i j v : Nat} (h : l[i]? = some v) (hij : i < j) : v ∉ l.drop j := fun z => by
  obtain ⟨k, hk⟩ := List.getElem?_of_mem z
  rw [List.getElem?_drop] at hk
  have e := nodup_at nd h hk
  omega
section
variable {P : Program} {w : World} {K : PySem.W.Frag} {mg : Str → Option Value} {base : Heap} {CF CT : Addr}
abbrev st_sizes : Stmt := topS 12
abbrev N_sizes : List Str := ["forest", "order", "found", "thing", "holder"]
theorem sc_sizes : FnScope N_sizes ["forest"] (defScope st_sizes) := ⟨rfl, rfl, rfl, by decide +kernel, rfl, by decide +kernel, by decide +kernel⟩
theorem ok_sizes (D : Df K mg "sizes" st_sizes ["forest"]) (B : Bl mg) (Kwalk : Kn P w K mg base (L2.CX P w) 6 "walk" st_walk ["forest"] (spOf CF fun hs l => ∃ o, l = nv o ∧ WT hs (roots hs) (Rch hs) o [])) :
    Kn P w K mg base (L2.CX P w) 7 "sizes" st_sizes ["forest"] (spOf CF fun hs l => ∃ F, l = iv F ∧ SizeOk hs F) := by
  refine D.okX sc_sizes (fun vs H Q E h => ?_) (fun f cdv A outer s H vs Q E hr h => ?_)
  · obtain ⟨x, rfl, _⟩ := h; rfl
  obtain ⟨x, rfl, ask, q1, q2, q⟩ := h
  refine ⟨_, ((pss_cons (ps_set (i := 1) sc_sizes.nd rfl (Or.inl rfl) (pe_callF Kwalk (hr.mono (by decide)) (passX (takes_of rfl rfl rfl rfl)) (pa_cons (pv 0) pa_nil)))
      (pss_cons (ps_set (i := 2) sc_sizes.nd rfl (Or.inl rfl) (pe_op op_rep (pe_lst (pa_cons pe_int pa_nil)) (pe_callB call_len (by rfl) B.len (by decide +kernel) (pa_cons (pv 1) pa_nil))))
      (pss_cons (ps_for (passes_of rfl) rfl (pi_reversed (by rfl) B.reversed (pa_cons (pv 1) pa_nil)) (pg_name (i := 3) sc_sizes.nd rfl (Or.inl rfl)) (pss_cons (ps_set (i := 4) sc_sizes.nd rfl (Or.inl rfl) (pe_ix ix_tup (pv 0) (pv 3) (fun _ _ => rfl)))
      (pss_one (ps_if (pt_cmpR op_notN (pv 4) pe_non (nomark _)) (pss_one (ps_asg (pe_op op_add (pe_ix ix_list (pv 2) (pv 4) (fun _ _ => rfl)) (pe_ix ix_list (pv 2) (pv 3) (fun _ _ => rfl))) (pg_sub (pv 2) (pv 4) set_list))) pss_nil))))
      (pss_one (ps_ret (pv 2))))))), ?_⟩
  refine ⟨_, rfl, x, rfl, ask, q1, q2, fun hs e fo r l H1 ⟨o, eo, hwt⟩ s1 hrn hr1 => ?_⟩
  subst eo
  obtain ⟨a, rfl, ha⟩ := tupAt_ref e
  have hl := q1 hs e
  have O := hwt.ord fo
  have p63 : (2 : Int) ^ 63 = 9223372036854775808 := by decide
  refine ⟨by show 1 ≤ sizeLine; decide, fun X hX => ⟨_, rfl, _, _, rfl, .inl ⟨nv o, SqL.of (by rw [upd_ne (ne_of_none hr1 hX)]; exact hr1), rfl⟩, X, _, _, rfl, rfl, upd_same, by omega, by rw [nv_length, O.len]; omega, ?_, fun F hF => ?_⟩⟩
  · show 1 * ((nv o).length : Int).toNat ≤ sizeLine
    rw [nv_length, O.len]
    exact Nat.le_of_lt (szl (by omega))
  have hXn : H X = none := s1.free hX
  have s2 : Same H (upd H1 X (.lst [.int 1])) := s1.new hX
  have hFn : H F = none := s2.free hF
  have hr2 : upd (upd H1 X (.lst [.int 1])) F (.lst (List.replicate ((nv o).length : Int).toNat [V.int 1]).flatten) r = some (.lst (nv o)) := by
    have z : upd H1 X (.lst [.int 1]) r = some (.lst (nv o)) := by rw [upd_ne (ne_of_none hr1 hX)]; exact hr1
    rw [upd_ne (ne_of_none z hF)]; exact z
  have hrF : r ≠ F := by
    intro z
    rw [z] at hr2
    have w2 : upd H1 X (.lst [.int 1]) r = some (.lst (nv o)) := by rw [upd_ne (ne_of_none hr1 hX)]; exact hr1
    rw [z, hF] at w2; cases w2
  refine ⟨_, rfl, r, _, rfl, SqL.of hr2, for_it (walk_rev (xs := nv o)) (fun i σ H' => ∃ v3 v4, σ = [some (.ref a), some (.ref r), some (.ref F), v3, v4] ∧ Same H H' ∧ H' r = some (.lst (nv o)) ∧ ∃ Fl, SizeTo hs Fl (o.drop (o.length - i)) ∧ H' F = some (.lst (iv Fl)))
    ⟨none, none, rfl, s2.upd hFn, hr2, List.replicate hs.length 1, ?_, ?_⟩ (fun i σ H' _ p => by obtain ⟨_, _, _, _, p, _⟩ := p; exact SqL.of p) ?_ ?_⟩
  · rw [Nat.sub_zero, List.drop_length]; exact sizeTo_start hs
  · rw [upd_same, iv_rep, nv_length, O.len]
    have z : ((hs.length : Int)).toNat = hs.length := by omega
    rw [z]
  · rintro i x σ H2 H3 hi ⟨v3, v4, rfl, s3, hr3, Fl, hto, hF3⟩ ⟨rfl, e1⟩
    rw [nv_length] at hi e1
    obtain ⟨t, et, rfl⟩ := nv_at e1
    have htl : t < hs.length := O.lt t (List.mem_of_getElem? et)
    obtain ⟨ho, eho⟩ : ∃ o, hs[t]? = some o := ⟨hs[t], List.getElem?_eq_getElem htl⟩
    have sq : SqT K H3 a (hs.map hv) := SqT.of (s3 _ _ ha)
    have hdr := drop_back hi et
    have htD : t ∉ o.drop (o.length - i) := not_mem_drop O.nd et (by omega)
    refine ⟨_, rfl, _, rfl, a, _, _, _, rfl, rfl, sq, atI_nat (hv_at eho), _, rfl, rfl, _, rfl, ?_⟩
    cases ho with
    | none => exact iteF ⟨_, _, rfl, s3, hr3, Fl, by rw [hdr]; exact hto.skip htD eho, hF3⟩
    | some u =>
      obtain ⟨j, hj, ej⟩ := O.od _ t u et eho
      have hul : u < hs.length := O.lt u (List.mem_of_getElem? ej)
      have huD : u ∉ o.drop (o.length - i) := not_mem_drop O.nd ej (by omega)
      have hut : u ≠ t := fun z => by
        rw [z] at ej
        have z2 := nodup_at O.nd ej et
        omega
      have lF := hto.1
      refine iteT ⟨_, rfl, _, rfl, F, _, _, _, rfl, rfl, SqL.of hF3, atI_nat (iv_get (by omega)), _, rfl, _, rfl, F, _, _, _, rfl, rfl, SqL.of hF3, atI_nat (iv_get (by omega)), _, _, rfl, rfl, ?_⟩
      refine ⟨_, rfl, _, rfl, F, _, _, u, rfl, rfl, hF3, by rw [iv_length]; exact ixN_nat (by omega), ?_⟩
      refine ⟨_, _, rfl, s3.upd hFn, by rw [upd_ne hrF]; exact hr3, _, by rw [hdr]; exact hto.put htD huD hut eho hul, by rw [upd_same, iv_set]⟩
  · rintro σ H2 ⟨v3, v4, rfl, s3, hr3, Fl, hto, hF3⟩
    rw [nv_length, Nat.sub_self, List.drop_zero] at hto
    exact ⟨_, rfl, q hs e fo F _ H2 ⟨Fl, rfl, hto.all O.mem⟩ s3 hFn hF3⟩
abbrev st_depths : Stmt := topS 13
abbrev N_depths : List Str := ["forest", "order", "found", "thing", "holder"]
theorem sc_depths : FnScope N_depths ["forest"] (defScope st_depths) := ⟨rfl, rfl, rfl, by decide +kernel, rfl, by decide +kernel, by decide +kernel⟩
theorem ok_depths (D : Df K mg "depths" st_depths ["forest"]) (B : Bl mg) (Kwalk : Kn P w K mg base (L2.CX P w) 6 "walk" st_walk ["forest"] (spOf CF fun hs l => ∃ o, l = nv o ∧ WT hs (roots hs) (Rch hs) o [])) :
    Kn P w K mg base (L2.CX P w) 7 "depths" st_depths ["forest"] (spOf CF fun hs l => ∃ F, l = iv F ∧ DepthOk hs F) := by
  refine D.okX sc_depths (fun vs H Q E h => ?_) (fun f cdv A outer s H vs Q E hr h => ?_)
  · obtain ⟨x, rfl, _⟩ := h; rfl
  obtain ⟨x, rfl, ask, q1, q2, q⟩ := h
  refine ⟨_, ((pss_cons (ps_set (i := 1) sc_depths.nd rfl (Or.inl rfl) (pe_callF Kwalk (hr.mono (by decide)) (passX (takes_of rfl rfl rfl rfl)) (pa_cons (pv 0) pa_nil)))
      (pss_cons (ps_set (i := 2) sc_depths.nd rfl (Or.inl rfl) (pe_op op_rep (pe_lst (pa_cons pe_int pa_nil)) (pe_callB call_len (by rfl) B.len (by decide +kernel) (pa_cons (pv 1) pa_nil))))
      (pss_cons (ps_for (passes_of rfl) rfl (pi_list (pv 1)) (pg_name (i := 3) sc_depths.nd rfl (Or.inl rfl)) (pss_cons (ps_set (i := 4) sc_depths.nd rfl (Or.inl rfl) (pe_ix ix_tup (pv 0) (pv 3) (fun _ _ => rfl)))
      (pss_one (ps_if (pt_cmpR op_notN (pv 4) pe_non (nomark _)) (pss_one (ps_asg (pe_op op_add (pe_ix ix_list (pv 2) (pv 4) (fun _ _ => rfl)) pe_int) (pg_sub (pv 2) (pv 3) set_list))) pss_nil))))
      (pss_one (ps_ret (pv 2))))))), ?_⟩
  refine ⟨_, rfl, x, rfl, ask, q1, q2, fun hs e fo r l H1 ⟨o, eo, hwt⟩ s1 hrn hr1 => ?_⟩
  subst eo
  obtain ⟨a, rfl, ha⟩ := tupAt_ref e
  have hl := q1 hs e
  have O := hwt.ord fo
  have p63 : (2 : Int) ^ 63 = 9223372036854775808 := by decide
  refine ⟨by show 1 ≤ sizeLine; decide, fun X hX => ⟨_, rfl, _, _, rfl, .inl ⟨nv o, SqL.of (by rw [upd_ne (ne_of_none hr1 hX)]; exact hr1), rfl⟩, X, _, _, rfl, rfl, upd_same, by omega, by rw [nv_length, O.len]; omega, ?_, fun F hF => ?_⟩⟩
  · show 1 * ((nv o).length : Int).toNat ≤ sizeLine
    rw [nv_length, O.len]
    exact Nat.le_of_lt (szl (by omega))
  have s2 : Same H (upd H1 X (.lst [.int 0])) := s1.new hX
  have hFn : H F = none := s2.free hF
  have hrX : upd H1 X (.lst [.int 0]) r = some (.lst (nv o)) := by rw [upd_ne (ne_of_none hr1 hX)]; exact hr1
  have hrF : r ≠ F := ne_of_none hrX hF
  refine ⟨_, rfl, r, rfl, ⟨_, SqL.of (by rw [upd_ne hrF]; exact hrX)⟩, for_it (walk_list (xs := nv o)) (fun i σ H' => ∃ v3 v4, σ = [some (.ref a), some (.ref r), some (.ref F), v3, v4] ∧ Same H H' ∧ H' r = some (.lst (nv o)) ∧
      ∃ Fl : List Int, Fl.length = hs.length ∧ (∀ (j v : Nat) l, j < i → o[j]? = some v → Ups hs v l → Fl.getD v 0 = (l.length : Int)) ∧ (∀ (j v : Nat), i ≤ j → o[j]? = some v → Fl.getD v 0 = 0) ∧ H' F = some (.lst (iv Fl)))
    ⟨none, none, rfl, s2.upd hFn, by rw [upd_ne hrF]; exact hrX, List.replicate hs.length 0, List.length_replicate, fun j v l hj => absurd hj (Nat.not_lt_zero j), fun j v _ e => ?_, ?_⟩ (fun i σ H' _ p => by obtain ⟨_, _, _, _, p, _⟩ := p; exact SqL.of p) ?_ ?_⟩
  · rw [List.getD_eq_getElem?_getD, List.getElem?_replicate, if_pos (O.lt v (List.mem_of_getElem? e))]; rfl
  · rw [upd_same, iv_rep, nv_length, O.len]
    have z : ((hs.length : Int)).toNat = hs.length := by omega
    rw [z]
  · rintro i x σ H2 H3 hi ⟨v3, v4, rfl, s3, hr3, Fl, lF, hd, hz, hF3⟩ ⟨rfl, e1⟩
    obtain ⟨t, et, rfl⟩ := nv_at e1
    have htl : t < hs.length := O.lt t (List.mem_of_getElem? et)
    obtain ⟨ho, eho⟩ : ∃ o, hs[t]? = some o := ⟨hs[t], List.getElem?_eq_getElem htl⟩
    have sq : SqT K H3 a (hs.map hv) := SqT.of (s3 _ _ ha)
    refine ⟨_, rfl, _, rfl, a, _, _, _, rfl, rfl, sq, atI_nat (hv_at eho), _, rfl, rfl, _, rfl, ?_⟩
    cases ho with
    | none =>
      refine iteF ⟨_, _, rfl, s3, hr3, Fl, lF, fun j v l hj e2 hu => ?_, fun j v hj e2 => hz j v (by omega) e2, hF3⟩
      by_cases hji : j = i
      · subst hji
        have z := Option.some.inj (e2.symm.trans et)
        subst z
        cases hu with
        | root _ => exact hz j v (Nat.le_refl _) e2
        | step h2 _ => rw [eho] at h2; cases h2
      · exact hd j v l (by omega) e2 hu
    | some u =>
      obtain ⟨j, hj, ej⟩ := O.od i t u et eho
      have hul : u < hs.length := O.lt u (List.mem_of_getElem? ej)
      have lt' : t < Fl.length := by omega
      refine iteT ⟨_, rfl, _, rfl, F, _, _, _, rfl, rfl, SqL.of hF3, atI_nat (iv_get (by omega)), _, _, rfl, rfl, ?_⟩
      refine ⟨_, rfl, _, rfl, F, _, _, t, rfl, rfl, hF3, by rw [iv_length]; exact ixN_nat lt', ?_⟩
      refine ⟨_, _, rfl, s3.upd hFn, by rw [upd_ne hrF]; exact hr3, Fl.set t (Fl.getD u 0 + 1), by rw [List.length_set]; exact lF, fun j' v l hj' e2 hu => ?_, fun j' v hj' e2 => ?_, by rw [upd_same, iv_set]⟩
      · by_cases hji : j' = i
        · subst hji
          have z := Option.some.inj (e2.symm.trans et)
          subst z
          rw [getD_set_self lt']
          cases hu with
          | root h2 => rw [eho] at h2; cases h2
          | step h2 r2 =>
            rw [eho] at h2; cases h2
            rw [hd j u _ hj ej r2, List.length_cons]; omega
        · have hne : t ≠ v := fun z => hji (nodup_at O.nd e2 (by rw [← z]; exact et))
          rw [getD_set_ne hne]
          exact hd j' v l (by omega) e2 hu
      · have hne : t ≠ v := fun z => by
          have z2 := nodup_at O.nd e2 (by rw [← z]; exact et)
          omega
        rw [getD_set_ne hne]
        exact hz j' v (by omega) e2
  · rintro σ H2 ⟨v3, v4, rfl, s3, hr3, Fl, lF, hd, hz, hF3⟩
    rw [nv_length] at hd
    refine ⟨_, rfl, q hs e fo F _ H2 ⟨Fl, rfl, lF, fun v hv l hu => ?_⟩ s3 hFn hF3⟩
    obtain ⟨j, ej⟩ := List.getElem?_of_mem (O.mem v hv)
    exact hd j v l (List.getElem?_eq_some_iff.mp ej).1 ej hu
end

end My

namespace My
open PySem PySem.Spec PyProof.Rows L2
/-! ### the law's own defs -/
def rIsEG (K : PySem.W.Frag) (a : Addr) (cls : Value) (d : Option Addr) : List V → Hp → VK → Prop := fun xs H Q => ∃ D, cls = .ref D ∧ d = none ∧ ExcC K D ∧ rIsE K D a xs H Q
theorem call_isEG {X : Cx} {a : Addr} {oe : Obj} {cls : Value} {d : Option Addr} {pn : List (Addr × Obj)} (hz : Zc cls d oe) (hf : ∃ vs, oe.data = .fields vs) : CallR (X.suite a ((a, oe) :: pn)) (.builtin "isinstance") (rIsEG X.K a cls d) := by
  intro pins s σ H xs us Q I r ⟨D, e1, e2, C, h⟩
  subst e1 e2
  exact call_isE C hz hf pins s σ H xs us Q I r h
theorem cut_skip {t u : TS} {D : Ends} {σ : L2.St} {H : Hp} (h : t { D with nx := fun σ' H' => σ' = σ ∧ H' = H } σ H) (k : u D σ H) : C8.tCut t u D σ H := ⟨_, h, by rintro _ _ ⟨rfl, rfl⟩; exact k⟩
/-- what is due: the forest's error, the thing's, or none -/
structure Due (CF CT : Addr) (H : Hp) (way : Int) (x y : V) (F T N : Prop) : Prop where
  f : ¬ IsF H x → F
  t : ∀ hs : Hs, tupAt H x = some (hs.map hv) → Fo hs → 3 < way → isIdx (hs.length : Int) y = false → T
  n : ∀ hs : Hs, tupAt H x = some (hs.map hv) → Fo hs → (way ≤ 3 ∨ isIdx (hs.length : Int) y = true) → N
def spCalled (CF CT : Addr) : Sp := fun vs H Q E => ∃ (way : Int) (x y : V), vs = [.int way, x, y] ∧ 0 ≤ way ∧ way < 7 ∧ Askd H x ∧ Vd H y ∧ (∀ hs : Hs, tupAt H x = some (hs.map hv) → hs.length ≤ 60) ∧
  Due CF CT H way x y (∀ H', Same H H' → E (.ref CF) none H') (∀ H', Same H H' → E (.ref CT) none H') (∀ H', Same H H' → Q .non H')
def spTold (CF CT : Addr) : Sp := fun vs H Q E => ∃ (way : Int) (x y : V), vs = [.int way, x, y] ∧ 0 ≤ way ∧ way < 7 ∧ Askd H x ∧ Vd H y ∧ (∀ hs : Hs, tupAt H x = some (hs.map hv) → hs.length ≤ 60) ∧
  Due CF CT H way x y (∀ H', Same H H' → Q (.str "forest") H') (∀ H', Same H H' → Q (.str "thing") H') (∀ H', Same H H' → Q (.str "none") H')
section
variable {P : Program} {w : World} {K : PySem.W.Frag} {mg : Str → Option Value} {base : Heap} {CF CT CH : Addr}
abbrev st__law_called : Stmt := topS 26
abbrev N__law_called : List Str := ["way", "a", "b"]
theorem sc__law_called : FnScope N__law_called ["way", "a", "b"] (defScope st__law_called) := ⟨rfl, rfl, rfl, by decide +kernel, rfl, by decide +kernel, by decide +kernel⟩
theorem kb_depths_forest : KwB "depths" st_depths ["forest"] ["forest"] (fun us ws => us ++ ws) (fun us ws => us ++ ws) :=
  ⟨fun _ _ _ _ _ _ us ws hl => match us, ws, hl with | [], [_], _ => rfl | [_], [], _ => rfl, fun a b => a.append b⟩
theorem kb_walk_forest : KwB "walk" st_walk ["forest"] ["forest"] (fun us ws => us ++ ws) (fun us ws => us ++ ws) :=
  ⟨fun _ _ _ _ _ _ us ws hl => match us, ws, hl with | [], [_], _ => rfl | [_], [], _ => rfl, fun a b => a.append b⟩
theorem idx_ok {n t : Nat} {y : V} (et : y = .int (t : Int)) (ht : t < n) : isIdx (n : Int) y = true := by
  rw [et]
  show (decide (0 ≤ (t : Int)) && decide ((t : Int) < (n : Int))) = true
  rw [Bool.and_eq_true, decide_eq_true_eq, decide_eq_true_eq]
  omega
theorem two_kw {kV doc pm : Value} {an : Option Addr} {cdv ct : Value} (us ws : List Value) (hl : us.length + ws.length = 2) : bindArgs (PySem.W.fnOf "below" "below" (defArgs st_below) (defBody st_below) (defScope st_below) .none kV doc pm an cdv ct) ⟨us, (["thing", "forest"] : List Str).zip ws⟩ = pure ((["forest", "thing"] : List Str).zip (us ++ ws.reverse)) := by
  rcases us with _ | ⟨u1, _ | ⟨u2, us⟩⟩
  · have h : ws.length = 2 := by rw [List.length_nil] at hl; omega
    exact match ws, h with | [_, _], _ => rfl
  · have h : ws.length = 1 := by rw [List.length_cons, List.length_nil] at hl; omega
    exact match ws, h with | [_], _ => rfl
  · rw [List.length_cons, List.length_cons] at hl
    have h : ws.length = 0 := by omega
    have h2 : us.length = 0 := by omega
    exact match us, ws, h2, h with | [], [], _, _ => rfl
theorem kb_below_thing_forest : KwB "below" st_below ["forest", "thing"] ["thing", "forest"] (fun us ws => us ++ ws.reverse) (fun us ws => us ++ ws.reverse) :=
  ⟨fun _ _ _ _ _ _ us ws hl => by
    exact two_kw us ws (by rw [List.length_append, List.length_reverse] at hl; exact hl), fun a b => a.append b.reverse⟩
abbrev RL : Hs → List V → Prop := fun hs l => True
theorem ok__law_called (D : Df K mg "_law_called" st__law_called ["way", "a", "b"]) (B : Bl mg)
    (Ksizes : Kn P w K mg base (L2.CX P w) 7 "sizes" st_sizes ["forest"] (spOf CF fun hs l => ∃ F, l = iv F ∧ SizeOk hs F))
    (Kdepths : Kn P w K mg base (L2.CX P w) 7 "depths" st_depths ["forest"] (spOf CF fun hs l => ∃ F, l = iv F ∧ DepthOk hs F))
    (Kfirsts : Kn P w K mg base (L2.CX P w) 6 "firsts" st_firsts ["forest"] (spOf CF fun hs l => l = nv (roots hs)))
    (Kwalk : Kn P w K mg base (L2.CX P w) 6 "walk" st_walk ["forest"] (spOf CF fun hs l => ∃ o, l = nv o ∧ WT hs (roots hs) (Rch hs) o []))
    (Kabove : Kn P w K mg base (L2.CX P w) 6 "above" st_above ["forest", "thing"] (spOf2 CF CT fun hs t l => ∃ o, l = nv o ∧ Ups hs t o))
    (Kbelow : Kn P w K mg base (L2.CX P w) 6 "below" st_below ["forest", "thing"] (spOf2 CF CT fun hs t l => ∃ ns : List Int, l = iv ns ∧ ns.Pairwise (· ≤ ·) ∧ ∃ o : List Nat, ns.Perm (o.map fun v : Nat => (v : Int)) ∧ o.Nodup ∧ ∀ v, v ∈ o ↔ Blw hs t v))
    (Kheld_by : Kn P w K mg base (L2.CX P w) 6 "held_by" st_held_by ["forest", "thing"] (spOf2 CF CT fun hs t l => l = nv (kids hs t))) :
    Kn P w K mg base (L2.CX P w) 8 "_law_called" st__law_called ["way", "a", "b"] (spCalled CF CT) := by
  refine D.okX sc__law_called (fun vs H Q E h => ?_) (fun f cdv A outer s H vs Q E hr h => ?_)
  · obtain ⟨way, x, y, rfl, _⟩ := h; rfl
  obtain ⟨way, x, y, rfl, hw0, hw7, ask, vy, q1, due⟩ := h
  refine ⟨_, ((C8.pss_cut (ps_if (pt_cmpR op_eq (pv 0) pe_int (nomark _)) (pss_one (ps_expr (pe_callF Ksizes (hr.mono (by decide)) (passX (takes_of rfl rfl rfl rfl)) (pa_cons (pv 1) pa_nil)))) pss_nil)
      (C8.pss_cut (ps_if (pt_cmpR op_eq (pv 0) pe_int (nomark _)) (pss_one (ps_expr (pe_callFK0 Kdepths (hr.mono (by decide)) kb_depths_forest (passX (takes_of rfl rfl rfl rfl)) (pk_cons (pv 1) pk_nil)))) pss_nil)
      (C8.pss_cut (ps_if (pt_cmpR op_eq (pv 0) pe_int (nomark _)) (pss_one (ps_expr (pe_callF Kfirsts (hr.mono (by decide)) (passX (takes_of rfl rfl rfl rfl)) (pa_cons (pv 1) pa_nil)))) pss_nil)
      (C8.pss_cut (ps_if (pt_cmpR op_eq (pv 0) pe_int (nomark _)) (pss_one (ps_expr (pe_callFK0 Kwalk (hr.mono (by decide)) kb_walk_forest (passX (takes_of rfl rfl rfl rfl)) (pk_cons (pv 1) pk_nil)))) pss_nil)
      (C8.pss_cut (ps_if (pt_cmpR op_eq (pv 0) pe_int (nomark _)) (pss_one (ps_expr (pe_callF Kabove (hr.mono (by decide)) (passX (takes_of rfl rfl rfl rfl)) (pa_cons (pv 1) (pa_cons (pv 2) pa_nil))))) pss_nil)
      (C8.pss_cut (ps_if (pt_cmpR op_eq (pv 0) pe_int (nomark _)) (pss_one (ps_expr (pe_callFK0 Kbelow (hr.mono (by decide)) kb_below_thing_forest (passX (takes_of rfl rfl rfl rfl)) (pk_cons (pv 2) (pk_cons (pv 1) pk_nil))))) pss_nil)
      (pss_one (ps_if (pt_cmpR op_eq (pv 0) pe_int (nomark _)) (pss_one (ps_expr (pe_callF Kheld_by (hr.mono (by decide)) (passX (takes_of rfl rfl rfl rfl)) (pa_cons (pv 1) (pa_cons (pv 2) pa_nil))))) pss_nil))))))))), ?_⟩
  have hc : way = 0 ∨ way = 1 ∨ way = 2 ∨ way = 3 ∨ way = 4 ∨ way = 5 ∨ way = 6 := by omega
  rcases hc with rfl | rfl | rfl | rfl | rfl | rfl | rfl
  · repeat (refine cut_skip ⟨_, rfl, rfl, _, rfl, iteF ⟨rfl, rfl⟩⟩ ?_)
    refine ⟨fun σ' H' => σ' = [some (.int 0), some x, some y] ∧ Same H H' ∧ (∀ H'', Same H H'' → Q .non H''), ⟨_, rfl, rfl, _, rfl, iteT ⟨_, rfl, x, rfl, ask, q1, due.f, fun hs e fo r l H' _ s' _ _ => ⟨rfl, s', due.n hs e fo (.inl (by decide))⟩⟩⟩, ?_⟩
    rintro _ H1 ⟨rfl, s1, qn⟩
    repeat (refine cut_skip ⟨_, rfl, rfl, _, rfl, iteF ⟨rfl, rfl⟩⟩ ?_)
    exact ⟨_, rfl, rfl, _, rfl, iteF (qn H1 s1)⟩
  · repeat (refine cut_skip ⟨_, rfl, rfl, _, rfl, iteF ⟨rfl, rfl⟩⟩ ?_)
    refine ⟨fun σ' H' => σ' = [some (.int 1), some x, some y] ∧ Same H H' ∧ (∀ H'', Same H H'' → Q .non H''), ⟨_, rfl, rfl, _, rfl, iteT ⟨_, rfl, x, rfl, ask, q1, due.f, fun hs e fo r l H' _ s' _ _ => ⟨rfl, s', due.n hs e fo (.inl (by decide))⟩⟩⟩, ?_⟩
    rintro _ H1 ⟨rfl, s1, qn⟩
    repeat (refine cut_skip ⟨_, rfl, rfl, _, rfl, iteF ⟨rfl, rfl⟩⟩ ?_)
    exact ⟨_, rfl, rfl, _, rfl, iteF (qn H1 s1)⟩
  · repeat (refine cut_skip ⟨_, rfl, rfl, _, rfl, iteF ⟨rfl, rfl⟩⟩ ?_)
    refine ⟨fun σ' H' => σ' = [some (.int 2), some x, some y] ∧ Same H H' ∧ (∀ H'', Same H H'' → Q .non H''), ⟨_, rfl, rfl, _, rfl, iteT ⟨_, rfl, x, rfl, ask, q1, due.f, fun hs e fo r l H' _ s' _ _ => ⟨rfl, s', due.n hs e fo (.inl (by decide))⟩⟩⟩, ?_⟩
    rintro _ H1 ⟨rfl, s1, qn⟩
    repeat (refine cut_skip ⟨_, rfl, rfl, _, rfl, iteF ⟨rfl, rfl⟩⟩ ?_)
    exact ⟨_, rfl, rfl, _, rfl, iteF (qn H1 s1)⟩
  · repeat (refine cut_skip ⟨_, rfl, rfl, _, rfl, iteF ⟨rfl, rfl⟩⟩ ?_)
    refine ⟨fun σ' H' => σ' = [some (.int 3), some x, some y] ∧ Same H H' ∧ (∀ H'', Same H H'' → Q .non H''), ⟨_, rfl, rfl, _, rfl, iteT ⟨_, rfl, x, rfl, ask, q1, due.f, fun hs e fo r l H' _ s' _ _ => ⟨rfl, s', due.n hs e fo (.inl (by decide))⟩⟩⟩, ?_⟩
    rintro _ H1 ⟨rfl, s1, qn⟩
    repeat (refine cut_skip ⟨_, rfl, rfl, _, rfl, iteF ⟨rfl, rfl⟩⟩ ?_)
    exact ⟨_, rfl, rfl, _, rfl, iteF (qn H1 s1)⟩
  · repeat (refine cut_skip ⟨_, rfl, rfl, _, rfl, iteF ⟨rfl, rfl⟩⟩ ?_)
    refine ⟨fun σ' H' => σ' = [some (.int 4), some x, some y] ∧ Same H H' ∧ (∀ H'', Same H H'' → Q .non H''), ⟨_, rfl, rfl, _, rfl, iteT ⟨_, rfl, _, rfl, x, y, rfl, ask, vy, q1, due.f, fun hs e fo b => due.t hs e fo (by decide) b, fun hs e fo t et ht r l H' _ s' _ _ => ⟨rfl, s', due.n hs e fo (.inr (idx_ok et ht))⟩⟩⟩, ?_⟩
    rintro _ H1 ⟨rfl, s1, qn⟩
    repeat (refine cut_skip ⟨_, rfl, rfl, _, rfl, iteF ⟨rfl, rfl⟩⟩ ?_)
    exact ⟨_, rfl, rfl, _, rfl, iteF (qn H1 s1)⟩
  · repeat (refine cut_skip ⟨_, rfl, rfl, _, rfl, iteF ⟨rfl, rfl⟩⟩ ?_)
    refine ⟨fun σ' H' => σ' = [some (.int 5), some x, some y] ∧ Same H H' ∧ (∀ H'', Same H H'' → Q .non H''), ⟨_, rfl, rfl, _, rfl, iteT ⟨_, rfl, _, rfl, x, y, rfl, ask, vy, q1, due.f, fun hs e fo b => due.t hs e fo (by decide) b, fun hs e fo t et ht r l H' _ s' _ _ => ⟨rfl, s', due.n hs e fo (.inr (idx_ok et ht))⟩⟩⟩, ?_⟩
    rintro _ H1 ⟨rfl, s1, qn⟩
    repeat (refine cut_skip ⟨_, rfl, rfl, _, rfl, iteF ⟨rfl, rfl⟩⟩ ?_)
    exact ⟨_, rfl, rfl, _, rfl, iteF (qn H1 s1)⟩
  · repeat (refine cut_skip ⟨_, rfl, rfl, _, rfl, iteF ⟨rfl, rfl⟩⟩ ?_)
    exact ⟨_, rfl, rfl, _, rfl, iteT ⟨_, rfl, _, rfl, x, y, rfl, ask, vy, q1, due.f, fun hs e fo b => due.t hs e fo (by decide) b, fun hs e fo t et ht r l H' _ s' _ _ => due.n hs e fo (.inr (idx_ok et ht)) H' s'⟩⟩
end

end My

namespace My
open PySem PySem.Spec PyProof.Rows L2
structure Ex2 (K : PySem.W.Frag) (mg : Str → Option Value) (CH CF CT : Addr) : Prop where
  gH : mg "HolderError" = some (.ref CH)
  gF : mg "InvalidForest" = some (.ref CF)
  gT : mg "InvalidThing" = some (.ref CT)
  cF : ExcC K CF
  cT : ExcC K CT
  mF : PySem.W.exmOne K (.ref CF) (.ref CH) = some true
  mT : PySem.W.exmOne K (.ref CT) (.ref CH) = some true
  iFF : PySem.W.kitOne K (.ref CF) (.ref CF) = some true
  iFT : PySem.W.kitOne K (.ref CF) (.ref CT) = some false
  iTF : PySem.W.kitOne K (.ref CT) (.ref CF) = some false
  iTT : PySem.W.kitOne K (.ref CT) (.ref CT) = some true
  iFV : PySem.W.kitOne K (.ref CF) (.type "ValueError") = some true
  iTV : PySem.W.kitOne K (.ref CT) (.type "ValueError") = some true
  bV : mg "ValueError" = none
def t_told_body (CF CT : Addr) (W : WX) : TS := tSeq (tDrop (tCallS (spCalled CF CT) (WE W) (tCons (tVar 0) (tCons (tVar 1) (tCons (tVar 2) tNil))))) (tRet (tC (.str "none")))
def t_told_suite (K : PySem.W.Frag) (CF CT : Addr) (a : Addr) (cls : Value) (d : Option Addr) : TS :=
  tSeq (tAsg (tLst (tCons (tCB (rIsEG K a cls d) (tCons (tVar 4) (tCons (tC (.ref CF)) tNil))) (tCons (tCB (rIsEG K a cls d) (tCons (tVar 4) (tCons (tC (.ref CT)) tNil))) tNil))) (gName 3))
    (tSeq (tIfS (tOr (tNot (tB (tCB (rIsEG K a cls d) (tCons (tVar 4) (tCons (tC (.ty "ValueError")) tNil))))) (tTest (tOp rNe (tBM K "list" (rCntV K) (tVar 3) (tCons (tC (.bl true)) tNil)) (tC (.int 1))))) (tRet (tC (.str "other"))) tNext)
      (tRet (tOp (rIxL K) (tLst (tCons (tC (.str "forest")) (tCons (tC (.str "thing")) tNil))) (tBM K "list" (rIndex K) (tVar 3) (tCons (tC (.bl true)) tNil)))))
section
variable {P : Program} {w : World} {K : PySem.W.Frag} {mg : Str → Option Value} {base : Heap} {CF CT CH : Addr}
abbrev st__law_told : Stmt := topS 27
abbrev N__law_told : List Str := ["way", "a", "b", "marks", "caught"]
theorem sc__law_told : FnScope N__law_told ["way", "a", "b"] (defScope st__law_told) := ⟨rfl, rfl, rfl, by decide +kernel, rfl, by decide +kernel, by decide +kernel⟩
theorem ok__law_told (D : Df K mg "_law_told" st__law_told ["way", "a", "b"]) (B : Bl mg) (T : Ex2 K mg CH CF CT)
    (K_law_called : Kn P w K mg base (L2.CX P w) 8 "_law_called" st__law_called ["way", "a", "b"] (spCalled CF CT)) :
    Kn P w K mg base CX0 9 "_law_told" st__law_told ["way", "a", "b"] (spTold CF CT) := by
  refine D.ok sc__law_told (fun vs H Q E h => ?_) (fun f cdv A outer s H vs Q E hr h => ?_)
  · obtain ⟨way, x, y, rfl, _⟩ := h; rfl
  obtain ⟨way, x, y, rfl, hw0, hw7, ask, vy, q1, due⟩ := h
  refine ⟨fun D σ H => t_told_body CF CT (wAs K (.ref CH) 4 (t_told_suite K CF CT) (fun _ _ _ _ => False) D) D σ H, ?_, ?_⟩
  · exact pss_one (ps_try_as (i := 4) (tb := t_told_body CF CT) (ts := t_told_suite K CF CT) (Wout := fun _ _ _ _ => False) rfl rfl sc__law_told.nd rfl rfl ⟨rfl, by decide, Or.inl T.gH⟩ takes0
      (fun W pn xe tk _ => pss_cons (ps_expr (by exact (pe_callFS K_law_called (hr.mono (by decide)) (fun σ => passAt tk σ) (by exact (pa_cons (pv 0) (pa_cons (pv 1) (pa_cons (pv 2) pa_nil))))))) (pss_one (ps_ret pe_str)))
      (fun a oe cls d pn hz hf => pss_cons (ps_set (i := 3) sc__law_told.nd rfl (Or.inl rfl) (by exact (pe_lst (pa_cons (pe_callB (call_isEG hz hf) (by rfl) B.isinstance (by decide +kernel) (pa_cons (pv 4) (pa_cons (pe_glob (v := .ref CF) (by rfl) T.gF rfl) pa_nil))) (pa_cons (pe_callB (call_isEG hz hf) (by rfl) B.isinstance (by decide +kernel) (pa_cons (pv 4) (pa_cons (pe_glob (v := .ref CT) (by rfl) T.gT rfl) pa_nil))) pa_nil)))))
        (pss_cons (ps_if (by exact (PW.pt (pw_or (pt_not (pt_val (pe_callB (call_isEG hz hf) (by rfl) B.isinstance (by decide +kernel) (pa_cons (pv 4) (pa_cons (pe_bltn (v := .ty "ValueError") (u := .type "ValueError") (by rfl) T.bV (by decide +kernel) rfl) pa_nil))))) (pw_or1 (pt_cmpR op_ne (pe_bm PySem.F.plainAttrs_list PySem.F.slot_list_count PySem.F.type_list_count mt_lcountV (pv 3) (pa_cons pe_bl pa_nil)) pe_int (nomark _)))))) (pss_one (ps_ret pe_str)) pss_nil)
          (pss_one (ps_ret (by exact (pe_ix ix_list (pe_lst (pa_cons pe_str (pa_cons pe_str pa_nil))) (pe_bm PySem.F.plainAttrs_list PySem.F.slot_list_index PySem.F.type_list_index mt_index (pv 3) (pa_cons pe_bl pa_nil)) (fun _ _ => rfl))))))))
  · -- an error of the forest
    have suiteF : ∀ H1, Same H H1 → (∀ H', Same H H' → Q (.str "forest") H') → wAs K (.ref CH) 4 (t_told_suite K CF CT) (fun _ _ _ _ => False) { nx := fun _ H' => Q .non H', rt := Q } (.ref CF) none [some (.int way), some x, some y, none, none] H1 := fun H1 s1 k => by
      refine ⟨true, T.mF, fun _ a ha => ?_, fun q => Bool.noConfusion q⟩
      refine ⟨_, rfl, CF, rfl, rfl, T.cF, .ref CF, .ref CF, true, rfl, fun u r => r, T.iFF, _, rfl, CF, rfl, rfl, T.cF, .ref CT, .ref CT, false, rfl, fun u r => r, T.iFT, by show 2 ≤ sizeLine; decide, fun L hL => ?_⟩
      refine ⟨_, rfl, CF, rfl, rfl, T.cF, .ty "ValueError", .type "ValueError", true, rfl, fun u r => r, T.iFV, _, rfl, iteF ?_⟩
      refine ⟨_, rfl, .inl ⟨rfl, _, SqL.of upd_same⟩, L, _, .bl true, rfl, rfl, SqL.of upd_same, rfl, rfl, rfl, _, rfl, iteF ?_⟩
      refine ⟨by show 2 ≤ sizeLine; decide, fun M hM => ?_⟩
      have hLM : L ≠ M := ne_of_none upd_same hM
      refine ⟨_, rfl, .inl ⟨rfl, _, SqL.of (by rw [upd_ne hLM]; exact upd_same)⟩, L, [.bl true, .bl false], .bl true, 0, .bl true, rfl, rfl, SqL.of (by rw [upd_ne hLM]; exact upd_same), rfl, rfl, rfl, rfl, fun m z hm => absurd hm (Nat.not_lt_zero m), M, _, _, _, rfl, rfl, SqL.of upd_same, atI_nat rfl, ?_⟩
      exact k _ ((s1.new hL).new hM)
    have suiteT : ∀ H1, Same H H1 → (∀ H', Same H H' → Q (.str "thing") H') → wAs K (.ref CH) 4 (t_told_suite K CF CT) (fun _ _ _ _ => False) { nx := fun _ H' => Q .non H', rt := Q } (.ref CT) none [some (.int way), some x, some y, none, none] H1 := fun H1 s1 k => by
      refine ⟨true, T.mT, fun _ a ha => ?_, fun q => Bool.noConfusion q⟩
      refine ⟨_, rfl, CT, rfl, rfl, T.cT, .ref CF, .ref CF, false, rfl, fun u r => r, T.iTF, _, rfl, CT, rfl, rfl, T.cT, .ref CT, .ref CT, true, rfl, fun u r => r, T.iTT, by show 2 ≤ sizeLine; decide, fun L hL => ?_⟩
      refine ⟨_, rfl, CT, rfl, rfl, T.cT, .ty "ValueError", .type "ValueError", true, rfl, fun u r => r, T.iTV, _, rfl, iteF ?_⟩
      refine ⟨_, rfl, .inl ⟨rfl, _, SqL.of upd_same⟩, L, _, .bl true, rfl, rfl, SqL.of upd_same, rfl, rfl, rfl, _, rfl, iteF ?_⟩
      refine ⟨by show 2 ≤ sizeLine; decide, fun M hM => ?_⟩
      have hLM : L ≠ M := ne_of_none upd_same hM
      refine ⟨_, rfl, .inl ⟨rfl, _, SqL.of (by rw [upd_ne hLM]; exact upd_same)⟩, L, [.bl false, .bl true], .bl true, 1, .bl true, rfl, rfl, SqL.of (by rw [upd_ne hLM]; exact upd_same), rfl, rfl, rfl, rfl, fun m z hm hz => ?_, M, _, _, _, rfl, rfl, SqL.of upd_same, atI_nat rfl, ?_⟩
      · have e0 : m = 0 := by omega
        subst e0
        rw [← Option.some.inj hz]; rfl
      · exact k _ ((s1.new hL).new hM)
    exact ⟨_, rfl, _, rfl, _, rfl, way, x, y, rfl, hw0, hw7, ask, vy, q1, ⟨fun nf H1 s1 => suiteF H1 s1 (due.f nf), fun hs e fo hw b H1 s1 => suiteT H1 s1 (due.t hs e fo hw b), fun hs e fo c H1 s1 => due.n hs e fo c H1 s1⟩⟩
end

end My

namespace My
open PySem PySem.Spec PyProof.Rows L2
def spLaw (K : PySem.W.Frag) : Sp := fun vs H Q _ => ∃ (a : Addr) (ns : List Int), vs = [.ref a] ∧ SqL K H a (ns.map V.int) ∧ ns.length ≤ 63 ∧ ∀ H', Q (.bl true) H'
theorem Well.ne {H : Hp} {wl p : Addr} {n : Nat} (w : Well H wl n) (h : H p = none) : p ≠ wl := by
  obtain ⟨l, e⟩ := w.here
  exact (ne_of_none e h).symm
theorem thenK {H H1 H2 : Hp} {wl : Addr} (s : Same H H1) (hn : H wl = none) (k : Keep wl H1 H2) : Same H H2 := fun b o e => k b o (ne_of_none e hn) (s b o e)
theorem isF_fo {H : Hp} {x : V} {hs : Hs} (e : tupAt H x = some (hs.map hv)) (h : IsF H x) : Fo hs := by
  obtain ⟨hs', e', fo⟩ := h
  rw [e] at e'
  rw [hv_inj (Option.some.inj e')]; exact fo
/-- values that are no forests: by what their tuple is -/
theorem noF_none {H : Hp} {x : V} (h : tupAt H x = none) : ¬ IsF H x := fun ⟨hs, e, _⟩ => by rw [h] at e; cases e
theorem noF_nil {H : Hp} {x : V} (h : tupAt H x = some []) : ¬ IsF H x := fun ⟨hs, e, fo⟩ => by
  rw [h] at e
  have z := Option.some.inj e
  cases hs with
  | nil => exact fo.ne rfl
  | cons o r => cases z
theorem noF_odd {H : Hp} {x : V} {xs : List V} {y : V} (h : tupAt H x = some (xs ++ [y])) (hy : ∀ o, y ≠ hv o) : ¬ IsF H x := fun ⟨hs, e, fo⟩ => by
  rw [h] at e
  have z := Option.some.inj e
  have hm : y ∈ hs.map hv := by rw [← z]; simp
  obtain ⟨o, _, ho⟩ := List.mem_map.mp hm
  exact hy o ho.symm
theorem snoc_hs {hs hs' : Hs} {o : Option Nat} (h : hs.map hv ++ [hv o] = hs'.map hv) : hs' = hs ++ [o] := by
  have e : (hs ++ [o]).map hv = hs'.map hv := by rw [List.map_append]; exact h
  exact (hv_inj e).symm
theorem noF_self {H : Hp} {x : V} {hs : Hs} (h : tupAt H x = some (hs.map hv ++ [.int (hs.length : Int)])) : ¬ IsF H x := fun ⟨hs', e, fo⟩ => by
  rw [h] at e
  have z := snoc_hs (o := some hs.length) (Option.some.inj e)
  subst z
  have hat : (hs ++ [some hs.length])[hs.length]? = some (some hs.length) := by
    rw [List.getElem?_append_right (Nat.le_refl _), Nat.sub_self]; rfl
  have no : ∀ v, Rch (hs ++ [some hs.length]) v → v ≠ hs.length := fun v r => by
    induction r with
    | root h1 => intro e1; rw [e1, hat] at h1; cases h1
    | step h1 _ ih =>
      intro e1
      rw [e1, hat] at h1
      cases h1
      exact ih rfl
  exact no hs.length (fo.all hs.length (by rw [List.length_append]; exact Nat.lt_succ_self _)) rfl
theorem noF_far {H : Hp} {x : V} {hs : Hs} (h : tupAt H x = some (hs.map hv ++ [.int ((hs.length : Int) + 1)])) : ¬ IsF H x := fun ⟨hs', e, fo⟩ => by
  rw [h] at e
  have z := snoc_hs (o := some (hs.length + 1)) (Option.some.inj e)
  subst z
  have hat : (hs ++ [some (hs.length + 1)])[hs.length]? = some (some (hs.length + 1)) := by
    rw [List.getElem?_append_right (Nat.le_refl _), Nat.sub_self]; rfl
  have q := fo.inb _ _ hat
  rw [List.length_append] at q
  exact Nat.lt_irrefl _ q
theorem askd_tup {H : Hp} {a : Addr} {xs : List V} (h : H a = some (.tup xs)) (hl : xs.length ≤ 1000) (hv' : ∀ y ∈ xs, Vd H y) : Askd H (.ref a) :=
  ⟨.tup h, fun ys e => by rw [tupAt_tup h] at e; cases e; exact ⟨hl, hv'⟩⟩
theorem askd_no {H : Hp} {x : V} (v : Vd H x) (h : tupAt H x = none) : Askd H x := ⟨v, fun ys e => by rw [h] at e; cases e⟩
theorem hv_ne_str (z : Str) (o : Option Nat) : V.str z ≠ hv o := by cases o <;> (intro e; cases e)
theorem hv_ne_bl (z : Bool) (o : Option Nat) : V.bl z ≠ hv o := by cases o <;> (intro e; cases e)
abbrev slL (a t : Addr) (at' : Int) (wl : Addr) (x : V) (way : Int) (y : V) (due : Str) (v7 v8 : Option V) : L2.St := [some (.ref a), some (.int at'), some (.ref wl), some x, some (.int way), some y, some (.str due), v7, v8]

section
variable {P : Program} {w : World} {K : PySem.W.Frag} {mg : Str → Option Value} {base : Heap} {CF CT : Addr}
abbrev st_law : Stmt := topS 28
abbrev N_law : List Str := ["script", "at", "well", "plan", "way", "one", "due", "some", "size"]
theorem sc_law : FnScope N_law ["script"] (defScope st_law) := ⟨rfl, rfl, rfl, by decide +kernel, rfl, by decide +kernel, by decide +kernel⟩
theorem ok_law {f : Addr} {fd : FuncData} (F : Fun K "law" "law" st_law f fd) (B : Bl mg) (K_law_well : Kn P w K mg base CX0 1 "_law_well" st__law_well ["script", "at"] (spWell K)) (K_law_draw : Kn P w K mg base CX0 1 "_law_draw" st__law_draw ["well", "most"] spDraw)
    (K_law_forest : Kn P w K mg base CX0 3 "_law_forest" st__law_forest ["well", "most"] spLForest) (K_law_told : Kn P w K mg base CX0 9 "_law_told" st__law_told ["way", "a", "b"] (spTold CF CT)) :
    FnOk P w K mg base CX0 10 f fd ["script"] (spLaw K) := by
  refine F.ok sc_law (fun vs H Q E h => ?_) (fun cdv A outer s H vs Q E hr h => ?_)
  · obtain ⟨a, ns, rfl, _⟩ := h; rfl
  obtain ⟨a, ns, rfl, hS, hns, q⟩ := h
  refine ⟨_, ((pss_cons (ps_for PassesOwn.never rfl (pi_range1 (by rfl) B.range (pa_cons (pe_callB (call_max2 rfl) (by rfl) B.max (by decide +kernel) (pa_cons pe_int (pa_cons (pe_callB (call_min2 rfl) (by rfl) B.min (by decide +kernel) (pa_cons pe_int (pa_cons (pe_callB call_len (by rfl) B.len (by decide +kernel) (pa_cons (pv 0) pa_nil)) pa_nil))) pa_nil))) pa_nil)) (pg_name (i := 1) sc_law.nd rfl (Or.inl rfl)) (pss_cons (ps_set (i := 2) sc_law.nd rfl (Or.inl rfl) (pe_callF K_law_well (hr.mono (by decide)) pass0 (pa_cons (pv 0) (pa_cons (pv 1) pa_nil))))
      (pss_cons (ps_set (i := 3) sc_law.nd rfl (Or.inl rfl) (pe_callF K_law_forest (hr.mono (by decide)) pass0 (pa_cons (pv 2) (pa_cons pe_int pa_nil))))
      (pss_cons (ps_set (i := 4) sc_law.nd rfl (Or.inl rfl) (pe_op op_mod (pe_callTy call_int1 (by rfl) B.int (by decide +kernel) (pa_cons (pv 1) pa_nil)) pe_int))
      (pss_cons (ps_par (i := 5) (j := 6) (by rfl) sc_law.nd rfl rfl (by decide) rfl rfl (pa_cons (pe_callF K_law_draw (hr.mono (by decide)) pass0 (pa_cons (pv 2) (pa_cons (pe_callB call_len (by rfl) B.len (by decide +kernel) (pa_cons (pv 3) pa_nil)) pa_nil))) (pa_cons pe_str pa_nil)) (by rfl))
      (C8.pss_cut (ps_if (PW.pt (pw_and (pt_cmpR op_gt (pv 4) pe_int (nomark _)) (pw_and1 (pt_cmpR op_eq (pe_callF K_law_draw (hr.mono (by decide)) pass0 (pa_cons (pv 2) (pa_cons pe_int pa_nil))) pe_int (nomark _))))) (pss_cons (ps_set (i := 7) sc_law.nd rfl (Or.inl rfl) (pe_lst (pa_cons pe_non (pa_cons (pe_un un_neg pe_int) (pa_cons (pe_callB call_len (by rfl) B.len (by decide +kernel) (pa_cons (pv 3) pa_nil)) (pa_cons pe_bl (pa_cons pe_bl (pa_cons pe_str (pa_cons (pe_lst (pa_cons pe_int pa_nil)) (pa_cons (pe_tup (pa_cons pe_int pa_nil)) (pa_cons (pe_op op_powW pe_int pe_int) (pa_cons pe_dnewK pa_nil))))))))))))
      (pss_one (ps_par (i := 5) (j := 6) (by rfl) sc_law.nd rfl rfl (by decide) rfl rfl (pa_cons (pe_ix ix_list (pv 7) (pe_callF K_law_draw (hr.mono (by decide)) pass0 (pa_cons (pv 2) (pa_cons pe_int pa_nil))) (fun _ _ => rfl)) (pa_cons pe_str pa_nil)) (by rfl)))) pss_nil)
      (C8.pss_cut (ps_if (pt_cmpR op_eq (pe_callF K_law_draw (hr.mono (by decide)) pass0 (pa_cons (pv 2) (pa_cons pe_int pa_nil))) pe_int (nomark _)) (pss_cons (ps_set (i := 8) sc_law.nd rfl (Or.inl rfl) (pe_callB call_len (by rfl) B.len (by decide +kernel) (pa_cons (pv 3) pa_nil)))
      (pss_cons (ps_set (i := 7) sc_law.nd rfl (Or.inl rfl) (pe_lst (pa_cons pe_non (pa_cons (pe_tup pa_nil) (pa_cons (pe_callTy call_list_of (by rfl) B.list (by decide +kernel) (pa_cons (pv 3) pa_nil)) (pa_cons (pe_op op_catA (pv 3) (pe_tup (pa_cons (pv 8) pa_nil))) (pa_cons (pe_op op_catA (pv 3) (pe_tup (pa_cons (pe_op op_add (pv 8) pe_int) pa_nil))) (pa_cons pe_int (pa_cons pe_str (pa_cons pe_dnewK pa_nil))))))))))
      (pss_cons (ps_set (i := 7) sc_law.nd rfl (Or.inl rfl) (pe_op op_cat (pv 7) (pe_lst (pa_cons (pe_op op_catA (pv 3) (pe_tup (pa_cons pe_str pa_nil))) (pa_cons (pe_op op_catA (pv 3) (pe_tup (pa_cons pe_bl pa_nil))) pa_nil)))))
      (pss_one (ps_par (i := 3) (j := 6) (by rfl) sc_law.nd rfl rfl (by decide) rfl rfl (pa_cons (pe_ix ix_list (pv 7) (pe_callF K_law_draw (hr.mono (by decide)) pass0 (pa_cons (pv 2) (pa_cons pe_int pa_nil))) (fun _ _ => rfl)) (pa_cons pe_str pa_nil)) (by rfl)))))) pss_nil)
      (pss_one (ps_if (pt_cmpR op_ne (pe_callF K_law_told (hr.mono (by decide)) pass0 (pa_cons (pv 4) (pa_cons (pv 3) (pa_cons (pv 5) pa_nil)))) (pv 6) (nomark _)) (pss_one (ps_ret pe_bl)) pss_nil)))))))))
      (pss_one (ps_ret pe_bl)))), ?_⟩
  have p50 : (2 : Nat) ^ 50 = 1125899906842624 := by decide
  have p60 : (2 : Nat) ^ 60 = 1152921504606846976 := by decide
  have p100 : (2 : Nat) ^ 100 = 1267650600228229401496703205376 := by decide +kernel
  have p62 : (2 : Int) ^ 62 = 4611686018427387904 := by decide
  have e39 : (10 : Int) ^ (39 : Int).toNat = 1000000000000000000000000000000000000000 := by decide +kernel
  have hlen : (ns.map V.int).length = ns.length := List.length_map _
  refine ⟨_, rfl, _, _, rfl, .inl ⟨_, hS, rfl⟩, _, _, rfl, _, _, rfl, _, rfl, by split <;> omega, by split <;> (try split) <;> omega, for_it walk_range0 (fun i σ H' => (∃ v1 v2 v3 v4 v5 v6 v7 v8, σ = [some (.ref a), v1, v2, v3, v4, v5, v6, v7, v8]) ∧ Same H H')
    ⟨⟨none, none, none, none, none, none, none, none, rfl⟩, Same.refl H⟩ (fun _ _ _ _ _ => trivial) ?_ ?_⟩
  · rintro i x σ H1 H1' hi ⟨⟨v1, v2, v3, v4, v5, v6, v7, v8, rfl⟩, s1⟩ ⟨rfl, rfl⟩
    have hi64 : i < 64 := by split at hi <;> (try split at hi) <;> omega
    clear hi
    -- well, plan, way, one
    refine ⟨_, rfl, _, rfl, a, ns, i, rfl, s1.seq hS, hi64, fun wl H2 s2 hwl w2 => ?_⟩
    have hwn : H wl = none := s1.free hwl
    refine ⟨_, rfl, wl, 0, 12, rfl, w2, by omega, by decide, by decide, fun t hs H3 fo hl k3 w3 ht2 ht3 => ?_⟩
    have s3 : Same H H3 := thenK (s1.trans s2) hwn k3
    have hne : 1 ≤ hs.length := by
      cases hs with
      | nil => exact absurd rfl fo.ne
      | cons _ _ => exact Nat.succ_le_succ (Nat.zero_le _)
    have htw : t ≠ wl := w2.ne ht2
    refine ⟨_, rfl, .inl ⟨_, rfl, _, _, rfl, rfl, by show (0 : Int) < 7; decide, ?_⟩⟩
    have hm0 : 0 ≤ (i : Int) % 7 := Int.emod_nonneg _ (by decide)
    have hm7 : (i : Int) % 7 < 7 := Int.emod_lt_of_pos _ (by decide)
    have hlm : (hs.map hv).length = hs.length := List.length_map _
    refine ⟨_, rfl, _, rfl, _, _, rfl, .inr ⟨_, SqT.of ht3, rfl⟩, wl, _, _, rfl, w3, by omega, by omega, by omega, fun d H4 d0 d1 k4 w4 => ⟨_, _, rfl, ?_⟩⟩
    have s4 : Same H H4 := thenK s3 hwn k4
    have ht4 := k4 t _ htw ht3
    -- if way > 3 and draw == 0
    refine ⟨fun σ' H' => ∃ (y : V) (due : Str) (v7 : Option V), σ' = slL a t (i : Int) wl (.ref t) ((i : Int) % 7) y due v7 v8 ∧ Same H H' ∧ Well H' wl 500 ∧ H' t = some (.tup (hs.map hv)) ∧ Vd H' y ∧
        ((due = "none" ∧ isIdx (hs.length : Int) y = true) ∨ (due = "thing" ∧ 3 < (i : Int) % 7 ∧ isIdx (hs.length : Int) y = false)), ?_, ?_⟩
    · have old : ∀ H', Same H H' → Well H' wl 500 → H' t = some (.tup (hs.map hv)) → ∃ (y : V) (due : Str) (v7' : Option V), slL a t (i : Int) wl (.ref t) ((i : Int) % 7) (.int d) "none" v7 v8 = slL a t (i : Int) wl (.ref t) ((i : Int) % 7) y due v7' v8 ∧ Same H H' ∧ Well H' wl 500 ∧ H' t = some (.tup (hs.map hv)) ∧ Vd H' y ∧
          ((due = "none" ∧ isIdx (hs.length : Int) y = true) ∨ (due = "thing" ∧ 3 < (i : Int) % 7 ∧ isIdx (hs.length : Int) y = false)) := fun H' s' w' t' => ⟨.int d, "none", v7, rfl, s', w', t', .int d, .inl ⟨rfl, by
            show (decide (0 ≤ d) && decide (d < (hs.length : Int))) = true
            rw [Bool.and_eq_true, decide_eq_true_eq, decide_eq_true_eq]; omega⟩⟩
      refine ⟨_, rfl, _, _, rfl, rfl, _, rfl, ?_⟩
      refine ite2 (fun c1 => ?_) (fun c1 => ?_)
      · have c1' : (3 : Int) < (i : Int) % 7 := of_decide_eq_true c1
        refine ⟨_, rfl, wl, _, _, rfl, w4, by omega, by omega, by omega, fun e H5 _ _ k5 w5 => ⟨rfl, _, rfl, ?_⟩⟩
        have s5 := thenK s4 hwn k5
        have ht5 := k5 t _ htw ht4
        refine ite2 (fun c2 => ?_) (fun c2 => ?_)
        · refine ⟨_, rfl, _, rfl, _, _, rfl, .inr ⟨_, SqT.of ht5, rfl⟩, ?_⟩
          refine ⟨by show 1 ≤ sizeLine; decide, fun p1 h1 => ⟨by show 1 ≤ sizeLine; decide, fun p2 h2 => ⟨_, _, rfl, rfl, cpow10 (by decide) (by decide), fun p3 h3 => ⟨by show 10 ≤ sizeLine; decide, fun L hL => ?_⟩⟩⟩⟩
          have g5 := ((((Same.refl H5).new (o := .lst [.int 0]) h1).new (o := .tup [.int 0]) h2).new (o := .dK []) h3).new (o := .lst [.non, .int (-1), .int ((hs.map hv).length : Int), .bl true, .bl false, .str "0", .ref p1, .ref p2, .int ((10 : Int) ^ (39 : Int).toNat), .ref p3]) hL
          have w6 := w5.same g5
          have n1 : p1 ≠ wl := w5.ne h1
          have n2 : p2 ≠ wl := w5.ne ((((Same.refl H5).new (o := .lst [.int 0]) h1)).free h2)
          have n3 : p3 ≠ wl := w5.ne (((((Same.refl H5).new (o := .lst [.int 0]) h1).new (o := .tup [.int 0]) h2)).free h3)
          have nL : L ≠ wl := w5.ne ((((((Same.refl H5).new (o := .lst [.int 0]) h1).new (o := .tup [.int 0]) h2).new (o := .dK []) h3)).free hL)
          refine ⟨_, rfl, _, rfl, wl, _, _, rfl, w6, by omega, by omega, by omega, fun e2 H6 e20 e21 k6 w7 => ?_⟩
          have o1 : H6 p1 = some (.lst [.int 0]) := k6 p1 _ n1 (((((Same.refl _).new (o := .tup [.int 0]) h2).new (o := .dK []) h3).new (o := .lst [.non, .int (-1), .int ((hs.map hv).length : Int), .bl true, .bl false, .str "0", .ref p1, .ref p2, .int ((10 : Int) ^ (39 : Int).toNat), .ref p3]) hL) p1 _ upd_same)
          have o2 : H6 p2 = some (.tup [.int 0]) := k6 p2 _ n2 ((((Same.refl _).new (o := .dK []) h3).new (o := .lst [.non, .int (-1), .int ((hs.map hv).length : Int), .bl true, .bl false, .str "0", .ref p1, .ref p2, .int ((10 : Int) ^ (39 : Int).toNat), .ref p3]) hL) p2 _ upd_same)
          have o3 : H6 p3 = some (.dK []) := k6 p3 _ n3 (((Same.refl _).new (o := .lst [.non, .int (-1), .int ((hs.map hv).length : Int), .bl true, .bl false, .str "0", .ref p1, .ref p2, .int ((10 : Int) ^ (39 : Int).toNat), .ref p3]) hL) p3 _ upd_same)
          have oL := k6 L _ nL upd_same
          have ot : H6 t = some (.tup (hs.map hv)) := k6 t _ htw (g5 t _ ht5)
          have s6 : Same H H6 := fun b o z => k6 b o (ne_of_none z hwn) (g5 b o (s5 b o z))
          obtain ⟨v, hv1, hv2⟩ := pick (xs := [.non, .int (-1), .int ((hs.map hv).length : Int), .bl true, .bl false, .str "0", .ref p1, .ref p2, .int ((10 : Int) ^ (39 : Int).toNat), .ref p3]) e20 e21
          refine ⟨L, _, _, v, rfl, rfl, SqL.of oL, hv2, _, _, rfl, v, "thing", _, rfl, s6, w7.mono (by omega), ot, ?_, .inr ⟨rfl, c1', ?_⟩⟩
          · simp only [List.mem_cons, List.not_mem_nil, or_false] at hv1
            rcases hv1 with rfl | rfl | rfl | rfl | rfl | rfl | rfl | rfl | rfl | rfl
            · exact .non
            · exact .int _
            · exact .int _
            · exact .bl _
            · exact .bl _
            · exact .str _
            · exact .lst o1
            · exact .tup o2
            · exact .int _
            · exact .dK o3
          · simp only [List.mem_cons, List.not_mem_nil, or_false] at hv1
            have big : ∀ z : Int, ¬ (0 ≤ z ∧ z < (hs.length : Int)) → isIdx (hs.length : Int) (.int z) = false := fun z hz => by
              show (decide (0 ≤ z) && decide (z < (hs.length : Int))) = false
              rw [Bool.and_eq_false_iff, decide_eq_false_iff_not, decide_eq_false_iff_not]; omega
            rcases hv1 with rfl | rfl | rfl | rfl | rfl | rfl | rfl | rfl | rfl | rfl
            · rfl
            · exact big _ (by omega)
            · exact big _ (by rw [hlm]; omega)
            · rfl
            · rfl
            · rfl
            · rfl
            · rfl
            · exact big _ (by rw [e39]; omega)
            · rfl
        · exact old H5 s5 (w5.mono (by omega)) ht5
      · exact old H4 s4 (w4.mono (by omega)) ht4
    · rintro σ' H5 ⟨y, due, v7', rfl, s5, w5, ht5, vy, hdue⟩
      -- if draw == 0
      refine ⟨fun σ' H' => ∃ (x y : V) (due : Str) (v7 v8 : Option V), σ' = slL a t (i : Int) wl x ((i : Int) % 7) y due v7 v8 ∧ Same H H' ∧ Askd H' x ∧ Vd H' y ∧ (∀ hs : Hs, tupAt H' x = some (hs.map hv) → hs.length ≤ 60) ∧
          Due CF CT H' ((i : Int) % 7) x y (due = "forest") (due = "thing") (due = "none"), ?_, ?_⟩
      · refine ⟨_, rfl, wl, _, _, rfl, w5, by omega, by omega, by omega, fun e H6 _ _ k6 w6 => ⟨rfl, _, rfl, ?_⟩⟩
        have s6 := thenK s5 hwn k6
        have ht6 := k6 t _ htw ht5
        have vy6 : ∀ {H' : Hp} {m : Nat}, Keep wl H5 H' → Well H' wl m → Vd H' y := fun {H' m} kk ww => by
          have hwl5 := w5.here
          cases vy with
          | non => exact .non
          | bl b => exact .bl b
          | int z => exact .int z
          | str z => exact .str z
          | @lst b xs h =>
            by_cases hb : b = wl
            · obtain ⟨l, e⟩ := ww.here
              rw [hb]; exact .lst e
            · exact .lst (kk b _ hb h)
          | @tup b xs h =>
            by_cases hb : b = wl
            · obtain ⟨l, e⟩ := ww.here
              rw [hb]; exact .lst e
            · exact .tup (kk b _ hb h)
          | @dK b xs h =>
            by_cases hb : b = wl
            · obtain ⟨l, e⟩ := ww.here
              rw [hb]; exact .lst e
            · exact .dK (kk b _ hb h)
        have vall : ∀ {H' : Hp}, ∀ z ∈ hs.map hv, Vd H' z := fun {H'} z hz => by
          obtain ⟨o, _, rfl⟩ := List.mem_map.mp hz
          exact vd_hv o
        refine ite2 (fun c2 => ?_) (fun c2 => ?_)
        · -- size = len(plan); some = [..]; some = some + [..]
          refine ⟨_, rfl, _, _, rfl, .inr ⟨_, SqT.of ht6, rfl⟩, ?_⟩
          have hml : hs.map hv ≠ [] := by
            intro z
            rw [z] at hlm
            rw [← hlm] at hne; exact absurd hne (by decide)
          have sz1 : (hs.map hv).length + 1 ≤ sizeLine := Nat.le_of_lt (szl (by omega))
          refine ⟨by show 0 ≤ sizeLine; decide, fun p1 h1 => ?_⟩
          have g1 : Same H6 (upd H6 p1 (.tup [])) := (Same.refl _).new h1
          have o1 : upd H6 p1 (.tup []) p1 = some (.tup []) := upd_same
          generalize upd H6 p1 (.tup []) = J1 at g1 o1 ⊢
          refine ⟨_, rfl, t, _, rfl, .inr (SqT.of (g1 _ _ ht6)), fun p2 h2 => ?_⟩
          have g2 : Same J1 (upd J1 p2 (.lst (hs.map hv))) := (Same.refl _).new h2
          have o2 : upd J1 p2 (.lst (hs.map hv)) p2 = some (.lst (hs.map hv)) := upd_same
          generalize upd J1 p2 (.lst (hs.map hv)) = J2 at g2 o2 ⊢
          have q2 := g1.trans g2
          refine ⟨_, rfl, _, rfl, by show 1 ≤ sizeLine; decide, fun p3 h3 => ?_⟩
          have g3 : Same J2 (upd J2 p3 (.tup [.int ((hs.map hv).length : Int)])) := (Same.refl _).new h3
          have o3 : upd J2 p3 (.tup [.int ((hs.map hv).length : Int)]) p3 = some (.tup [.int ((hs.map hv).length : Int)]) := upd_same
          generalize upd J2 p3 (.tup [.int ((hs.map hv).length : Int)]) = J3 at g3 o3 ⊢
          have q3 := q2.trans g3
          refine ⟨t, p3, _, _, rfl, rfl, SqT.of (q3 _ _ ht6), SqT.of o3, sz1, fun z => absurd z hml, fun _ z => (by cases z), fun _ _ p4 h4 => ?_⟩
          have g4 : Same J3 (upd J3 p4 (.tup (hs.map hv ++ [.int ((hs.map hv).length : Int)]))) := (Same.refl _).new h4
          have o4 : upd J3 p4 (.tup (hs.map hv ++ [.int ((hs.map hv).length : Int)])) p4 = some (.tup (hs.map hv ++ [.int ((hs.map hv).length : Int)])) := upd_same
          generalize upd J3 p4 (.tup (hs.map hv ++ [.int ((hs.map hv).length : Int)])) = J4 at g4 o4 ⊢
          have q4 := q3.trans g4
          refine ⟨_, rfl, _, rfl, _, _, rfl, rfl, by show 1 ≤ sizeLine; decide, fun p5 h5 => ?_⟩
          dsimp only
          have g5 : Same J4 (upd J4 p5 (.tup [.int (((hs.map hv).length : Int) + 1)])) := (Same.refl _).new h5
          have o5 : upd J4 p5 (.tup [.int (((hs.map hv).length : Int) + 1)]) p5 = some (.tup [.int (((hs.map hv).length : Int) + 1)]) := upd_same
          generalize upd J4 p5 (.tup [.int (((hs.map hv).length : Int) + 1)]) = J5 at g5 o5 ⊢
          have q5 := q4.trans g5
          refine ⟨t, p5, _, _, rfl, rfl, SqT.of (q5 _ _ ht6), SqT.of o5, sz1, fun z => absurd z hml, fun _ z => (by cases z), fun _ _ p6 h6 => ?_⟩
          have g6 : Same J5 (upd J5 p6 (.tup (hs.map hv ++ [.int (((hs.map hv).length : Int) + 1)]))) := (Same.refl _).new h6
          have o6 : upd J5 p6 (.tup (hs.map hv ++ [.int (((hs.map hv).length : Int) + 1)])) p6 = some (.tup (hs.map hv ++ [.int (((hs.map hv).length : Int) + 1)])) := upd_same
          generalize upd J5 p6 (.tup (hs.map hv ++ [.int (((hs.map hv).length : Int) + 1)])) = J6 at g6 o6 ⊢
          have q6 := q5.trans g6
          intro p7 h7
          have g7 : Same J6 (upd J6 p7 (.dK [])) := (Same.refl _).new h7
          have o7 : upd J6 p7 (.dK []) p7 = some (.dK []) := upd_same
          generalize upd J6 p7 (.dK []) = J7 at g7 o7 ⊢
          have q7 := q6.trans g7
          refine ⟨by show 8 ≤ sizeLine; decide, fun L hL => ?_⟩
          have g8 : Same J7 (upd J7 L (.lst [.non, .ref p1, .ref p2, .ref p4, .ref p6, .int 5, .str "-", .ref p7])) := (Same.refl _).new hL
          have o8 : upd J7 L (.lst [.non, .ref p1, .ref p2, .ref p4, .ref p6, .int 5, .str "-", .ref p7]) L = some (.lst [.non, .ref p1, .ref p2, .ref p4, .ref p6, .int 5, .str "-", .ref p7]) := upd_same
          generalize upd J7 L (.lst [.non, .ref p1, .ref p2, .ref p4, .ref p6, .int 5, .str "-", .ref p7]) = J8 at g8 o8 ⊢
          have q8 := q7.trans g8
          refine ⟨_, rfl, _, rfl, by show 1 ≤ sizeLine; decide, fun p8 h8 => ?_⟩
          have g9 : Same J8 (upd J8 p8 (.tup [.str "0"])) := (Same.refl _).new h8
          have o9 : upd J8 p8 (.tup [.str "0"]) p8 = some (.tup [.str "0"]) := upd_same
          generalize upd J8 p8 (.tup [.str "0"]) = J9 at g9 o9 ⊢
          have q9 := q8.trans g9
          refine ⟨t, p8, _, _, rfl, rfl, SqT.of (q9 _ _ ht6), SqT.of o9, sz1, fun z => absurd z hml, fun _ z => (by cases z), fun _ _ p9 h9 => ?_⟩
          have g10 : Same J9 (upd J9 p9 (.tup (hs.map hv ++ [.str "0"]))) := (Same.refl _).new h9
          have o10 : upd J9 p9 (.tup (hs.map hv ++ [.str "0"])) p9 = some (.tup (hs.map hv ++ [.str "0"])) := upd_same
          generalize upd J9 p9 (.tup (hs.map hv ++ [.str "0"])) = J10 at g10 o10 ⊢
          have q10 := q9.trans g10
          refine ⟨_, rfl, by show 1 ≤ sizeLine; decide, fun p10 h10 => ?_⟩
          have g11 : Same J10 (upd J10 p10 (.tup [.bl true])) := (Same.refl _).new h10
          have o11 : upd J10 p10 (.tup [.bl true]) p10 = some (.tup [.bl true]) := upd_same
          generalize upd J10 p10 (.tup [.bl true]) = J11 at g11 o11 ⊢
          have q11 := q10.trans g11
          refine ⟨t, p10, _, _, rfl, rfl, SqT.of (q11 _ _ ht6), SqT.of o11, sz1, fun z => absurd z hml, fun _ z => (by cases z), fun _ _ p11 h11 => ?_⟩
          have g12 : Same J11 (upd J11 p11 (.tup (hs.map hv ++ [.bl true]))) := (Same.refl _).new h11
          have o12 : upd J11 p11 (.tup (hs.map hv ++ [.bl true])) p11 = some (.tup (hs.map hv ++ [.bl true])) := upd_same
          generalize upd J11 p11 (.tup (hs.map hv ++ [.bl true])) = J12 at g12 o12 ⊢
          have q12 := q11.trans g12
          refine ⟨by show 2 ≤ sizeLine; decide, fun M hM => ?_⟩
          have g13 : Same J12 (upd J12 M (.lst [.ref p9, .ref p11])) := (Same.refl _).new hM
          have o13 : upd J12 M (.lst [.ref p9, .ref p11]) M = some (.lst [.ref p9, .ref p11]) := upd_same
          generalize upd J12 M (.lst [.ref p9, .ref p11]) = J13 at g13 o13 ⊢
          have q13 := q12.trans g13
          have e13 := g13
          have e12 := g12.trans e13
          have e11 := g11.trans e12
          have e10 := g10.trans e11
          have e9 := g9.trans e10
          refine ⟨L, M, _, _, rfl, rfl, e9 _ _ o8, o13, by show 10 ≤ sizeLine; decide, fun N hN => ?_⟩
          have g14 : Same J13 (upd J13 N (.lst ([.non, .ref p1, .ref p2, .ref p4, .ref p6, .int 5, .str "-", .ref p7] ++ [.ref p9, .ref p11]))) := (Same.refl _).new hN
          have o14 : upd J13 N (.lst ([.non, .ref p1, .ref p2, .ref p4, .ref p6, .int 5, .str "-", .ref p7] ++ [.ref p9, .ref p11])) N = some (.lst ([.non, .ref p1, .ref p2, .ref p4, .ref p6, .int 5, .str "-", .ref p7] ++ [.ref p9, .ref p11])) := upd_same
          generalize upd J13 N (.lst ([.non, .ref p1, .ref p2, .ref p4, .ref p6, .int 5, .str "-", .ref p7] ++ [.ref p9, .ref p11])) = J14 at g14 o14 ⊢
          have gN := q13.trans g14
          have e9 := e9.trans g14
          have e10 := e10.trans g14
          have e11 := e11.trans g14
          have e12 := e12.trans g14
          have e13 := e13.trans g14
          have e8 := g8.trans e9
          have e7 := g7.trans e8
          have e6 := g6.trans e7
          have e5 := g5.trans e6
          have e4 := g4.trans e5
          have e3 := g3.trans e4
          have e2' := g2.trans e3
          have t1 := e2' _ _ o1
          have t2 := e3 _ _ o2
          have t4 := e5 _ _ o4
          have t6 := e7 _ _ o6
          have t7 := e8 _ _ o7
          have t9 := e11 _ _ o10
          have t11 := e13 _ _ o12
          have w8 := w6.same gN
          refine ⟨_, rfl, _, rfl, wl, _, _, rfl, w8, by omega, by omega, by omega, fun e2 H7 e20 e21 k7 w9 => ?_⟩
          have s7 : Same H H7 := fun b o z => k7 b o (ne_of_none z hwn) (gN b o (s6 b o z))
          have r1 := k7 p1 _ (w6.ne h1) t1
          have r2 := k7 p2 _ (w6.ne (g1.free h2)) t2
          have r4 := k7 p4 _ (w6.ne (q3.free h4)) t4
          have r6 := k7 p6 _ (w6.ne (q5.free h6)) t6
          have r7 := k7 p7 _ (w6.ne (q6.free h7)) t7
          have r9 := k7 p9 _ (w6.ne (q9.free h9)) t9
          have r11 := k7 p11 _ (w6.ne (q11.free h11)) t11
          have rN := k7 N _ (w6.ne (q13.free hN)) o14
          have e21' : e2 < ((([.non, .ref p1, .ref p2, .ref p4, .ref p6, .int 5, .str "-", .ref p7] ++ [.ref p9, .ref p11] : List V)).length : Int) := e21
          obtain ⟨v, hv1, hv2⟩ := pick e20 e21'
          have vap : ∀ z : V, Vd H7 z → ∀ z' ∈ hs.map hv ++ [z], Vd H7 z' := fun z hz z' hz' => by
            rcases List.mem_append.mp hz' with h | h
            · exact vall z' h
            · rw [List.mem_singleton.mp h]; exact hz
          have lap : ∀ z : V, (hs.map hv ++ [z]).length ≤ 60 := fun z => by
            rw [List.length_append, hlm]; show hs.length + 1 ≤ 60; omega
          have bad : Askd H7 v ∧ ¬ IsF H7 v ∧ ∀ xs, tupAt H7 v = some xs → xs.length ≤ 60 := by
            have no : ∀ z : V, Vd H7 z → tupAt H7 z = none → Askd H7 z ∧ ¬ IsF H7 z ∧ ∀ xs, tupAt H7 z = some xs → xs.length ≤ 60 := fun z hz e => ⟨askd_no hz e, noF_none e, fun xs e' => by rw [e] at e'; cases e'⟩
            have tp : ∀ (p : Addr) (z : V), H7 p = some (.tup (hs.map hv ++ [z])) → Vd H7 z → ¬ IsF H7 (.ref p) → Askd H7 (.ref p) ∧ ¬ IsF H7 (.ref p) ∧ ∀ xs, tupAt H7 (.ref p) = some xs → xs.length ≤ 60 := fun p z hp hz nf =>
              ⟨askd_tup hp (Nat.le_trans (lap z) (by decide)) (vap z hz), nf, fun xs e' => by rw [tupAt_tup hp] at e'; rw [← Option.some.inj e']; exact lap z⟩
            simp only [List.cons_append, List.nil_append, List.mem_cons, List.not_mem_nil, or_false] at hv1
            rcases hv1 with rfl | rfl | rfl | rfl | rfl | rfl | rfl | rfl | rfl | rfl
            · exact no _ .non rfl
            · exact ⟨askd_tup r1 (Nat.zero_le _) (fun z hz => by cases hz), noF_nil (tupAt_tup r1), fun xs e' => by rw [tupAt_tup r1] at e'; rw [← Option.some.inj e']; exact Nat.zero_le _⟩
            · exact no _ (.lst r2) (tupAt_lst r2)
            · exact tp _ _ r4 (.int _) (noF_self (hs := hs) (by rw [tupAt_tup r4, hlm]))
            · exact tp _ _ r6 (.int _) (noF_far (hs := hs) (by rw [tupAt_tup r6, hlm]))
            · exact no _ (.int _) rfl
            · exact no _ (.str _) rfl
            · exact no _ (.dK r7) (tupAt_dK r7)
            · exact tp _ _ r9 (.str _) (noF_odd (tupAt_tup r9) (hv_ne_str _))
            · exact tp _ _ r11 (.bl _) (noF_odd (tupAt_tup r11) (hv_ne_bl _))
          obtain ⟨b1, b2, b3⟩ := bad
          refine ⟨N, _, _, v, rfl, rfl, SqL.of rN, hv2, _, _, rfl, v, y, "forest", _, _, rfl, s7, b1, vy6 ((k6.trans gN.keep).trans k7) w9, fun hs' e' => ?_, ⟨fun _ => rfl, fun hs' e' fo' => absurd ⟨hs', e', fo'⟩ b2, fun hs' e' fo' => absurd ⟨hs', e', fo'⟩ b2⟩⟩
          have z := b3 _ e'
          rw [List.length_map] at z; exact z
        · refine ⟨.ref t, y, due, v7', v8, rfl, s6, askd_tup ht6 (by omega) vall, vy6 k6 w6, fun hs' e' => ?_, ⟨fun nf => ?_, fun hs' e' fo' hw b => ?_, fun hs' e' fo' c => ?_⟩⟩
          · rw [tupAt_tup ht6] at e'
            have z := hv_inj (Option.some.inj e')
            rw [← z]; omega
          · exact absurd ⟨hs, tupAt_tup ht6, fo⟩ nf
          · rw [tupAt_tup ht6] at e'
            have z := hv_inj (Option.some.inj e')
            subst z
            rcases hdue with ⟨h1, h2⟩ | ⟨h1, h2, h3⟩
            · rw [b] at h2; cases h2
            · exact h1
          · rw [tupAt_tup ht6] at e'
            have z := hv_inj (Option.some.inj e')
            subst z
            rcases hdue with ⟨h1, h2⟩ | ⟨h1, h2, h3⟩
            · exact h1
            · rcases c with c | c
              · omega
              · rw [h3] at c; cases c
      · rintro σ'' H6 ⟨x, y, due, v7, v8, rfl, s6, ask, vy, q60, du⟩
        have fin : ∀ (sr : Str) (H' : Hp), due = sr → Same H6 H' → ∃ v, (slL a t (i : Int) wl x ((i : Int) % 7) y due v7 v8)[6]? = some (some v) ∧ scal (.str sr) v = true ∧ ∃ k, V.bl (!decide (V.str sr = v)) = .bl k ∧
            if k = true then Q (.bl false) H' else (∃ v1 v2 v3 v4 v5 v6 v7' v8', slL a t (i : Int) wl x ((i : Int) % 7) y due v7 v8 = [some (.ref a), v1, v2, v3, v4, v5, v6, v7', v8']) ∧ Same H H' := fun sr H' e s' => by
          subst e
          refine ⟨_, rfl, rfl, false, by rw [decide_eq_true rfl]; rfl, iteF ⟨⟨_, _, _, _, _, _, _, _, rfl⟩, s6.trans s'⟩⟩
        exact ⟨_, rfl, _, rfl, _, rfl, (i : Int) % 7, x, y, rfl, hm0, hm7, ask, vy, q60, ⟨fun nf H' s' => fin _ H' (du.f nf) s', fun hs e fo hw b H' s' => fin _ H' (du.t hs e fo hw b) s', fun hs e fo c H' s' => fin _ H' (du.n hs e fo c) s'⟩⟩
  · rintro σ H1 ⟨⟨v1, v2, v3, v4, v5, v6, v7, v8, rfl⟩, s1⟩
    exact q H1
end

end My

namespace My
open PySem PySem.Spec PyProof.Rows L2
theorem all_mk {l : PySem.W.OpenLaw} {w : World} {K : PySem.W.Frag} {h : Heap} {mg : Str → Option Value} {fa f0 f1 f2 f3 f4 f5 f6 f7 f8 f9 f10 f11 f12 f13 f14 f15 f16 f17 f18 f19 f20 f21 C0 C1 CB : Addr} (X : K.In h) (G : h.Ns mainGlobals mg) (hfa : mg "law" = some (.ref fa))
    {od0 an0 od1 an1 od2 an2 od3 an3 od4 an4 od5 an5 od6 an6 od7 an7 od8 an8 od9 an9 od10 an10 od11 an11 od12 an12 od13 an13 od14 an14 od15 an15 od16 an16 od17 an17 od18 an18 od19 an19 od20 an20 od21 an21 : Option Addr} {sl0 sl1 sl2 sl3 sl4 sl5 sl6 sl7 sl8 sl9 sl10 sl11 sl12 sl13 sl14 sl15 sl16 sl17 sl18 sl19 sl20 sl21 : Array (Option Value)} {oc0 kV0 dc0 pm0 cd0 ct0 oc1 kV1 dc1 pm1 cd1 ct1 oc2 kV2 dc2 pm2 cd2 ct2 oc3 kV3 dc3 pm3 cd3 ct3 oc4 kV4 dc4 pm4 cd4 ct4 oc5 kV5 dc5 pm5 cd5 ct5 oc6 kV6 dc6 pm6 cd6 ct6 oc7 kV7 dc7 pm7 cd7 ct7 oc8 kV8 dc8 pm8 cd8 ct8 oc9 kV9 dc9 pm9 cd9 ct9 oc10 kV10 dc10 pm10 cd10 ct10 oc11 kV11 dc11 pm11 cd11 ct11 oc12 kV12 dc12 pm12 cd12 ct12 oc13 kV13 dc13 pm13 cd13 ct13 oc14 kV14 dc14 pm14 cd14 ct14 oc15 kV15 dc15 pm15 cd15 ct15 oc16 kV16 dc16 pm16 cd16 ct16 oc17 kV17 dc17 pm17 cd17 ct17 oc18 kV18 dc18 pm18 cd18 ct18 oc19 kV19 dc19 pm19 cd19 ct19 oc20 kV20 dc20 pm20 cd20 ct20 oc21 kV21 dc21 pm21 cd21 ct21 : Value}
    (a0 : PySem.W.nsIn K mainGlobals "is_integer" = some (some (.ref f0)))
    (l0 : K.lookup f0 = some ⟨oc0, od0, .func (PySem.W.fnOf "is_integer" "is_integer" (defArgs st_is_integer) (defBody st_is_integer) (defScope st_is_integer) .none kV0 dc0 pm0 an0 cd0 ct0), sl0⟩)
    (c0 : PySem.W.codeIn K cd0 "is_integer" = true)
    (k0 : PySem.W.keepIn K (.ref f0) = true)
    (a1 : PySem.W.nsIn K mainGlobals "is_between" = some (some (.ref f1)))
    (l1 : K.lookup f1 = some ⟨oc1, od1, .func (PySem.W.fnOf "is_between" "is_between" (defArgs st_is_between) (defBody st_is_between) (defScope st_is_between) .none kV1 dc1 pm1 an1 cd1 ct1), sl1⟩)
    (c1 : PySem.W.codeIn K cd1 "is_between" = true)
    (k1 : PySem.W.keepIn K (.ref f1) = true)
    (a2 : PySem.W.nsIn K mainGlobals "is_index" = some (some (.ref f2)))
    (l2 : K.lookup f2 = some ⟨oc2, od2, .func (PySem.W.fnOf "is_index" "is_index" (defArgs st_is_index) (defBody st_is_index) (defScope st_is_index) .none kV2 dc2 pm2 an2 cd2 ct2), sl2⟩)
    (c2 : PySem.W.codeIn K cd2 "is_index" = true)
    (k2 : PySem.W.keepIn K (.ref f2) = true)
    (a3 : PySem.W.nsIn K mainGlobals "is_forest" = some (some (.ref f3)))
    (l3 : K.lookup f3 = some ⟨oc3, od3, .func (PySem.W.fnOf "is_forest" "is_forest" (defArgs st_is_forest) (defBody st_is_forest) (defScope st_is_forest) .none kV3 dc3 pm3 an3 cd3 ct3), sl3⟩)
    (c3 : PySem.W.codeIn K cd3 "is_forest" = true)
    (k3 : PySem.W.keepIn K (.ref f3) = true)
    (a4 : PySem.W.nsIn K mainGlobals "check_forest" = some (some (.ref f4)))
    (l4 : K.lookup f4 = some ⟨oc4, od4, .func (PySem.W.fnOf "check_forest" "check_forest" (defArgs st_check_forest) (defBody st_check_forest) (defScope st_check_forest) .none kV4 dc4 pm4 an4 cd4 ct4), sl4⟩)
    (c4 : PySem.W.codeIn K cd4 "check_forest" = true)
    (k4 : PySem.W.keepIn K (.ref f4) = true)
    (a5 : PySem.W.nsIn K mainGlobals "check_thing" = some (some (.ref f5)))
    (l5 : K.lookup f5 = some ⟨oc5, od5, .func (PySem.W.fnOf "check_thing" "check_thing" (defArgs st_check_thing) (defBody st_check_thing) (defScope st_check_thing) .none kV5 dc5 pm5 an5 cd5 ct5), sl5⟩)
    (c5 : PySem.W.codeIn K cd5 "check_thing" = true)
    (k5 : PySem.W.keepIn K (.ref f5) = true)
    (a6 : PySem.W.nsIn K mainGlobals "sizes" = some (some (.ref f6)))
    (l6 : K.lookup f6 = some ⟨oc6, od6, .func (PySem.W.fnOf "sizes" "sizes" (defArgs st_sizes) (defBody st_sizes) (defScope st_sizes) .none kV6 dc6 pm6 an6 cd6 ct6), sl6⟩)
    (c6 : PySem.W.codeIn K cd6 "sizes" = true)
    (k6 : PySem.W.keepIn K (.ref f6) = true)
    (a7 : PySem.W.nsIn K mainGlobals "depths" = some (some (.ref f7)))
    (l7 : K.lookup f7 = some ⟨oc7, od7, .func (PySem.W.fnOf "depths" "depths" (defArgs st_depths) (defBody st_depths) (defScope st_depths) .none kV7 dc7 pm7 an7 cd7 ct7), sl7⟩)
    (c7 : PySem.W.codeIn K cd7 "depths" = true)
    (k7 : PySem.W.keepIn K (.ref f7) = true)
    (a8 : PySem.W.nsIn K mainGlobals "above" = some (some (.ref f8)))
    (l8 : K.lookup f8 = some ⟨oc8, od8, .func (PySem.W.fnOf "above" "above" (defArgs st_above) (defBody st_above) (defScope st_above) .none kV8 dc8 pm8 an8 cd8 ct8), sl8⟩)
    (c8 : PySem.W.codeIn K cd8 "above" = true)
    (k8 : PySem.W.keepIn K (.ref f8) = true)
    (a9 : PySem.W.nsIn K mainGlobals "below" = some (some (.ref f9)))
    (l9 : K.lookup f9 = some ⟨oc9, od9, .func (PySem.W.fnOf "below" "below" (defArgs st_below) (defBody st_below) (defScope st_below) .none kV9 dc9 pm9 an9 cd9 ct9), sl9⟩)
    (c9 : PySem.W.codeIn K cd9 "below" = true)
    (k9 : PySem.W.keepIn K (.ref f9) = true)
    (a10 : PySem.W.nsIn K mainGlobals "firsts" = some (some (.ref f10)))
    (l10 : K.lookup f10 = some ⟨oc10, od10, .func (PySem.W.fnOf "firsts" "firsts" (defArgs st_firsts) (defBody st_firsts) (defScope st_firsts) .none kV10 dc10 pm10 an10 cd10 ct10), sl10⟩)
    (c10 : PySem.W.codeIn K cd10 "firsts" = true)
    (k10 : PySem.W.keepIn K (.ref f10) = true)
    (a11 : PySem.W.nsIn K mainGlobals "held_by" = some (some (.ref f11)))
    (l11 : K.lookup f11 = some ⟨oc11, od11, .func (PySem.W.fnOf "held_by" "held_by" (defArgs st_held_by) (defBody st_held_by) (defScope st_held_by) .none kV11 dc11 pm11 an11 cd11 ct11), sl11⟩)
    (c11 : PySem.W.codeIn K cd11 "held_by" = true)
    (k11 : PySem.W.keepIn K (.ref f11) = true)
    (a12 : PySem.W.nsIn K mainGlobals "walk" = some (some (.ref f12)))
    (l12 : K.lookup f12 = some ⟨oc12, od12, .func (PySem.W.fnOf "walk" "walk" (defArgs st_walk) (defBody st_walk) (defScope st_walk) .none kV12 dc12 pm12 an12 cd12 ct12), sl12⟩)
    (c12 : PySem.W.codeIn K cd12 "walk" = true)
    (k12 : PySem.W.keepIn K (.ref f12) = true)
    (a13 : PySem.W.nsIn K mainGlobals "_without_holder" = some (some (.ref f13)))
    (l13 : K.lookup f13 = some ⟨oc13, od13, .func (PySem.W.fnOf "_without_holder" "_without_holder" (defArgs st__without_holder) (defBody st__without_holder) (defScope st__without_holder) .none kV13 dc13 pm13 an13 cd13 ct13), sl13⟩)
    (c13 : PySem.W.codeIn K cd13 "_without_holder" = true)
    (k13 : PySem.W.keepIn K (.ref f13) = true)
    (a14 : PySem.W.nsIn K mainGlobals "_held_lists" = some (some (.ref f14)))
    (l14 : K.lookup f14 = some ⟨oc14, od14, .func (PySem.W.fnOf "_held_lists" "_held_lists" (defArgs st__held_lists) (defBody st__held_lists) (defScope st__held_lists) .none kV14 dc14 pm14 an14 cd14 ct14), sl14⟩)
    (c14 : PySem.W.codeIn K cd14 "_held_lists" = true)
    (k14 : PySem.W.keepIn K (.ref f14) = true)
    (a15 : PySem.W.nsIn K mainGlobals "_walk_through" = some (some (.ref f15)))
    (l15 : K.lookup f15 = some ⟨oc15, od15, .func (PySem.W.fnOf "_walk_through" "_walk_through" (defArgs st__walk_through) (defBody st__walk_through) (defScope st__walk_through) .none kV15 dc15 pm15 an15 cd15 ct15), sl15⟩)
    (c15 : PySem.W.codeIn K cd15 "_walk_through" = true)
    (k15 : PySem.W.keepIn K (.ref f15) = true)
    (a16 : PySem.W.nsIn K mainGlobals "_law_well" = some (some (.ref f16)))
    (l16 : K.lookup f16 = some ⟨oc16, od16, .func (PySem.W.fnOf "_law_well" "_law_well" (defArgs st__law_well) (defBody st__law_well) (defScope st__law_well) .none kV16 dc16 pm16 an16 cd16 ct16), sl16⟩)
    (c16 : PySem.W.codeIn K cd16 "_law_well" = true)
    (k16 : PySem.W.keepIn K (.ref f16) = true)
    (a17 : PySem.W.nsIn K mainGlobals "_law_draw" = some (some (.ref f17)))
    (l17 : K.lookup f17 = some ⟨oc17, od17, .func (PySem.W.fnOf "_law_draw" "_law_draw" (defArgs st__law_draw) (defBody st__law_draw) (defScope st__law_draw) .none kV17 dc17 pm17 an17 cd17 ct17), sl17⟩)
    (c17 : PySem.W.codeIn K cd17 "_law_draw" = true)
    (k17 : PySem.W.keepIn K (.ref f17) = true)
    (a18 : PySem.W.nsIn K mainGlobals "_law_forest" = some (some (.ref f18)))
    (l18 : K.lookup f18 = some ⟨oc18, od18, .func (PySem.W.fnOf "_law_forest" "_law_forest" (defArgs st__law_forest) (defBody st__law_forest) (defScope st__law_forest) .none kV18 dc18 pm18 an18 cd18 ct18), sl18⟩)
    (c18 : PySem.W.codeIn K cd18 "_law_forest" = true)
    (k18 : PySem.W.keepIn K (.ref f18) = true)
    (a19 : PySem.W.nsIn K mainGlobals "_law_called" = some (some (.ref f19)))
    (l19 : K.lookup f19 = some ⟨oc19, od19, .func (PySem.W.fnOf "_law_called" "_law_called" (defArgs st__law_called) (defBody st__law_called) (defScope st__law_called) .none kV19 dc19 pm19 an19 cd19 ct19), sl19⟩)
    (c19 : PySem.W.codeIn K cd19 "_law_called" = true)
    (k19 : PySem.W.keepIn K (.ref f19) = true)
    (a20 : PySem.W.nsIn K mainGlobals "_law_told" = some (some (.ref f20)))
    (l20 : K.lookup f20 = some ⟨oc20, od20, .func (PySem.W.fnOf "_law_told" "_law_told" (defArgs st__law_told) (defBody st__law_told) (defScope st__law_told) .none kV20 dc20 pm20 an20 cd20 ct20), sl20⟩)
    (c20 : PySem.W.codeIn K cd20 "_law_told" = true)
    (k20 : PySem.W.keepIn K (.ref f20) = true)
    (a21 : PySem.W.nsIn K mainGlobals "law" = some (some (.ref f21)))
    (l21 : K.lookup f21 = some ⟨oc21, od21, .func (PySem.W.fnOf "law" "law" (defArgs st_law) (defBody st_law) (defScope st_law) .none kV21 dc21 pm21 an21 cd21 ct21), sl21⟩)
    (c21 : PySem.W.codeIn K cd21 "law" = true)
    (k21 : PySem.W.keepIn K (.ref f21) = true)
    (z_isinstance : PySem.W.nsIn K mainGlobals "isinstance" = some none)
    (z_int : PySem.W.nsIn K mainGlobals "int" = some none)
    (z_bool : PySem.W.nsIn K mainGlobals "bool" = some none)
    (z_tuple : PySem.W.nsIn K mainGlobals "tuple" = some none)
    (z_len : PySem.W.nsIn K mainGlobals "len" = some none)
    (z_all : PySem.W.nsIn K mainGlobals "all" = some none)
    (z_enumerate : PySem.W.nsIn K mainGlobals "enumerate" = some none)
    (z_reversed : PySem.W.nsIn K mainGlobals "reversed" = some none)
    (z_sorted : PySem.W.nsIn K mainGlobals "sorted" = some none)
    (z_max : PySem.W.nsIn K mainGlobals "max" = some none)
    (z_min : PySem.W.nsIn K mainGlobals "min" = some none)
    (z_abs : PySem.W.nsIn K mainGlobals "abs" = some none)
    (z_range : PySem.W.nsIn K mainGlobals "range" = some none)
    (z_list : PySem.W.nsIn K mainGlobals "list" = some none)
    (z_repr : PySem.W.nsIn K mainGlobals "repr" = some none)
    (z_sum : PySem.W.nsIn K mainGlobals "sum" = some none)
    (z_any : PySem.W.nsIn K mainGlobals "any" = some none)
    (z_zip : PySem.W.nsIn K mainGlobals "zip" = some none)
    (z_str : PySem.W.nsIn K mainGlobals "str" = some none)
    (z_set : PySem.W.nsIn K mainGlobals "set" = some none)
    (z_dict : PySem.W.nsIn K mainGlobals "dict" = some none)
    (z_ValueError : PySem.W.nsIn K mainGlobals "ValueError" = some none)
    (g_0 : PySem.W.nsIn K mainGlobals "InvalidForest" = some (some (.ref C0)))
    (x_0 : PySem.W.excIn K C0 [.type "ValueError", .type "Exception", .type "BaseException", .type "object"] "ValueError.__new__" = true)
    (k_0 : PySem.W.keepIn K (.ref C0) = true)
    (b_0 : PySem.W.subIn K (.ref C0) (.type "BaseException") = some true)
    (t_0 : PySem.W.typeIn K (.ref C0) = some (.type "type"))
    (ga_0 : PySem.W.findIn K (.ref C0) "__getattribute__" = some (some (.builtin "BaseException.__getattribute__")))
    (gt_0 : PySem.W.findIn K (.ref C0) "__getattr__" = some none)
    (hd_0 : PySem.W.hasDictIn K C0 = true)
    (hc_0 : PySem.W.findIn K (.ref C0) "__class__" = some (some (.builtin "object.__class__")))
    (hm_0 : PySem.W.mroIn K C0 (.type "object") = some true)
    (v_0 : PySem.W.kitOne K (.ref C0) (.type "ValueError") = some true)
    (y_0_0 : PySem.W.kitOne K (.ref C0) (.ref C0) = some true)
    (y_0_1 : PySem.W.kitOne K (.ref C0) (.ref C1) = some false)
    (s_0 : PySem.W.subIn K (.ref C0) (.ref CB) = some true)
    (g_1 : PySem.W.nsIn K mainGlobals "InvalidThing" = some (some (.ref C1)))
    (x_1 : PySem.W.excIn K C1 [.type "ValueError", .type "Exception", .type "BaseException", .type "object"] "ValueError.__new__" = true)
    (k_1 : PySem.W.keepIn K (.ref C1) = true)
    (b_1 : PySem.W.subIn K (.ref C1) (.type "BaseException") = some true)
    (t_1 : PySem.W.typeIn K (.ref C1) = some (.type "type"))
    (ga_1 : PySem.W.findIn K (.ref C1) "__getattribute__" = some (some (.builtin "BaseException.__getattribute__")))
    (gt_1 : PySem.W.findIn K (.ref C1) "__getattr__" = some none)
    (hd_1 : PySem.W.hasDictIn K C1 = true)
    (hc_1 : PySem.W.findIn K (.ref C1) "__class__" = some (some (.builtin "object.__class__")))
    (hm_1 : PySem.W.mroIn K C1 (.type "object") = some true)
    (v_1 : PySem.W.kitOne K (.ref C1) (.type "ValueError") = some true)
    (y_1_0 : PySem.W.kitOne K (.ref C1) (.ref C0) = some false)
    (y_1_1 : PySem.W.kitOne K (.ref C1) (.ref C1) = some true)
    (s_1 : PySem.W.subIn K (.ref C1) (.ref CB) = some true)
    (sn : PySem.W.specialIn K (.builtin "object.__class__") "__get__" = some (some (.builtin "getset_descriptor.__get__")))
    (st : PySem.W.takesIn K (.builtin "object.__class__") = some true)
    (gB : PySem.W.nsIn K mainGlobals "HolderError" = some (some (.ref CB)))
    (bB : PySem.W.subIn K (.ref CB) (.type "BaseException") = some true)
    (hB : PySem.W.hasDictIn K CB = true)
    (tB : PySem.W.typeIn K (.ref CB) = some (.type "type")) :
    ∃ fd : FuncData, (∀ (s : Shared) (v : Value), BindsTo s fd ⟨[v], []⟩ [("script", v)]) ∧ ∀ base : Heap, K.In base → base.Ns mainGlobals mg → FnOk l.prog w K mg base CX0 10 fa fd ["script"] (spLaw K) := by
  have e := hfa.symm.trans (PySem.W.mg_of X G a21)
  cases e
  have D_is_integer : Df K mg "is_integer" st_is_integer ["value"] := Df.mk' l0 c0 k0 (PySem.W.mg_of X G a0) fun _ _ _ _ _ _ us hl => match us, hl with | [_], _ => rfl
  have D_is_between : Df K mg "is_between" st_is_between ["value", "least", "greatest"] := Df.mk' l1 c1 k1 (PySem.W.mg_of X G a1) fun _ _ _ _ _ _ us hl => match us, hl with | [_, _, _], _ => rfl
  have D_is_index : Df K mg "is_index" st_is_index ["value", "many"] := Df.mk' l2 c2 k2 (PySem.W.mg_of X G a2) fun _ _ _ _ _ _ us hl => match us, hl with | [_, _], _ => rfl
  have D_is_forest : Df K mg "is_forest" st_is_forest ["value"] := Df.mk' l3 c3 k3 (PySem.W.mg_of X G a3) fun _ _ _ _ _ _ us hl => match us, hl with | [_], _ => rfl
  have D_check_forest : Df K mg "check_forest" st_check_forest ["forest"] := Df.mk' l4 c4 k4 (PySem.W.mg_of X G a4) fun _ _ _ _ _ _ us hl => match us, hl with | [_], _ => rfl
  have D_check_thing : Df K mg "check_thing" st_check_thing ["forest", "thing"] := Df.mk' l5 c5 k5 (PySem.W.mg_of X G a5) fun _ _ _ _ _ _ us hl => match us, hl with | [_, _], _ => rfl
  have D_sizes : Df K mg "sizes" st_sizes ["forest"] := Df.mk' l6 c6 k6 (PySem.W.mg_of X G a6) fun _ _ _ _ _ _ us hl => match us, hl with | [_], _ => rfl
  have D_depths : Df K mg "depths" st_depths ["forest"] := Df.mk' l7 c7 k7 (PySem.W.mg_of X G a7) fun _ _ _ _ _ _ us hl => match us, hl with | [_], _ => rfl
  have D_above : Df K mg "above" st_above ["forest", "thing"] := Df.mk' l8 c8 k8 (PySem.W.mg_of X G a8) fun _ _ _ _ _ _ us hl => match us, hl with | [_, _], _ => rfl
  have D_below : Df K mg "below" st_below ["forest", "thing"] := Df.mk' l9 c9 k9 (PySem.W.mg_of X G a9) fun _ _ _ _ _ _ us hl => match us, hl with | [_, _], _ => rfl
  have D_firsts : Df K mg "firsts" st_firsts ["forest"] := Df.mk' l10 c10 k10 (PySem.W.mg_of X G a10) fun _ _ _ _ _ _ us hl => match us, hl with | [_], _ => rfl
  have D_held_by : Df K mg "held_by" st_held_by ["forest", "thing"] := Df.mk' l11 c11 k11 (PySem.W.mg_of X G a11) fun _ _ _ _ _ _ us hl => match us, hl with | [_, _], _ => rfl
  have D_walk : Df K mg "walk" st_walk ["forest"] := Df.mk' l12 c12 k12 (PySem.W.mg_of X G a12) fun _ _ _ _ _ _ us hl => match us, hl with | [_], _ => rfl
  have D__without_holder : Df K mg "_without_holder" st__without_holder ["forest"] := Df.mk' l13 c13 k13 (PySem.W.mg_of X G a13) fun _ _ _ _ _ _ us hl => match us, hl with | [_], _ => rfl
  have D__held_lists : Df K mg "_held_lists" st__held_lists ["forest"] := Df.mk' l14 c14 k14 (PySem.W.mg_of X G a14) fun _ _ _ _ _ _ us hl => match us, hl with | [_], _ => rfl
  have D__walk_through : Df K mg "_walk_through" st__walk_through ["held", "starts"] := Df.mk' l15 c15 k15 (PySem.W.mg_of X G a15) fun _ _ _ _ _ _ us hl => match us, hl with | [_, _], _ => rfl
  have D__law_well : Df K mg "_law_well" st__law_well ["script", "at"] := Df.mk' l16 c16 k16 (PySem.W.mg_of X G a16) fun _ _ _ _ _ _ us hl => match us, hl with | [_, _], _ => rfl
  have D__law_draw : Df K mg "_law_draw" st__law_draw ["well", "most"] := Df.mk' l17 c17 k17 (PySem.W.mg_of X G a17) fun _ _ _ _ _ _ us hl => match us, hl with | [_, _], _ => rfl
  have D__law_forest : Df K mg "_law_forest" st__law_forest ["well", "most"] := Df.mk' l18 c18 k18 (PySem.W.mg_of X G a18) fun _ _ _ _ _ _ us hl => match us, hl with | [_, _], _ => rfl
  have D__law_called : Df K mg "_law_called" st__law_called ["way", "a", "b"] := Df.mk' l19 c19 k19 (PySem.W.mg_of X G a19) fun _ _ _ _ _ _ us hl => match us, hl with | [_, _, _], _ => rfl
  have D__law_told : Df K mg "_law_told" st__law_told ["way", "a", "b"] := Df.mk' l20 c20 k20 (PySem.W.mg_of X G a20) fun _ _ _ _ _ _ us hl => match us, hl with | [_, _, _], _ => rfl
  have B : Bl mg := ⟨PySem.W.mg_none_of X G z_isinstance, PySem.W.mg_none_of X G z_int, PySem.W.mg_none_of X G z_bool, PySem.W.mg_none_of X G z_tuple, PySem.W.mg_none_of X G z_len, PySem.W.mg_none_of X G z_all, PySem.W.mg_none_of X G z_enumerate, PySem.W.mg_none_of X G z_reversed, PySem.W.mg_none_of X G z_sorted, PySem.W.mg_none_of X G z_max, PySem.W.mg_none_of X G z_min, PySem.W.mg_none_of X G z_abs, PySem.W.mg_none_of X G z_range, PySem.W.mg_none_of X G z_list, PySem.W.mg_none_of X G z_repr, PySem.W.mg_none_of X G z_sum, PySem.W.mg_none_of X G z_any, PySem.W.mg_none_of X G z_zip, PySem.W.mg_none_of X G z_str, PySem.W.mg_none_of X G z_set, PySem.W.mg_none_of X G z_dict⟩
  have E_InvalidForest : Ex1 K mg "InvalidForest" C0 := ⟨x_0, PySem.W.mg_of X G g_0, k_0, b_0, t_0⟩
  have X_InvalidForest : ExcC K C0 := ⟨ga_0, gt_0, b_0, hd_0, hc_0, sn, st, hm_0⟩
  have M_InvalidForest : PySem.W.exmOne K (.ref C0) (.ref CB) = some true := PySem.W.exm_ref bB hB tB s_0
  have E_InvalidThing : Ex1 K mg "InvalidThing" C1 := ⟨x_1, PySem.W.mg_of X G g_1, k_1, b_1, t_1⟩
  have X_InvalidThing : ExcC K C1 := ⟨ga_1, gt_1, b_1, hd_1, hc_1, sn, st, hm_1⟩
  have M_InvalidThing : PySem.W.exmOne K (.ref C1) (.ref CB) = some true := PySem.W.exm_ref bB hB tB s_1
  refine ⟨PySem.W.fnOf "law" "law" (defArgs st_law) (defBody st_law) (defScope st_law) .none kV21 dc21 pm21 an21 cd21 ct21, fun s v => .of_eq rfl, fun base _ _ => ?_⟩
  have T2 : Ex2 K mg CB C0 C1 := ⟨PySem.W.mg_of X G gB, E_InvalidForest.g, E_InvalidThing.g, X_InvalidForest, X_InvalidThing, M_InvalidForest, M_InvalidThing, y_0_0, y_0_1, y_1_0, y_1_1, v_0, v_1, PySem.W.mg_none_of X G z_ValueError⟩
  have Kis_integer := ok_is_integer (P := l.prog) (w := w) (base := base) D_is_integer B
  have Kis_between := ok_is_between D_is_between B Kis_integer
  have Kis_index := ok_is_index D_is_index B Kis_between
  have Kwo := ok__without_holder (P := l.prog) (w := w) (base := base) D__without_holder B
  have Khl := ok__held_lists (P := l.prog) (w := w) (base := base) D__held_lists B
  have Kwt := ok__walk_through (P := l.prog) (w := w) (base := base) D__walk_through B
  have Kis_forest := ok_is_forest D_is_forest B Kis_index Kwo Khl Kwt
  have Kcf := ok_check_forest D_check_forest B E_InvalidForest Kis_forest
  have Kct := ok_check_thing D_check_thing B E_InvalidThing Kis_index
  have Kwalk := ok_walk D_walk B Kcf Kwo Khl Kwt
  have Kfirsts := ok_firsts D_firsts B Kcf Kwo
  have Kabove := ok_above D_above B Kcf Kct
  have Kheld := ok_held_by D_held_by B Kcf Kct
  have Kbelow := ok_below D_below B Kcf Kct Khl Kwt
  have Ksizes := ok_sizes D_sizes B Kwalk
  have Kdepths := ok_depths D_depths B Kwalk
  have Kdraw := ok__law_draw (P := l.prog) (w := w) (base := base) D__law_draw B
  have Kwell := ok__law_well (P := l.prog) (w := w) (base := base) D__law_well B
  have Kforest := ok__law_forest D__law_forest B Kdraw
  have Kcalled := ok__law_called D__law_called B Ksizes Kdepths Kfirsts Kwalk Kabove Kbelow Kheld
  have Ktold := ok__law_told D__law_told B T2 Kcalled
  exact ok_law (fun_mk (st := st_law) l21 c21 k21) B Kwell Kdraw Kforest Ktold
theorem walkL {l : PySem.W.OpenLaw} {q : Program} {loose : List Str} {XP : (Str → Option Value) → Heap → Prop} {YP : World → Heap → Prop} {d : DefRec} {K : Params → PySem.W.Frag} (hn : l.most = some 63) (hdf : d.params.defaults = []) (hY : ∀ (w : World) (h : Heap), YP w h → (K w.params).In h)
    (F : ∀ (w : World) (mg : Str → Option Value) (fa : Addr) (h : Heap), (K w.params).In h → h.Ns mainGlobals mg → mg d.name = some (.ref fa) → ∃ fd : FuncData, (∀ (s : Shared) (u : Value), BindsTo s fd ⟨[u], []⟩ [("script", u)]) ∧ ∀ base : Heap, (K w.params).In base → base.Ns mainGlobals mg → FnOk l.prog w (K w.params) mg base CX0 10 fa fd ["script"] (spLaw (K w.params))) :
    PySem.W.WalkO q loose XP YP l.row.toRowW d [] (fun f vs => PySem.call f vs) :=
  L2.walk_of (n := 63) (k := 10) (x := "script") (CX := fun _ => CX0) (sp := fun w => spLaw (K w.params)) hn (by decide) hdf ⟨rfl, by decide, by decide⟩ hY F (fun _ _ a ns hl _ hS => ⟨a, ns, rfl, hS, hl, fun _ => rfl⟩) fun _ _ _ _ _ z => z
end My
open PySem PySem.W PyProof.Rows
set_option maxRecDepth 100000 in
set_option maxHeartbeats 0 in
theorem PySem.Challenge.cw_heldbehind_k03_errors_of_forests_holds : PySem.Challenge.rw_heldbehind_k03_errors_of_forests.Holds := by
  w_on; o_law; k_head; (case hw => w_witness2)
  k_fill
  refine My.walkL (l := PySem.Challenge.rw_heldbehind_k03_errors_of_forests) rfl rfl (fun w h Y => PySem.W.kIn_of Y) ?F
  case F =>
    intro w mg fa h KX G hmg
    refine' My.all_mk KX G hmg ?a0 ?l0 ?c0 ?k0 ?a1 ?l1 ?c1 ?k1 ?a2 ?l2 ?c2 ?k2 ?a3 ?l3 ?c3 ?k3 ?a4 ?l4 ?c4 ?k4 ?a5 ?l5 ?c5 ?k5 ?a6 ?l6 ?c6 ?k6 ?a7 ?l7 ?c7 ?k7 ?a8 ?l8 ?c8 ?k8 ?a9 ?l9 ?c9 ?k9 ?a10 ?l10 ?c10 ?k10 ?a11 ?l11 ?c11 ?k11 ?a12 ?l12 ?c12 ?k12 ?a13 ?l13 ?c13 ?k13 ?a14 ?l14 ?c14 ?k14 ?a15 ?l15 ?c15 ?k15 ?a16 ?l16 ?c16 ?k16 ?a17 ?l17 ?c17 ?k17 ?a18 ?l18 ?c18 ?k18 ?a19 ?l19 ?c19 ?k19 ?a20 ?l20 ?c20 ?k20 ?a21 ?l21 ?c21 ?k21 ?z_isinstance ?z_int ?z_bool ?z_tuple ?z_len ?z_all ?z_enumerate ?z_reversed ?z_sorted ?z_max ?z_min ?z_abs ?z_range ?z_list ?z_repr ?z_sum ?z_any ?z_zip ?z_str ?z_set ?z_dict ?z_ValueError ?g_0 ?x_0 ?k_0 ?b_0 ?t_0 ?ga_0 ?gt_0 ?hd_0 ?hc_0 ?hm_0 ?v_0 ?y_0_0 ?y_0_1 ?s_0 ?g_1 ?x_1 ?k_1 ?b_1 ?t_1 ?ga_1 ?gt_1 ?hd_1 ?hc_1 ?hm_1 ?v_1 ?y_1_0 ?y_1_1 ?s_1 ?sn ?st ?gB ?bB ?hB ?tB
    (case a0 => first | k_is | rfl)
    (case a1 => first | k_is | rfl)
    (case a2 => first | k_is | rfl)
    (case a3 => first | k_is | rfl)
    (case a4 => first | k_is | rfl)
    (case a5 => first | k_is | rfl)
    (case a6 => first | k_is | rfl)
    (case a7 => first | k_is | rfl)
    (case a8 => first | k_is | rfl)
    (case a9 => first | k_is | rfl)
    (case a10 => first | k_is | rfl)
    (case a11 => first | k_is | rfl)
    (case a12 => first | k_is | rfl)
    (case a13 => first | k_is | rfl)
    (case a14 => first | k_is | rfl)
    (case a15 => first | k_is | rfl)
    (case a16 => first | k_is | rfl)
    (case a17 => first | k_is | rfl)
    (case a18 => first | k_is | rfl)
    (case a19 => first | k_is | rfl)
    (case a20 => first | k_is | rfl)
    (case a21 => first | k_is | rfl)
    (case g_0 => first | k_is | rfl)
    (case g_1 => first | k_is | rfl)
    (case gB => first | k_is | rfl)
    (case l0 => first | k_is | rfl)
    (case c0 => first | k_is | rfl)
    (case k0 => first | k_is | rfl)
    (case l1 => first | k_is | rfl)
    (case c1 => first | k_is | rfl)
    (case k1 => first | k_is | rfl)
    (case l2 => first | k_is | rfl)
    (case c2 => first | k_is | rfl)
    (case k2 => first | k_is | rfl)
    (case l3 => first | k_is | rfl)
    (case c3 => first | k_is | rfl)
    (case k3 => first | k_is | rfl)
    (case l4 => first | k_is | rfl)
    (case c4 => first | k_is | rfl)
    (case k4 => first | k_is | rfl)
    (case l5 => first | k_is | rfl)
    (case c5 => first | k_is | rfl)
    (case k5 => first | k_is | rfl)
    (case l6 => first | k_is | rfl)
    (case c6 => first | k_is | rfl)
    (case k6 => first | k_is | rfl)
    (case l7 => first | k_is | rfl)
    (case c7 => first | k_is | rfl)
    (case k7 => first | k_is | rfl)
    (case l8 => first | k_is | rfl)
    (case c8 => first | k_is | rfl)
    (case k8 => first | k_is | rfl)
    (case l9 => first | k_is | rfl)
    (case c9 => first | k_is | rfl)
    (case k9 => first | k_is | rfl)
    (case l10 => first | k_is | rfl)
    (case c10 => first | k_is | rfl)
    (case k10 => first | k_is | rfl)
    (case l11 => first | k_is | rfl)
    (case c11 => first | k_is | rfl)
    (case k11 => first | k_is | rfl)
    (case l12 => first | k_is | rfl)
    (case c12 => first | k_is | rfl)
    (case k12 => first | k_is | rfl)
    (case l13 => first | k_is | rfl)
    (case c13 => first | k_is | rfl)
    (case k13 => first | k_is | rfl)
    (case l14 => first | k_is | rfl)
    (case c14 => first | k_is | rfl)
    (case k14 => first | k_is | rfl)
    (case l15 => first | k_is | rfl)
    (case c15 => first | k_is | rfl)
    (case k15 => first | k_is | rfl)
    (case l16 => first | k_is | rfl)
    (case c16 => first | k_is | rfl)
    (case k16 => first | k_is | rfl)
    (case l17 => first | k_is | rfl)
    (case c17 => first | k_is | rfl)
    (case k17 => first | k_is | rfl)
    (case l18 => first | k_is | rfl)
    (case c18 => first | k_is | rfl)
    (case k18 => first | k_is | rfl)
    (case l19 => first | k_is | rfl)
    (case c19 => first | k_is | rfl)
    (case k19 => first | k_is | rfl)
    (case l20 => first | k_is | rfl)
    (case c20 => first | k_is | rfl)
    (case k20 => first | k_is | rfl)
    (case l21 => first | k_is | rfl)
    (case c21 => first | k_is | rfl)
    (case k21 => first | k_is | rfl)
    (case z_isinstance => first | k_is | rfl)
    (case z_int => first | k_is | rfl)
    (case z_bool => first | k_is | rfl)
    (case z_tuple => first | k_is | rfl)
    (case z_len => first | k_is | rfl)
    (case z_all => first | k_is | rfl)
    (case z_enumerate => first | k_is | rfl)
    (case z_reversed => first | k_is | rfl)
    (case z_sorted => first | k_is | rfl)
    (case z_max => first | k_is | rfl)
    (case z_min => first | k_is | rfl)
    (case z_abs => first | k_is | rfl)
    (case z_range => first | k_is | rfl)
    (case z_list => first | k_is | rfl)
    (case z_repr => first | k_is | rfl)
    (case z_sum => first | k_is | rfl)
    (case z_any => first | k_is | rfl)
    (case z_zip => first | k_is | rfl)
    (case z_str => first | k_is | rfl)
    (case z_set => first | k_is | rfl)
    (case z_dict => first | k_is | rfl)
    (case z_ValueError => first | k_is | rfl)
    (case x_0 => first | k_exc | rfl)
    (case k_0 => first | k_is | rfl)
    (case b_0 => first | k_is | rfl)
    (case t_0 => first | k_is | rfl)
    (case ga_0 => first | k_is | rfl)
    (case gt_0 => first | k_is | rfl)
    (case hd_0 => first | k_is | rfl)
    (case hc_0 => first | k_is | rfl)
    (case hm_0 => first | k_is | rfl)
    (case v_0 => first | k_is | rfl)
    (case y_0_0 => first | k_is | rfl)
    (case y_0_1 => first | k_is | rfl)
    (case s_0 => first | k_is | rfl)
    (case x_1 => first | k_exc | rfl)
    (case k_1 => first | k_is | rfl)
    (case b_1 => first | k_is | rfl)
    (case t_1 => first | k_is | rfl)
    (case ga_1 => first | k_is | rfl)
    (case gt_1 => first | k_is | rfl)
    (case hd_1 => first | k_is | rfl)
    (case hc_1 => first | k_is | rfl)
    (case hm_1 => first | k_is | rfl)
    (case v_1 => first | k_is | rfl)
    (case y_1_0 => first | k_is | rfl)
    (case y_1_1 => first | k_is | rfl)
    (case s_1 => first | k_is | rfl)
    (case sn => first | k_is | rfl)
    (case st => first | k_is | rfl)
    (case bB => first | k_is | rfl)
    (case hB => first | k_is | rfl)
    (case tB => first | k_is | rfl)
