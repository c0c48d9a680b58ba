import PyProof.Rows.All
import Wide.All
import OpenK.AllK
import Wide.FinOn
import KE.GoesMore
import KE.GoesEnum
import HandS.Base
import HandS.Call
import HandS.List
import HandS.Comp
import HandS.Dict
import HandS.Iter
import HandS.Walk
import HandS.Exc
import HandS.ExcOwn
import Flt.Len
import HandS.ForMost
import HandS.ForExc
import HandS.Wide
import HandS.IsInst
import HandS.ExcIs
import HandS.Conv
import HandS.TupAny
import HandS.SetFor
import HandS.Style
import HandS.CallSlots
import HandS.Codes
import PyProof.ReprBulk
import PyProof.ReprRoads
import HandS.Gcd
import HandS.Zip
import HandS.TupMul
import KE.KMathGC
import HandS.SortInts
import HandS.DictComp
import KE.KDictCopyH
import HandS.TryOnly
import HandS.NoneIn
import PySem.Challenge.RW_heldbehind_k47_errors_of_changes
set_option Elab.async false
set_option linter.all false
set_option maxRecDepth 100000
set_option maxHeartbeats 4000000
/-! Z0: rules of my own beside the hand layer: enumerate over a tuple, powers of great ints, an own error without arguments, list.count of flat items. -/
namespace L2
open PySem PySem.Spec PyProof.Rows
/-! ### enumerate(tuple) -/
theorem zen_new (t : Addr) (items : Array Value) :
    Meets (Builtin.«enumerate.__new__» ⟨[.type "enumerate", .ref t], []⟩) (fun _ R s => s.heap.IsTuple t items ∧
      R (.ok (.ret (.ref (s.heap.push { cls := .type "tuple_iterator", data := .fields #[.ref t, .int 0 0] }).objs.size)))
        { s with heap := (s.heap.push { cls := .type "tuple_iterator", data := .fields #[.ref t, .int 0 0] }).push { cls := .type "enumerate", data := .fields #[.none, .bool false, .ref s.heap.objs.size, rawInt 0, .none, .none] } }) :=
  .of_wp fun prog w A R s hs => by
    obtain ⟨hp, g, d, tk, os⟩ := s; obtain ⟨ht, hs⟩ := hs
    have hsb := sub_enumerate
    have q1 : ∀ {A' : Around} {E : Value → Shared → Prop} {Q : Value → Shared → Prop}, Q (.ref hp.objs.size) ⟨hp.push { cls := .type "tuple_iterator", data := .fields #[.ref t, .int 0 0] }, g, d, tk, os⟩ → wpAny (model prog w) A' (pyIter (.ref t)) Q E ⟨hp, g, d, tk, os⟩ :=
      fun q => wpAny_pyIter_tuple (s := ⟨hp, g, d, tk, os⟩) ht q
    wp_walk using q1
    refine wpAny_stack_any fun st => wpAny_pure ?_
    split
    · rename_i c _ _ _ _ _
      cases hce : (c == Value.type "enumerate")
      · wp_walk using q1
        exact ⟨_, rfl, hs⟩
      · wp_walk using q1
        exact ⟨_, rfl, hs⟩
    · wp_walk using q1
      exact ⟨_, rfl, hs⟩
section
variable {prog : Program} {w : World} {A : Around} {E : Value → Shared → Prop} {s : Shared}
theorem zen_call {t : Addr} {items : Array Value} {Q : Value → Shared → Prop} (ht : s.heap.IsTuple t items)
    (h : ∀ h', IsEnum h' (s.heap.objs.size + 1) s.heap.objs.size 0 .none → h'.IsTupleIter s.heap.objs.size t 0 →
      (∀ b o, s.heap.get? b = some o → h'.get? b = some o) → Q (.ref (s.heap.objs.size + 1)) { s with heap := h' }) :
    wpAny (model prog w) A (call (.type "enumerate") [.ref t]) Q E s := by
  refine callType_new F.called_enumerate (by decide) (F.typeCall_enumerate_1 _) (F.newCall_enumerate_1 _) (fun obj => F.args_object_init_2 obj _) F.entry_enumerate_new (zen_new t items) ⟨ht, ?_⟩
  have hz : (s.heap.push { cls := .type "tuple_iterator", data := .fields #[.ref t, .int 0 0] }).objs.size = s.heap.objs.size + 1 := Heap.size_push ..
  show _ ∧ _
  rw [hz]
  have he := Heap.get?_push_size (s.heap.push { cls := .type "tuple_iterator", data := .fields #[.ref t, .int 0 0] }) (o := { cls := .type "enumerate", data := .fields #[.none, .bool false, .ref s.heap.objs.size, rawInt 0, .none, .none] }) rfl
  rw [hz] at he
  refine ⟨⟨_, he, rfl⟩, h _ he ⟨_, Heap.get?_push_of_some _ (Heap.get?_push_size _ rfl), rfl, rfl⟩ fun b o e => Heap.get?_push_of_some _ (Heap.get?_push_of_some _ e)⟩
end
/-- the tuple at a as it stands at each turn, each item in a new pair -/
def IteT (K : PySem.W.Frag) (a : Addr) : It :=
  ⟨fun i H => ∃ (xs : List V) (x : V), SqT K H a xs ∧ xs[i]? = some x, fun i H v H' => ∃ T x, v = .ref T ∧ H T = none ∧ H' = upd H T (.tup [.int (i : Nat), x]) ∧ ∀ ys, SqT K H a ys → ys[i]? = some x, fun i H => ∃ xs : List V, SqT K H a xs ∧ xs.length = i⟩
theorem zen_turn {P : Program} {w : World} {K : PySem.W.Frag} {elts : List Expr} {kk : Nat} {tpos : Pos} (a e it : Addr) :
    Turn P w K (.Tuple elts kk tpos) (IteT K a) [e, it] e (fun i h => (∃ old, IsEnum h e it ((i : Nat) : Int) old) ∧ h.IsTupleIter it a i ∧ e ≠ it) where
  mem := by simp
  obj := fun i h st b hb => by
    obtain ⟨⟨old, he⟩, ⟨o, ho, hc, hd⟩, _⟩ := st
    have e' : b = e ∨ b = it := by simpa using hb
    rcases e' with z | z
    · exact ⟨_, by rw [z]; exact he, fun v q => by cases q⟩
    · exact ⟨o, by rw [z]; exact ho, fun v q => by rw [hd] at q; cases q⟩
  keep := fun i h h' st k => let ⟨⟨old, he⟩, hi, hne⟩ := st; ⟨⟨old, k e (by simp) _ he⟩, hi.at fun o q => k it (by simp) o q, hne⟩
  item := by
    intro X hP hw hK hc i pins s σ H E I hf st hg
    subst hP hw hK
    obtain ⟨⟨old, he⟩, hit, hne⟩ := st
    obtain ⟨xs, x, hq, hx⟩ := hg
    obtain ⟨its, rv, p, hz⟩ := I.tuple hq
    obtain ⟨u, hu, ru⟩ := rv.get hx
    have hel : e < s.heap.objs.size := Heap.lt_size he
    have hil : it < s.heap.objs.size := by obtain ⟨_, q, _⟩ := hit; exact Heap.lt_size q
    have hai : a ≠ it := by
      intro z
      obtain ⟨o1, q1, c1, _⟩ := p
      obtain ⟨o2, q2, c2, _⟩ := hit
      rw [z, q2] at q1
      cases q1
      rw [c2] at c1
      exact absurd c1 (by decide)
    have hae : a ≠ e := by
      intro z
      obtain ⟨o1, q1, c1, _⟩ := p
      rw [z] at q1
      have q3 := he.symm.trans q1
      cases q3
      have c2 : ("enumerate" : String) = "tuple" := Value.type.inj c1
      exact absurd c2 (by decide)
    have hlt : i < its.toArray.size := by
      have := (List.getElem?_eq_some_iff.mp hu).1
      simpa using this
    have D := Draws.tuple (prog := X.prog) (w := X.w) (A := X.A.in1) (I.ok.hd hc) it a hai its.toArray
    refine wpAny_pyNext_enum_itemD D he ⟨hit, p⟩ hlt hne (by simp [hne, Ne.symm hae]) fun y h' tk hy ho hst hT hsz hk => ?_
    have ey : y = u := by
      have q4 : its[i]? = some y := by simpa using hy
      rw [hu] at q4
      exact (Option.some.inj q4).symm
    subst ey
    refine ⟨_, rfl, wpAny_letOwnedTupleGo_enum (s := { s with heap := h', toks := tk + 1 }) ho fun h'' he' sb => ?_⟩
    have hT2 : h''.get? s.heap.objs.size = some { cls := .type "tuple", data := .seq #[.int i tk, y] } := (sb.2 _ (Nat.ne_of_gt hel)).trans hT
    have new : ObjOk X.prog X.w (upd H s.heap.objs.size (.tup [.int (i : Nat), x])) h'' s.heap.objs.size (.tup [.int (i : Nat), x]) :=
      ⟨by show 2 ≤ sizeLine; decide, [.int i tk, y], .cons ⟨_, rfl⟩ (.cons ru .nil), ⟨_, hT2, rfl, _, rfl⟩⟩
    have I1 : Inv X pins σ (upd H s.heap.objs.size (.tup [.int (i : Nat), x])) { s with heap := h'', toks := tk + 1 } :=
      I.turnedNew (ch := [e, it]) (fun b ob hb q => (sb.2 b (fun z => hb (by simp [z]))).trans (hk b ob (fun z => hb (by simp [z])) (fun z => hb (by simp [z])) q)) hf (Nat.le_refl _) new
    refine ⟨.ref s.heap.objs.size, _, I1, rfl, ⟨_, x, rfl, I.hok.fresh (Nat.le_refl _), rfl, fun ys hy => by rw [I.tuple_inj hy hq]; exact hx⟩, ⟨⟨y, ?_⟩, hst.1.at fun o q => (sb.2 it (Ne.symm hne)).trans q, hne⟩, fun b hb => ?_⟩
    · have e1 : ((i + 1 : Nat) : Int) = (i : Int) + 1 := by omega
      rw [e1]; exact he'
    · have hb' : b < s.heap.objs.size := by
        rcases (by simpa using hb : b = e ∨ b = it) with z | z
        · rw [z]; exact hel
        · rw [z]; exact hil
      rw [upd_ne (Nat.ne_of_lt hb')]; exact (hf b hb).1
  done := by
    intro X hP hw hK hc i pins s σ H E I hf st hg
    subst hP hw hK
    obtain ⟨⟨old, he⟩, hit, hne⟩ := st
    obtain ⟨xs, hq, hx⟩ := hg
    obtain ⟨its, rv, p, hz⟩ := I.tuple hq
    obtain ⟨f0, f1, f2, f3, f4, f5⟩ := hf it (by simp)
    have hl := rv.length
    have hai : a ≠ it := by
      intro z
      obtain ⟨o1, q1, c1, _⟩ := p
      obtain ⟨o2, q2, c2, _⟩ := hit
      rw [z, q2] at q1; cases q1
      rw [c2] at c1
      exact absurd c1 (by decide)
    have hn : its.toArray.size = i := by simp only [List.size_toArray]; omega
    have D := Draws.tuple (prog := X.prog) (w := X.w) (A := X.A.in1) (I.ok.hd hc) it a hai its.toArray
    rw [hn] at D
    exact wpAny_pyNext_enum_endD D he ⟨hit, p⟩ fun h' eb => ⟨rfl, I.turned (t' := s.toks) (fun b o hb q => eb b o hb q) f0 f1 f3 f4 f5⟩
  self := fun A i s Q E st h => let ⟨⟨_, he⟩, _⟩ := st; wpAny_pyIter_enum he h
def iEnumT (K : PySem.W.Frag) (ta : TA) : TI := fun σ H R => ta σ H fun vs H1 => ∃ a xs, vs = [.ref a] ∧ SqT K H1 a xs ∧ R (IteT K a) H1
theorem pi_enumT {X : Cx} {e : Expr} {ta : TA} {p pos tpos : Pos} {elts : List Expr} {kk : Nat} (hg : Gl X "enumerate") (hm : X.mg "enumerate" = none) (ha : PA X [e] ta) (hs : starEach [e] X.env = [(false, eval e X.env)] := by rfl) :
    PI X (.Tuple elts kk tpos) (.Call (.Name "enumerate" p) [e] [] pos) (iEnumT X.K ta) := by
  refine ⟨fun pins s σ H R I h => Call_ (ld_blt I hg hm boot_enumerate (PyProof.Rows.callWith_type1 (thn (ha.run pos pins s σ H _ I h) fun us s1 ⟨vs, H1, I1, r1, q1⟩ => ?_) hs rfl))⟩
  obtain ⟨a, xs, ex, hq, q⟩ := q1
  subst ex
  cases r1 with
  | cons r rr =>
    cases rr; cases r
    obtain ⟨its, rv, p', hz⟩ := I1.tuple hq
    refine zen_call p' fun h' he hit hk => wpAny_pyIter_enum he ?_
    have I2 : Inv X pins σ H1 { s1 with heap := h' } := I1.kept (t' := s1.toks) hk
    refine ⟨s1.heap.objs.size + 1, [s1.heap.objs.size + 1, s1.heap.objs.size], _, _, H1, rfl, I2, zen_turn a (s1.heap.objs.size + 1) s1.heap.objs.size, ⟨⟨.none, he⟩, hit, Nat.succ_ne_self _⟩, fun b hb => ?_, q⟩
    have hle : s1.heap.objs.size ≤ b := by
      rcases (by simpa using hb : b = s1.heap.objs.size + 1 ∨ b = s1.heap.objs.size) with z | z
      · rw [z]; exact Nat.le_add_right _ _
      · rw [z]; exact Nat.le_refl _
    exact I1.fpOk hle (I1.hok.fresh hle)
theorem walk_enumT {K : PySem.W.Frag} {a : Addr} {xs : List V} : Walk (IteT K a) xs.length (fun H => SqT K H a xs) (YPair (fun i => some (.int (i : Nat))) (fun i => xs[i]?)) := by
  refine ⟨fun i _ hi q => ⟨xs, xs[i], q, by simp [hi]⟩, fun _ q => ⟨xs, q, rfl⟩, fun i H v H' _ q ⟨T, x, h1, h2, h3, h4⟩ => ⟨T, .int (i : Nat), x, h1, h2, h3, rfl, h4 xs q⟩⟩
/-! ### powers -/
def CPowW (i j : Int) : Prop := 0 ≤ j ∧ (Builtin.Int.intBits i : Int) * j ≤ 2 ^ 27
theorem op_powW {X : Cx} : OpR X (binaryOp .Pow) (rI CPowW fun i j => .int (i ^ j.toNat)) := opI fun _ _ _ _ _ _ _ hc q => pow_int hc.1 hc.2 q
theorem cpow3 {i : Int} {b : Nat} (h : i.natAbs < 2 ^ b) (hb : 0 < b) (h9 : b ≤ 9000) : CPowW i 3 := by
  refine ⟨by decide, ?_⟩
  have z : Builtin.Int.intBits i ≤ b := by
    unfold Builtin.Int.intBits
    have y := PySem.Flt.log2_lt_of hb h
    split <;> omega
  have e : (2 : Int) ^ 27 = 134217728 := by decide
  rw [e]; omega
/-! ### an own error without arguments -/
theorem pmk_own0 {X : Cx} {C : Addr} {bmB : List Value} {B newId initId : String} {x : Str} {p pos : Pos} (F : ExcBaseFacts B newId initId bmB) (q : PySem.W.excIn X.K C bmB newId = true) (gC : X.mg x = some (.ref C)) (kC : PySem.W.keepIn X.K (.ref C) = true) (r : Raises X (.ref C)) (hg : Gl X x)
    (hdb : (x == ("__debug__" : Str)) = false := by decide) : PMk X (.Call (.Name x p) [] [] pos) (fun _ H Q => Q (.ref C) none H) := by
  intro pins s σ H Q I h
  refine wpAny_Call_Name_kw (ld_glob I hg gC ?_ hdb)
  refine PySem.W.callWith_K0 I.kIn kC ?_
  obtain ⟨bm, N, nm, qn, bs, hdct, sn, sub, ab, col, dd, k0, k1, k2, k3, k5, mN, hC, hN, hni, T⟩ := exc_obj I.kIn q
  exact wpAny_call_exc_subT F T hC hN hni (fun h' e hm => mk_of I hm r h (I.hok.gone hm.new)) (Nat.zero_le _)
/-! ### list.count of flat items -/
def cntV (y : V) (xs : List V) : Nat := xs.countP fun z => eqV z y
theorem count_eqU {x : V} : ∀ {xs : List V} {us : List Value}, Vals xs us → xs.all flatV = true → us.countP (eqU x) = cntV x xs
  | _, _, .nil, _ => rfl
  | y :: xs, u :: us, .cons r t, f => by
    rw [List.all_cons, Bool.and_eq_true] at f
    unfold cntV
    rw [List.countP_cons, List.countP_cons, eqU_of r f.1, count_eqU t f.2]; rfl
def rCntV (K : PySem.W.Frag) : V → List V → Hp → VK → Prop := fun x xs H Q => ∃ (a : Addr) (ys : List V) (y : V), x = .ref a ∧ xs = [y] ∧ SqL K H a ys ∧ flatV y = true ∧ ys.all flatV = true ∧ Q (.int (cntV y ys : Nat)) H
theorem mt_lcountV {X : Cx} : MtR X "list.count" (rCntV X.K) := by
  intro pins s σ H x xs v us Q I rx rxs h
  obtain ⟨a, ys, y, rfl, rfl, hs, fy, fys, q⟩ := h
  cases rx
  obtain ⟨u, rfl, ru⟩ := rxs.one
  obtain ⟨its, rv, ⟨⟨cls, dd, data, sl⟩, n, ho, hc, hdn, hd⟩, hlen⟩ := I.list hs
  simp only at hc hd
  subst hc hd
  refine call_meets PySem.F.slot_list_count ⟨_, ho, rfl⟩ PySem.F.entry_list_count (PySem.F.args_list_count_2 _ _) (SeqAt.list_countAt a its.toArray n dd sl u (eqU y)) ⟨ho, fun z hz => mem_eqAt ru fy rv fys z (by simpa using hz), ?_⟩
  exact ⟨.int (cntV y ys : Nat), H, I.tok _, ⟨s.toks, by rw [← count_eqU rv fys]⟩, q⟩
end L2

namespace L2
open PySem PySem.Spec PyProof.Rows
/-! ### a def of the text with its name, and one that keeps its promise -/
structure Df (K : PySem.W.Frag) (mg : Str → Option Value) (x : Str) (st : Stmt) (ps : List Str) : Prop where
  ex : ∃ (f : Addr) (fd : FuncData), Fun K x x st f fd ∧ mg x = some (.ref f) ∧ Binds K fd ps [] ∧
    ∃ (kV doc pm : Value) (an : Option Addr) (cdv ct : Value), fd = PySem.W.fnOf x x (defArgs st) (defBody st) (defScope st) .none kV doc pm an cdv ct
structure Kn (P : Program) (w : World) (K : PySem.W.Frag) (mg : Str → Option Value) (base : Heap) (CX : CXT) (k : Nat) (x : Str) (st : Stmt) (ps : List Str) (sp : Sp) : Prop where
  ex : ∃ (f : Addr) (fd : FuncData), FnOk P w K mg base CX k f fd ps sp ∧ mg x = some (.ref f) ∧ PySem.W.keepIn K (.ref f) = true ∧ Binds K fd ps [] ∧
    ∃ (kV doc pm : Value) (an : Option Addr) (cdv ct : Value), fd = PySem.W.fnOf x x (defArgs st) (defBody st) (defScope st) .none kV doc pm an cdv ct
section
variable {P : Program} {w : World} {K : PySem.W.Frag} {mg : Str → Option Value} {base : Heap} {x : Str} {st : Stmt} {ps N : List Str} {k : Nat} {sp : Sp}
theorem Df.mk' {f : Addr} {oc : Value} {od an : Option Addr} {osl : Array (Option Value)} {kV doc pm cdv ct : Value} (l : K.lookup f = some ⟨oc, od, .func (PySem.W.fnOf x x (defArgs st) (defBody st) (defScope st) .none kV doc pm an cdv ct), osl⟩)
    (c : PySem.W.codeIn K cdv x = true) (kp : PySem.W.keepIn K (.ref f) = true) (g : mg x = some (.ref f))
    (h : ∀ (kV doc pm : Value) (an : Option Addr) (cdv ct : Value) (us : List Value), us.length = ps.length → bindArgs (PySem.W.fnOf x x (defArgs st) (defBody st) (defScope st) .none kV doc pm an cdv ct) ⟨us, []⟩ = pure (ps.zip us)) : Df K mg x st ps :=
  ⟨f, _, fun_mk l c kp, g, (fun_mk l c kp).binds h, _, _, _, _, _, _, rfl⟩
theorem Df.ok (D : Df K mg x st ps) (S : FnScope N ps (defScope st)) (len : ∀ vs H Q E, sp vs H Q E → vs.length = ps.length)
    (hb : ∀ (f : Addr) (cdv : Value) (A : Around) (outer : List Env) (s : Shared) (H : Hp) (vs : List V) (Q : VK) (E : XK), Room k (A.deeper (envOfC x (defScope st) s.heap.objs.size f cdv)) → sp vs H Q E →
      ∃ t, PSs (cxOf CX0 P w K mg base N x (defScope st) f cdv A outer s H E).nox (defBody st) t ∧ t { nx := fun _ H' => Q .non H', rt := Q } (start N vs) H) : Kn P w K mg base CX0 (k + 1) x st ps sp := by
  obtain ⟨f, fd, F, g, b, e⟩ := D.ex
  exact ⟨f, fd, F.ok S len fun cdv A outer s H vs Q E hr h => hb f cdv A outer s H vs Q E hr h, g, F.kp, b, e⟩
theorem Df.okX (D : Df K mg x st ps) (S : FnScope N ps (defScope st)) (len : ∀ vs H Q E, sp vs H Q E → vs.length = ps.length)
    (hb : ∀ (f : Addr) (cdv : Value) (A : Around) (outer : List Env) (s : Shared) (H : Hp) (vs : List V) (Q : VK) (E : XK), Room k (A.deeper (envOfC x (defScope st) s.heap.objs.size f cdv)) → sp vs H Q E →
      ∃ t, PSs (cxOf (L2.CX P w) P w K mg base N x (defScope st) f cdv A outer s H E) (defBody st) t ∧ t { nx := fun _ H' => Q .non H', rt := Q } (start N vs) H) : Kn P w K mg base (L2.CX P w) (k + 1) x st ps sp := by
  obtain ⟨f, fd, F, g, b, e⟩ := D.ex
  exact ⟨f, fd, F.okX S len fun cdv A outer s H vs Q E hr h => hb f cdv A outer s H vs Q E hr h, g, F.kp, b, e⟩
end
section
variable {X : Cx} {CX : CXT} {k : Nat} {x : Str} {st : Stmt} {ps ks : List Str} {sp : Sp} {E : XK} {p pos : Pos} {e : Expr} {es : List Expr} {kws : List Keyword} {t tk : TA}
theorem pe_callF (h : Kn X.prog X.w X.K X.mg X.base CX k x st ps sp) (hr : Room k X.A) (hx : Passes CX X E) (ha : PA X (e :: es) t) (hg : Gl X x := by rfl)
    (hdb : (x == ("__debug__" : Str)) = false := by decide) (he : starEach (e :: es) X.env = (false, eval e X.env) :: starEach es X.env := by rfl) (hpl : (backTo pos (starEach es X.env)).any (·.1) = false := by rfl) :
    PE X (.Call (.Name x p) (e :: es) [] pos) (tCall sp [] E t) := by
  obtain ⟨f, fd, F, g, kp, b, _⟩ := h.ex
  exact pe_call F hr hg g kp b .nil hx ha hdb he hpl
theorem pe_callF0 (h : Kn X.prog X.w X.K X.mg X.base CX k x st ps sp) (hr : Room k X.A) (hx : Passes CX X E) (hg : Gl X x := by rfl) (hdb : (x == ("__debug__" : Str)) = false := by decide) : PE X (.Call (.Name x p) [] [] pos) (tCall sp [] E tNil) := by
  obtain ⟨f, fd, F, g, kp, b, _⟩ := h.ex
  exact pe_call0 F hr hg g kp b .nil hx hdb
theorem pe_callFS {E : St → XK} (h : Kn X.prog X.w X.K X.mg X.base CX k x st ps sp) (hr : Room k X.A) (hx : ∀ σ, PassesAt CX X σ (E σ)) (ha : PA X (e :: es) t) (hg : Gl X x := by rfl)
    (hdb : (x == ("__debug__" : Str)) = false := by decide) (he : starEach (e :: es) X.env = (false, eval e X.env) :: starEach es X.env := by rfl) (hpl : (backTo pos (starEach es X.env)).any (·.1) = false := by rfl) :
    PE X (.Call (.Name x p) (e :: es) [] pos) (tCallS sp E t) := by
  obtain ⟨f, fd, F, g, kp, b, _⟩ := h.ex
  exact pe_callS F hr hg g kp b hx ha hdb he hpl
/-- how keywords bind, whatever the def's loose parts are -/
def KwB (x : Str) (st : Stmt) (ps ks : List Str) (g : List Value → List Value → List Value) (gV : List V → List V → List V) : Prop :=
  (∀ (kV doc pm : Value) (an : Option Addr) (cdv ct : Value) (us ws : List Value), (g us ws).length = ps.length →
    bindArgs (PySem.W.fnOf x x (defArgs st) (defBody st) (defScope st) .none kV doc pm an cdv ct) ⟨us, ks.zip ws⟩ = pure (ps.zip (g us ws))) ∧
  ∀ {vs : List V} {us : List Value} {zs : List V} {ws : List Value}, Vals vs us → Vals zs ws → Vals (gV vs zs) (g us ws)
variable {g : List Value → List Value → List Value} {gV : List V → List V → List V}
theorem pe_callFK (h : Kn X.prog X.w X.K X.mg X.base CX k x st ps sp) (hr : Room k X.A) (hb : KwB x st ps ks g gV) (hx : Passes CX X E) (ha : PA X (e :: es) t) (hkw : PK X kws tk) (hg : Gl X x := by rfl)
    (hall : (backToKw pos (keywordEach kws X.env)).all (·.1.isSome) = true := by rfl) (hks : (backToKw pos (keywordEach kws X.env)).filterMap (·.1) = ks := by rfl)
    (hdb : (x == ("__debug__" : Str)) = false := by decide) (he : starEach (e :: es) X.env = (false, eval e X.env) :: starEach es X.env := by rfl)
    (hpl : ((backTo pos (starEach (e :: es) X.env)).any (·.1) || (backToKw pos (keywordEach kws X.env)).any (·.1.isNone)) = false := by rfl) :
    PE X (.Call (.Name x p) (e :: es) kws pos) (tCallK sp gV E t tk) := by
  obtain ⟨f, fd, F, gm, kp, b, kV, doc, pm, an, cdv, ct, rfl⟩ := h.ex
  exact pe_callK F hr hg gm kp ⟨fun s us ws _ hl => .of_eq (hb.1 kV doc pm an cdv ct us ws hl), hb.2⟩ hx ha hkw hall hks hdb he hpl
/-- f(k = v, ..), no positional -/
theorem pe_callFK0 (h : Kn X.prog X.w X.K X.mg X.base CX k x st ps sp) (hr : Room k X.A) (hb : KwB x st ps ks g gV) (hx : Passes CX X E) (hkw : PK X kws tk) (hg : Gl X x := by rfl)
    (hall : (backToKw pos (keywordEach kws X.env)).all (·.1.isSome) = true := by rfl) (hks : (backToKw pos (keywordEach kws X.env)).filterMap (·.1) = ks := by rfl)
    (hdb : (x == ("__debug__" : Str)) = false := by decide)
    (hpl : ((backTo pos (starEach [] X.env)).any (·.1) || (backToKw pos (keywordEach kws X.env)).any (·.1.isNone)) = false := by rfl) :
    PE X (.Call (.Name x p) [] kws pos) (tCallK sp gV E tNil tk) := by
  obtain ⟨f, fd, F, gm, kp, b, kV, doc, pm, an, cdv, ct, rfl⟩ := h.ex
  have hbb : KBinds X.K (PySem.W.fnOf x x (defArgs st) (defBody st) (defScope st) .none kV doc pm an cdv ct) ps ks g gV := ⟨fun s us ws _ hl => .of_eq (hb.1 kV doc pm an cdv ct us ws hl), hb.2⟩
  refine ⟨fun pins s σ H Q I hq => wpAny_Call_Name_kw (ld_glob I hg gm ?_ hdb)⟩
  refine PySem.W.callWith_KW0 (h₀ := X.base) I.ok.mod.kin kp hall (thn (hkw.run pos pins s σ H _ I hq) fun ws s2 ⟨zs, H2, I2, rz, q2⟩ => ⟨I2.kIn, ?_⟩) hpl
  rw [hks]
  exact run_fnk F hr hbb hx I2 .nil rz q2
end
/-! ### rules whose reading names K outright (for a comprehension's block) -/
def rLenK (K : PySem.W.Frag) : List V → Hp → VK → Prop := fun xs H Q => ∃ x n, xs = [x] ∧ LenV K x H n ∧ Q (.int n) H
theorem call_lenK {X : Cx} (K : PySem.W.Frag) (e : X.K = K := by rfl) : CallR X (.builtin "len") (rLenK K) := by subst e; exact call_len
theorem call_isiK1 {X : Cx} (K : PySem.W.Frag) (e : X.K = K := by rfl) : CallR X (.builtin "isinstance") (rIsi K) := by subst e; exact call_isi
theorem ix_listK {X : Cx} (K : PySem.W.Frag) (e : X.K = K := by rfl) : IxR X (rIxL K) := by subst e; exact ix_list
theorem ix_tupK {X : Cx} (K : PySem.W.Frag) (e : X.K = K := by rfl) : IxR X (rIxT K) := by subst e; exact ix_tup
theorem op_in_seqK {X : Cx} (K : PySem.W.Frag) (e : X.K = K := by rfl) : OpR X (compareOp .In) (rIn K false) := by subst e; exact op_in_seq
theorem op_notIn_seqK {X : Cx} (K : PySem.W.Frag) (e : X.K = K := by rfl) : OpR X (compareOp .NotIn) (rIn K true) := by subst e; exact op_notIn_seq
theorem op_eqDK {X : Cx} (K : PySem.W.Frag) (hu : X.A.units + 64 < cLine) (e : X.K = K := by rfl) : OpR X (compareOp .Eq) (rEqD K) := by subst e; exact op_eqD hu
theorem op_neDK {X : Cx} (K : PySem.W.Frag) (hu : X.A.units + 64 < cLine) (e : X.K = K := by rfl) : OpR X (compareOp .NotEq) (rNeD K) := by subst e; exact op_neD hu
/-! ### heaps -/
theorem Same.upd {H H' : Hp} {p : Addr} {o : HO} (s : Same H H') (h : H p = none) : Same H (upd H' p o) := fun b u e => by
  rw [upd_ne (ne_of_none e h)]; exact s b u e
theorem Same.new {H H' : Hp} {p : Addr} {o : HO} (s : Same H H') (h : H' p = none) : Same H (L2.upd H' p o) := s.upd (s.free h)
theorem Same.tseq {K : PySem.W.Frag} {H H' : Hp} {a : Addr} {xs : List V} (e : Same H H') (h : SqT K H a xs) : SqT K H' a xs := by
  rcases h with (h | ⟨o, h⟩) | h
  · exact .inl (.inl (e _ _ h))
  · exact .inl (.inr ⟨o, e _ _ h⟩)
  · exact .inr h
/-- all but what stands at a is as it was -/
def Keep (a : Addr) (H H' : Hp) : Prop := ∀ b o, b ≠ a → H b = some o → H' b = some o
theorem Keep.refl (a : Addr) (H : Hp) : Keep a H H := fun _ _ _ h => h
theorem Keep.trans {a : Addr} {H H1 H2 : Hp} (x : Keep a H H1) (y : Keep a H1 H2) : Keep a H H2 := fun b o hb h => y b o hb (x b o hb h)
theorem Same.keep {a : Addr} {H H' : Hp} (s : Same H H') : Keep a H H' := fun b o _ h => s b o h
theorem Keep.upd (a : Addr) (H : Hp) (o : HO) : Keep a H (upd H a o) := fun b u hb h => by rw [upd_ne hb]; exact h
theorem Keep.new {a p : Addr} {H H' : Hp} {o : HO} (x : Keep a H H') (h : H' p = none) : Keep a H (L2.upd H' p o) := fun b u hb e => by
  have q := x b u hb e
  rw [upd_ne (ne_of_none q h)]; exact q
end L2

/-! Z2: promises of defs that are called where no repr is under way; repr; a tuple held against (). -/
namespace L2
open PySem PySem.Spec PyProof.Rows
/-! ### promises that hold where no repr is under way -/
structure Qui (P : Program) (w : World) (K : PySem.W.Frag) (mg : Str → Option Value) (base : Heap) (k : Nat) (f : Addr) (fd : FuncData) (ps : List Str) (sp : Sp) : Prop where
  many : ∀ vs H Q E, sp vs H Q E → vs.length = ps.length
  go : ∀ (A : Around) (outer : List Env) (s : Shared) (H : Hp) (args : Args) (us : List Value) (vs : List V) (Q : VK) (E : XK), Room k A → A.guards = some [] → Env0 P w K mg base A outer s H → BindsTo s fd args (ps.zip us) →
    Vals vs us → sp vs H Q E → codeAny (model P w) A (.call (.ref f) args) (CR CX0 outer P w H s Q E) s
structure KnQ (P : Program) (w : World) (K : PySem.W.Frag) (mg : Str → Option Value) (base : Heap) (k : Nat) (x : Str) (st : Stmt) (ps : List Str) (sp : Sp) : Prop where
  ex : ∃ (f : Addr) (fd : FuncData), Qui P w K mg base k f fd ps sp ∧ mg x = some (.ref f) ∧ PySem.W.keepIn K (.ref f) = true ∧ Binds K fd ps []
theorem fin_flow {X : Cx} {outer : List Env} {P : Program} {w : World} {H : Hp} {s s' : Shared} {Q : VK} {E : XK} {fl : Flow} (hp : X.prog = P) (hw : X.w = w) (h0 : X.s_0 = s) (hH : X.H_0 = H) (hf : X.fs = frs outer) (he : X.ex = []) :
    SP X [] { nx := fun _ H' => Q .non H', rt := Q } fl s' → CR CX0 outer P w H s Q E (.ok (.ret (match fl with | .ret v => v | _ => .none))) s' := by
  intro h
  subst hp hw h0 hH
  have last : ∀ {σ : St} {H' : Hp} {v : V} {u : Value}, Inv X [] σ H' s' → RelV v u → Q v H' → CE outer X.prog X.w X.H_0 X.s_0 Q u s' := by
    intro σ H' v u I r q
    have b := I.base
    rw [hf, he] at b
    exact ⟨v, H', I.os, I.bare, b, I.hok, r, q⟩
  match fl, h with
  | .ret u, ⟨_, _, _, I, r, q⟩ => exact last I r q
  | .next, ⟨_, _, I, q⟩ => exact last (v := .non) (u := .none) I rfl q
  | .brk, ⟨_, _, _, q⟩ => exact q.elim
  | .cont, ⟨_, _, _, q⟩ => exact q.elim
section
variable {P : Program} {w : World} {K : PySem.W.Frag} {mg : Str → Option Value} {base : Heap} {x : Str} {st : Stmt} {ps N : List Str} {k : Nat} {sp : Sp}
theorem Fun.quiet {f : Addr} {fd : FuncData} (F : Fun K x x st f fd) (S : FnScope N ps (defScope st)) (many : ∀ vs H Q E, sp vs H Q E → vs.length = ps.length)
    (hb : ∀ (cdv : Value) (A : Around) (outer : List Env) (s : Shared) (H : Hp) (vs : List V) (Q : VK) (E : XK), Room k (A.deeper (envOfC x (defScope st) s.heap.objs.size f cdv)) → A.guards = some [] → sp vs H Q E →
      ∃ t, PSs (cxOf CX0 P w K mg base N x (defScope st) f cdv A outer s H E).nox (defBody st) t ∧ t { nx := fun _ H' => Q .non H', rt := Q } (start N vs) H) : Qui P w K mg base (k + 1) f fd ps sp := by
  refine ⟨many, ?_⟩
  obtain ⟨oc, od, kV, doc, pm, an, cdv, ct, osl, rfl, found, code⟩ := F.ex
  intro A outer s H args us vs Q E room quiet here binds vals promise
  have old : ∀ b o, base.get? b = some o → s.heap.get? b = some o := fun b o e => (here.bs b o e).1
  have kin := here.mod.kin.keeps old
  refine codeAny_call_function room.depth (kin _ _ found) rfl S.co S.gen rfl (PySem.W.codeRec_of kin code) (binds _ _ _ _ (wpAny_newFunctionEnv_cells S.kind ?_ ?_))
  · rintro ⟨n, v⟩ hy
    exact (S.par n (List.of_mem_zip hy).1).imp id fun z => ⟨z, PySem.W.cellsFrom_some _ _ _ (.inl z)⟩
  · rintro _ rfl s1 called
    obtain ⟨t, ht, h0⟩ := hb cdv A outer s H vs Q E (room.deeper _) quiet promise
    have I := inv_start (CX := CX0) (E := E) S room.hd here (many _ _ _ _ promise) vals called
    refine ⟨(here.mod.nolimit.keeps old).keeps called.toInCall.keep, codeAny_func ?_⟩
    exact wpAny_mono (ht.nox.run [] s1 _ H _ I h0) (fun _ _ h => fin_flow (X := cxOf CX0 P w K mg base N x (defScope st) f cdv A outer s H E) (outer := outer) (E := E) rfl rfl rfl rfl rfl rfl h) fun _ _ h => h
theorem Df.okQ (D : Df K mg x st ps) (S : FnScope N ps (defScope st)) (many : ∀ vs H Q E, sp vs H Q E → vs.length = ps.length)
    (hb : ∀ (f : Addr) (cdv : Value) (A : Around) (outer : List Env) (s : Shared) (H : Hp) (vs : List V) (Q : VK) (E : XK), Room k (A.deeper (envOfC x (defScope st) s.heap.objs.size f cdv)) → A.guards = some [] → sp vs H Q E →
      ∃ t, PSs (cxOf CX0 P w K mg base N x (defScope st) f cdv A outer s H E).nox (defBody st) t ∧ t { nx := fun _ H' => Q .non H', rt := Q } (start N vs) H) : KnQ P w K mg base (k + 1) x st ps sp := by
  obtain ⟨f, fd, F, g, b, e⟩ := D.ex
  exact ⟨f, fd, F.quiet S many fun cdv A outer s H vs Q E => hb f cdv A outer s H vs Q E, g, F.kp, b⟩
end
section
variable {X : Cx} {k : Nat} {x : Str} {st : Stmt} {ps : List Str} {sp : Sp} {E : XK} {p pos : Pos} {e : Expr} {es : List Expr} {t : TA}
theorem pe_callQ (h : KnQ X.prog X.w X.K X.mg X.base k x st ps sp) (hr : Room k X.A) (hq : X.A.guards = some []) (ha : PA X (e :: es) t) (hg : Gl X x := by rfl)
    (hdb : (x == ("__debug__" : Str)) = false := by decide) (he : starEach (e :: es) X.env = (false, eval e X.env) :: starEach es X.env := by rfl) (hpl : (backTo pos (starEach es X.env)).any (·.1) = false := by rfl) :
    PE X (.Call (.Name x p) (e :: es) [] pos) (tCall sp [] E t) := by
  obtain ⟨f, fd, F, gm, kp, b⟩ := h.ex
  constructor
  intro pins s σ H Q I h
  refine wpAny_Call_Name_kw (ld_glob I hg gm (PySem.W.callWith_K (h₀ := X.base) I.ok.mod.kin kp (thn (ha.run pos pins s σ H _ I h) ?_) he hpl) hdb)
  rintro us s1 ⟨vs, H1, J, r, q⟩
  rw [List.append_nil] at q
  refine ⟨J.kIn, wpAny_call (codeAny_mono (F.go X.A X.stack s1 H1 ⟨us, []⟩ us vs Q E hr hq J.env0 ?_ r q) ?_)⟩
  · have z := b s1 us J.kIn (by rw [List.append_nil, ← r.length]; exact F.many _ _ _ _ q)
    rw [List.append_nil] at z; exact z
  · rintro (e | fl) s' z
    · exact z.elim
    · match fl, z with
      | .ret u, z => exact J.after z
      | .next, z => exact z.elim
      | .brk, z => exact z.elim
      | .cont, z => exact z.elim
end
/-! ### a law whose def is such a one -/
/-- the heap in which just the script may be tracked -/
theorem script_hp {P : Program} {w : World} {K : PySem.W.Frag} {s : Shared} {a : Addr} {vs : List Value} {ns : List Int} (kin : K.In s.heap) (ha : s.heap.get? a = some { cls := .type "list", data := .seq vs.toArray }) (hi : IntsAre vs ns) (hl : ns.length ≤ sizeLine) :
    ∃ H : Hp, Only H ∧ SqL K H a (ns.map V.int) ∧ HOk P w H s.heap ∧ (∀ b o, H b = some o → b = a ∧ K.lookup a = none ∧ o = .frz { cls := .type "list", data := .seq vs.toArray } (.lst (ns.map V.int))) := by
  have r := vals_ints hi
  rcases hk : K.lookup a with _ | o
  · have off : ∀ b o, (if b = a then some (HO.frz { cls := .type "list", data := .seq vs.toArray } (.lst (ns.map V.int))) else none) = some o → b = a ∧ o = .frz { cls := .type "list", data := .seq vs.toArray } (.lst (ns.map V.int)) := fun b o z => by
      split at z
      · exact ⟨by assumption, (Option.some.inj z).symm⟩
      · cases z
    refine ⟨fun b => if b = a then some (.frz { cls := .type "list", data := .seq vs.toArray } (.lst (ns.map V.int))) else none, fun b => ?_, .inl (.inr ⟨_, if_pos rfl⟩), fun b o z => ?_, fun b o z => ⟨(off b o z).1, rfl, (off b o z).2⟩⟩
    · by_cases c : b = a
      · exact .inr ⟨_, _, if_pos c⟩
      · exact .inl (if_neg c)
    · obtain ⟨rfl, rfl⟩ := off b o z
      exact ⟨ha, by rw [List.length_map]; exact hl, vs, _, r, ha⟩
  · have z := ha.symm.trans (kin a o hk)
    cases z
    exact ⟨fun _ => none, fun _ => .inl rfl, .inr ⟨_, vs.toArray, _, hk, rfl, rfl, rfl, by rw [List.size_toArray, hi.length]; exact hl, by simpa using r⟩, fun _ _ z => (by cases z), fun _ _ z => (by cases z)⟩
theorem law_callQ {P : Program} {w : World} {K : PySem.W.Frag} {mg mb : Str → Option Value} {k : Nat} {fa a : Addr} {fd : FuncData} {x : Str} {sp : Sp} {s : Shared} {vs : List Value} {ns : List Int}
    (kin : K.In s.heap) (glob : s.heap.Ns mainGlobals mg) (blt : s.heap.Ns builtinsNs mb) (boot : ∀ x : Str, x ≠ "__name__" → mb x = bootBuiltins x) (lim : s.heap.NoLimit) (gens : s.gens = #[])
    (ha : s.heap.get? a = some { cls := .type "list", data := .seq vs.toArray }) (hi : IntsAre vs ns) (hl : ns.length ≤ sizeLine) (hr : Room k callerA)
    (F : ∀ base : Heap, K.In base → base.Ns mainGlobals mg → Qui P w K mg base k fa fd [x] sp) (bind : ∀ (s : Shared) (u : Value), BindsTo s fd ⟨[u], []⟩ [(x, u)])
    (hsp : ∀ H : Hp, Only H → SqL K H a (ns.map V.int) → sp [.ref a] H (fun v _ => v = .bl true) fun _ _ _ => False) :
    codeAny (model P w) callerA (.call (.ref fa) ⟨[.ref a], []⟩) (fun r s' => r = .ok (.ret (.bool true)) ∧ OldK s.heap s'.heap ∧ s'.os = s.os ∧ AllBare s'.gens) s := by
  obtain ⟨H, only, script, held, alone⟩ := script_hp (P := P) (w := w) kin ha hi hl
  -- what is not the script's object lies in the base
  have low : ∀ {b : Addr} {o : Obj}, s.heap.get? b = some o → (∀ xs n, o.data ≠ .seq xs n ∨ K.lookup b ≠ none) → (hidT s.heap H).get? b = some o := fun {b o} e d => by
    refine hidT_get e ?_
    rcases z : H b with _ | u
    · rfl
    · obtain ⟨rfl, n, _⟩ := alone b u z
      rw [ha] at e
      cases e
      rcases d vs.toArray 0 with y | y
      · exact absurd rfl y
      · exact absurd n y
  have spaces : ∀ {b : Addr} {m : Str → Option Value}, s.heap.Ns b m → (hidT s.heap H).Ns b m := fun ⟨o, es, ep, e, d, z⟩ => ⟨o, es, ep, low e fun xs n => .inl (by rw [d]; intro q; cases q), d, z⟩
  have kinB : K.In (hidT s.heap H) := fun b o e => low (kin b o e) fun xs n => .inr (by intro q; rw [e] at q; cases q)
  have room : Env0 P w K mg (hidT s.heap H) callerA [] s H :=
    ⟨rfl, ⟨kinB, spaces glob, ⟨mb, spaces blt, boot⟩, lim.imp fun mc z => ⟨spaces z.1, z.2⟩⟩, fun _ _ => of_hidT, Nat.le_of_eq (hidT_size _ _), trivial, fun b z => absurd (show b ∈ ([] : List Addr) from z) List.not_mem_nil, held, .of_eq gens⟩
  refine codeAny_mono ((F _ kinB (spaces glob)).go callerA [] s H ⟨[.ref a], []⟩ [.ref a] [.ref a] _ _ hr rfl room (bind s (.ref a)) (.cons rfl .nil) (hsp H only script)) ?_
  rintro (e | fl) s' z
  · exact z.elim
  match fl, z with
  | .next, z => exact z.elim
  | .brk, z => exact z.elim
  | .cont, z => exact z.elim
  | .ret u, ⟨v, H', os, bare, un, held', r, q⟩ =>
    cases (show v = V.bl true from q)
    cases (show u = Value.bool true from r)
    refine ⟨rfl, OldK.of_keep fun b o e => ?_, os, bare⟩
    rcases y : H b with _ | u
    · exact un.keep b o e y (fun z => absurd (show b ∈ ([] : List Addr) from z) List.not_mem_nil) (fun z => absurd (show b ∈ ([] : List Addr) from z) List.not_mem_nil)
    · obtain ⟨rfl, _, rfl⟩ := alone b u y
      have h1 := (held b _ y).1
      have h2 := (held' b _ (un.frzs b _ _ y)).1
      rw [e] at h1
      cases h1
      exact h2
theorem walk_ofQ {l : PySem.W.OpenLaw} {n k : Nat} {q : Program} {loose : List Str} {XP : (Str → Option Value) → Heap → Prop} {YP : World → Heap → Prop} {d : DefRec} {K : Params → PySem.W.Frag} {sp : World → Sp} {x : Str}
    (hn : l.most = some n) (hn2 : n ≤ sizeLine) (hdf : d.params.defaults = []) (hr : Room k callerA) (kin : ∀ (w : World) (h : Heap), YP w h → (K w.params).In h)
    (F : ∀ (w : World) (mg : Str → Option Value) (fa : Addr) (h : Heap), (K w.params).In h → h.Ns mainGlobals mg → mg d.name = some (.ref fa) →
      ∃ fd : FuncData, (∀ (s : Shared) (u : Value), BindsTo s fd ⟨[u], []⟩ [(x, u)]) ∧ ∀ base : Heap, (K w.params).In base → base.Ns mainGlobals mg → Qui l.prog w (K w.params) mg base k fa fd [x] (sp w))
    (hsp : ∀ (w : World) (H : Hp) (a : Addr) (ns : List Int), ns.length ≤ n → Only H → SqL (K w.params) H a (ns.map V.int) → sp w [.ref a] H (fun v _ => v = .bl true) fun _ _ _ => False) :
    PySem.W.WalkO q loose XP YP l.row.toRowW d [] (fun f vs => PySem.call f vs) := by
  refine Att.attach_call hn hdf ?_
  intro w _ s₁ mg mb fa o pm cd doc a vs ns G Y _ _ _ named script whole many bare
  obtain ⟨fd, binds, holds⟩ := F w mg fa _ (kin w _ Y) G.T.g named
  exact law_callQ (kin w _ Y) G.T.g G.T.b G.T.builtins G.T.nolimit bare script whole (Nat.le_trans many hn2) hr holds binds fun H only z => hsp w H a ns many only z
/-! ### repr -/
mutual
/-- what a value reads as; with dicts (all empty) no list may be the interpreter's own -/
inductive Rp (z : Bool) (H : Hp) : V → PyData → Prop
  | non : Rp z H .non .none
  | bl (b : Bool) : Rp z H (.bl b) (.bool b)
  | int (i : Int) : Rp z H (.int i) (.int i)
  | str (x : Str) : Rp z H (.str x) (.str x)
  | lst {a : Addr} {xs : List V} {ds : List PyData} (h : H a = some (.lst xs)) (n : z = true → a ≠ sysModules) (r : Rps z H xs ds) : Rp z H (.ref a) (.list ds)
  | tup {a : Addr} {xs : List V} {ds : List PyData} (h : H a = some (.tup xs)) (r : Rps z H xs ds) : Rp z H (.ref a) (.tuple ds)
  | dct {a : Addr} (y : z = true) (h : H a = some (.dK [])) : Rp z H (.ref a) (.dict [])
inductive Rps (z : Bool) (H : Hp) : List V → List PyData → Prop
  | nil : Rps z H [] []
  | cons {x : V} {xs : List V} {d : PyData} {ds : List PyData} (h : Rp z H x d) (r : Rps z H xs ds) : Rps z H (x :: xs) (d :: ds)
end
section
variable {X : Cx} {pins : List (Addr × Obj)} {σ : St} {H : Hp} {s : Shared} {z : Bool}
mutual
theorem Rp.reads (I : Inv X pins σ H s) : ∀ (d : PyData) (v : V) (u : Value), Rp z H v d → RelV v u → ∃ as, Reads s.heap u d as ∧ (z = true → sysModules ∉ as) ∧ (z = false → d.hasDict = false)
  | .none, _, _, h, r => by
    cases h; cases r
    exact ⟨_, Reads.none, fun _ => List.not_mem_nil, fun _ => rfl⟩
  | .bool b, _, _, h, r => by
    cases h; cases r
    exact ⟨_, Reads.bool b, fun _ => List.not_mem_nil, fun _ => rfl⟩
  | .int i, _, _, h, r => by
    cases h
    obtain ⟨t, rfl⟩ := r
    exact ⟨_, Reads.int i t, fun _ => List.not_mem_nil, fun _ => rfl⟩
  | .str x, _, _, h, r => by
    cases h
    obtain ⟨t, rfl⟩ := r
    exact ⟨_, Reads.str x t, fun _ => List.not_mem_nil, fun _ => rfl⟩
  | .list ds, _, _, h, r => by
    cases h with
    | lst hs n ha =>
      cases r
      obtain ⟨its, rv, ⟨o, m, ho, hc, _, hd⟩, _⟩ := I.list (SqL.of hs)
      obtain ⟨as, hr, h1, h2⟩ := Rps.reads I ds _ its ha rv
      refine ⟨_, Reads.list ho hc hd hr, fun y q => ?_, fun y => ?_⟩
      · rcases List.mem_cons.mp q with q | q
        · exact n y q.symm
        · exact h1 y q
      · rw [PyData.hasDict]; exact h2 y
  | .tuple ds, _, _, h, r => by
    cases h with
    | tup hs ha =>
      cases r
      obtain ⟨its, rv, ⟨o, ho, hc, m, hd⟩, _⟩ := I.tuple (SqT.of hs)
      obtain ⟨as, hr, h1, h2⟩ := Rps.reads I ds _ its ha rv
      exact ⟨_, Reads.tuple ho hc hd hr, h1, fun y => by rw [PyData.hasDict]; exact h2 y⟩
  | .dict kvs, _, _, h, r => by
    cases h with
    | dct y hs =>
      cases r
      obtain ⟨_, hd, vs, kv, o, es, ep, ho, hx, hdt, _, hp, _⟩ := dk_of I.hok hs
      cases kv
      have e0 : es.toList = [] := List.eq_nil_of_length_eq_zero hp.length
      refine ⟨_, Reads.dict (kvs := []) ho hx.1 hdt (by rw [e0]; exact .nil) (by rw [e0]; exact .nil), fun _ q => ?_, fun q => by rw [y] at q; cases q⟩
      rcases List.mem_cons.mp q with q | q
      · exact absurd q.symm (beq_eq_false_iff_ne.mp hd)
      · exact absurd q List.not_mem_nil
theorem Rps.reads (I : Inv X pins σ H s) : ∀ (ds : List PyData) (vs : List V) (us : List Value), Rps z H vs ds → Vals vs us → ∃ as, ReadsAll s.heap us ds as ∧ (z = true → sysModules ∉ as) ∧ (z = false → PyData.hasDictAll ds = false)
  | [], _, _, h, r => by
    cases h; cases r
    exact ⟨_, ReadsAll.nil, fun _ => List.not_mem_nil, fun _ => rfl⟩
  | d :: ds, _, _, h, r => by
    cases h with
    | cons g1 g2 =>
      cases r with
      | cons r1 r2 =>
        obtain ⟨as, q1, a1, a2⟩ := Rp.reads I d _ _ g1 r1
        obtain ⟨bs, q2, b1, b2⟩ := Rps.reads I ds _ _ g2 r2
        refine ⟨_, ReadsAll.cons q1 q2, fun y q => ?_, fun y => ?_⟩
        · rcases List.mem_append.mp q with q | q
          · exact a1 y q
          · exact b1 y q
        · rw [PyData.hasDictAll, a2 y, b2 y]; rfl
end
end
/-- texts that can be told -/
structure Shows (d : PyData) : Prop where
  ok : d.showable = true
  fit : d.shown.length ≤ sizeLine
  deep : d.depth ≤ 60
def rRepr : List V → Hp → VK → Prop := fun xs H Q => ∃ (z : Bool) (x : V) (d : PyData), xs = [x] ∧ Rp z H x d ∧ Shows d ∧ Q (.str d.shown) H
theorem call_repr {X : Cx} {k : Nat} (hr : Room k X.A) (hq : X.A.guards = some []) : CallR X (.builtin "repr") rRepr := by
  intro pins s σ H xs us Q I r h
  obtain ⟨z, x, d, rfl, hp, hs, q⟩ := h
  obtain ⟨u, rfl, rx⟩ := r.one
  have un : X.A.units + (d.depth + 1) < cLine := by
    have h1 := hr.un
    have h2 := hs.deep
    omega
  have refs : ∀ (a : Addr), x = .ref a → wpAny (model X.prog X.w) X.A (call (.builtin "repr") [u]) (EP X pins σ Q) X.xe s := fun a ex => by
    subst ex
    cases rx
    obtain ⟨as, hr, n1, n2⟩ := Rp.reads I d _ _ hp rfl
    refine repr_of_reads' hr hs.ok (fun y => n1 ?_) hq un (fun _ _ e => e) (fun h' t tk keep => ⟨.str d.shown, H, I.kept keep, ⟨t, rfl⟩, q⟩) hs.fit
    rcases z with _ | _
    · rw [n2 rfl] at y; cases y
    · rfl
  cases hp with
  | non => cases rx; exact PySem.P.repr_of_none ⟨.str _, H, I.tok _, ⟨_, rfl⟩, q⟩
  | bl b => cases rx; exact PySem.P.repr_of_bool ⟨.str _, H, I.tok _, ⟨_, rfl⟩, q⟩
  | int i =>
    obtain ⟨t, rfl⟩ := rx
    exact PySem.P.repr_of_int (of_decide_eq_true hs.ok) ⟨.str _, H, I.tok _, ⟨_, rfl⟩, q⟩
  | str y =>
    obtain ⟨t, rfl⟩ := rx
    exact PySem.P.repr_of_str ⟨.str _, H, I.tok _, ⟨_, rfl⟩, q⟩ hs.fit
  | lst _ _ _ => exact refs _ rfl
  | tup _ _ => exact refs _ rfl
  | dct _ _ => exact refs _ rfl
/-! ### == and != of a tuple and () -/
def rEqNil (K : PySem.W.Frag) (ne : Bool) : R2 := fun x y H Q => ∃ a b xs, x = .ref a ∧ y = .ref b ∧ SqT K H a xs ∧ SqT K H b [] ∧ Q (.bl (xor ne (decide (xs = [])))) H
theorem op_eqNil {X : Cx} (hu : X.A.units < cLine) : OpR X (compareOp .Eq) (rEqNil X.K false) := by
  intro pins s σ H x y v u Q I rx ry h
  obtain ⟨a, b, xs, rfl, rfl, ha, hb, q⟩ := h
  cases rx; cases ry
  obtain ⟨its, r, ⟨o, ho, hc, n, hd⟩, _⟩ := I.tuple ha
  obtain ⟨jts, r2, ⟨o2, ho2, hc2, n2, hd2⟩, _⟩ := I.tuple hb
  cases r2
  refine SeqAt.eq_tupleAt (e := fun _ => true) ⟨o, ho, hc, n, hd⟩ ⟨o2, ho2, hc2, n2, hd2⟩ hu (fun j h1 h2 => absurd h2 (Nat.not_lt_zero j)) ?_
  refine ⟨.bl _, H, I, rfl, ?_⟩
  have e : ((List.range (min its.toArray.size ([] : List Value).toArray.size)).all (fun _ => true) && its.toArray.size == ([] : List Value).toArray.size) = (xor false (decide (xs = []))) := by
    cases r with
    | nil => rfl
    | cons _ _ => simp
  rw [e]; exact q
theorem op_neNil {X : Cx} (hu : X.A.units < cLine) : OpR X (compareOp .NotEq) (rEqNil X.K true) := by
  intro pins s σ H x y v u Q I rx ry h
  obtain ⟨a, b, xs, rfl, rfl, ha, hb, q⟩ := h
  cases rx; cases ry
  obtain ⟨its, r, ⟨o, ho, hc, n, hd⟩, _⟩ := I.tuple ha
  obtain ⟨jts, r2, ⟨o2, ho2, hc2, n2, hd2⟩, _⟩ := I.tuple hb
  cases r2
  refine SeqAt.RcNeAt.tuples (e := fun _ => true) ⟨o, ho, hc, n, hd⟩ ⟨o2, ho2, hc2, n2, hd2⟩ hu (fun j h1 h2 => absurd h2 (Nat.not_lt_zero j)) _ _ _ _ ?_
  refine ⟨.bl _, H, I, rfl, ?_⟩
  have e : (!((List.range (min its.toArray.size ([] : List Value).toArray.size)).all (fun _ => true) && its.toArray.size == ([] : List Value).toArray.size)) = (xor true (decide (xs = []))) := by
    cases r with
    | nil => rfl
    | cons _ _ => simp
  rw [e]; exact q
/-- a display of a list, its place told to be none of the interpreter's own -/
def tLstN (t : TA) : TE := fun σ H Q => t σ H fun xs H1 => xs.length ≤ sizeLine ∧ ∀ l, H1 l = none → l ≠ sysModules → Q (.ref l) (upd H1 l (.lst xs))
theorem pe_lstN {X : Cx} {es : List Expr} {pos : Pos} {t : TA} (h : PA X es t) : PE X (.List es pos) (tLstN t) := by
  constructor
  intro pins s σ H Q I hq
  refine wpAny_List_spliced (thn (h.run pos pins s σ H _ I hq) ?_)
  rintro us s1 ⟨xs, H1, J, r, z, q⟩
  refine ⟨r.length ▸ z, .ref s1.heap.objs.size, _, J.laid (o := .lst xs) (t' := s1.toks) (fun _ _ => Heap.get?_push_of_some _) (Nat.le_refl _) ⟨z, us, 0, r, Heap.get?_push_size _ rfl⟩, rfl, q _ (J.hok.fresh (Nat.le_refl _)) (Nat.ne_of_gt J.big)⟩
theorem lt64 {k : Nat} {A : Around} (hr : Room k A) : A.units < cLine := by
  have h := hr.un
  omega
end L2

/-! Z3: math.factorial. -/
namespace L2
open PySem PySem.Spec PyProof.Rows
def fct : Nat → Nat
  | 0 => 1
  | n + 1 => fct n * (n + 1)
theorem fct_same : ∀ n : Nat, Builtin.Math.factorialNat n = fct n
  | 0 => rfl
  | n + 1 => by rw [PySem.W.mc_fac_succ, fct_same n, fct]
theorem cr_factorial {X : Cx} : CallR X (.builtin "math.factorial") (fun vs H Q => ∃ a : Nat, vs = [.int (a : Int)] ∧ a ≤ 20000 ∧ Q (.int ((fct a : Nat) : Int)) H) := by
  intro pins s σ H vs us Q I r h
  obtain ⟨a, rfl, h2, q⟩ := h
  obtain ⟨u, rfl, t, rfl⟩ := r.one
  refine PySem.W.mc_factorial (by omega) (by omega) fun _ => ?_
  rw [Int.toNat_natCast, fct_same]
  exact ⟨.int _, H, I.tok _, ⟨_, rfl⟩, q⟩
theorem fct_pos : ∀ n : Nat, 1 ≤ fct n
  | 0 => Nat.le_refl 1
  | n + 1 => by rw [fct]; exact Nat.mul_pos (fct_pos n) (Nat.succ_pos n)
theorem fct_mono {m n : Nat} (h : m ≤ n) : fct m ≤ fct n := by
  induction h with
  | refl => exact Nat.le_refl _
  | step _ ih => rw [fct]; exact Nat.le_trans ih (Nat.le_mul_of_pos_right _ (Nat.succ_pos _))
theorem fct_small {n : Nat} (h : n ≤ 60) : fct n < 2 ^ 300 := Nat.lt_of_le_of_lt (fct_mono h) (by decide +kernel)
end L2

/-! Z4: list(enumerate(a list)): a new list of new pairs. -/
namespace PySem.F
theorem en_len : typeLookup (.type "enumerate") "__len__" = pure none := by rw [typeLookup_type, builtinLookup_eq_fast]; kernel_rfl
theorem en_hint : typeLookup (.type "enumerate") "__length_hint__" = pure none := by rw [typeLookup_type, builtinLookup_eq_fast]; kernel_rfl
end PySem.F
namespace L2
open PySem PySem.Spec PyProof.Rows
open Sem (wp)
/-- an enumerate object, whatever pair it may have handed out -/
abbrev EnO (h : Heap) (e it : Addr) (g : Value) (b : Bool) (i : Int) (z : Value) : Prop :=
  h.get? e = some ({ cls := .type "enumerate", dict := none, data := .fields #[g, .bool b, .ref it, rawInt i, .none, z], slots := #[] } : Obj)
/-- it is new, or its pair is still there -/
def EnG (h : Heap) (e it : Addr) (g : Value) (b : Bool) : Prop := (g = .none ∧ b = false) ∨ ∃ (a : Addr) (o : Obj), g = rawInt a ∧ h.get? a = some o ∧ a ≠ e ∧ a ≠ it ∧ o.cls = .type "tuple"
structure EnSt (e it l : Addr) (items : Array Value) (i : Nat) (h : Heap) : Prop where
  en : ∃ g b z, EnO h e it g b ((i : Nat) : Int) z ∧ EnG h e it g b
  sit : h.IsListIter it l i
  sli : h.IsList l items
  ne : e ≠ it
theorem EnSt.put {e it l S : Addr} {items : Array Value} {i : Nat} {h h' : Heap} {oS : Obj} (s : EnSt e it l items i h) (hS : h.get? S = some oS) (cS : oS.cls = .type "list") (nl : l ≠ S) (k : ∀ b o, b ≠ S → h.get? b = some o → h'.get? b = some o) : EnSt e it l items i h' := by
  obtain ⟨⟨g, b, z, he, hg⟩, hi, hl, ne⟩ := s
  have other : ∀ {a : Addr} {o : Obj} {c : String}, h.get? a = some o → o.cls = .type c → c ≠ "list" → a ≠ S := fun {a o c} x y n q => by
    rw [q, hS] at x
    cases x
    exact n (Value.type.inj (y.symm.trans cS))
  obtain ⟨o2, ho2, hc2, _⟩ := id hi
  have n1 : e ≠ S := other he rfl (by decide)
  have n2 : it ≠ S := other ho2 hc2 (by decide)
  refine ⟨⟨g, b, z, k _ _ n1 he, ?_⟩, hi.at fun o x => k _ _ n2 x, hl.at fun o x => k _ _ nl x, ne⟩
  rcases hg with hg | ⟨a, o, h1, h2, h3, h4, h5⟩
  · exact .inl hg
  · exact .inr ⟨a, o, h1, k _ _ (other h2 h5 (by decide)) h2, h3, h4, h5⟩
section
variable {prog : Program} {w : World} {A : Around} {E : Value → Shared → Prop} {s : Shared}
theorem alive_wp {M : Model} {a : Addr} {Q : Option Obj → Shared → Prop} (h : Q (s.heap.get? a) s) : wpAny M A (Sem.loadIfAlive a .pure) Q E s := fun _ _ _ => h
/-- the next pair -/
theorem en_step {e it l : Addr} {i : Nat} {items : Array Value} {x : Value} {Q : Value → Shared → Prop} (st : EnSt e it l items i s.heap) (hx : items[i]? = some x)
    (hQ : ∀ h', EnSt e it l items (i + 1) h' → h'.get? s.heap.objs.size = some { cls := .type "tuple", data := .seq #[.int i s.toks, x] } → h'.objs.size = s.heap.objs.size + 1 →
      (∀ b o, b ≠ e → b ≠ it → s.heap.get? b = some o → h'.get? b = some o) → Q (.ref s.heap.objs.size) { s with heap := h', toks := s.toks + 1 }) :
    wpAny (model prog w) A (Builtin.«enumerate.__next__» ⟨[.ref e], []⟩) (fun fin s' => ∃ v, fin = .done (.ret v) ∧ Q v s') E s := by
  obtain ⟨hp, g0, d, tk, os⟩ := s
  obtain ⟨⟨g, b, z, he, hg⟩, hit, hl, hne⟩ := st
  replace he : EnO hp e it g b ((i : Nat) : Int) z := he
  show wpAny (model prog w) A (field (.ref e) 2 >>= _) _ E _
  refine wpAny_bind (wpAny_field he rfl (i := 2) (x := .ref it) rfl ?_)
  refine wpAny_bind (wpAny_nextOf_list_item hit hl hx fun h1 hit1 sb1 => ?_)
  replace sb1 : Heap.SameBut it hp h1 := sb1
  have e1 : EnO h1 e it g b ((i : Nat) : Int) z := (sb1.2 e hne).trans he
  show wpAny (model prog w) A (field (.ref e) 3 >>= _) _ E ⟨h1, g0, d, tk, os⟩
  refine wpAny_bind (wpAny_field e1 rfl (i := 3) (x := rawInt i) rfl ?_)
  show wpAny (model prog w) A (field (.ref e) 4 >>= _) _ E ⟨h1, g0, d, tk, os⟩
  refine wpAny_bind (wpAny_field e1 rfl (i := 4) (x := .none) rfl ?_)
  show wpAny (model prog w) A (mkInt i >>= _) _ E ⟨h1, g0, d, tk, os⟩
  refine wpAny_bind (wpAny_mkInt ?_)
  show wpAny (model prog w) A (setField (.ref e) 3 (rawInt ((i : Int) + 1)) >>= _) _ E ⟨h1, g0, d, tk + 1, os⟩
  refine wpAny_bind (wpAny_setField_rec e1 (by simp) fun h2 e2 sb2 => ?_)
  replace sb2 : Heap.SameBut e h1 h2 := sb2
  replace e2 : EnO h2 e it g b ((i : Int) + 1) z := e2
  show wpAny (model prog w) A (setField (.ref e) 4 .none >>= _) _ E ⟨h2, g0, d, tk + 1, os⟩
  refine wpAny_bind (wpAny_setField_rec e2 (by simp) fun h3 e3 sb3 => ?_)
  replace sb3 : Heap.SameBut e h2 h3 := sb3
  replace e3 : EnO h3 e it g b ((i : Int) + 1) z := e3
  show wpAny (model prog w) A (newTuple [.int i tk, x] >>= _) _ E ⟨h3, g0, d, tk + 1, os⟩
  refine wpAny_bind (wpAny_newTuple ?_)
  have e4 : EnO (h3.push { cls := .type "tuple", data := .seq #[.int i tk, x] }) e it g b ((i : Int) + 1) z := Heap.get?_push_of_some _ e3
  have sz3 : h3.objs.size = hp.objs.size := by rw [sb3.1, sb2.1, sb1.1]
  have lt_e : e < hp.objs.size := Heap.lt_size he
  have t4 : (h3.push { cls := .type "tuple", data := .seq #[.int i tk, x] }).get? hp.objs.size = some { cls := .type "tuple", data := .seq #[.int i tk, x] } := by rw [← sz3]; exact Heap.get?_push_size _ rfl
  have sz4 : (h3.push { cls := .type "tuple", data := .seq #[.int i tk, x] }).objs.size = hp.objs.size + 1 := by rw [Heap.size_push, sz3]
  have k4 : ∀ b o, b ≠ e → b ≠ it → hp.get? b = some o → (h3.push { cls := .type "tuple", data := .seq #[.int i tk, x] }).get? b = some o := fun b o n1 n2 y =>
    Heap.get?_push_of_some _ (sb3.extBut b o n1 (sb2.extBut b o n1 (sb1.extBut b o n2 y)))
  have it4 : (h3.push { cls := .type "tuple", data := .seq #[.int i tk, x] }).IsListIter it l (i + 1) := by
    obtain ⟨o, ho, r⟩ := (hit1.extBut sb2.extBut (Ne.symm hne)).extBut sb3.extBut (Ne.symm hne)
    exact ⟨o, Heap.get?_push_of_some _ ho, r⟩
  have nle : l ≠ e := fun q => by
    obtain ⟨o, ho, hc, _⟩ := id hl
    rw [q] at ho
    have y := he.symm.trans ho
    cases y
    have c2 : ("enumerate" : String) = "list" := Value.type.inj hc
    exact absurd c2 (by decide)
  have nli : l ≠ it := fun q => by
    obtain ⟨o, ho, hc, _⟩ := id hl
    obtain ⟨o2, ho2, hc2, _⟩ := id hit
    rw [q, ho2] at ho
    cases ho
    have c2 : ("list_iterator" : String) = "list" := Value.type.inj (hc2.symm.trans hc)
    exact absurd c2 (by decide)
  have l4 : (h3.push { cls := .type "tuple", data := .seq #[.int i tk, x] }).IsList l items := hl.at fun o y => k4 l o nle nli y
  rw [sz3]
  generalize h3.push { cls := .type "tuple", data := .seq #[.int i tk, x] } = h4 at e4 t4 sz4 k4 it4 l4 ⊢
  clear e3 sb3 e2 sb2 e1 sb1 hit1 sz3
  have tie : ((i + 1 : Nat) : Int) = (i : Int) + 1 := by omega
  show wpAny (model prog w) A (Builtin.SmallTypes.ownedTupleIsFree (.ref e) >>= _) _ E ⟨h4, g0, d, tk + 1, os⟩
  refine wpAny_bind ?_
  unfold Builtin.SmallTypes.ownedTupleIsFree
  rcases hg with ⟨rfl, rfl⟩ | ⟨a, o, rfl, ha, na1, na2, na3⟩
  · refine wpAny_bind (wpAny_field e4 rfl (i := 0) (x := .none) rfl (wpAny_pure ?_))
    simp only [if_true]
    refine wpAny_bind (wpAny_rule (wpAny_bind (wpAny_field e4 rfl (i := 5) (x := z) rfl ?_)))
    refine wpAny_bind (wpAny_setField_rec e4 (by simp) fun h5 e5 sb5 => ?_)
    replace sb5 : Heap.SameBut e h4 h5 := sb5
    replace e5 : EnO h5 e it .none false ((i : Int) + 1) x := e5
    show wpAny (model prog w) A (Builtin.SmallTypes.ownedTupleHandOut (.ref e) (.ref hp.objs.size) >>= _) _ E ⟨h5, g0, d, tk + 1, os⟩
    refine wpAny_bind ?_
    unfold Builtin.SmallTypes.ownedTupleHandOut
    refine wpAny_bind (wpAny_setField_rec e5 (by simp) fun h6 e6 sb6 => ?_)
    replace sb6 : Heap.SameBut e h5 h6 := sb6
    replace e6 : EnO h6 e it (rawInt hp.objs.size) false ((i : Int) + 1) x := e6
    refine wpAny_setField_rec e6 (by simp) fun h7 e7 sb7 => ?_
    replace sb7 : Heap.SameBut e h6 h7 := sb7
    replace e7 : EnO h7 e it (rawInt hp.objs.size) false ((i : Int) + 1) x := e7
    have kk : ∀ b o, b ≠ e → h4.get? b = some o → h7.get? b = some o := fun b o n y => sb7.extBut b o n (sb6.extBut b o n (sb5.extBut b o n y))
    have t7 := kk _ _ (Nat.ne_of_gt lt_e) t4
    refine wpAny_bind (wpAny_letGo (wpAny_pure ⟨_, rfl, hQ h7 ⟨⟨_, _, _, by rw [tie]; exact e7, .inr ⟨_, _, rfl, t7, Nat.ne_of_gt lt_e, ?_, rfl⟩⟩, it4.at fun o y => kk _ _ (Ne.symm hne) y, l4.at fun o y => kk _ _ nle y, hne⟩ t7 (by rw [sb7.1, sb6.1, sb5.1, sz4]) fun b o n1 n2 y => kk b o n1 (k4 b o n1 n2 y)⟩))
    obtain ⟨o2, ho2, _⟩ := hit
    exact Nat.ne_of_gt (Heap.lt_size ho2)
  · have a4 := k4 a o na1 na2 ha
    refine wpAny_bind (wpAny_field e4 rfl (i := 0) (x := rawInt a) rfl ?_)
    show wpAny (model prog w) A (Sem.loadIfAlive a .pure >>= _) _ E ⟨h4, g0, d, tk + 1, os⟩
    refine wpAny_bind (alive_wp ?_)
    show wpAny (model prog w) A (if (h4.get? a).isNone = true then _ else _) _ E ⟨h4, g0, d, tk + 1, os⟩
    rw [a4]
    show wpAny (model prog w) A (field (.ref e) 1 >>= _) _ E ⟨h4, g0, d, tk + 1, os⟩
    refine wpAny_bind (wpAny_field e4 rfl (i := 1) (x := .bool b) rfl ?_)
    have fin : ∀ (h5 : Heap) (b' : Bool), EnO h5 e it (rawInt a) b' ((i : Int) + 1) z → (∀ b o, b ≠ e → h4.get? b = some o → h5.get? b = some o) → h5.objs.size = h4.objs.size → Q (.ref hp.objs.size) ⟨h5, g0, d, tk + 1, os⟩ := fun h5 b' e5 kk sz5 =>
      hQ h5 ⟨⟨_, _, _, by rw [tie]; exact e5, .inr ⟨a, o, rfl, kk _ _ na1 a4, na1, na2, na3⟩⟩, it4.at fun o y => kk _ _ (Ne.symm hne) y, l4.at fun o y => kk _ _ nle y, hne⟩ (kk _ _ (Nat.ne_of_gt lt_e) t4) (sz5.trans sz4) fun b o n1 n2 y => kk b o n1 (k4 b o n1 n2 y)
    cases b with
    | true => exact wpAny_pure (wpAny_pure ⟨_, rfl, fin h4 true e4 (fun _ _ _ y => y) rfl⟩)
    | false =>
      show wpAny (model prog w) A (setField (.ref e) 1 (.bool true) >>= _) _ E ⟨h4, g0, d, tk + 1, os⟩
      refine wpAny_bind (wpAny_setField_rec e4 (by simp) fun h5 e5 sb5 => ?_)
      exact wpAny_pure (wpAny_pure ⟨_, rfl, fin h5 true e5 (fun b o n y => sb5.extBut b o n y) sb5.1⟩)
theorem en_next {e it l : Addr} {i : Nat} {items : Array Value} {x : Value} {Q : Option Value → Shared → Prop} (st : EnSt e it l items i s.heap) (hx : items[i]? = some x)
    (hQ : ∀ h', EnSt e it l items (i + 1) h' → h'.get? s.heap.objs.size = some { cls := .type "tuple", data := .seq #[.int i s.toks, x] } → h'.objs.size = s.heap.objs.size + 1 →
      (∀ b o, b ≠ e → b ≠ it → s.heap.get? b = some o → h'.get? b = some o) → Q (some (.ref s.heap.objs.size)) { s with heap := h', toks := s.toks + 1 }) :
    wpAny (model prog w) A (pyNext (.ref e)) Q E s := by
  obtain ⟨g, b, z, he, _⟩ := st.en
  have ty : s.TypeIs (.ref e) "enumerate" := ⟨_, he, rfl⟩
  unfold pyNext
  exact wpAny_bind (wpAny_attempt (wpAny_callSpecial?_slot (name := Str.ofString "__next__") ty F.slot_enumerate_next (wpAny_call_entry F.slot_enumerate_next ty F.entry_enumerate_next (en_step st hx fun h' a b c d => wpAny_pure (hQ h' a b c d)) (F.args_enumerate_next_1 _))))
theorem en_end {e it l : Addr} {items : Array Value} {Q : Option Value → Shared → Prop} (hh : A.handled = none) (st : EnSt e it l items items.size s.heap) (hQ : ∀ h', Heap.ExtBut it s.heap h' → Q none { s with heap := h' }) : wpAny (model prog w) A (pyNext (.ref e)) Q E s := by
  obtain ⟨⟨g, b, z, he, _⟩, hit, hl, _⟩ := st
  have ty : s.TypeIs (.ref e) "enumerate" := ⟨_, he, rfl⟩
  unfold pyNext
  refine wpAny_bind (wpAny_attempt (wpAny_callSpecial?_slot (name := Str.ofString "__next__") ty F.slot_enumerate_next (wpAny_call_entry F.slot_enumerate_next ty F.entry_enumerate_next ?_ (F.args_enumerate_next_1 _))))
  show wpAny _ _ (field (.ref e) 2 >>= _) _ _ s
  refine wpAny_bind (wpAny_field he rfl (i := 2) (x := .ref it) rfl ?_)
  refine wpAny_bind (wpAny_nextOf_list_end hh hit hl (by simp) fun h' y he' hy => ?_)
  obtain ⟨o, ho, hc⟩ := hy
  exact wpAny_bind (wpAny_isInstance (T := "StopIteration") (b := true) ⟨o, ho, hc⟩ isSubtype_stop (wpAny_pure (hQ _ he')))
/-- the pairs gathered so far -/
structure AccEn (items acc : Array Value) (i : Nat) (h : Heap) (n0 : Nat) : Prop where
  sz : acc.size = i
  at_ : ∀ j : Nat, j < i → ∃ (p : Addr) (tk : Nat) (x : Value), acc[j]? = some (.ref p) ∧ items[j]? = some x ∧ n0 ≤ p ∧ h.get? p = some { cls := .type "tuple", data := .seq #[.int j tk, x] }
theorem AccEn.to {items acc : Array Value} {i n0 : Nat} {h h' : Heap} (a : AccEn items acc i h n0) (k : ∀ b o, n0 ≤ b → h.get? b = some o → h'.get? b = some o) : AccEn items acc i h' n0 := ⟨a.sz, fun j hj => by
  obtain ⟨p, tk, x, h1, h2, h3, h4⟩ := a.at_ j hj
  exact ⟨p, tk, x, h1, h2, h3, k _ _ h3 h4⟩⟩
theorem AccEn.push {items acc : Array Value} {i n0 : Nat} {h : Heap} {p : Addr} {tk : Nat} {x : Value} (a : AccEn items acc i h n0) (hx : items[i]? = some x) (hp : n0 ≤ p) (ht : h.get? p = some { cls := .type "tuple", data := .seq #[.int i tk, x] }) : AccEn items (acc.push (.ref p)) (i + 1) h n0 := ⟨by rw [Array.size_push, a.sz], fun j hj => by
  by_cases c : j < i
  · obtain ⟨p', tk', x', h1, h2, h3, h4⟩ := a.at_ j c
    exact ⟨p', tk', x', by rw [Array.getElem?_push_lt (by rw [a.sz]; exact c), ← Array.getElem?_eq_getElem]; exact h1, h2, h3, h4⟩
  · have e : j = i := by omega
    subst e
    exact ⟨p, tk, x, by rw [← a.sz, Array.getElem?_push_size], hx, hp, ht⟩⟩
theorem en_loop {e it l S : Addr} {items : Array Value} {R : Result → Shared → Prop} {n0 : Nat} (hh : A.handled = none) (hn : items.size ≤ sizeLine) (res : Value) (hSl : S < n0) (hel : e < n0) (hil : it < n0) (nS : S ≠ e ∧ S ≠ it ∧ l ≠ S) :
    ∀ (k i : Nat) (s : Shared) (acc : Array Value) (c : Nat), items.size - i = k → i ≤ items.size → EnSt e it l items i s.heap → n0 ≤ s.heap.objs.size → s.heap.get? S = some { cls := .type "list", dict := none, data := .seq acc c, slots := #[] } → AccEn items acc i s.heap n0 →
    (∀ h' tk acc' c', (∀ b o, b ≠ e → b ≠ it → b ≠ S → s.heap.get? b = some o → h'.get? b = some o) → h'.get? S = some { cls := .type "list", dict := none, data := .seq acc' c', slots := #[] } → AccEn items acc' items.size h' n0 → R (.ok (.ret res)) { s with heap := h', toks := tk }) →
    codeAny (model prog w) A (.builtin "list.extend.loop" ⟨[.ref S, .ref e, res], []⟩) R s := by
  intro k
  induction k with
  | zero =>
    intro i s acc c hk hi st hz hS ha hR
    have ei : i = items.size := by omega
    subst ei
    refine codeAny_builtin F.entry_extend_loop ?_
    rw [Around.under_plainId F.plain_extend_loop _]
    show wpAny _ A.in1 (pyNext (.ref e) >>= _) _ _ s
    refine wpAny_bind (en_end hh st fun h' x => wpAny_pure ?_)
    exact hR h' s.toks acc c (fun b o _ n2 _ y => x b o n2 y) (x _ _ nS.2.1 hS) (ha.to fun b o n y => x b o (Nat.ne_of_gt (Nat.lt_of_lt_of_le hil n)) y)
  | succ k ih =>
    intro i s acc c hk hi st hz hS ha hR
    have lt : i < items.size := by omega
    refine codeAny_builtin F.entry_extend_loop ?_
    rw [Around.under_plainId F.plain_extend_loop _]
    show wpAny _ A.in1 (pyNext (.ref e) >>= _) _ _ s
    obtain ⟨x, hx⟩ : ∃ x, items[i]? = some x := ⟨items[i], by simp [lt]⟩
    refine wpAny_bind (en_next st hx fun h1 st1 t1 sz1 k1 => ?_)
    have hS1 := k1 S _ nS.1 nS.2.1 hS
    show wpAny _ A.in1 (updateSeq S (·.push (.ref s.heap.objs.size)) >>= _) _ _ _
    refine wpAny_bind ?_
    refine wpAny_updateSeq hS1 rfl (wpAny_pure ⟨plainId_quiet F.plain_extend_loop _, ih (i + 1) _ (acc.push (.ref s.heap.objs.size)) _ (by omega) lt ?_ ?_ (Heap.get?_update_self _ hS1 rfl) ?_ fun h' tk acc' c' kk hS' ha' => ?_⟩) (by rw [ha.sz]; omega) (by show (acc.push (.ref s.heap.objs.size)).size ≤ sizeLine + 1; rw [Array.size_push, ha.sz]; omega)
    · exact st1.put hS1 rfl nS.2.2 fun b o n y => (Heap.get?_update_other _ _ (Ne.symm n)).trans y
    · show n0 ≤ (h1.update S _).objs.size
      rw [Heap.size_update, sz1]; omega
    · refine ((ha.to fun b o n y => ?_).push hx hz t1).to fun b o n y => (Heap.get?_update_other _ _ (Nat.ne_of_lt (Nat.lt_of_lt_of_le hSl n))).trans y
      exact k1 b o (Nat.ne_of_gt (Nat.lt_of_lt_of_le hel n)) (Nat.ne_of_gt (Nat.lt_of_lt_of_le hil n)) y
    · exact hR h' tk acc' c' (fun b o n1 n2 n3 y => kk b o n1 n2 n3 ((Heap.get?_update_other _ _ (Ne.symm n3)).trans (k1 b o n1 n2 y))) hS' ha'
theorem en_extend {e it l S : Addr} {items : Array Value} {R : Result → Shared → Prop} (hh : A.handled = none) (hn : items.size ≤ sizeLine) (res : Value) (c : Nat) (he : IsEnum s.heap e it 0 .none) (st : EnSt e it l items 0 s.heap) (hS : s.heap.get? S = some { cls := .type "list", data := .seq #[] c }) (nl : l ≠ S)
    (hR : ∀ h' tk acc' c', (∀ b o, b ≠ e → b ≠ it → b ≠ S → s.heap.get? b = some o → h'.get? b = some o) → h'.get? S = some { cls := .type "list", dict := none, data := .seq acc' c', slots := #[] } → AccEn items acc' items.size h' s.heap.objs.size → R (.ok (.ret res)) { s with heap := h', toks := tk }) :
    wpAny (model prog w) A.in1 (Builtin.List.listExtendWith (.ref S) (.ref e) res) (fun fin s' => match fin with | .done f => R (.ok f) s' | .again c' => c'.quiet = true ∧ codeAny (model prog w) A c' R s') (fun e s' => R (.error e) s') s := by
  have ty : s.TypeIs (.ref e) "enumerate" := ⟨_, he, rfl⟩
  obtain ⟨oi, hoi, hci, _⟩ := id st.sit
  have nS : S ≠ e ∧ S ≠ it ∧ l ≠ S := by
    refine ⟨fun q => ?_, fun q => ?_, nl⟩
    · have y := he.symm.trans (q ▸ hS)
      exact absurd (Value.type.inj (congrArg Obj.cls (Option.some.inj y))) (by decide)
    · rw [q, hoi] at hS
      cases hS
      have c2 : ("list" : String) = "list_iterator" := Value.type.inj hci
      exact absurd c2 (by decide)
  unfold Builtin.List.listExtendWith
  refine wpAny_bind (wpAny_typeOf ty ?_)
  have d1 : Builtin.List.listSameRef (.ref S) (.ref e) = false := by simp [Builtin.List.listSameRef, nS.1]
  have d2 : (Value.type "enumerate" == Value.type "list") = false := by decide
  have d3 : (Value.type "enumerate" == Value.type "tuple") = false := by decide
  simp only [d1, d2, d3, Bool.or_false, Bool.false_eq_true, if_false]
  refine wpAny_bind (wpAny_pyIter_enum he (wpAny_bind (wpAny_holding ?_)))
  unfold Builtin.List.listLengthHint
  refine wpAny_bind (wpAny_specialOf ty F.en_len ?_)
  show wpAny _ A.in1 (specialOf (Value.ref e) (Str.ofString "__length_hint__") >>= _) _ _ s
  refine wpAny_bind (wpAny_specialOf ty F.en_hint (wpAny_pure ?_))
  show wpAny _ A.in1 (rule "list.extend.makes-room" >>= fun _ => Builtin.List.listTouch (.ref S) >>= fun _ => again (.builtin "list.extend.loop" ⟨[.ref S, .ref e, res], []⟩)) _ _ s
  refine wpAny_bind (wpAny_rule (wpAny_bind ?_))
  show wpAny _ A.in1 (updateSeq S (·.push .none) >>= fun _ => updateSeq S (·.pop)) _ _ s
  refine wpAny_bind (wpAny_updateSeq hS rfl ?_)
  have h2 := Heap.get?_update_self (Obj.mapSeq (·.push Value.none)) hS rfl
  refine wpAny_updateSeq (hz := by seq_fits) h2 rfl ?_
  have h3 := Heap.get?_update_self (Obj.mapSeq (·.pop)) h2 rfl
  have ot : ∀ b o, b ≠ S → s.heap.get? b = some o → ((s.heap.update S (Obj.mapSeq (·.push Value.none))).update S (Obj.mapSeq (·.pop))).get? b = some o := fun b o n y =>
    (Heap.get?_update_other _ _ (Ne.symm n)).trans ((Heap.get?_update_other _ _ (Ne.symm n)).trans y)
  have hz : ((s.heap.update S (Obj.mapSeq (·.push Value.none))).update S (Obj.mapSeq (·.pop))).objs.size = s.heap.objs.size := by rw [Heap.size_update, Heap.size_update]
  refine wpAny_pure ⟨plainId_quiet F.plain_extend_loop _, en_loop (n0 := s.heap.objs.size) hh hn res (Heap.lt_size hS) (Heap.lt_size he) (Heap.lt_size hoi) nS items.size 0 _ #[] _ rfl (Nat.zero_le _) (st.put hS rfl nl ot) (Nat.le_of_eq hz.symm) h3 ⟨rfl, fun j hj => absurd hj (Nat.not_lt_zero j)⟩ fun h' tk acc' c' kk hS' ha => ?_⟩
  exact hR h' tk acc' c' (fun b o n1 n2 n3 y => kk b o n1 n2 n3 (ot b o n3 y)) hS' ha
theorem en_init {e it l S : Addr} {items : Array Value} {R : Result → Shared → Prop} (hh : A.handled = none) (hn : items.size ≤ sizeLine) (he : IsEnum s.heap e it 0 .none) (st : EnSt e it l items 0 s.heap) (hS : s.heap.get? S = some { cls := .type "list", data := .seq #[] }) (nl : l ≠ S)
    (hR : ∀ h' tk acc' c', (∀ b o, b ≠ e → b ≠ it → b ≠ S → s.heap.get? b = some o → h'.get? b = some o) → h'.get? S = some { cls := .type "list", dict := none, data := .seq acc' c', slots := #[] } → AccEn items acc' items.size h' s.heap.objs.size → R (.ok (.ret .none)) { s with heap := h', toks := tk }) :
    wpAny (model prog w) A.in1 (Builtin.«list.__init__» ⟨[.ref S, .ref e], []⟩) (fun fin s' => match fin with | .done f => R (.ok f) s' | .again c' => c'.quiet = true ∧ codeAny (model prog w) A c' R s') (fun e s' => R (.error e) s') s := by
  show wpAny _ A.in1 (do let old ← Builtin.List.listItems (.ref S); Builtin.List.listUpdate (.ref S) (fun _ => #[]); letGo old.toList.reverse; Builtin.List.listExtendWith (.ref S) (.ref e) .none) _ _ s
  refine wpAny_bind ?_
  unfold Builtin.List.listItems
  refine wpAny_bind (wpAny_seqItems hS rfl (wpAny_pure ?_))
  show wpAny _ A.in1 (updateSeq S (fun _ => #[]) >>= fun _ => letGo (#[] : Array Value).toList.reverse >>= fun _ => Builtin.List.listExtendWith (.ref S) (.ref e) .none) _ _ s
  refine wpAny_bind (wpAny_updateSeq hS rfl (wpAny_bind (wpAny_letGo ?_)))
  have h2 := Heap.get?_update_self (Obj.mapSeq (fun _ => (#[] : Array Value))) hS rfl
  have ot : ∀ b o, b ≠ S → s.heap.get? b = some o → (s.heap.update S (Obj.mapSeq (fun _ => (#[] : Array Value)))).get? b = some o := fun b o n y => (Heap.get?_update_other _ _ (Ne.symm n)).trans y
  have st2 := st.put hS rfl nl ot
  have ne : e ≠ S := fun q => by
    have y := he.symm.trans (q ▸ hS)
    exact absurd (Value.type.inj (congrArg Obj.cls (Option.some.inj y))) (by decide)
  refine en_extend hh hn .none _ (ot e _ ne he) st2 h2 nl fun h' tk acc' c' kk hS' ha => hR h' tk acc' c' (fun b o n1 n2 n3 y => kk b o n1 n2 n3 (ot b o n3 y)) hS' ?_
  have ez : (s.heap.update S (Obj.mapSeq fun _ => (#[] : Array Value))).objs.size = s.heap.objs.size := Heap.size_update ..
  have ha2 : AccEn items acc' items.size h' (s.heap.update S (Obj.mapSeq fun _ => (#[] : Array Value))).objs.size := ha
  rw [ez] at ha2; exact ha2
theorem call_listEn {e it l : Addr} {items : Array Value} {Q : Value → Shared → Prop} (hh : A.handled = none) (hn : items.size ≤ sizeLine) (he : IsEnum s.heap e it 0 .none) (st : EnSt e it l items 0 s.heap)
    (hQ : ∀ h' tk acc' c', (∀ b o, b ≠ e → b ≠ it → s.heap.get? b = some o → h'.get? b = some o) → h'.get? s.heap.objs.size = some { cls := .type "list", dict := none, data := .seq acc' c', slots := #[] } → AccEn items acc' items.size h' (s.heap.objs.size + 1) → Q (.ref s.heap.objs.size) { s with heap := h', toks := tk }) :
    wpAny (model prog w) A (call (.type "list") [.ref e]) Q E s := by
  refine callType_codes (Q₁ := fun obj s1 => obj = .ref s.heap.objs.size ∧ s1 = { s with heap := s.heap.push { cls := .type "list", data := .seq #[] } }) F.called_list (F.typeCall_list_1 _) F.entry_list_init (code_list_new _ ⟨rfl, rfl⟩) fun obj s1 h1 => ?_
  obtain ⟨rfl, rfl⟩ := h1
  have hS : (s.heap.push { cls := .type "list", data := .seq #[] }).get? s.heap.objs.size = some { cls := .type "list", data := .seq #[] } := Heap.get?_push_size _ rfl
  have hk : ∀ b o, s.heap.get? b = some o → (s.heap.push { cls := .type "list", data := .seq #[] }).get? b = some o := fun b o y => Heap.get?_push_of_some _ y
  have st2 : EnSt e it l items 0 (s.heap.push { cls := .type "list", data := .seq #[] }) := by
    obtain ⟨⟨g, b, z, h1, hg⟩, hi, hl, ne⟩ := st
    refine ⟨⟨g, b, z, hk _ _ h1, ?_⟩, hi.at fun o y => hk _ _ y, hl.at fun o y => hk _ _ y, ne⟩
    rcases hg with hg | ⟨a, o, x1, x2, x3, x4, x5⟩
    · exact .inl hg
    · exact .inr ⟨a, o, x1, hk _ _ x2, x3, x4, x5⟩
  have nl : l ≠ s.heap.objs.size := by
    obtain ⟨o, ho, _⟩ := st.sli
    exact Nat.ne_of_lt (Heap.lt_size ho)
  refine ⟨⟨_, hS, rfl⟩, F.args_list_init_2 _ _, en_init (A := A.in1) hh hn (hk _ _ he) st2 hS nl fun h' tk acc' c' kk hS' ha => ⟨rfl, ?_⟩⟩
  have ez : (s.heap.push { cls := .type "list", data := .seq #[] }).objs.size = s.heap.objs.size + 1 := Heap.size_push ..
  have ha2 : AccEn items acc' items.size h' (s.heap.push { cls := .type "list", data := .seq #[] }).objs.size := ha
  rw [ez] at ha2
  exact hQ h' tk acc' c' (fun b o n1 n2 y => kk b o n1 n2 (Nat.ne_of_lt (Heap.lt_size y)) (hk _ _ y)) hS' ha2
end
/-! ### several new objects at once -/
section
variable {P : Program} {w : World} {fs ex : List Addr} {H H' : Hp} {h h' : Heap}
structure Many (H H' : Hp) (h : Heap) : Prop where
  old : ∀ b, b < h.objs.size → H' b = H b
theorem Many.ext (m : Many H H' h) (x : HOk P w H h) : Same H H' := fun b o e => by rw [m.old b (x.lt e)]; exact e
theorem Many.hok (m : Many H H' h) (x : HOk P w H h) (k : ∀ b u, h.get? b = some u → h'.get? b = some u) (new : ∀ b o, h.objs.size ≤ b → H' b = some o → ObjOk P w H' h' b o) : HOk P w H' h' := fun b u e => by
  by_cases c : b < h.objs.size
  · rw [m.old b c] at e
    exact (x b u e).stay (fun c v _ q => k c v q) (fun c q => m.ext x _ _ q) fun c xs q => m.ext x _ _ q
  · exact new b u (Nat.le_of_not_lt c) e
theorem Many.un (m : Many H H' h) (x : HOk P w H h) (k : ∀ b u, h.get? b = some u → h'.get? b = some u) : Un fs ex H H' h h' where
  keep := fun b u q _ _ _ => k b u q
  slot := fun b u q _ _ _ => ⟨u.slots, k b u q⟩
  free := fun b u q n _ => by rw [m.old b (Heap.lt_size q)]; exact n
  there := fun b u q _ => ⟨u, k b u q⟩
  tups := fun b xs q => m.ext x _ _ q
  frzs := fun b u xs q => m.ext x _ _ q
  tbls := fun b ps q => ⟨#[], by rw [m.ext x _ _ q]; simp⟩
end
open Classical in
/-- the heap with a new list at D of new pairs at ts -/
noncomputable def enH (H : Hp) (n : Nat) (D : Addr) (ts : List Addr) (f : Nat → V) : Hp := fun b =>
  if b < n then H b else if b = D then some (.lst (ts.map V.ref)) else if q : ∃ j : Nat, ts[j]? = some b then some (.tup [.int ((Classical.choose q : Nat) : Int), f (Classical.choose q)]) else none
theorem enrefs_of : ∀ vs : List Value, (∀ v ∈ vs, ∃ p, v = .ref p) → ∃ ts : List Addr, vs = ts.map Value.ref
  | [], _ => ⟨[], rfl⟩
  | v :: vs, h => by
    obtain ⟨p, rfl⟩ := h v List.mem_cons_self
    obtain ⟨ts, e⟩ := enrefs_of vs fun u hu => h u (List.mem_cons_of_mem _ hu)
    exact ⟨p :: ts, by rw [e]; rfl⟩
theorem envals_refs : ∀ ts : List Addr, Vals (ts.map V.ref) (ts.map Value.ref)
  | [] => .nil
  | p :: ts => .cons rfl (envals_refs ts)
theorem enH_at {H : Hp} {n : Nat} {D : Addr} {ts : List Addr} {f : Nat → V} {j : Nat} {b : Addr} (e : ts[j]? = some b) (hb : n ≤ b) (hD : b ≠ D) (one : ∀ i, ts[i]? = some b → i = j) : enH H n D ts f b = some (.tup [.int ((j : Nat) : Int), f j]) := by
  unfold enH
  rw [if_neg (Nat.not_lt.mpr hb), if_neg hD, dif_pos ⟨j, e⟩]
  have z := one _ (Classical.choose_spec (⟨j, e⟩ : ∃ j : Nat, ts[j]? = some b))
  rw [z]
def tLstEn (K : PySem.W.Frag) (ta : TA) : TE := fun σ H Q => ta σ H fun vs H1 => ∃ a xs, vs = [.ref a] ∧ SqL K H1 a xs ∧ ∀ (D : Addr) (ts : List Addr) (H' : Hp), Same H1 H' → H1 D = none → H' D = some (.lst (ts.map V.ref)) → ts.length = xs.length →
  (∀ (i : Nat) (p : Addr) (x : V), ts[i]? = some p → xs[i]? = some x → H' p = some (.tup [.int ((i : Nat) : Int), x])) → Q (.ref D) H'
theorem pe_listEn {X : Cx} {e : Expr} {ta : TA} {p p2 pos pos2 : Pos} (hc : X.calm = true) (hg : Gl X "list") (hm : X.mg "list" = none) (hg2 : Gl X "enumerate") (hm2 : X.mg "enumerate" = none) (ha : PA X [e] ta) (hs : starEach [e] X.env = [(false, eval e X.env)] := by rfl)
    (na : starEach [.Call (.Name "enumerate" p2) [e] [] pos2] X.env = (false, eval (.Call (.Name "enumerate" p2) [e] [] pos2) X.env) :: starEach [] X.env := by rfl) : PE X (.Call (.Name "list" p) [.Call (.Name "enumerate" p2) [e] [] pos2] [] pos) (tLstEn X.K ta) := by
  refine ⟨fun pins s σ H Q I h => ?_⟩
  refine Call_ (ld_blt I hg hm boot_list (PyProof.Rows.callWith_type1 (args_cons ?_ na) na))
  refine Call_ (ld_blt I hg2 hm2 boot_enumerate (PyProof.Rows.callWith_type1 (thn (ha.run pos2 pins s σ H _ I h) fun us s1 ⟨vs, H1, I1, r1, q1⟩ => ?_) hs rfl))
  obtain ⟨a, xs, ex, hq, q⟩ := q1
  subst ex
  cases r1 with
  | cons r rr =>
    cases rr
    cases r
    obtain ⟨its, rv, p', hz⟩ := I1.list hq
    refine call_enumerate_list p'.isList fun h1 he hit hsz hk => args_nil ?_
    have hl1 : h1.IsList a its.toArray := p'.isList.at fun o y => hk _ _ y
    have st : EnSt (s1.heap.objs.size + 1) s1.heap.objs.size a its.toArray 0 h1 := ⟨⟨_, _, _, he, .inl ⟨rfl, rfl⟩⟩, hit, hl1, Nat.succ_ne_self _⟩
    refine call_listEn (s := { s1 with heap := h1 }) (I1.ok.hd hc) (by rw [List.size_toArray, ← rv.length]; exact hz) he st fun h' tk acc' c' kk hD ha' => ?_
    have lx := rv.length
    have n1 : h1.objs.size = s1.heap.objs.size + 1 + 1 := by rw [hsz]
    obtain ⟨ts, ets⟩ := enrefs_of acc'.toList fun v hv => by
      obtain ⟨j, hj⟩ := List.getElem?_of_mem hv
      have lt := (List.getElem?_eq_some_iff.mp hj).1
      rw [Array.length_toList, ha'.sz] at lt
      obtain ⟨p, tk, x, y1, _⟩ := ha'.at_ j lt
      rw [Array.getElem?_toList, y1] at hj
      exact ⟨p, (Option.some.inj hj).symm⟩
    have lts : ts.length = its.length := by
      have z := congrArg List.length ets
      rw [Array.length_toList, ha'.sz, List.length_map, List.size_toArray] at z
      exact z.symm
    -- what stands at each pair's address
    have at_ : ∀ (j : Nat) (b : Addr), ts[j]? = some b → ∃ (tk : Nat) (x : Value), its[j]? = some x ∧ h1.objs.size + 1 ≤ b ∧ h'.get? b = some { cls := .type "tuple", data := .seq #[.int j tk, x] } := fun j b e => by
      have lt := (List.getElem?_eq_some_iff.mp e).1
      obtain ⟨p, tk, x, y1, y2, y3, y4⟩ := ha'.at_ j (by rw [List.size_toArray]; omega)
      have z : acc'.toList[j]? = some (.ref b) := by rw [ets, List.getElem?_map, e]; rfl
      rw [Array.getElem?_toList, y1] at z
      cases z
      exact ⟨tk, x, by simpa using y2, y3, y4⟩
    have one : ∀ (i j : Nat) (b : Addr), ts[i]? = some b → ts[j]? = some b → i = j := fun i j b e1 e2 => by
      obtain ⟨_, _, _, _, g1⟩ := at_ i b e1
      obtain ⟨_, _, _, _, g2⟩ := at_ j b e2
      rw [g1] at g2
      injection g2 with g2
      injection g2 with _ _ g2
      injection g2 with g2
      have g3 := congrArg (fun a => a[0]?) g2
      simp at g3
      omega
    have old : ∀ b u, s1.heap.get? b = some u → h'.get? b = some u := fun b u y => kk b u (Nat.ne_of_lt (Nat.lt_succ_of_lt (Heap.lt_size y))) (Nat.ne_of_lt (Heap.lt_size y)) (hk _ _ y)
    have m : Many H1 (enH H1 s1.heap.objs.size h1.objs.size ts fun j => xs.getD j .non) s1.heap := ⟨fun b hb => if_pos hb⟩
    have nD : ∀ (j : Nat) (b : Addr), ts[j]? = some b → b ≠ h1.objs.size ∧ s1.heap.objs.size ≤ b := fun j b e => by
      obtain ⟨_, _, _, g, _⟩ := at_ j b e
      exact ⟨Nat.ne_of_gt g, Nat.le_trans (by omega) (Nat.le_of_succ_le g)⟩
    have pair : ∀ (j : Nat) (b : Addr) (x : V), ts[j]? = some b → xs[j]? = some x → enH H1 s1.heap.objs.size h1.objs.size ts (fun j => xs.getD j .non) b = some (.tup [.int ((j : Nat) : Int), x]) := fun j b x e ex => by
      have z := enH_at (H := H1) (D := h1.objs.size) (f := fun j => xs.getD j .non) e (nD j b e).2 (nD j b e).1 fun i e1 => one i j b e1 e
      have y : xs.getD j .non = x := by rw [List.getD_eq_getElem?_getD, ex]; rfl
      rw [z, y]
    have dl : enH H1 s1.heap.objs.size h1.objs.size ts (fun j => xs.getD j .non) h1.objs.size = some (.lst (ts.map V.ref)) := by
      have n2 : ¬ (h1.objs.size : Nat) < s1.heap.objs.size := by omega
      unfold enH
      rw [if_neg n2, if_pos rfl]
    have hok := m.hok (h' := h') I1.hok old fun b o hb e => by
      unfold enH at e
      rw [if_neg (Nat.not_lt.mpr hb)] at e
      by_cases c : b = h1.objs.size
      · rw [if_pos c] at e
        cases e
        subst c
        refine ⟨by rw [List.length_map, lts, ← lx]; exact hz, acc'.toList, c', by rw [ets]; exact envals_refs ts, ?_⟩
        rw [Array.toArray_toList]; exact hD
      · rw [if_neg c] at e
        by_cases q : ∃ j : Nat, ts[j]? = some b
        · rw [dif_pos q] at e
          cases e
          have sp := Classical.choose_spec q
          obtain ⟨tk, x, g1, _, g2⟩ := at_ _ b sp
          have lt := (List.getElem?_eq_some_iff.mp sp).1
          obtain ⟨v, hv⟩ : ∃ v, xs[Classical.choose q]? = some v := ⟨_, List.getElem?_eq_getElem (by omega)⟩
          obtain ⟨u, hu, ru⟩ := rv.get hv
          rw [g1] at hu
          cases hu
          have y : xs.getD (Classical.choose q) .non = v := by rw [List.getD_eq_getElem?_getD, hv]; rfl
          dsimp only
          rw [y]
          exact ⟨by show 2 ≤ sizeLine; decide, [.int _ tk, x], .cons ⟨_, rfl⟩ (.cons ru .nil), ⟨_, g2, rfl, _, rfl⟩⟩
        · rw [dif_neg q] at e; cases e
    refine ⟨.ref h1.objs.size, _, I1.un (t' := tk) (m.un I1.hok old) hok, rfl, q _ ts _ (m.ext I1.hok) (I1.hok.fresh (by omega)) dl (lts.trans lx.symm) pair⟩
end L2

/-! Z5: sorted(a tuple of whole numbers), list.extend(a tuple). -/
namespace L2
open PySem PySem.Spec PyProof.Rows SrtO
section
variable {prog : Program} {w : World} {A : Around} {E : Value → Shared → Prop} {s : Shared}
/-- what is gathered from a tuple -/
theorem gather_tup {t : Addr} {vs : List Value} {G : List Value → Shared → Prop} (ht : IsTup s.heap t vs.toArray) (hz : vs.length ≤ sizeLine)
    (hG : G vs { s with heap := (s.heap.push (seqObj "list" #[] 0)).update s.heap.objs.size (Obj.mapSeq (· ++ vs.toArray)) }) : wpAny (model prog w) A (collect (.ref t)) G E s := by
  obtain ⟨o, ho, hc, n, hd⟩ := ht
  have op : (s.heap.push (seqObj "list" #[] 0)).get? t = some o := Heap.get?_push_of_some _ ho
  have on : (s.heap.push (seqObj "list" #[] 0)).get? s.heap.objs.size = some (seqObj "list" #[] 0) := Heap.get?_push_size _ rfl
  have ze : (#[] ++ vs.toArray : Array Value).size ≤ sizeLine + 1 := by rw [Array.size_append, List.size_toArray]; exact Nat.le_succ_of_le (by simpa using hz)
  unfold collect
  refine wpAny_bind (wpAny_runValue (codeAny_builtin entry_proto_collect' (wpAny_bind (wpAny_newList (wpAny_pure ⟨Code.quiet_builtin _ (by decide +kernel), codeAny_builtin entry_list_iadd' ?_⟩)))))
  show wpAny _ _ (Builtin.List.listExtendWith (.ref s.heap.objs.size) (.ref t) (.ref s.heap.objs.size)) _ _ ⟨s.heap.push (seqObj "list" #[] 0), _, _, _, _⟩
  unfold Builtin.List.listExtendWith
  refine wpAny_bind (wpAny_typeOf (T := "tuple") ⟨o, op, hc⟩ ?_)
  have et : (Value.type "tuple" == Value.type "tuple") = true := rfl
  rw [if_pos (by rw [et]; simp)]
  refine wpAny_bind (listItems_at op hd (wpAny_bind (listItems_at (xs := #[]) (n := 0) on rfl ?_)))
  rw [if_neg (by simp)]
  refine wpAny_bind (listUpdate_at (xs := #[]) (n := 0) on rfl (wpAny_pure ?_) (Nat.zero_le _) ze)
  show wpAny _ _ (load s.heap.objs.size >>= _) _ _ ⟨(s.heap.push (seqObj "list" #[] 0)).update s.heap.objs.size (Obj.mapSeq (· ++ vs.toArray)), _, _, _, _⟩
  refine wpAny_bind (wpAny_load (get?_update_seq on _) ?_)
  show wpAny _ _ (pure (#[] ++ vs.toArray : Array Value).toList) _ _ _
  have ev : (#[] ++ vs.toArray : Array Value).toList = vs := by simp
  rw [ev]
  exact wpAny_pure hG
/-- sorted(a tuple) -/
theorem sorted_tup {t : Addr} {vs : List Value} {lt : Value → Value → Bool} {G : Value → Shared → Prop} (O : Swo lt) (ht : IsTup s.heap t vs.toArray) (hz : vs.length ≤ sizeLine)
    (hS : 2 ≤ vs.length → ∀ (g : Heap) (a : Addr), SortableO prog w A.in1.in1 { s with heap := g } a vs lt)
    (hG : ∀ out : List Value, Srtd lt out → Stb lt out vs → G (.ref (s.heap.objs.size + 1)) { s with heap := sortedAll s.heap vs out.toArray }) : wpAny (model prog w) A (call (.builtin "sorted") [.ref t]) G E s := by
  refine Calls.call_function_entry kind_sorted plain_sorted entry_sorted (args_sorted1 _) ?_
  unfold Builtin.«sorted»
  refine wpAny_bind (m := checkCount "sorted" 1 1 _) (wpAny_pure (wpAny_bind (gather_tup ht hz (wpAny_bind (wpAny_newList ?_ hz)))))
  have sz : ((s.heap.push (seqObj "list" #[] 0)).update s.heap.objs.size (Obj.mapSeq (· ++ vs.toArray))).objs.size = s.heap.objs.size + 1 := by rw [Heap.size_update, size_push']
  have at1 : (((s.heap.push (seqObj "list" #[] 0)).update s.heap.objs.size (Obj.mapSeq (· ++ vs.toArray))).push (seqObj "list" vs.toArray 0)).get? (s.heap.objs.size + 1) = some (seqObj "list" vs.toArray 0) := sz ▸ Heap.get?_push_size _ rfl
  show wpAny _ _ _ _ _ ⟨((s.heap.push (seqObj "list" #[] 0)).update s.heap.objs.size (Obj.mapSeq (· ++ vs.toArray))).push (seqObj "list" vs.toArray 0), _, _, _, _⟩
  rw [sz]
  refine wpAny_bind (wpAny_holding (wpAny_call_entry slot_list_sort ⟨_, at1, rfl⟩ entry_list_sort (list_sort_ord O at1 hz (fun h2 => hS h2 _ _) fun out k1 k2 => ⟨_, rfl, wpAny_pure ⟨_, rfl, hG out k1 k2⟩⟩) (args_list_sort _)))
end
/-- sorted(t), t a tuple of whole numbers -/
def rSortedTup (K : PySem.W.Frag) : List V → Hp → VK → Prop := fun vs H Q => ∃ (a : Addr) (ns : List Int), vs = [V.ref a] ∧ SqT K H a (ns.map V.int) ∧
  ∀ (ms : List Int) (p : Addr), ms.Perm ns → ms.Pairwise (· ≤ ·) → H p = none → Q (.ref p) (upd H p (.lst (ms.map V.int)))
/-- xs.extend(t), t a tuple -/
def rExtendT (K : PySem.W.Frag) : V → List V → Hp → VK → Prop := fun x vs H Q => ∃ l b xs zs, x = .ref l ∧ vs = [.ref b] ∧ H l = some (.lst xs) ∧ SqT K H b zs ∧ xs.length + zs.length ≤ sizeLine ∧ Q .non (upd H l (.lst (xs ++ zs)))
section
variable {X : Cx}
theorem cr_sortedTup : CallR X (.builtin "sorted") (rSortedTup X.K) := by
  intro pins s σ H vs us Q I r h
  obtain ⟨a, ns, rfl, hs, q⟩ := h
  obtain ⟨its, rv, pl, hz⟩ := I.tuple hs
  rw [Vals.ref1 r]
  have hi := rv.ints
  rw [rv.length] at hz
  refine sorted_tup swo_int pl hz (fun h2 g a' => ints_sortable hi h2) fun out k1 k2 => ?_
  obtain ⟨j1, j2, j3⟩ := ints_out hi k1 k2
  obtain ⟨e, he⟩ := sortedAll_at s.heap its out.toArray
  have hl : ((out.map iv).map V.int).length ≤ sizeLine := by
    have z := j2.length_eq
    have y := rv.length
    rw [List.length_map] at y ⊢
    omega
  exact ⟨.ref _, _, I.laid (t' := s.toks) (o := .lst ((out.map iv).map V.int)) (fun _ _ => sortedAll_old) (Nat.le_succ _) ⟨hl, out, e, vals_of_ints j1, he⟩, rfl, q _ _ j2 j3 (I.hok.fresh (Nat.le_succ _))⟩
theorem mt_extendT : MtM X "list.extend" (rExtendT X.K) := by
  intro pins s σ H x vs v us Q I rx rv h
  obtain ⟨l, b, xs, zs, rfl, rfl, hH, hB, hz, q⟩ := h
  cases rx
  obtain ⟨u, rfl, ru⟩ := rv.one
  cases ru
  obtain ⟨z, its, n, r, hl, e⟩ := I.lstM hH
  obtain ⟨its2, r2, pl, z2⟩ := I.tuple hB
  obtain ⟨o, ho, hc, n2, hd⟩ := pl
  have l2 := r2.length
  have zs2 : its.toArray.size + its2.toArray.size ≤ sizeLine := by rw [List.size_toArray, List.size_toArray]; omega
  refine wpAny_call_entry F.slot_list_extend ⟨_, e, rfl⟩ F.entry_list_extend ?_ (F.args_list_extend_2 _ _)
  show wpAny _ _ (Builtin.List.listExtendWith (.ref l) (.ref b) .none) _ _ s
  unfold Builtin.List.listExtendWith
  refine wpAny_bind (wpAny_typeOf (T := "tuple") ⟨o, ho, hc⟩ ?_)
  have et : (Value.type "tuple" == Value.type "tuple") = true := rfl
  rw [if_pos (by rw [et]; simp)]
  refine wpAny_bind (listItems_at ho hd (wpAny_bind (listItems_at e rfl ?_)))
  rw [if_neg (by rw [notLongL zs2, Bool.and_false]; exact Bool.false_ne_true)]
  refine wpAny_bind (listUpdate_at e rfl (wpAny_pure ?_) (by omega) (by rw [Array.size_append]; omega))
  refine ⟨_, rfl, .non, _, I.lset (its' := its ++ its2) hH e (by simp) (r.append r2) ?_, rfl, q⟩
  rw [List.length_append]
  omega
end
theorem pi_tupK {X : Cx} (K : PySem.W.Frag) {tg l : Expr} {tl : TE} (hl : PE X l tl) (e : X.K = K := by rfl) : PI X tg l (iTup K tl) := by subst e; exact pi_tup hl
theorem pi_listK {X : Cx} (K : PySem.W.Frag) {tg l : Expr} {tl : TE} (hl : PE X l tl) (e : X.K = K := by rfl) : PI X tg l (iList K tl) := by subst e; exact pi_list hl
end L2

/-! Z6: d.get(y), y None or a whole number or a text, over a dict whose keys are numbers and texts. -/
namespace L2
open PySem PySem.Spec PyProof.Rows
section
variable {X : Cx}
theorem leaf_keys {P : Program} {w : World} {es : Array DictEntry} (h : KeysOf (mixKind P w) es) : KeysOf (leafKind P w) es := fun e he => by
  obtain ⟨k, k1, k2⟩ := h e he
  rcases keyIs_shape k1 with ⟨i, t, rfl, ek⟩ | ⟨x, t, rfl, ek⟩
  · refine ⟨.num i, ?_, k2⟩
    rw [ek]
    exact decide_eq_true rfl
  · refine ⟨.text x, ?_, k2⟩
    rw [ek]
    exact keyIs_str x t
theorem no_none {P : Program} {w : World} {es : Array DictEntry} (h : KeysOf (mixKind P w) es) : findBy (leafKind P w).is es .none = none := by
  unfold findBy
  have z : es.find? (fun e => (leafKind P w).is .none e.key) = none := by
    rw [Array.find?_eq_none]
    intro e he
    obtain ⟨k, k1, _⟩ := h e he
    rcases keyIs_shape k1 with ⟨i, t, _, ek⟩ | ⟨x, t, _, ek⟩
    · rw [ek]; exact Bool.false_ne_true
    · rw [ek]; exact Bool.false_ne_true
  rw [z]; rfl
theorem get_non {pins : List (Addr × Obj)} {σ : St} {H : Hp} {s : Shared} {A : Around} {E : Value → Shared → Prop} {a : Addr} {kvs : List (Key × V)} {Q : Value → Shared → Prop} (I : Inv X pins σ H s) (e : Rd H a (.dK kvs)) (h : ∀ s', Inv X pins σ H s' → Q .none s') :
    wpAny (model X.prog X.w) A (call (.builtin "dict.get") [.ref a, .none]) Q E s := by
  obtain ⟨z, hd, vs, rel, dd⟩ := dk_rd I.hok e
  obtain ⟨o, es, ep, h1, h2, h3, h4, _⟩ := id dd
  have m : s.heap.MapOf (leafKind X.prog X.w) a (findBy (leafKind X.prog X.w).is es) := ⟨o, es, ep, h1, h2, h3, leaf_keys h4, fun _ => rfl⟩
  refine call_meetsIn PySem.F.slot_dict_get dd.typeIs PySem.F.entry_dict_get (PySem.F.args_dict_get_2 _ _) (meets_dict_get (leafKind X.prog X.w) (k := .none) (key := .none) a rfl hd) ⟨_, m, ?_⟩
  rw [no_none h4]
  exact h _ (I.tok _)
/-- d.get(y): a number's or a text's place, or None -/
def tDGetO (td ty : TE) : TE := fun σ H Q => td σ H fun x H1 => ∃ a, x = .ref a ∧ IsD H1 a ∧ ty σ H1 fun y H2 => (y = .non ∧ (∃ kvs, H2 a = some (.dK kvs)) ∧ Q .non H2) ∨ ∃ o, DGet H2 a y o ∧ Q (o.getD .non) H2
theorem pe_dgetO {o e : Expr} {apos cpos : Pos} {td ty : TE} (hu : X.A.units + 1 < cLine) (ho : PE X o td) (he : PE X e ty) (m : M1 X o "get" apos e cpos) : PE X (.Call (.Attribute o "get" apos) [e] [] cpos) (tDGetO td ty) := by
  refine ⟨fun pins s σ H Q I h => ?_⟩
  refine wpAny_Call_method m.base m.few m.line PySem.F.plainAttrs_dict PySem.F.slot_dict_get PySem.F.type_dict_get (thn (ho.run pins s σ H _ I h) fun u s1 ⟨x, H1, I1, rx, a, ex, d, q1⟩ => ?_)
  subst ex
  cases (show u = Value.ref a from rx)
  obtain ⟨g1, g2, _⟩ := isD_at I1 d
  refine ⟨g1, g2, ?_⟩
  rw [m.trees]
  refine Calls.callWith_builtin rfl (Calls.evalArgs_plain (Calls.spliced_cons (thn (he.run pins s1 σ H1 _ I1 q1) fun iv s2 ⟨y, H2, I2, ry, alt⟩ => Calls.spliced_nil ?_)))
  rcases alt with ⟨rfl, ⟨kvs, ek⟩, q2⟩ | ⟨ov, g, q2⟩
  · cases (show iv = Value.none from ry)
    exact get_non I2 (.inl ek) fun s3 I3 => ⟨.non, H2, I3, rfl, q2⟩
  · exact d_get1 hu I2 g ry fun w' s3 I3 rw' => ⟨_, H2, I3, rw', q2⟩
/-- a walk that one of two rules tells -/
theorem pi_or {tg it : Expr} {a b : TI} (h : PI X tg it a) (h2 : PI X tg it b) : PI X tg it (fun σ H R => a σ H R ∨ b σ H R) := ⟨fun pins s σ H R I q => q.elim (h.run pins s σ H R I) (h2.run pins s σ H R I)⟩
/-- a value that one of two rules tells -/
theorem pe_or2 {e : Expr} {a b : TE} (h : PE X e a) (h2 : PE X e b) : PE X e (fun σ H Q => a σ H Q ∨ b σ H Q) := ⟨fun pins s σ H Q I q => q.elim (h.run pins s σ H Q I) (h2.run pins s σ H Q I)⟩
end
end L2

/-! Z7: {k: v for a in xs for b in ys}: two for, one test at most of each. -/
namespace L2
open PySem PySem.Spec PyProof.Rows
/-- what holds in the block of a comprehension, whatever it stands on -/
abbrev InBlk (X : Cx) (scope : Scope) (F : Cx → Prop) : Prop := ∀ (s : Shared) (H : Hp) (C : Addr) (cl : List (Str × Addr)) (fp : List Addr), F (X.blk s H scope (compEnvC scope cl C X.env) fp)
def tDc2 (wA : TI) (gA : TG) (qA : TT) (wB : TI) (gB : TG) (qB : TT) (tk tv : TE) (us ub : List Nat) : TE := fun σ H Q => wA σ H fun JA G => ∀ D, G D = none → ∃ W : Nat → Nat → Hp → Prop, (∃ m, W 0 m (upd G D (.dK []))) ∧ ∀ i m H, W i m H →
  (JA.stop i H ∧ Q (.ref D) H) ∨ (JA.go i H ∧ ∃ Nx : Hp → Prop, (∀ H', Nx H' → ∃ n, n < m ∧ W (i + 1) n H') ∧ ∀ x H', JA.yld i H x H' → gA x (wipe σ us) H' fun σ2 H2 => wipe σ2 us = wipe σ us ∧ qA σ2 H2 fun b H3 =>
    if b = true then wB σ2 H3 fun JB H4 => ∃ V : Nat → Nat → Hp → Prop, (∃ m, V 0 m H4) ∧ ∀ j k H, V j k H → (JB.stop j H ∧ Nx H) ∨ (JB.go j H ∧ ∃ Ny : Hp → Prop, (∀ H', Ny H' → ∃ n, n < k ∧ V (j + 1) n H') ∧
      ∀ x H', JB.yld j H x H' → gB x (wipe σ2 ub) H' fun σ3 H5 => wipe σ3 ub = wipe σ2 ub ∧ qB σ3 H5 fun b H6 =>
        if b = true then tk σ3 H6 fun y H7 => tv σ3 H7 fun z H8 => ∃ kvs k, y = kV k ∧ H8 D = some (.dK kvs) ∧ kvs.length < sizeLine ∧ Ny (upd H8 D (.dK (putK kvs k z))) else Ny H6)
    else Nx H3)
/-- the second for's start -/
theorem dc_start1 {prog : Program} {w : World} {A : Around} {R : Result → Shared → Prop} {s : Shared} {kx vx tA iA tB iB : Expr} {fA fB : List Expr} {scope : Scope} {pos : Pos} {it acc : Value} {env : Env} (h0 : codeAny (model prog w) A (.compLoop (.DictComp kx vx [⟨tA, iA, fA, 0⟩, ⟨tB, iB, fB, 0⟩] scope pos) 1 it acc env) R s)
    (h : wpAny (model prog w) A (pyIter it) (fun j s' => codeAny (model prog w) A (.compLoop (.DictComp kx vx [⟨tA, iA, fA, 0⟩, ⟨tB, iB, fB, 0⟩] scope pos) 1 j acc env) R s') (notedBy (model prog w) A env fun x s' => R (.error x) s') s) :
    codeAny (model prog w) A (.compStart (.DictComp kx vx [⟨tA, iA, fA, 0⟩, ⟨tB, iB, fB, 0⟩] scope pos) 1 it acc env) R s := by
  refine codeAny_of_tree ?_
  show wpAny _ _ ((compStart (.DictComp kx vx [⟨tA, iA, fA, 0⟩, ⟨tB, iB, fB, 0⟩] scope pos) 1 it acc env).onRaise fun x => do noteFrame x env; standAt theWindowsPlace) _ _ s
  refine wpAny_notedAt ?_
  unfold compStart
  show wpAny _ _ (ask >>= _) _ _ s
  refine wpAny_bind (wpAny_askSetting (wpAny_ite ?_))
  have late : wpAny (model prog w) A (pyIter it) (fun j s' => codeAny (model prog w) A (.compLoop (.DictComp kx vx [⟨tA, iA, fA, 0⟩, ⟨tB, iB, fB, 0⟩] scope pos) 1 j acc env) R s') (notedBy (model prog w) A env fun x s' => R (.error x) s') s := h
  split
  · first | exact wpAny_bind (wpAny_pure (wpAny_pure ⟨rfl, h0⟩)) | exact wpAny_pure ⟨rfl, h0⟩
  · first
      | exact wpAny_bind (wpAny_rule (wpAny_bind (wpAny_standAt (wpAny_bind (wpAny_mono late (fun _ _ q => wpAny_pure ⟨rfl, q⟩) fun _ _ q => q)))))
      | (refine wpAny_bind (wpAny_rule ?_); show wpAny _ _ (standAt iB.pos >>= _) _ _ s; exact wpAny_bind (wpAny_standAt (wpAny_bind (wpAny_mono late (fun _ _ q => wpAny_pure ⟨rfl, q⟩) fun _ _ q => q))))
section
variable {X : Cx}
theorem pe_dc2 {kx vx tA iA tB iB : Expr} {fA fB : List Expr} {scope : Scope} {own : List (Str × Nat)} {ub : List Nat} {pos : Pos} {wA wB : TI} {gA gB : TG} {qA qB : TT} {tk tv : TE} (hc : X.calm = true) (nd : X.N.Nodup) (pA : PI X tA iA wA) (ok : BlkOk X.N X.env.scope scope own) (sub : ∀ i ∈ ub, i ∈ own.map (·.2))
    (aG : InBlk X scope fun Y => PG Y tA gA) (aT : InBlk X scope fun Y => PTs Y fA qA) (bI : InBlk X scope fun Y => PI Y tB iB wB) (bG : InBlk X scope fun Y => PG Y tB gB) (bT : InBlk X scope fun Y => PTs Y fB qB) (bK : InBlk X scope fun Y => PE Y kx tk) (bV : InBlk X scope fun Y => PE Y vx tv)
    (cA : ∀ x, foldedSetIterable iA X.env x = pure x := by intro _; rfl) (cB : ∀ env x, foldedSetIterable iB env x = pure x := by intro _ _; rfl) : PE X (.DictComp kx vx [⟨tA, iA, fA, 0⟩, ⟨tB, iB, fB, 0⟩] scope pos) (tDc2 wA gA qA wB gB qB tk tv (own.map (·.2)) ub) := by
  refine ⟨fun pins s σ H Q I h => ?_⟩
  rw [arm_eval_DictComp]
  have cap : ∀ y ∈ scope.names, y.2 = .free → ∃ c, X.env.cells.lookup y.1 = some c := fun y hy e => (ok.free y hy e).elim (fun k => I.ok.has _ (.inl k)) fun k => I.ok.has _ (.inr k)
  refine wpAny_comprehension_free (use := none) rfl cA (closure_ok cap) ok.kind (fun y hy e => by rw [ok.uniq y hy, e]) (thn (pA.run pins s σ H _ I h) fun xv s1 hx => thn hx fun itv s2 got => ?_)
  obtain ⟨ia, fa, na, JA, G2, rfl, I2, TA, sa2, fr2, body⟩ := got
  refine wpAny_newObj_type (newEnv_comp ?_)
  generalize eD : s2.heap.objs.size = D
  obtain ⟨W, ⟨m0, w0⟩, turn⟩ := body D (I2.hok.fresh (Nat.le_of_eq eD))
  generalize es3 : ({ s2 with heap := s2.heap.push { cls := .type "dict", data := .dict #[] } } : Shared) = s3
  have I3 : Inv X pins σ (upd G2 D (.dK [])) s3 := by
    subst es3
    exact I2.laid (t' := s2.toks) (fun _ _ e => Heap.get?_push_of_some _ e) (Nat.le_of_eq eD) (by rw [← eD]; exact dk_empty s2.heap I2.big)
  have h3 : s3.heap = s2.heap.push { cls := .type "dict", data := .dict #[] } := es3 ▸ rfl
  have fr3 : ∀ b ∈ fa, FpOk X pins (upd G2 D (.dK [])) b ∧ b < s3.heap.objs.size := fun b hb => by
    obtain ⟨_, e, _⟩ := TA.obj _ _ sa2 b hb
    have lt : b < s2.heap.objs.size := Heap.lt_size e
    have ne : b ≠ D := by rw [← eD]; exact Nat.ne_of_lt lt
    exact ⟨⟨(upd_ne ne).trans (fr2 b hb).1, (fr2 b hb).2⟩, by rw [h3, Heap.size_push]; exact Nat.lt_succ_of_lt lt⟩
  have sa3 : na 0 s3.heap := TA.keep _ _ _ sa2 fun b _ o e => h3 ▸ Heap.get?_push_of_some _ e
  have I4 := block_start I3 ok nd fr3
  generalize ecl : cellsFrom (s3.heap.objs.size + 1) scope.names (cloFrom X.env.cells scope.names []) = cl at I4
  have xG := aG s3 (upd G2 D (.dK [])) s3.heap.objs.size cl fa
  have xT := aT s3 (upd G2 D (.dK [])) s3.heap.objs.size cl fa
  have yI := bI s3 (upd G2 D (.dK [])) s3.heap.objs.size cl fa
  have yG := bG s3 (upd G2 D (.dK [])) s3.heap.objs.size cl fa
  have yT := bT s3 (upd G2 D (.dK [])) s3.heap.objs.size cl fa
  have yK := bK s3 (upd G2 D (.dK [])) s3.heap.objs.size cl fa
  have yV := bV s3 (upd G2 D (.dK [])) s3.heap.objs.size cl fa
  show codeAny _ _ (.compStart (.DictComp kx vx [⟨tA, iA, fA, 0⟩, ⟨tB, iB, fB, 0⟩] scope pos) 0 (.ref ia) (.ref D) (compEnvC scope cl s3.heap.objs.size X.env)) (compPost (model X.prog X.w) X.A X.xe none (EP X pins σ Q) (.ref D) s3.heap.objs.size) ⟨pushCells (s3.heap.push { cls := .type "dict", data := .dict #[] }) scope.names, s3.gens, s3.drawn, s3.toks, s3.os⟩
  have nofa : ∀ b ∈ fa, (upd G2 D (.dK [])) b = none := fun b hb => (fr3 b hb).1.1
  generalize ece : compEnvC scope cl s3.heap.objs.size X.env = ce at I4 xG xT yI yG yT yK yV ⊢
  have cloc : ce.locals = s3.heap.objs.size := ece ▸ rfl
  generalize eG3 : upd G2 D (.dK []) = G3 at I3 I4 xG xT yI yG yT yK yV w0 nofa fr3
  generalize es4 : (⟨pushCells (s3.heap.push { cls := .type "dict", data := .dict #[] }) scope.names, s3.gens, s3.drawn, s3.toks, s3.os⟩ : Shared) = s4 at I4 ⊢
  have sa4 : na 0 s4.heap := TA.keep _ _ _ sa3 fun b _ o e => es4 ▸ pushCells_keeps _ _ _ _ (Heap.get?_push_of_some _ e)
  have held : ∀ {σ' : L2.St} {H' : Hp} {s' : Shared}, Inv (X.blk s3 G3 scope ce fa) [] σ' H' s' → (∀ b ∈ fa, H' b = none) → ∀ b ∈ fa, FpOk (X.blk s3 G3 scope ce fa) [] H' b := fun I' hn b hb =>
    ⟨hn b hb, (I'.ok.exf b hb).1, I'.ok.exfs b hb, .inl hb, fun x c e => (I'.ok.exf b hb).2 x c e, fun p (hp : p ∈ ([] : List (Addr × Obj)) ++ []) => by simp at hp⟩
  have loop : codeAny (model X.prog X.w) X.A (.compLoop (.DictComp kx vx [⟨tA, iA, fA, 0⟩, ⟨tB, iB, fB, 0⟩] scope pos) 0 (.ref ia) (.ref D) ce) (compPost (model X.prog X.w) X.A X.xe none (EP X pins σ Q) (.ref D) s3.heap.objs.size) s4 := by
    refine codeAny_loop rfl (fun n s' => ∃ i H', Inv (X.blk s3 G3 scope ce fa) [] (wipe σ (own.map (·.2))) H' s' ∧ na i s'.heap ∧ (∀ b ∈ fa, H' b = none) ∧ W i n H') (fun n s5 ⟨i, H5, I5, sa5, no5, w5⟩ => ?_) m0 ⟨0, G3, I4, sa4, nofa, w0⟩
    show wpAny _ X.A ((compTurn (.DictComp kx vx [⟨tA, iA, fA, 0⟩, ⟨tB, iB, fB, 0⟩] scope pos) 0 (.ref ia) (.ref D) ce).onRaise fun x => do noteFrame x ce; theTreesLotGoes x) _ _ s5
    refine wpAny_noted ?_
    show wpAny _ _ (standAt iA.pos >>= _) _ _ _
    refine wpAny_bind (wpAny_standAt ?_)
    show wpAny _ _ (pyNext (.ref ia) >>= _) _ _ _
    rcases turn i n H5 w5 with ⟨stop, fin⟩ | ⟨go, Nx, down, step⟩
    · refine wpAny_bind (thnF (TA.done (X.blk s3 G3 scope ce fa) rfl rfl rfl hc i [] s5 _ H5 (fun _ _ => False) I5 (held I5 no5) sa5 stop) fun r s6 ⟨er, I6⟩ => ?_)
      subst er
      refine wpAny_pure ?_
      -- back in the def
      have I7 : Inv X pins σ H5 s6 := I3.call' (ch := fa) I6.os I6.base I6.hok I6.bare fun b hb => by
        obtain ⟨_, p1, _, p3, p4, p5⟩ := (fr3 b hb).1
        exact ⟨p3, p1, p4, p5⟩
      have free : H5 s3.heap.objs.size = none := cloc ▸ (show H5 ce.locals = none from I6.free)
      obtain ⟨m, (ns : s6.heap.Ns ce.locals m), _⟩ := I6.loc
      rw [cloc] at ns
      obtain ⟨f0, f1, f2, f3, f4, f5⟩ := I3.fpOk (Nat.le_refl _) free
      exact ⟨m, ns, fun _ sb => ⟨.ref D, H5, I7.turned (t' := s6.toks) (fun b o hb e => (sb.2 b hb).trans e) f0 f1 f3 f4 f5, rfl, fin⟩⟩
    · refine wpAny_bind (thnF (TA.item (X.blk s3 G3 scope ce fa) rfl rfl rfl hc i [] s5 _ H5 (fun _ _ => False) I5 (held I5 no5) sa5 go) fun r s6 ⟨u, er, g6⟩ => ?_)
      subst er
      show wpAny _ _ (letOwnedTupleGo tA (.ref ia) u >>= _) _ _ _
      refine wpAny_bind (thnF g6 fun _ s7 ⟨x, H7, I7, r7, y7, sa7, no7⟩ => ?_)
      refine wpAny_bind (thnF (xG.run _ s7 _ H7 x u _ (I7.pinned (held I7 no7) (TA.obj _ _ sa7)) r7 (step x H7 y7)) fun _ s8 ⟨σ8, H8, I8, hw8, q8⟩ => ?_)
      refine wpAny_bind (thnF (xT.run _ s8 σ8 H8 _ I8 q8) fun b s9 ⟨H9, I9, q9⟩ => ?_)
      -- the turn's end
      have back : ∀ {σ9 : L2.St} {s' : Shared} {H' : Hp}, Inv (X.blk s3 G3 scope ce fa) ([] ++ pinsAt fa s7.heap) σ9 H' s' → (wipe σ (own.map (·.2))).length = σ9.length → (∀ (j : Nat) v, (wipe σ (own.map (·.2)))[j]? = some (some v) → σ9[j]? = some (some v)) → Nx H' →
          ∃ m, m < n ∧ ∃ i H', Inv (X.blk s3 G3 scope ce fa) [] (wipe σ (own.map (·.2))) H' s' ∧ na i s'.heap ∧ (∀ b ∈ fa, H' b = none) ∧ W i m H' := fun {σ9 s' H'} I' hl hk nx => by
        obtain ⟨m', lt, w'⟩ := down H' nx
        have stay : ∀ b ∈ fa, ∀ o, s7.heap.get? b = some o → s'.heap.get? b = some o ∧ H' b = none := fun b hb o e => by
          have z := I'.pin (b, o) (List.mem_append_right _ (List.mem_append_right _ (mem_pinsAt hb e)))
          exact ⟨z.1, z.2.1⟩
        exact ⟨m', lt, i + 1, H', (I'.unpinned (pins := [])).weak hl hk, TA.keep _ _ _ sa7 fun b hb o e => (stay b hb o e).1, fun b hb => (TA.obj _ _ sa7 b hb).elim fun o z => (stay b hb o z.1).2, w'⟩
      have len8 : (wipe σ (own.map (·.2))).length = σ8.length := by rw [← hw8, wipe_length]
      have hk8 : ∀ (j : Nat) v, (wipe σ (own.map (·.2)))[j]? = some (some v) → σ8[j]? = some (some v) ∧ ¬ j ∈ own.map (·.2) := fun j v e => wipe_some (hw8 ▸ e)
      cases b with
      | false =>
        simp only [Bool.false_eq_true, if_false] at q9 ⊢
        exact wpAny_pure ⟨rfl, back I9 len8 (fun j v e => (hk8 j v e).1) q9⟩
      | true =>
        simp only [if_true] at q9 ⊢
        refine wpAny_bind (thnF (yI.run _ s9 σ8 H9 _ I9 q9) fun xv1 s10 hx1 => ?_)
        refine wpAny_bind (wpAny_standAt (wpAny_bind (wpAny_of_eq (cB ce xv1) (wpAny_bind (wpAny_holding (thnF hx1 fun itv1 s11 got1 => ?_))))))
        obtain ⟨ib, fb, nb, JB, H11, rfl, I11, TB, sb11, fr11, Vw, ⟨m1, v1⟩, turnB⟩ := got1
        have heldB : ∀ {H' : Hp}, (∀ b ∈ fb, H' b = none) → ∀ b ∈ fb, FpOk (X.blk s3 G3 scope ce fa) ([] ++ pinsAt fa s7.heap) H' b := fun hn b hb => ⟨hn b hb, (fr11 b hb).2⟩
        have hk9 : ∀ (j : Nat) v, (wipe σ (own.map (·.2)))[j]? = some (some v) → (wipe σ8 ub)[j]? = some (some v) := fun j v e => by
          rw [wipe_out fun z => (hk8 j v e).2 (sub j z)]
          exact (hk8 j v e).1
        -- the second for's own loop
        have inner : codeAny (model X.prog X.w) X.A (.compLoop (.DictComp kx vx [⟨tA, iA, fA, 0⟩, ⟨tB, iB, fB, 0⟩] scope pos) 1 (.ref ib) (.ref D) ce)
            (fun r s' => match r with
              | .ok _ => ∃ m, m < n ∧ ∃ i H', Inv (X.blk s3 G3 scope ce fa) [] (wipe σ (own.map (·.2))) H' s' ∧ na i s'.heap ∧ (∀ b ∈ fa, H' b = none) ∧ W i m H'
              | .error _ => False) s11 := by
          refine codeAny_loop rfl (fun k s' => ∃ j H', Inv (X.blk s3 G3 scope ce fa) ([] ++ pinsAt fa s7.heap) (wipe σ8 ub) H' s' ∧ nb j s'.heap ∧ (∀ b ∈ fb, H' b = none) ∧ Vw j k H') (fun k s12 ⟨j, H12, I12, sb12, no12, v12⟩ => ?_) m1 ⟨0, H11, I11.weak (wipe_length _ _) (fun j v e => (wipe_some e).1), sb11, fun b hb => (fr11 b hb).1, v1⟩
          show wpAny _ X.A ((compTurn (.DictComp kx vx [⟨tA, iA, fA, 0⟩, ⟨tB, iB, fB, 0⟩] scope pos) 1 (.ref ib) (.ref D) ce).onRaise fun x => do noteFrame x ce; theTreesLotGoes x) _ _ s12
          refine wpAny_noted ?_
          show wpAny _ _ (standAt iB.pos >>= _) _ _ _
          refine wpAny_bind (wpAny_standAt ?_)
          show wpAny _ _ (pyNext (.ref ib) >>= _) _ _ _
          rcases turnB j k H12 v12 with ⟨stop1, nx1⟩ | ⟨go1, Ny, down1, step1⟩
          · refine wpAny_bind (thnF (TB.done (X.blk s3 G3 scope ce fa) rfl rfl rfl hc j _ s12 (wipe σ8 ub) H12 (fun _ _ => False) I12 (heldB no12) sb12 stop1) fun r s13 ⟨er, I13⟩ => ?_)
            subst er
            exact wpAny_pure (back I13 (len8.trans (wipe_length σ8 ub).symm) hk9 nx1)
          · refine wpAny_bind (thnF (TB.item (X.blk s3 G3 scope ce fa) rfl rfl rfl hc j _ s12 (wipe σ8 ub) H12 (fun _ _ => False) I12 (heldB no12) sb12 go1) fun r s13 ⟨u1, er, g13⟩ => ?_)
            subst er
            show wpAny _ _ (letOwnedTupleGo tB (.ref ib) u1 >>= _) _ _ _
            refine wpAny_bind (thnF g13 fun _ s14 ⟨x1, H14, I14, r14, y14, sb14, no14⟩ => ?_)
            refine wpAny_bind (thnF (yG.run _ s14 (wipe σ8 ub) H14 x1 u1 _ (I14.pinned (heldB no14) (TB.obj _ _ sb14)) r14 (step1 x1 H14 y14)) fun _ s15 ⟨σ15, H15, I15, hw15, q15⟩ => ?_)
            refine wpAny_bind (thnF (yT.run _ s15 σ15 H15 _ I15 q15) fun b1 s16 ⟨H16, I16, q16⟩ => ?_)
            have back1 : ∀ {s' : Shared} {H' : Hp}, Inv (X.blk s3 G3 scope ce fa) (([] ++ pinsAt fa s7.heap) ++ pinsAt fb s14.heap) σ15 H' s' → Ny H' →
                ∃ m, m < k ∧ ∃ j H', Inv (X.blk s3 G3 scope ce fa) ([] ++ pinsAt fa s7.heap) (wipe σ8 ub) H' s' ∧ nb j s'.heap ∧ (∀ b ∈ fb, H' b = none) ∧ Vw j m H' := fun {s' H'} I' ny => by
              obtain ⟨m', lt, w'⟩ := down1 H' ny
              have stay : ∀ b ∈ fb, ∀ o, s14.heap.get? b = some o → s'.heap.get? b = some o ∧ H' b = none := fun b hb o e => by
                have z := I'.pin (b, o) (List.mem_append_right _ (List.mem_append_right _ (mem_pinsAt hb e)))
                exact ⟨z.1, z.2.1⟩
              exact ⟨m', lt, j + 1, H', I'.unpinned.weak (by rw [← hw15, wipe_length]) (fun j v e => (wipe_some (hw15 ▸ e)).1), TB.keep _ _ _ sb14 fun b hb o e => (stay b hb o e).1, fun b hb => (TB.obj _ _ sb14 b hb).elim fun o z => (stay b hb o z.1).2, w'⟩
            cases b1 with
            | false =>
              simp only [Bool.false_eq_true, if_false] at q16 ⊢
              exact wpAny_pure ⟨rfl, back1 I16 q16⟩
            | true =>
              simp only [if_true] at q16 ⊢
              refine wpAny_bind (wpAny_bind (thnF (yK.run _ s16 σ15 H16 _ I16 q16) fun kv s17 ⟨yk, H17, I17, r17, q17⟩ => ?_))
              refine wpAny_bind (wpAny_holding (thnF (yV.run _ s17 σ15 H17 _ I17 q17) fun vv s18 ⟨yv, H18, I18, r18, kvs, kk, ek, d18, lt18, ny⟩ => ?_))
              subst ek
              exact wpAny_bind (wpAny_standAt (wpAny_holding (d_dictSet (X := (X.blk s3 G3 scope ce fa)) I18 d18 lt18 r17 r18 fun s19 I19 => wpAny_pure ⟨rfl, back1 I19 ny⟩)))
        refine wpAny_bind (wpAny_runOwn ?_)
        rw [Around.mark_none]
        refine codeAny_mono (dc_start1 inner (TB.self X.A 0 _ _ _ sb11 inner)) fun r s' hr => ?_
        cases r with
        | ok _ => first | exact wpAny_pure ⟨rfl, hr⟩ | exact wpAny_bind (wpAny_pure (wpAny_pure ⟨rfl, hr⟩))
        | error _ => exact hr.elim
  exact codeAny_compStart_dict loop (TA.self X.A 0 _ _ _ sa4 loop)
end
end L2

namespace L2
open PySem PySem.Spec PyProof.Rows
section
variable {X : Cx} {CX : CXT} {k : Nat} {f : Addr} {fd : FuncData} {x : Str} {st : Stmt} {ps ks : List Str} {sp : Sp} {E : St → XK} {p pos : Pos} {kws : List Keyword} {tk : TA}
variable {g : List Value → List Value → List Value} {gV : List V → List V → List V}
/-- a call with keywords whose way out may look at the slots -/
theorem run_fnkS {pins : List (Addr × Obj)} {σ : St} {H : Hp} {s : Shared} {Q : VK} {us ws : List Value} {vs zs : List V} (F : FnOk X.prog X.w X.K X.mg X.base CX k f fd ps sp) (hr : Room k X.A) (hb : KBinds X.K fd ps ks g gV) (hx : PassesAt CX X σ (E σ))
    (I : Inv X pins σ H s) (r : Vals vs us) (rz : Vals zs ws) (h : sp (gV vs zs) H Q (E σ)) : wpAny (model X.prog X.w) X.A (call (.ref f) us (ks.zip ws)) (EP X pins σ Q) X.xe s := by
  have r2 := hb.rel r rz
  have hl : (g us ws).length = ps.length := by rw [← r2.length]; exact F.len _ _ _ _ h
  refine wpAny_call (codeAny_mono (F.run X.A X.stack s H ⟨us, ks.zip ws⟩ (g us ws) (gV vs zs) Q (E σ) hr I.env0 (hb.to s us ws I.kIn hl) r2 h) fun r s' hq => ?_)
  cases r with
  | error e => exact hx pins H s e s' I hq
  | ok fl =>
    cases fl with
    | ret u => exact I.after hq
    | next => exact False.elim hq
    | brk => exact False.elim hq
    | cont => exact False.elim hq
def tCallKS (sp : Sp) (gV : List V → List V → List V) (E : St → XK) (tk : TA) : TE := fun σ H Q => tk σ H fun zs H2 => sp (gV [] zs) H2 Q (E σ)
theorem pe_callFKS0 (h : Kn X.prog X.w X.K X.mg X.base CX k x st ps sp) (hr : Room k X.A) (hb : KwB x st ps ks g gV) (hx : ∀ σ, PassesAt CX X σ (E σ)) (hkw : PK X kws tk) (hg : Gl X x := by rfl)
    (hall : (backToKw pos (keywordEach kws X.env)).all (·.1.isSome) = true := by rfl) (hks : (backToKw pos (keywordEach kws X.env)).filterMap (·.1) = ks := by rfl)
    (hdb : (x == ("__debug__" : Str)) = false := by decide)
    (hpl : ((backTo pos (starEach [] X.env)).any (·.1) || (backToKw pos (keywordEach kws X.env)).any (·.1.isNone)) = false := by rfl) :
    PE X (.Call (.Name x p) [] kws pos) (tCallKS sp gV E tk) := by
  obtain ⟨f, fd, F, gm, kp, b, kV, doc, pm, an, cdv, ct, rfl⟩ := h.ex
  have hbb : KBinds X.K (PySem.W.fnOf x x (defArgs st) (defBody st) (defScope st) .none kV doc pm an cdv ct) ps ks g gV := ⟨fun s us ws _ hl => .of_eq (hb.1 kV doc pm an cdv ct us ws hl), hb.2⟩
  refine ⟨fun pins s σ H Q I hq => wpAny_Call_Name_kw (ld_glob I hg gm ?_ hdb)⟩
  refine PySem.W.callWith_KW0 (h₀ := X.base) I.ok.mod.kin kp hall (thn (hkw.run pos pins s σ H _ I hq) fun ws s2 ⟨zs, H2, I2, rz, q2⟩ => ⟨I2.kIn, ?_⟩) hpl
  rw [hks]
  exact run_fnkS F hr hbb (hx σ) I2 .nil rz q2
end
end L2

/-! Z9: an own class's methods and its making as promises that carry their places; divmod of great ints. -/
namespace L2
open PySem PySem.Spec PyProof.Rows
structure DfM (K : PySem.W.Frag) (C : Addr) (m q : Str) (st : Stmt) (ps : List Str) : Prop where
  ex : ∃ (f : Addr) (fd : FuncData), Fun K m q st f fd ∧ Meth K C m f ∧ Binds K fd ps []
structure KM (P : Program) (w : World) (K : PySem.W.Frag) (mg : Str → Option Value) (base : Heap) (CX : CXT) (k : Nat) (C : Addr) (m : Str) (ps : List Str) (sp : Sp) : Prop where
  ex : ∃ (f : Addr) (fd : FuncData), FnOk P w K mg base CX k f fd ps sp ∧ Meth K C m f ∧ Binds K fd ps []
structure DfI (K : PySem.W.Frag) (C : Addr) (q : Str) (st : Stmt) (ps : List Str) : Prop where
  ex : ∃ (f : Addr) (fd : FuncData), Fun K "__init__" q st f fd ∧ Mk K C f ∧ Binds K fd ps []
structure KMk (P : Program) (w : World) (K : PySem.W.Frag) (mg : Str → Option Value) (base : Heap) (CX : CXT) (k : Nat) (C : Addr) (ps : List Str) (sp : Sp) : Prop where
  ex : ∃ (f : Addr) (fd : FuncData), FnOk P w K mg base CX k f fd ps sp ∧ Mk K C f ∧ Binds K fd ps []
section
variable {P : Program} {w : World} {K : PySem.W.Frag} {mg : Str → Option Value} {base : Heap} {m q : Str} {st : Stmt} {ps N : List Str} {k : Nat} {sp : Sp} {C : Addr}
theorem DfM.ok (D : DfM K C m q st ps) (S : FnScope N ps (defScope st)) (many : ∀ vs H Q E, sp vs H Q E → vs.length = ps.length)
    (hb : ∀ (f : Addr) (cdv : Value) (A : Around) (outer : List Env) (s : Shared) (H : Hp) (vs : List V) (Q : VK) (E : XK), Room k (A.deeper (envOfC q (defScope st) s.heap.objs.size f cdv)) → sp vs H Q E →
      ∃ t, PSs (cxOf CX0 P w K mg base N q (defScope st) f cdv A outer s H E).nox (defBody st) t ∧ t { nx := fun _ H' => Q .non H', rt := Q } (start N vs) H) : KM P w K mg base CX0 (k + 1) C m ps sp := by
  obtain ⟨f, fd, F, M, b⟩ := D.ex
  exact ⟨f, fd, F.ok S many fun cdv A outer s H vs Q E => hb f cdv A outer s H vs Q E, M, b⟩
theorem DfI.ok (D : DfI K C q st ps) (S : FnScope N ps (defScope st)) (many : ∀ vs H Q E, sp vs H Q E → vs.length = ps.length)
    (hb : ∀ (f : Addr) (cdv : Value) (A : Around) (outer : List Env) (s : Shared) (H : Hp) (vs : List V) (Q : VK) (E : XK), Room k (A.deeper (envOfC q (defScope st) s.heap.objs.size f cdv)) → sp vs H Q E →
      ∃ t, PSs (cxOf CX0 P w K mg base N q (defScope st) f cdv A outer s H E).nox (defBody st) t ∧ t { nx := fun _ H' => Q .non H', rt := Q } (start N vs) H) : KMk P w K mg base CX0 (k + 1) C ps sp := by
  obtain ⟨f, fd, F, M, b⟩ := D.ex
  exact ⟨f, fd, F.ok S many fun cdv A outer s H vs Q E => hb f cdv A outer s H vs Q E, M, b⟩
end
section
variable {X : Cx} {CX : CXT} {k : Nat} {C : Addr} {m x : Str} {ps : List Str} {sp : Sp} {E : XK} {pos apos p : Pos} {o e : Expr} {es : List Expr} {ta : TE} {t : TA}
theorem pe_methK {pl : Sem Bool} (h : KM X.prog X.w X.K X.mg X.base CX k C m ps sp) (c : Cls X.K C) (hr : Room k X.A) (hx : Passes CX X E) (ho : PE X o ta) (ha : PA X (e :: es) t)
    (hst : starEach (e :: es) X.env = (false, eval e X.env) :: starEach es X.env := by rfl) (hpl : (backTo pos (starEach es X.env)).any (·.1) = false := by rfl)
    (ht : eval (.Call (.Attribute o m apos) (e :: es) [] pos) X.env = (do
      let ov ← eval o X.env
      standAt apos.atName
      let (f, first) ← holding [ov] (getMethod ov m pl)
      callWith pos f first (backTo pos (starEach (e :: es) X.env)) (backToKw pos (keywordEach [] X.env))) := by rfl) : PE X (.Call (.Attribute o m apos) (e :: es) [] pos) (tMeth C m sp [] E ta t) := by
  obtain ⟨f, fd, F, M, b⟩ := h.ex
  exact pe_meth (pl := pl) ho c M F hr b .nil hx ha hst hpl ht
theorem pe_methK0 {pl : Sem Bool} (h : KM X.prog X.w X.K X.mg X.base CX k C m ps sp) (c : Cls X.K C) (hr : Room k X.A) (hx : Passes CX X E) (ho : PE X o ta)
    (ht : eval (.Call (.Attribute o m apos) [] [] pos) X.env = (do
      let ov ← eval o X.env
      standAt apos.atName
      let (f, first) ← holding [ov] (getMethod ov m pl)
      callWith pos f first (backTo pos (starEach [] X.env)) (backToKw pos (keywordEach [] X.env))) := by rfl) : PE X (.Call (.Attribute o m apos) [] [] pos) (tMeth C m sp [] E ta tNil) := by
  obtain ⟨f, fd, F, M, b⟩ := h.ex
  exact pe_meth0 (pl := pl) ho c M F hr b .nil hx ht
theorem pe_makeK (h : KMk X.prog X.w X.K X.mg X.base CX k C ps sp) (hr : Room (k + 1) X.A) (hm : X.mg x = some (.ref C)) (hx : Passes CX X E) (ha : PA X (e :: es) t) (hg : Gl X x := by rfl)
    (hdb : (x == ("__debug__" : Str)) = false := by decide) (he : starEach (e :: es) X.env = (false, eval e X.env) :: starEach es X.env := by rfl) (hpl : (backTo pos (starEach es X.env)).any (·.1) = false := by rfl) :
    PE X (.Call (.Name x p) (e :: es) [] pos) (tMake C sp [] E t) := by
  obtain ⟨f, fd, F, M, b⟩ := h.ex
  exact pe_make M F hr hg hm b .nil hx ha hdb he hpl
def rListOf (K : PySem.W.Frag) : List V → Hp → VK → Prop := fun xs H Q => ∃ p ys, xs = [.ref p] ∧ (SqL K H p ys ∨ SqT K H p ys) ∧ ∀ l, H l = none → Q (.ref l) (upd H l (.lst ys))
theorem call_list_ofK (K : PySem.W.Frag) (e : X.K = K := by rfl) : CallR X (.type "list") (rListOf K) := by subst e; exact call_list_of
/-- list(xs), its place told to be none of the interpreter's own -/
theorem call_list_ofN : CallR X (.type "list") (fun xs H Q => ∃ p ys, xs = [.ref p] ∧ (SqL X.K H p ys ∨ SqT X.K H p ys) ∧ ∀ l, H l = none → l ≠ sysModules → Q (.ref l) (upd H l (.lst ys))) := by
  intro pins s σ H xs us Q I r h
  obtain ⟨p, ys, rfl, hq, q⟩ := h
  obtain ⟨u, rfl, rx⟩ := vals1 r
  cases rx
  have fin : ∀ (its : List Value), Vals ys its → ys.length ≤ sizeLine → ∀ (h' : Heap) (c' : Nat), (∀ b o', s.heap.get? b = some o' → h'.get? b = some o') →
      h'.get? s.heap.objs.size = some { cls := .type "list", dict := none, data := .seq its.toArray c', slots := #[] } → EP X pins σ Q (.ref s.heap.objs.size) { s with heap := h' } := fun its r' hz h' c' kp e =>
    ⟨.ref s.heap.objs.size, _, I.laid (t' := s.toks) kp (Nat.le_refl _) (show ObjOk X.prog X.w _ h' _ (.lst ys) from ⟨hz, its, c', r', e⟩), rfl, q _ (I.hok.fresh (Nat.le_refl _)) (Nat.ne_of_gt I.big)⟩
  rcases hq with hq | hq
  · obtain ⟨its, r', pl, hz⟩ := I.list hq
    have hlen := r'.length
    obtain ⟨o, ho, hc, n, hd⟩ := pl.isList
    exact call_list_seq p (.inl rfl) ho hc hd (fun h' c' kp e => fin its r' hz h' c' kp e) (by simp only [List.size_toArray] <;> omega)
  · obtain ⟨its, r', pl, hz⟩ := I.tuple hq
    have hlen := r'.length
    obtain ⟨o, ho, hc, n, hd⟩ := pl
    exact call_list_seq p (.inr rfl) ho hc hd (fun h' c' kp e => fin its r' hz h' c' kp e) (by simp only [List.size_toArray] <;> omega)
/-- divmod of ints of many digits: a new tuple -/
theorem call_divmodW : CallR X (.builtin "divmod") (fun xs H Q => ∃ i j, xs = [.int i, .int j] ∧ CDivW i j ∧ ∀ p, H p = none → Q (.ref p) (upd H p (.tup [.int (i / j), .int (i % j)]))) := by
  intro pins s σ H xs us Q I r h
  obtain ⟨i, j, rfl, hc, q⟩ := h
  obtain ⟨u, w', rfl, ⟨t, rfl⟩, ⟨t', rfl⟩⟩ := vals2 r
  have h1 : (0 : Int) < j := hc.1
  refine divmod_int (by omega) ?_ (.inl (PyProof.noPylong_of_log2 hc.2))
  rw [Int.fdiv_eq_ediv_of_nonneg i (by omega), Int.fmod_eq_emod_of_nonneg i (by omega)]
  have hn : H s.heap.objs.size = none := I.hok.fresh (Nat.le_refl _)
  refine ⟨.ref s.heap.objs.size, _, ?_, rfl, q _ hn⟩
  refine I.laid (fun b o e => Heap.get?_push_of_some _ e) (Nat.le_refl _) ⟨by simp only [List.length_cons, List.length_nil]; rw [sizeLine_eq]; decide, [.int (i / j) s.toks, .int (i % j) (s.toks + 1)], .cons ⟨_, rfl⟩ (.cons ⟨_, rfl⟩ .nil), ?_⟩
  exact ⟨_, Heap.get?_push_size s.heap rfl, rfl, 0, rfl⟩
end
end L2

namespace My
open PySem PySem.Spec PyProof.Rows L2
/-! ### the row's text, the built-ins, the errors' classes -/
abbrev topS (i : Nat) : Stmt := PySem.Challenge.pw_heldbehind_k47_errors_of_changes.main.body.getD i (.Pass ⟨0, 0, 0, 0⟩)
structure Bl (mg : Str → Option Value) : Prop where
  isinstance : mg "isinstance" = none
  int : mg "int" = none
  bool : mg "bool" = none
  tuple : mg "tuple" = none
  len : mg "len" = none
  all : mg "all" = none
  enumerate : mg "enumerate" = none
  reversed : mg "reversed" = none
  sorted : mg "sorted" = none
  max : mg "max" = none
  min : mg "min" = none
  abs : mg "abs" = none
  range : mg "range" = none
  list : mg "list" = none
  repr : mg "repr" = none
  sum : mg "sum" = none
  any : mg "any" = none
  zip : mg "zip" = none
  str : mg "str" = none
  set : mg "set" = none
  dict : mg "dict" = none
structure Ex1 (K : PySem.W.Frag) (mg : Str → Option Value) (nm : Str) (C : Addr) : Prop where
  x : PySem.W.excIn K C [.type "ValueError", .type "Exception", .type "BaseException", .type "object"] "ValueError.__new__" = true
  g : mg nm = some (.ref C)
  k : PySem.W.keepIn K (.ref C) = true
  b : PySem.W.subIn K (.ref C) (.type "BaseException") = some true
  t : PySem.W.typeIn K (.ref C) = some (.type "type")
theorem passX {X : Cx} {E : XK} (tk : Takes X (fun cls d _ H => E cls d H)) : Passes (L2.CX X.prog X.w) X E := passes_call tk (fun _ _ _ _ h => h)
/-! ### what a value is -/
def tupAt (H : Hp) : V → Option (List V)
  | .ref a => match H a with
    | some (.tup xs) => some xs
    | _ => none
  | _ => none
def isInt : V → Bool
  | .int _ => true
  | _ => false
def isBl : V → Bool
  | .bl _ => true
  | _ => false
def isIdx (n : Int) : V → Bool
  | .int i => decide (0 ≤ i) && decide (i < n)
  | _ => false
inductive Vd (H : Hp) : V → Prop where
  | non : Vd H .non
  | bl (b : Bool) : Vd H (.bl b)
  | int (i : Int) : Vd H (.int i)
  | str (z : Str) : Vd H (.str z)
  | lst {a : Addr} {xs : List V} (h : H a = some (.lst xs)) : Vd H (.ref a)
  | tup {a : Addr} {xs : List V} (h : H a = some (.tup xs)) : Vd H (.ref a)
  | dK {a : Addr} {kvs : List (Key × V)} (h : H a = some (.dK kvs)) : Vd H (.ref a)
theorem Vd.same {H H' : Hp} {x : V} (v : Vd H x) (s : Same H H') : Vd H' x := by
  cases v with
  | non => exact .non
  | bl b => exact .bl b
  | int i => exact .int i
  | str z => exact .str z
  | lst h => exact .lst (s _ _ h)
  | tup h => exact .tup (s _ _ h)
  | dK h => exact .dK (s _ _ h)
theorem tupAt_tup {H : Hp} {a : Addr} {xs : List V} (h : H a = some (.tup xs)) : tupAt H (.ref a) = some xs := by simp only [tupAt, h]
theorem tupAt_lst {H : Hp} {a : Addr} {xs : List V} (h : H a = some (.lst xs)) : tupAt H (.ref a) = none := by simp only [tupAt, h]
theorem tupAt_dK {H : Hp} {a : Addr} {xs : List (Key × V)} (h : H a = some (.dK xs)) : tupAt H (.ref a) = none := by simp only [tupAt, h]
theorem Vd.ty {K : PySem.W.Frag} {H : Hp} {x : V} (v : Vd H x) : ∃ t : String, TyX K H x (.type t) ∧ kitB t "int" = some (isInt x || isBl x) ∧ kitB t "bool" = some (isBl x) ∧ kitB t "tuple" = some (tupAt H x).isSome := by
  cases v with
  | non => exact ⟨_, .base .non, (by decide +kernel : kitB "NoneType" "int" = some false), (by decide +kernel : kitB "NoneType" "bool" = some false), (by decide +kernel : kitB "NoneType" "tuple" = some false)⟩
  | bl b => exact ⟨_, .base (.bl b), (by decide +kernel : kitB "bool" "int" = some true), (by decide +kernel : kitB "bool" "bool" = some true), (by decide +kernel : kitB "bool" "tuple" = some false)⟩
  | int i => exact ⟨_, .base (.int i), (by decide +kernel : kitB "int" "int" = some true), (by decide +kernel : kitB "int" "bool" = some false), (by decide +kernel : kitB "int" "tuple" = some false)⟩
  | str z => exact ⟨_, .base (.str z), (by decide +kernel : kitB "str" "int" = some false), (by decide +kernel : kitB "str" "bool" = some false), (by decide +kernel : kitB "str" "tuple" = some false)⟩
  | lst h => exact ⟨_, .base (.lst h), (by decide +kernel : kitB "list" "int" = some false), (by decide +kernel : kitB "list" "bool" = some false), by rw [tupAt_lst h]; exact (by decide +kernel : kitB "list" "tuple" = some false)⟩
  | tup h => exact ⟨_, .base (.tup h), (by decide +kernel : kitB "tuple" "int" = some false), (by decide +kernel : kitB "tuple" "bool" = some false), by rw [tupAt_tup h]; exact (by decide +kernel : kitB "tuple" "tuple" = some true)⟩
  | dK h => exact ⟨_, .base (.dK h), (by decide +kernel : kitB "dict" "int" = some false), (by decide +kernel : kitB "dict" "bool" = some false), by rw [tupAt_dK h]; exact (by decide +kernel : kitB "dict" "tuple" = some false)⟩
/-! ### heldbehind.integers -/
def spIsInteger : Sp := fun vs H Q _ => ∃ x : V, vs = [x] ∧ Vd H x ∧ Q (.bl (isInt x)) H
def isBtw (n m : Int) : V → Bool
  | .int i => decide (n ≤ i) && decide (i ≤ m)
  | _ => false
theorem isBtw_idx (n : Int) (x : V) : isBtw 0 (n - 1) x = isIdx n x := by
  cases x with
  | int i =>
    show (decide (0 ≤ i) && decide (i ≤ n - 1)) = (decide (0 ≤ i) && decide (i < n))
    rw [show decide (i ≤ n - 1) = decide (i < n) from decide_eq_decide.mpr (by omega)]
  | _ => rfl
def spIsBetween : Sp := fun vs H Q _ => ∃ (x : V) (n m : Int), vs = [x, .int n, .int m] ∧ Vd H x ∧ Q (.bl (isBtw n m x)) H
def spIsIndex : Sp := fun vs H Q _ => ∃ (x : V) (n : Int), vs = [x, .int n] ∧ Vd H x ∧ Q (.bl (isIdx n x)) H
section
variable {P : Program} {w : World} {K : PySem.W.Frag} {mg : Str → Option Value} {base : Heap}
abbrev st_is_integer : Stmt := topS 8
abbrev N_is_integer : List Str := ["value"]
theorem sc_is_integer : FnScope N_is_integer ["value"] (defScope st_is_integer) := ⟨rfl, rfl, rfl, by decide +kernel, rfl, by decide +kernel, by decide +kernel⟩
theorem ok_is_integer (D : Df K mg "is_integer" st_is_integer ["value"]) (B : Bl mg) : Kn P w K mg base CX0 1 "is_integer" st_is_integer ["value"] spIsInteger := by
  refine D.ok sc_is_integer (fun vs H Q E h => ?_) (fun f cdv A outer s H vs Q E hr h => ?_)
  · obtain ⟨x, rfl, _⟩ := h; rfl
  obtain ⟨x, rfl, v, q⟩ := h
  refine ⟨_, ((pss_one (ps_ret (pe_and (pe_callB call_isi (by rfl) B.isinstance (by decide +kernel) (pa_cons (pv 0) (pa_cons (pe_bltn (v := .ty "int") (u := .type "int") (by rfl) B.int (by decide +kernel) rfl) pa_nil))) (pe_one (pe_not (pe_callB call_isi (by rfl) B.isinstance (by decide +kernel) (pa_cons (pv 0) (pa_cons (pe_bltn (v := .ty "bool") (u := .type "bool") (by rfl) B.bool (by decide +kernel) rfl) pa_nil))))))))), ?_⟩
  obtain ⟨t, ty, k1, k2, _⟩ := v.ty (K := K)
  refine ⟨_, rfl, _, _, _, _, _, rfl, .ty _, ty, kit_ty k1, _, rfl, ?_⟩
  cases e1 : isInt x with
  | true =>
    have e2 : isBl x = false := by cases x <;> first | rfl | cases e1
    rw [e2] at k2 ⊢
    refine iteT ⟨_, rfl, _, _, _, _, _, rfl, .ty _, ty, kit_ty k2, _, rfl, ?_⟩
    rw [e1] at q; exact q
  | false =>
    rw [e1] at q
    cases e2 : isBl x with
    | false => exact iteF q
    | true =>
      rw [e2] at k2
      exact iteT ⟨_, rfl, _, _, _, _, _, rfl, .ty _, ty, kit_ty k2, _, rfl, q⟩
abbrev st_is_between : Stmt := topS 9
abbrev N_is_between : List Str := ["value", "least", "greatest"]
theorem sc_is_between : FnScope N_is_between ["value", "least", "greatest"] (defScope st_is_between) := ⟨rfl, rfl, rfl, by decide +kernel, rfl, by decide +kernel, by decide +kernel⟩
theorem ok_is_between (D : Df K mg "is_between" st_is_between ["value", "least", "greatest"]) (B : Bl mg) (Kis_integer : Kn P w K mg base CX0 1 "is_integer" st_is_integer ["value"] spIsInteger) :
    Kn P w K mg base CX0 2 "is_between" st_is_between ["value", "least", "greatest"] spIsBetween := by
  refine D.ok sc_is_between (fun vs H Q E h => ?_) (fun f cdv A outer s H vs Q E hr h => ?_)
  · obtain ⟨x, n, m, rfl, _⟩ := h; rfl
  obtain ⟨x, n, m, rfl, v, q⟩ := h
  refine ⟨_, ((pss_one (ps_ret (pe_and (pe_callF Kis_integer (hr.mono (by decide)) pass0 (pa_cons (pv 0) pa_nil)) (pe_one (pe_chain op_le op_le (pv 1) (pv 0) (pv 2))))))), ?_⟩
  refine ⟨_, rfl, _, rfl, v, _, rfl, ?_⟩
  cases x with
  | int i =>
    refine iteT ⟨_, rfl, _, rfl, _, _, rfl, rfl, _, rfl, ?_⟩
    have q' : Q (.bl (decide (n ≤ i) && decide (i ≤ m))) H := q
    refine ite2 (fun c => ?_) (fun c => ?_)
    · rw [c, Bool.true_and] at q'
      exact ⟨_, rfl, _, _, rfl, rfl, q'⟩
    · rw [Bool.eq_false_iff.mpr c, Bool.false_and] at q'
      exact q'
  | _ => exact iteF q
abbrev st_is_index : Stmt := topS 10
abbrev N_is_index : List Str := ["value", "many"]
theorem sc_is_index : FnScope N_is_index ["value", "many"] (defScope st_is_index) := ⟨rfl, rfl, rfl, by decide +kernel, rfl, by decide +kernel, by decide +kernel⟩
theorem ok_is_index (D : Df K mg "is_index" st_is_index ["value", "many"]) (B : Bl mg) (Kis_between : Kn P w K mg base CX0 2 "is_between" st_is_between ["value", "least", "greatest"] spIsBetween) :
    Kn P w K mg base CX0 3 "is_index" st_is_index ["value", "many"] spIsIndex := by
  refine D.ok sc_is_index (fun vs H Q E h => ?_) (fun f cdv A outer s H vs Q E hr h => ?_)
  · obtain ⟨x, n, rfl, _⟩ := h; rfl
  obtain ⟨x, n, rfl, v, q⟩ := h
  refine ⟨_, ((pss_one (ps_ret (pe_callF Kis_between (hr.mono (by decide)) pass0 (pa_cons (pv 0) (pa_cons pe_int (pa_cons (pe_op op_sub (pv 1) pe_int) pa_nil))))))), ?_⟩
  refine ⟨_, rfl, _, rfl, _, _, rfl, rfl, x, 0, n - 1, rfl, v, ?_⟩
  rw [isBtw_idx]
  exact q
end

end My

namespace My
open PySem PySem.Spec PyProof.Rows L2
/-! ### forests as lists of holders -/
def hv : Option Nat → V
  | none => .non
  | some u => .int (u : Int)
abbrev Hs := List (Option Nat)
def nv (l : List Nat) : List V := l.map fun v : Nat => V.int (v : Int)
def kidsTo (hs : Hs) (u i : Nat) : List Nat := (List.range i).filter fun v => decide (hs[v]? = some (some u))
def rootsTo (hs : Hs) (i : Nat) : List Nat := (List.range i).filter fun v => decide (hs[v]? = some none)
def kids (hs : Hs) (u : Nat) : List Nat := kidsTo hs u hs.length
def roots (hs : Hs) : List Nat := rootsTo hs hs.length
theorem kidsTo_succ (hs : Hs) (u i : Nat) : kidsTo hs u (i + 1) = kidsTo hs u i ++ (if hs[i]? = some (some u) then [i] else []) := by
  unfold kidsTo
  rw [List.range_succ, List.filter_append]
  by_cases h : hs[i]? = some (some u) <;> simp [h]
theorem rootsTo_succ (hs : Hs) (i : Nat) : rootsTo hs (i + 1) = rootsTo hs i ++ (if hs[i]? = some none then [i] else []) := by
  unfold rootsTo
  rw [List.range_succ, List.filter_append]
  by_cases h : hs[i]? = some none <;> simp [h]
theorem mem_kids {hs : Hs} {u v : Nat} : v ∈ kids hs u ↔ hs[v]? = some (some u) := by
  unfold kids kidsTo
  rw [List.mem_filter, List.mem_range, decide_eq_true_eq]
  exact ⟨fun h => h.2, fun h => ⟨(List.getElem?_eq_some_iff.mp h).1, h⟩⟩
theorem mem_roots {hs : Hs} {v : Nat} : v ∈ roots hs ↔ hs[v]? = some none := by
  unfold roots rootsTo
  rw [List.mem_filter, List.mem_range, decide_eq_true_eq]
  exact ⟨fun h => h.2, fun h => ⟨(List.getElem?_eq_some_iff.mp h).1, h⟩⟩
theorem nodup_kids (hs : Hs) (u : Nat) : (kids hs u).Nodup := List.nodup_range.filter _
theorem nodup_roots (hs : Hs) : (roots hs).Nodup := List.nodup_range.filter _
theorem kidsTo_len (hs : Hs) (u i : Nat) : (kidsTo hs u i).length ≤ i := by
  have h := List.length_filter_le (fun v => decide (hs[v]? = some (some u))) (List.range i)
  rw [List.length_range] at h; exact h
theorem rootsTo_len (hs : Hs) (i : Nat) : (rootsTo hs i).length ≤ i := by
  have h := List.length_filter_le (fun v => decide (hs[v]? = some none)) (List.range i)
  rw [List.length_range] at h; exact h
theorem nv_append (a b : List Nat) : nv (a ++ b) = nv a ++ nv b := List.map_append
theorem nv_length (a : List Nat) : (nv a).length = a.length := List.length_map _
theorem nv_get {a : List Nat} {i v : Nat} (h : a[i]? = some v) : (nv a)[i]? = some (.int (v : Int)) := by
  unfold nv; rw [List.getElem?_map, h]; rfl
theorem hv_get {hs : Hs} {i : Nat} {x : V} (h : (hs.map hv)[i]? = some x) : ∃ o, hs[i]? = some o ∧ x = hv o := by
  rw [List.getElem?_map] at h
  cases e : hs[i]? with
  | none => rw [e] at h; cases h
  | some o => rw [e] at h; exact ⟨o, rfl, (Option.some.inj h).symm⟩
theorem hv_at {hs : Hs} {i : Nat} {o : Option Nat} (h : hs[i]? = some o) : (hs.map hv)[i]? = some (hv o) := by rw [List.getElem?_map, h]; rfl
theorem szl {n : Nat} (h : n ≤ 1000) : n < sizeLine := small1000 h
/-! ### heldbehind.forests: the private lists -/
def spWithout (K : PySem.W.Frag) : Sp := fun vs H Q _ => ∃ (a : Addr) (hs : Hs), vs = [.ref a] ∧ SqT K H a (hs.map hv) ∧ hs.length ≤ 1000 ∧
  ∀ p H', Same H H' → H p = none → H' p = some (.lst (nv (roots hs))) → Q (.ref p) H'
section
variable {P : Program} {w : World} {K : PySem.W.Frag} {mg : Str → Option Value} {base : Heap}
abbrev st__without_holder : Stmt := topS 18
abbrev N__without_holder : List Str := ["forest", "thing", "holder"]
theorem sc__without_holder : FnScope N__without_holder ["forest"] (defScope st__without_holder) := ⟨rfl, rfl, rfl, by decide +kernel, rfl, by decide +kernel, by decide +kernel⟩
theorem ok__without_holder (D : Df K mg "_without_holder" st__without_holder ["forest"]) (B : Bl mg) : Kn P w K mg base CX0 1 "_without_holder" st__without_holder ["forest"] (spWithout K) := by
  refine D.ok sc__without_holder (fun vs H Q E h => ?_) (fun f cdv A outer s H vs Q E hr h => ?_)
  · obtain ⟨a, hs, rfl, _⟩ := h; rfl
  obtain ⟨a, hs, rfl, hS, hn, q⟩ := h
  refine ⟨_, ((pss_one (ps_ret (pe_lc (own := [("thing", 1), ("holder", 2)]) (g := gTup K 2 (gCons (gName 1) (gCons (gName 2) gNil))) rfl sc__without_holder.nd (pi_enumT (by rfl) B.enumerate (pa_cons (pv 0) pa_nil)) (blkOk_by (N := N__without_holder) (sc := defScope st__without_holder) (own := [("thing", 1), ("holder", 2)]) (by decide +kernel)) (fun _ _ _ _ _ => by (refine pg_tup (n := 2) ?hc ?h ?hn ?hst; (case hc => rfl); (case hn => rfl); (case hst => rfl); case h => (refine pgs_cons ?g1 ?g2; (case g1 => exact (pg_name (i := 1) sc__without_holder.nd rfl (Or.inl rfl))); case g2 => (refine pgs_cons ?g1 ?g2; (case g1 => exact (pg_name (i := 2) sc__without_holder.nd rfl (Or.inl rfl))); case g2 => (exact pgs_nil))))) (fun _ _ _ _ _ => by exact (pts_one (pt_cmpR op_isN (pv 2) pe_non (nomark _)))) (fun _ _ _ _ _ => by exact (pv 1)))))), ?_⟩
  refine ⟨_, rfl, a, _, rfl, hS, fun D hD => lc_it (walk_enumT (xs := hs.map hv)) (fun i H' => Same H H' ∧ H' D = some (.lst (nv (rootsTo hs i)))) ⟨(Same.refl H).new hD, upd_same⟩ (fun i H' _ p => p.1.tseq hS) ?_ ?_⟩
  · rintro i x H1 H2 hi ⟨s1, hD1⟩ ⟨T, x1, x2, rfl, hT, rfl, e1, e2⟩
    have e1' := Option.some.inj e1; subst e1'
    obtain ⟨o, ho, rfl⟩ := hv_get e2
    have hDT : D ≠ T := ne_of_none hD1 hT
    refine ⟨T, _, rfl, SqT.of upd_same, rfl, _, _, rfl, _, _, rfl, rfl, rfl, _, rfl, rfl, _, rfl, ?_⟩
    have s2 : Same H (upd H1 T (.tup [.int (i : Int), hv o])) := s1.new hT
    have hi' : (rootsTo hs i).length ≤ i := rootsTo_len hs i
    have hil : i < hs.length := (List.getElem?_eq_some_iff.mp ho).1
    have hD2 : upd H1 T (.tup [.int (i : Int), hv o]) D = some (.lst (nv (rootsTo hs i))) := by rw [upd_ne hDT]; exact hD1
    refine ite2 (fun c => ?_) (fun c => ?_)
    · have eo : o = none := by
        cases o with
        | none => rfl
        | some u => exact absurd (of_decide_eq_true c) (by intro z; cases z)
      refine ⟨_, rfl, _, hD2, by rw [nv_length]; exact szl (by omega), s2.upd hD, ?_⟩
      rw [upd_same, rootsTo_succ, ho, eo, if_pos rfl, nv_append]; rfl
    · have eo : ¬ some o = some none := by intro z; cases z; exact c rfl
      refine ⟨s2, ?_⟩
      rw [hD2, rootsTo_succ, ho, if_neg eo, List.append_nil]
  · rintro H1 ⟨s1, hD1⟩
    refine q D H1 s1 hD ?_
    rw [hD1, List.length_map]; rfl
end

end My

namespace My
open PySem PySem.Spec PyProof.Rows L2
def InB (hs : Hs) : Prop := ∀ v u : Nat, hs[v]? = some (some u) → u < hs.length
structure HeldTo (H : Hp) (p : Addr) (as : List Addr) (hs : Hs) (i : Nat) : Prop where
  lst : H p = some (.lst (as.map V.ref))
  len : as.length = hs.length
  nd : as.Nodup
  at_ : ∀ (j : Nat) (c : Addr), as[j]? = some c → H c = some (.lst (nv (kidsTo hs j i)))
abbrev HeldAt (H : Hp) (p : Addr) (as : List Addr) (hs : Hs) : Prop := HeldTo H p as hs hs.length
theorem HeldTo.same {H H' : Hp} {p : Addr} {as : List Addr} {hs : Hs} {i : Nat} (h : HeldTo H p as hs i) (s : Same H H') : HeldTo H' p as hs i :=
  ⟨s _ _ h.lst, h.len, h.nd, fun j c e => s _ _ (h.at_ j c e)⟩
theorem nodup_at {as : List Addr} (nd : as.Nodup) {i j : Nat} {c : Addr} (h1 : as[i]? = some c) (h2 : as[j]? = some c) : i = j := by
  obtain ⟨l1, e1⟩ := List.getElem?_eq_some_iff.mp h1
  obtain ⟨l2, e2⟩ := List.getElem?_eq_some_iff.mp h2
  exact (List.getElem_inj nd).mp (e1.trans e2.symm)
/-- nothing is held by a thing beyond the turns: the turn of a thing without a holder -/
theorem HeldTo.skip {H : Hp} {p : Addr} {as : List Addr} {hs : Hs} {i : Nat} (h : HeldTo H p as hs i) (e : hs[i]? = some none) : HeldTo H p as hs (i + 1) :=
  ⟨h.lst, h.len, h.nd, fun j c q => by
    have z : ¬ hs[i]? = some (some j) := by rw [e]; intro w; cases w
    rw [kidsTo_succ, if_neg z, List.append_nil]; exact h.at_ j c q⟩
theorem HeldTo.put {H : Hp} {p c : Addr} {as : List Addr} {hs : Hs} {i u : Nat} (h : HeldTo H p as hs i) (e : hs[i]? = some (some u)) (hc : as[u]? = some c) :
    HeldTo (upd H c (.lst (nv (kidsTo hs u i) ++ [.int (i : Int)]))) p as hs (i + 1) := by
  have hcl := h.at_ u c hc
  have hpc : p ≠ c := by
    intro z
    have q := h.lst
    rw [z, hcl] at q
    have q2 := HO.lst.inj (Option.some.inj q)
    have hl : as ≠ [] := by intro w; rw [w] at hc; cases hc
    cases as with
    | nil => exact hl rfl
    | cons a0 r =>
      cases hk : kidsTo hs u i with
      | nil => rw [hk] at q2; cases q2
      | cons k0 kr => rw [hk] at q2; cases q2
  refine ⟨by rw [upd_ne hpc]; exact h.lst, h.len, h.nd, fun j c' q => ?_⟩
  by_cases hj : j = u
  · subst hj
    have ec : c' = c := Option.some.inj (q.symm.trans hc)
    subst ec
    rw [upd_same, kidsTo_succ, if_pos e, nv_append]; rfl
  · have ec : c' ≠ c := fun z => hj (nodup_at h.nd q (by rw [z]; exact hc))
    have z : ¬ hs[i]? = some (some j) := by rw [e]; intro w; cases w; exact hj rfl
    rw [upd_ne ec, kidsTo_succ, if_neg z, List.append_nil]; exact h.at_ j c' q
def spHeld (K : PySem.W.Frag) : Sp := fun vs H Q _ => ∃ (a : Addr) (hs : Hs), vs = [.ref a] ∧ SqT K H a (hs.map hv) ∧ hs.length ≤ 1000 ∧ InB hs ∧
  ∀ p as H', Same H H' → H p = none → (∀ c ∈ as, H c = none) → HeldAt H' p as hs → Q (.ref p) H'
section
variable {P : Program} {w : World} {K : PySem.W.Frag} {mg : Str → Option Value} {base : Heap}
abbrev st__held_lists : Stmt := topS 19
abbrev N__held_lists : List Str := ["forest", "held", "thing", "holder", "_"]
theorem sc__held_lists : FnScope N__held_lists ["forest"] (defScope st__held_lists) := ⟨rfl, rfl, rfl, by decide +kernel, rfl, by decide +kernel, by decide +kernel⟩
theorem ok__held_lists (D : Df K mg "_held_lists" st__held_lists ["forest"]) (B : Bl mg) : Kn P w K mg base CX0 1 "_held_lists" st__held_lists ["forest"] (spHeld K) := by
  refine D.ok sc__held_lists (fun vs H Q E h => ?_) (fun f cdv A outer s H vs Q E hr h => ?_)
  · obtain ⟨a, hs, rfl, _⟩ := h; rfl
  obtain ⟨a, hs, rfl, hS, hn, hin, q⟩ := h
  refine ⟨_, ((pss_cons (ps_setLc (i := 1) (own := [("_", 4)]) (g := gName 4) rfl sc__held_lists.nd rfl rfl (sw_true rfl rfl rfl (by decide +kernel)) (pi_tup (pv 0)) (blkOk_by (N := N__held_lists) (sc := defScope st__held_lists) (own := [("_", 4)]) (by decide +kernel)) (fun _ _ _ _ _ => by (exact (pg_name (i := 4) sc__held_lists.nd rfl (Or.inl rfl)))) (fun _ _ _ _ _ => by exact pts_nil) (fun _ _ _ _ _ => by exact (pe_lst pa_nil)))
      (pss_cons (ps_for PassesOwn.never rfl (pi_enumT (by rfl) B.enumerate (pa_cons (pv 0) pa_nil)) (pg_tup rfl (pgs_cons (pg_name (i := 2) sc__held_lists.nd rfl (Or.inl rfl)) (pgs_cons (pg_name (i := 3) sc__held_lists.nd rfl (Or.inl rfl)) pgs_nil))) (pss_one (ps_if (pt_cmpR op_notN (pv 3) pe_non (nomark _)) (pss_one (ps_expr (pe_bm PySem.F.plainAttrs_list PySem.F.slot_list_append PySem.F.type_list_append mt_append (pe_ix ix_list (pv 1) (pv 3) (fun _ _ => rfl)) (pa_cons (pv 2) pa_nil)))) pss_nil)))
      (pss_one (ps_ret (pv 1)))))), ?_⟩
  refine ⟨_, rfl, a, rfl, ⟨_, hS⟩, fun D hD => lc_it (walk_tup (xs := hs.map hv)) (fun i H' => Same H H' ∧ ∃ as : List Addr, as.length = i ∧ as.Nodup ∧ H' D = some (.lst (as.map V.ref)) ∧ ∀ c ∈ as, H' c = some (.lst []) ∧ H c = none ∧ c ≠ D)
    ⟨(Same.refl H).new hD, [], rfl, List.nodup_nil, upd_same, fun c hc => by cases hc⟩ (fun i H' _ p => p.1.tseq hS) ?_ ?_⟩
  · rintro i x H1 H2 hi ⟨s1, as, hlen, nd, hD1, hcs⟩ ⟨rfl, e1⟩
    rw [List.length_map] at hi
    refine ⟨rfl, ⟨by show 0 ≤ sizeLine; decide, fun p hp => ?_⟩⟩
    have hDp : D ≠ p := ne_of_none hD1 hp
    have hpn : H p = none := s1.free hp
    refine ⟨_, by rw [upd_ne hDp]; exact hD1, by rw [List.length_map]; exact szl (by omega), (s1.upd hpn).upd hD, as ++ [p], ?_, ?_, ?_, ?_⟩
    · rw [List.length_append, hlen]; rfl
    · refine List.nodup_append.mpr ⟨nd, by simp, fun x hx y hy => ?_⟩
      have ey : y = p := by simpa using hy
      rw [ey]
      exact ne_of_none (hcs x hx).1 hp
    · rw [upd_same, List.map_append]; rfl
    · intro c hc
      rcases List.mem_append.mp hc with hc | hc
      · obtain ⟨c1, c2, c3⟩ := hcs c hc
        exact ⟨by rw [upd_ne c3, upd_ne (ne_of_none c1 hp)]; exact c1, c2, c3⟩
      · have ec : c = p := by simpa using hc
        rw [ec]
        exact ⟨by rw [upd_ne hDp.symm, upd_same], hpn, hDp.symm⟩
  · rintro H1 ⟨s1, as, hlen, nd, hD1, hcs⟩
    rw [List.length_map] at hlen
    have h0 : HeldTo H1 D as hs 0 := ⟨hD1, hlen, nd, fun j c e => (hcs c (List.mem_of_getElem? e)).1⟩
    refine ⟨_, rfl, a, _, rfl, s1.tseq hS, for_it (walk_enumT (xs := hs.map hv)) (fun i σ H' => ∃ v2 v3, σ = [some (.ref a), some (.ref D), v2, v3, none] ∧ Same H H' ∧ HeldTo H' D as hs i)
      ⟨none, none, rfl, s1, h0⟩ (fun i σ H' _ p => by obtain ⟨_, _, _, p, _⟩ := p; exact p.tseq hS) ?_ ?_⟩
    · rintro i x σ H2 H3 hi ⟨v2, v3, rfl, s2, hh⟩ ⟨T, x1, x2, rfl, hT, rfl, e1, e2⟩
      have e1' := Option.some.inj e1; subst e1'
      obtain ⟨o, ho, rfl⟩ := hv_get e2
      have s3 : Same H2 (upd H2 T (.tup [.int (i : Int), hv o])) := (Same.refl _).new hT
      have hh3 := hh.same s3
      refine ⟨T, _, rfl, SqT.of upd_same, rfl, _, _, rfl, _, _, rfl, rfl, _, rfl, rfl, _, rfl, ?_⟩
      cases o with
      | none => exact iteF ⟨_, _, rfl, s2.trans s3, hh3.skip ho⟩
      | some u =>
        have hu := hin i u ho
        have hil : i < hs.length := (List.getElem?_eq_some_iff.mp ho).1
        obtain ⟨c, hc⟩ : ∃ c, as[u]? = some c := ⟨as[u]'(by rw [hlen]; exact hu), List.getElem?_eq_getElem _⟩
        have hc2 : (as.map V.ref)[u]? = some (.ref c) := by rw [List.getElem?_map, hc]; rfl
        have hcl := hh3.at_ u c hc
        have hk := kidsTo_len hs u i
        refine iteT ⟨_, rfl, _, rfl, D, _, _, _, rfl, rfl, SqL.of hh3.lst, atI_nat hc2, .inl ⟨rfl, _, SqL.of hcl⟩, _, rfl, c, _, _, rfl, rfl, hcl, by rw [nv_length]; exact szl (by omega), ?_⟩
        exact ⟨_, _, rfl, (s2.trans s3).upd (hcs c (List.mem_of_getElem? hc)).2.1, hh3.put ho hc⟩
    · rintro σ H2 ⟨v2, v3, rfl, s2, hh⟩
      rw [List.length_map] at hh
      exact ⟨_, rfl, q D as H2 s2 hD (fun c hc => (hcs c hc).2.1) hh⟩
end

end My

namespace My
open PySem PySem.Spec PyProof.Rows L2
theorem nodup_len : ∀ (n : Nat) (l : List Nat), l.Nodup → (∀ v ∈ l, v < n) → l.length ≤ n
  | 0, l, _, h => by
    cases l with
    | nil => exact Nat.le_refl _
    | cons a r => exact absurd (h a List.mem_cons_self) (Nat.not_lt_zero _)
  | n + 1, l, nd, h => by
    by_cases hm : n ∈ l
    · have h1 : (l.erase n).Nodup := nd.erase n
      have h2 : ∀ v ∈ l.erase n, v < n := fun v hv => by
        have h3 := h v (List.mem_of_mem_erase hv)
        have h4 : v ≠ n := fun e => by
          rw [e] at hv
          exact (List.Nodup.not_mem_erase nd) hv
        omega
      have ih := nodup_len n _ h1 h2
      have hl := List.length_erase_of_mem hm
      have hp := List.length_pos_of_mem hm
      omega
    · have ih := nodup_len n l nd fun v hv => by
        have h3 := h v hv
        have h4 : v ≠ n := fun e => hm (e ▸ hv)
        omega
      omega
/-- how far a walk has come: found, and what is waiting (its last one next) -/
structure WT (hs : Hs) (st : List Nat) (Rn : Nat → Prop) (found wait : List Nat) : Prop where
  nd : (found ++ wait).Nodup
  ok : ∀ v ∈ found ++ wait, v < hs.length ∧ Rn v ∧ (v ∈ st ∨ ∃ u ∈ found, hs[v]? = some (some u))
  sm : ∀ v ∈ st, v ∈ found ++ wait
  cl : ∀ v u : Nat, hs[v]? = some (some u) → u ∈ found → v ∈ found ++ wait
  od : ∀ i v : Nat, found[i]? = some v → v ∈ st ∨ ∃ j u : Nat, j < i ∧ found[j]? = some u ∧ hs[v]? = some (some u)
  pr : ∀ pre : Nat → List Nat, (∀ v, Rn v → pre v = v :: (kids hs v).flatMap pre) → found ++ wait.reverse.flatMap pre = st.flatMap pre
structure Starts (hs : Hs) (st : List Nat) (Rn : Nat → Prop) : Prop where
  nd : st.Nodup
  ok : ∀ s ∈ st, s < hs.length ∧ Rn s
  down : ∀ v u : Nat, hs[v]? = some (some u) → Rn u → Rn v
  no : ∀ s ∈ st, ∀ u : Nat, hs[s]? = some (some u) → ¬ Rn u
theorem WT.start {hs : Hs} {st : List Nat} {Rn : Nat → Prop} (S : Starts hs st Rn) : WT hs st Rn [] st.reverse where
  nd := by rw [List.nil_append]; exact (List.reverse_perm st).nodup_iff.mpr S.nd
  ok := fun v hv => by
    rw [List.nil_append, List.mem_reverse] at hv
    exact ⟨(S.ok v hv).1, (S.ok v hv).2, .inl hv⟩
  sm := fun v hv => by rw [List.nil_append, List.mem_reverse]; exact hv
  cl := fun v u _ hu => by cases hu
  od := fun i v e => by cases e
  pr := fun pre _ => by rw [List.nil_append, List.reverse_reverse]
theorem WT.step {hs : Hs} {st : List Nat} {Rn : Nat → Prop} {found w : List Nat} {t : Nat} (S : Starts hs st Rn) (h : WT hs st Rn found (w ++ [t])) : WT hs st Rn (found ++ [t]) (w ++ (kids hs t).reverse) := by
  have ht : t ∈ found ++ (w ++ [t]) := by simp
  have htf : t ∉ found := fun z => by
    have q := h.nd
    rw [List.nodup_append] at q
    exact q.2.2 t z t (by simp) rfl
  have hRt := (h.ok t ht).2.1
  have hno : ∀ v ∈ found ++ (w ++ [t]), hs[v]? ≠ some (some t) := fun v hv e => by
    rcases (h.ok v hv).2.2 with z | ⟨u, hu, z⟩
    · exact S.no v z t e hRt
    · rw [e] at z
      cases z
      exact htf hu
  have mem : ∀ v, v ∈ (found ++ [t]) ++ (w ++ (kids hs t).reverse) ↔ v ∈ found ++ (w ++ [t]) ∨ v ∈ kids hs t := fun v => by
    simp only [List.mem_append, List.mem_singleton, List.mem_reverse]
    constructor
    · rintro ((a | a) | (a | a))
      · exact .inl (.inl a)
      · exact .inl (.inr (.inr a))
      · exact .inl (.inr (.inl a))
      · exact .inr a
    · rintro ((a | (a | a)) | a)
      · exact .inl (.inl a)
      · exact .inr (.inl a)
      · exact .inl (.inr a)
      · exact .inr (.inr a)
  refine ⟨?_, fun v hv => ?_, fun v hv => (mem v).mpr (.inl (h.sm v hv)), fun v u e hu => ?_, fun i v e => ?_, fun pre hp => ?_⟩
  · have p : ((found ++ [t]) ++ (w ++ (kids hs t).reverse)).Perm ((found ++ (w ++ [t])) ++ kids hs t) := by
      have p1 : ((found ++ [t]) ++ w).Perm (found ++ (w ++ [t])) := by
        rw [List.append_assoc]
        exact List.Perm.append_left found List.perm_append_comm
      rw [← List.append_assoc]
      exact p1.append (List.reverse_perm _)
    refine p.nodup_iff.mpr (List.nodup_append.mpr ⟨h.nd, nodup_kids hs t, fun x hx y hy e => ?_⟩)
    subst e
    exact hno x hx (mem_kids.mp hy)
  · rcases (mem v).mp hv with z | z
    · obtain ⟨a, b, c⟩ := h.ok v z
      refine ⟨a, b, ?_⟩
      rcases c with c | ⟨u, hu, e⟩
      · exact .inl c
      · exact .inr ⟨u, List.mem_append_left _ hu, e⟩
    · have e := mem_kids.mp z
      exact ⟨(List.getElem?_eq_some_iff.mp e).1, S.down v t e hRt, .inr ⟨t, by simp, e⟩⟩
  · rcases List.mem_append.mp hu with z | z
    · exact (mem v).mpr (.inl (h.cl v u e z))
    · have eu : u = t := by simpa using z
      rw [eu] at e
      exact (mem v).mpr (.inr (mem_kids.mpr e))
  · by_cases hi : i < found.length
    · rw [List.getElem?_append_left hi] at e
      rcases h.od i v e with z | ⟨j, u, hj, e1, e2⟩
      · exact .inl z
      · exact .inr ⟨j, u, hj, by rw [List.getElem?_append_left (by omega)]; exact e1, e2⟩
    · have hi2 : found.length ≤ i := by omega
      rw [List.getElem?_append_right hi2] at e
      have hz : i - found.length = 0 := by
        cases hk : i - found.length with
        | zero => rfl
        | succ k => rw [hk] at e; cases e
      rw [hz] at e
      have ev : t = v := Option.some.inj e
      subst ev
      rcases (h.ok t ht).2.2 with z | ⟨u, hu, e2⟩
      · exact .inl z
      · obtain ⟨j, ej⟩ := List.getElem?_of_mem hu
        have hj := (List.getElem?_eq_some_iff.mp ej).1
        exact .inr ⟨j, u, by omega, by rw [List.getElem?_append_left hj]; exact ej, e2⟩
  · have q := h.pr pre hp
    rw [← q, List.reverse_append, List.reverse_append, List.reverse_reverse]
    show _ = found ++ (t :: w.reverse).flatMap pre
    rw [List.flatMap_cons, hp t hRt, List.flatMap_append]
    simp
theorem WT.room {hs : Hs} {st : List Nat} {Rn : Nat → Prop} {found w : List Nat} {t : Nat} (h : WT hs st Rn found (w ++ [t])) : found.length < hs.length ∧ (w.length + 1) ≤ hs.length := by
  have q := nodup_len hs.length _ h.nd fun v hv => (h.ok v hv).1
  rw [List.length_append, List.length_append] at q
  have e : [t].length = 1 := rfl
  omega
theorem WT.lens {hs : Hs} {st : List Nat} {Rn : Nat → Prop} {found wait : List Nat} (h : WT hs st Rn found wait) : found.length + wait.length ≤ hs.length := by
  have q := nodup_len hs.length _ h.nd fun v hv => (h.ok v hv).1
  rw [List.length_append] at q
  exact q
def spWalkT (K : PySem.W.Frag) : Sp := fun vs H Q _ => ∃ (p q : Addr) (as : List Addr) (hs : Hs) (st : List Nat) (Rn : Nat → Prop), vs = [.ref p, .ref q] ∧ HeldAt H p as hs ∧ SqL K H q (nv st) ∧ hs.length ≤ 1000 ∧ Starts hs st Rn ∧
  ∀ r l H', Same H H' → H r = none → H' r = some (.lst (nv l)) → WT hs st Rn l [] → Q (.ref r) H'
theorem snoc_of {α : Type} {l : List α} (h : 0 < l.length) : ∃ w t, l = w ++ [t] := by
  have hne : l ≠ [] := by
    intro e; subst e; exact absurd h (Nat.lt_irrefl 0)
  refine ⟨l.dropLast, l.getLast hne, ?_⟩
  exact (List.dropLast_concat_getLast _).symm
section
variable {P : Program} {w : World} {K : PySem.W.Frag} {mg : Str → Option Value} {base : Heap}
abbrev st__walk_through : Stmt := topS 20
abbrev N__walk_through : List Str := ["held", "starts", "found", "waiting", "thing"]
theorem sc__walk_through : FnScope N__walk_through ["held", "starts"] (defScope st__walk_through) := ⟨rfl, rfl, rfl, by decide +kernel, rfl, by decide +kernel, by decide +kernel⟩
theorem ok__walk_through (D : Df K mg "_walk_through" st__walk_through ["held", "starts"]) (B : Bl mg) : Kn P w K mg base CX0 1 "_walk_through" st__walk_through ["held", "starts"] (spWalkT K) := by
  refine D.ok sc__walk_through (fun vs H Q E h => ?_) (fun f cdv A outer s H vs Q E hr h => ?_)
  · obtain ⟨p, q, as, hs, st, Rn, rfl, _⟩ := h; rfl
  obtain ⟨p, q, as, hs, st, Rn, rfl, hA, hq, hn, S, k⟩ := h
  refine ⟨_, ((pss_cons (ps_set (i := 2) sc__walk_through.nd rfl (Or.inl rfl) (pe_lst pa_nil))
      (pss_cons (ps_set (i := 3) sc__walk_through.nd rfl (Or.inl rfl) (pe_revL (pv 1)))
      (pss_cons (ps_while PassesOwn.never (pt_cmpR op_gt (pe_callB call_len (by rfl) B.len (by decide +kernel) (pa_cons (pv 3) pa_nil)) pe_int (nomark _)) (pss_cons (ps_set (i := 4) sc__walk_through.nd rfl (Or.inl rfl) (pe_bm0 PySem.F.plainAttrs_list PySem.F.slot_list_pop PySem.F.type_list_pop mt_pop (pv 3)))
      (pss_cons (ps_expr (pe_bm PySem.F.plainAttrs_list PySem.F.slot_list_append PySem.F.type_list_append mt_append (pv 2) (pa_cons (pv 4) pa_nil)))
      (pss_one (ps_expr (pe_bm PySem.F.plainAttrs_list PySem.F.slot_list_extend PySem.F.type_list_extend mt_extend (pv 3) (pa_cons (pe_revL (pe_ix ix_list (pv 0) (pv 4) (fun _ _ => rfl))) pa_nil)))))))
      (pss_one (ps_ret (pv 2))))))), ?_⟩
  refine ⟨by show 0 ≤ sizeLine; decide, fun F hF => ?_⟩
  have s1 : Same H (upd H F (.lst [])) := (Same.refl H).new hF
  refine ⟨_, rfl, q, _, rfl, s1.seq hq, fun W hW => ?_⟩
  have hFW : F ≠ W := ne_of_none upd_same hW
  have hWn : H W = none := s1.free hW
  refine ⟨fun m σ H' => ∃ found wait v4, σ = [some (.ref p), some (.ref q), some (.ref F), some (.ref W), v4] ∧ Same H H' ∧ H' F = some (.lst (nv found)) ∧ H' W = some (.lst (nv wait)) ∧ WT hs st Rn found wait ∧ m = hs.length - found.length,
    ⟨_, [], st.reverse, none, rfl, s1.upd hWn, by rw [upd_ne hFW, upd_same]; rfl, ?_, WT.start S, rfl⟩, ?_⟩
  · rw [upd_same]
    unfold nv
    rw [List.map_reverse]
  · rintro m σ H' ⟨found, wait, v4, rfl, s2, hF2, hW2, hwt, rfl⟩
    refine ⟨_, rfl, _, _, rfl, .inl ⟨_, SqL.of hW2, rfl⟩, _, _, rfl, rfl, _, rfl, ?_⟩
    refine ite2 (fun c => ?_) (fun c => ?_)
    · have hpos : 0 < wait.length := by
        have c' := of_decide_eq_true c
        rw [nv_length] at c'
        omega
      obtain ⟨w', t, rfl⟩ := snoc_of hpos
      have hroom := hwt.room
      have hlens := (hwt.step S).lens
      rw [List.length_append, List.length_append, List.length_reverse] at hlens
      have h1 : [t].length = 1 := rfl
      refine ⟨fun σ' H' => ∃ m', m' < hs.length - found.length ∧ ∃ found wait v4, σ' = [some (.ref p), some (.ref q), some (.ref F), some (.ref W), v4] ∧ Same H H' ∧ H' F = some (.lst (nv found)) ∧ H' W = some (.lst (nv wait)) ∧ WT hs st Rn found wait ∧ m' = hs.length - found.length, fun _ _ h => h, ?_⟩
      -- thing = waiting.pop()
      refine ⟨_, rfl, .inl ⟨rfl, _, SqL.of hW2⟩, W, _, .int (t : Int), rfl, rfl, hW2, ?_, ?_⟩
      · rw [nv_append, List.length_append]
        show (nv w' ++ [V.int (t : Int)])[(nv w').length + 1 - 1]? = _
        simp
      have hW3 : upd H' W (.lst (nv (w' ++ [t])).dropLast) W = some (.lst (nv w')) := by
        rw [upd_same, nv_append]
        show some (HO.lst (nv w' ++ [V.int (t : Int)]).dropLast) = _
        rw [List.dropLast_concat]
      have hF3 : upd H' W (.lst (nv (w' ++ [t])).dropLast) F = some (.lst (nv found)) := by rw [upd_ne hFW]; exact hF2
      have s3 : Same H (upd H' W (.lst (nv (w' ++ [t])).dropLast)) := s2.upd hWn
      generalize upd H' W (.lst (nv (w' ++ [t])).dropLast) = H3 at hW3 hF3 s3 ⊢
      -- found.append(thing)
      refine ⟨_, rfl, .inl ⟨rfl, _, SqL.of hF3⟩, _, rfl, F, _, _, rfl, rfl, hF3, by rw [nv_length]; exact szl (by omega), ?_⟩
      have hF4 : upd H3 F (.lst (nv found ++ [V.int (t : Int)])) F = some (.lst (nv (found ++ [t]))) := by rw [upd_same, nv_append]; rfl
      have hW4 : upd H3 F (.lst (nv found ++ [V.int (t : Int)])) W = some (.lst (nv w')) := by rw [upd_ne hFW.symm]; exact hW3
      have s4 : Same H (upd H3 F (.lst (nv found ++ [V.int (t : Int)]))) := s3.upd hF
      generalize upd H3 F (.lst (nv found ++ [V.int (t : Int)])) = H4 at hF4 hW4 s4 ⊢
      -- waiting.extend(held[thing][::-1])
      have hA4 := hA.same s4
      have htl : t < hs.length := (hwt.ok t (by simp)).1
      obtain ⟨c2, hc2⟩ : ∃ c2, as[t]? = some c2 := ⟨as[t]'(by rw [hA.len]; exact htl), List.getElem?_eq_getElem _⟩
      have hc3 : (as.map V.ref)[t]? = some (.ref c2) := by rw [List.getElem?_map, hc2]; rfl
      refine ⟨_, rfl, .inl ⟨rfl, _, SqL.of hW4⟩, _, rfl, _, rfl, p, _, _, _, rfl, rfl, SqL.of hA4.lst, atI_nat hc3, c2, _, rfl, SqL.of (hA4.at_ t c2 hc2), fun R hR => ?_⟩
      have hWR : W ≠ R := ne_of_none hW4 hR
      have hFR : F ≠ R := ne_of_none hF4 hR
      refine ⟨W, R, _, _, rfl, rfl, by rw [upd_ne hWR]; exact hW4, upd_same, ?_, ?_⟩
      · rw [List.length_reverse, nv_length, nv_length]
        exact Nat.le_of_lt (szl (by show w'.length + (kids hs t).length ≤ 1000; omega))
      · refine ⟨_, ?_, found ++ [t], w' ++ (kids hs t).reverse, _, rfl, (s4.upd (s4.free hR)).upd hWn, by rw [upd_ne hFW, upd_ne hFR]; exact hF4, ?_, hwt.step S, rfl⟩
        · rw [List.length_append, h1]; omega
        · rw [upd_same, nv_append]
          congr 2
          unfold nv
          rw [List.map_reverse]; rfl
    · have hz : wait = [] := by
        cases wait with
        | nil => rfl
        | cons a r =>
          refine absurd (decide_eq_true ?_) c
          rw [nv_length, List.length_cons]; omega
      subst hz
      exact ⟨_, rfl, k F found H' s2 hF hF2 hwt⟩
end

end My

namespace My
open PySem PySem.Spec PyProof.Rows L2
inductive Rch (hs : Hs) : Nat → Prop where
  | root {v : Nat} (h : hs[v]? = some none) : Rch hs v
  | step {v u : Nat} (h : hs[v]? = some (some u)) (r : Rch hs u) : Rch hs v
/-- a forest as a list of holders -/
structure Fo (hs : Hs) : Prop where
  ne : hs ≠ []
  inb : InB hs
  all : ∀ v : Nat, v < hs.length → Rch hs v
theorem starts_roots (hs : Hs) : Starts hs (roots hs) (Rch hs) where
  nd := nodup_roots hs
  ok := fun s h => ⟨(List.getElem?_eq_some_iff.mp (mem_roots.mp h)).1, .root (mem_roots.mp h)⟩
  down := fun _ _ e r => .step e r
  no := fun s h u e => by rw [mem_roots.mp h] at e; cases e
theorem WT.all_found {hs : Hs} {l : List Nat} {Rn : Nat → Prop} (h : WT hs (roots hs) Rn l []) {v : Nat} (r : Rch hs v) : v ∈ l := by
  have z : ∀ w, w ∈ l ++ [] → w ∈ l := fun w q => by rw [List.append_nil] at q; exact q
  induction r with
  | root e => exact z _ (h.sm _ (mem_roots.mpr e))
  | step e _ ih => exact z _ (h.cl _ _ e ih)
theorem mem_of_full : ∀ (n : Nat) (l : List Nat), l.Nodup → (∀ v ∈ l, v < n) → l.length = n → ∀ v, v < n → v ∈ l := fun n l nd h e v hv => by
  refine Classical.byContradiction fun hm => ?_
  have q := nodup_len n (v :: l) (List.nodup_cons.mpr ⟨hm, nd⟩) fun w hw => by
    rcases List.mem_cons.mp hw with rfl | hw
    · exact hv
    · exact h w hw
  rw [List.length_cons] at q
  omega
theorem nodup_sub : ∀ (a l : List Nat), a.Nodup → (∀ v ∈ a, v ∈ l) → a.length ≤ l.length
  | [], l, _, _ => Nat.zero_le _
  | x :: r, l, nd, h => by
    have hx := h x List.mem_cons_self
    have ih := nodup_sub r (l.erase x) (List.nodup_cons.mp nd).2 fun v hv => by
      have hne : v ≠ x := fun e => (List.nodup_cons.mp nd).1 (e ▸ hv)
      exact (List.mem_erase_of_ne hne).mpr (h v (List.mem_cons_of_mem _ hv))
    have hl := List.length_erase_of_mem hx
    have hp := List.length_pos_of_mem hx
    rw [List.length_cons]
    omega
def holdOk (n : Int) : V → Bool
  | .non => true
  | x => isIdx n x
def toHold : V → Option Nat
  | .int i => some i.toNat
  | _ => none
theorem holds_of {n : Nat} : ∀ (xs : List V), (xs.all fun y => holdOk (n : Int) y) = true → xs = (xs.map toHold).map hv ∧ ∀ v u : Nat, (xs.map toHold)[v]? = some (some u) → u < n
  | [], _ => ⟨rfl, fun v u h => by simp at h⟩
  | x :: xs, h => by
    rw [List.all_cons, Bool.and_eq_true] at h
    obtain ⟨e, z⟩ := holds_of xs h.2
    have hx : x = hv (toHold x) ∧ ∀ u, toHold x = some u → u < n := by
      cases x with
      | non => exact ⟨rfl, fun u w => by cases w⟩
      | int i =>
        have c : (decide (0 ≤ i) && decide (i < (n : Int))) = true := h.1
        rw [Bool.and_eq_true, decide_eq_true_eq, decide_eq_true_eq] at c
        refine ⟨?_, fun u w => ?_⟩
        · show V.int i = V.int ((i.toNat : Nat) : Int)
          congr 1; omega
        · have w' := Option.some.inj w
          omega
      | _ => exact absurd (show false = true from h.1) Bool.false_ne_true
    refine ⟨?_, fun v u w => ?_⟩
    · rw [List.map_cons, List.map_cons, ← e, ← hx.1]
    · cases v with
      | zero => exact hx.2 u (Option.some.inj w)
      | succ v => exact z v u w
theorem holdOk_hv {hs : Hs} (h : InB hs) : ((hs.map hv).all fun y => holdOk (hs.length : Int) y) = true := by
  rw [List.all_eq_true]
  intro y hy
  obtain ⟨o, ho, rfl⟩ := List.mem_map.mp hy
  cases o with
  | none => rfl
  | some u =>
    obtain ⟨v, hv'⟩ := List.getElem?_of_mem ho
    have q := h v u hv'
    show (decide (0 ≤ (u : Int)) && decide ((u : Int) < (hs.length : Int))) = true
    rw [Bool.and_eq_true, decide_eq_true_eq, decide_eq_true_eq]
    omega
theorem hv_inj : ∀ {a b : Hs}, a.map hv = b.map hv → a = b
  | [], [], _ => rfl
  | [], _ :: _, h => by cases h
  | _ :: _, [], h => by cases h
  | x :: a, y :: b, h => by
    rw [List.map_cons, List.map_cons] at h
    injection h with h1 h2
    have e := hv_inj h2
    have e1 : x = y := by
      cases x with
      | none => cases y with
        | none => rfl
        | some u => cases h1
      | some v => cases y with
        | none => cases h1
        | some u =>
          have q := V.int.inj h1
          congr 1; omega
    rw [e, e1]
def IsF (H : Hp) (x : V) : Prop := ∃ hs : Hs, tupAt H x = some (hs.map hv) ∧ Fo hs
/-- what is_forest may be asked: a value whose tuple's items are told too -/
structure Askd (H : Hp) (x : V) : Prop where
  vd : Vd H x
  items : ∀ xs, tupAt H x = some xs → xs.length ≤ 1000 ∧ ∀ y ∈ xs, Vd H y
theorem tupAt_ref {H : Hp} {x : V} {xs : List V} (h : tupAt H x = some xs) : ∃ a, x = .ref a ∧ H a = some (.tup xs) := by
  cases x with
  | ref a =>
    refine ⟨a, rfl, ?_⟩
    cases e : H a with
    | none => simp only [tupAt, e] at h; cases h
    | some o =>
      cases o with
      | tup ys => simp only [tupAt, e] at h; rw [Option.some.inj h]
      | _ => simp only [tupAt, e] at h; cases h
  | _ => cases h
def spIsForest : Sp := fun vs H Q _ => ∃ x : V, vs = [x] ∧ Askd H x ∧ ∀ b H', Same H H' → (b = true ↔ IsF H x) → Q (.bl b) H'
section
variable {P : Program} {w : World} {K : PySem.W.Frag} {mg : Str → Option Value} {base : Heap}
abbrev st_is_forest : Stmt := topS 12
abbrev N_is_forest : List Str := ["value", "holder"]
theorem sc_is_forest : FnScope N_is_forest ["value"] (defScope st_is_forest) := ⟨rfl, rfl, rfl, by decide +kernel, rfl, by decide +kernel, by decide +kernel⟩
theorem ok_is_forest (D : Df K mg "is_forest" st_is_forest ["value"]) (B : Bl mg) (Kis_index : Kn P w K mg base CX0 3 "is_index" st_is_index ["value", "many"] spIsIndex)
    (K_without_holder : Kn P w K mg base CX0 1 "_without_holder" st__without_holder ["forest"] (spWithout K)) (K_held_lists : Kn P w K mg base CX0 1 "_held_lists" st__held_lists ["forest"] (spHeld K))
    (K_walk_through : Kn P w K mg base CX0 1 "_walk_through" st__walk_through ["held", "starts"] (spWalkT K)) : Kn P w K mg base CX0 4 "is_forest" st_is_forest ["value"] spIsForest := by
  refine D.ok sc_is_forest (fun vs H Q E h => ?_) (fun f cdv A outer s H vs Q E hr h => ?_)
  · obtain ⟨x, rfl, _⟩ := h; rfl
  obtain ⟨x, rfl, ask, q⟩ := h
  refine ⟨_, ((pss_cons (ps_if (PW.pt (pw_or (pt_not (pt_val (pe_callB call_isi (by rfl) B.isinstance (by decide +kernel) (pa_cons (pv 0) (pa_cons (pe_bltn (v := .ty "tuple") (u := .type "tuple") (by rfl) B.tuple (by decide +kernel) rfl) pa_nil))))) (pw_or1 (pt_cmpR op_eq (pe_callB call_len (by rfl) B.len (by decide +kernel) (pa_cons (pv 0) pa_nil)) pe_int (nomark _))))) (pss_one (ps_ret pe_bl)) pss_nil)
      (pss_cons (ps_if (pt_not (pt_val (pe_callB (cr_all rfl) (by rfl) B.all (by decide +kernel) (pa_cons (pe_lc (own := [("holder", 1)]) (g := gName 1) rfl sc_is_forest.nd (pi_tup (pv 0)) (blkOk_by (N := N_is_forest) (sc := defScope st_is_forest) (own := [("holder", 1)]) (by decide +kernel)) (fun _ _ _ _ _ => by (exact (pg_name (i := 1) sc_is_forest.nd rfl (Or.inl rfl)))) (fun _ _ _ _ _ => by exact pts_nil) (fun _ _ _ _ _ => by exact (pe_or (pe_cmpR op_isN (pv 1) pe_non (nomark _)) (pe_one (pe_callF Kis_index (hr.mono (by decide)) pass0 (pa_cons (pv 1) (pa_cons (pe_callB (call_lenK K) (by rfl) B.len (by decide +kernel) (pa_cons (pv 0) pa_nil)) pa_nil))))))) pa_nil)))) (pss_one (ps_ret pe_bl)) pss_nil)
      (pss_one (ps_ret (pe_cmpR op_eq (pe_callB call_len (by rfl) B.len (by decide +kernel) (pa_cons (pe_callF K_walk_through (hr.mono (by decide)) pass0 (pa_cons (pe_callF K_held_lists (hr.mono (by decide)) pass0 (pa_cons (pv 0) pa_nil)) (pa_cons (pe_callF K_without_holder (hr.mono (by decide)) pass0 (pa_cons (pv 0) pa_nil)) pa_nil))) pa_nil)) (pe_callB call_len (by rfl) B.len (by decide +kernel) (pa_cons (pv 0) pa_nil)) (nomark _))))))), ?_⟩
  obtain ⟨t, ty, _, _, k3⟩ := ask.vd.ty (K := K)
  refine ⟨_, rfl, _, _, _, _, _, rfl, .ty _, ty, kit_ty k3, _, rfl, ?_⟩
  have no : (¬ IsF H x) → ∀ H', Same H H' → Q (.bl false) H' := fun hn H' s' => q false H' s' ⟨fun z => absurd z Bool.false_ne_true, fun z => absurd z hn⟩
  cases e : tupAt H x with
  | none =>
    refine iteT (iteT ?_)
    exact no (fun ⟨hs, z, _⟩ => by rw [e] at z; cases z) H (Same.refl H)
  | some xs =>
    obtain ⟨a, rfl, ha⟩ := tupAt_ref e
    obtain ⟨hlen, hvd⟩ := ask.items xs e
    refine iteF ⟨_, rfl, _, _, rfl, .inr ⟨_, SqT.of ha, rfl⟩, rfl, _, rfl, ?_⟩
    refine ite2 (fun c => ?_) (fun c => ?_)
    · refine no (fun ⟨hs, z, fo⟩ => ?_) H (Same.refl H)
      rw [e] at z
      have z' := Option.some.inj z
      have c' := of_decide_eq_true c
      have c2 := V.int.inj c'
      rw [z', List.length_map] at c2
      exact fo.ne (List.eq_nil_of_length_eq_zero (by omega))
    · -- all([..])
      refine ⟨_, rfl, a, rfl, ⟨_, SqT.of ha⟩, fun L hL => lc_it (walk_tup (xs := xs)) (fun i H' => Same H H' ∧ H' L = some (.lst ((xs.take i).map fun y => V.bl (holdOk (xs.length : Int) y))))
        ⟨(Same.refl H).new hL, upd_same⟩ (fun i H' _ p => p.1.tseq (SqT.of ha)) ?_ ?_⟩
      · rintro i y H1 H2 hi ⟨s1, hL1⟩ ⟨rfl, e1⟩
        have hvy := (hvd y (List.mem_of_getElem? e1)).same s1
        have fin : ∃ acc, H2 L = some (.lst acc) ∧ acc.length < sizeLine ∧ (Same H (upd H2 L (.lst (acc ++ [V.bl (holdOk (xs.length : Int) y)]))) ∧ upd H2 L (.lst (acc ++ [V.bl (holdOk (xs.length : Int) y)])) L = some (.lst ((xs.take (i + 1)).map fun y => V.bl (holdOk (xs.length : Int) y)))) := by
          refine ⟨_, hL1, ?_, s1.upd hL, ?_⟩
          · rw [List.length_map, List.length_take]; exact szl (by omega)
          · rw [upd_same, List.take_add_one, e1]
            show _ = some (HO.lst (((xs.take i) ++ [y]).map _))
            rw [List.map_append]; rfl
        refine ⟨rfl, _, rfl, rfl, _, rfl, ?_⟩
        cases y with
        | non => exact iteT fin
        | _ =>
          refine iteF ⟨_, rfl, _, rfl, _, _, rfl, .inr ⟨_, s1.tseq (SqT.of ha), rfl⟩, _, _, rfl, hvy, ?_⟩
          exact fin
      · rintro H1 ⟨s1, hL1⟩
        rw [List.take_length] at hL1
        refine ⟨L, (xs.map fun y => holdOk (xs.length : Int) y), rfl, SqL.of (by rw [hL1, List.map_map]; rfl), _, rfl, ?_⟩
        have eall : (xs.map fun y => holdOk (xs.length : Int) y).all id = xs.all fun y => holdOk (xs.length : Int) y := by rw [List.all_map]; rfl
        rw [eall]
        cases ea : xs.all fun y => holdOk (xs.length : Int) y with
        | false =>
          refine iteT (no (fun ⟨hs, z, fo⟩ => ?_) H1 s1)
          rw [e] at z
          have z' := Option.some.inj z
          have w := holdOk_hv fo.inb
          rw [z', List.length_map, w] at ea
          cases ea
        | true =>
          refine iteF ?_
          obtain ⟨ex, hb⟩ := holds_of xs ea
          have hlh : (xs.map toHold).length = xs.length := List.length_map _
          rw [← hlh] at hb
          have hS1 : SqT K H1 a ((xs.map toHold).map hv) := by rw [← ex]; exact s1.tseq (SqT.of ha)
          generalize hhs : xs.map toHold = hs at ex hb hlh hS1
          have e' : tupAt H (.ref a) = some (hs.map hv) := by rw [e, ex]
          -- len(_walk_through(..)) == len(value)
          refine ⟨_, rfl, a, hs, rfl, hS1, by omega, hb, fun p as H2 s2 hp hpc hA => ?_⟩
          refine ⟨_, rfl, a, hs, rfl, s2.tseq hS1, by omega, fun p2 H3 s3 hp2 hr2 => ?_⟩
          refine ⟨p, p2, as, hs, roots hs, Rch hs, rfl, hA.same s3, SqL.of hr2, by omega, starts_roots hs, fun r l H4 s4 hr4 hl4 hwt => ?_⟩
          refine ⟨_, _, rfl, .inl ⟨_, SqL.of hl4, rfl⟩, _, rfl, _, _, rfl, .inr ⟨_, s4.tseq (s3.tseq (s2.tseq hS1)), rfl⟩, rfl, ?_⟩
          refine q _ _ (((s1.trans s2).trans s3).trans s4) ⟨fun z => ?_, fun z => ?_⟩
          · have z2 := V.int.inj (of_decide_eq_true z)
            rw [nv_length, List.length_map] at z2
            have c3 : ¬ V.int (xs.length : Int) = V.int 0 := fun w => c (decide_eq_true w)
            refine ⟨hs, e', ?_, hb, fun v hv' => ?_⟩
            · intro w
              rw [w] at hlh
              exact c3 (by rw [← hlh]; rfl)
            · have hl2 : l.length = hs.length := by omega
              have nd2 := hwt.nd
              rw [List.append_nil] at nd2
              have hlt : ∀ w ∈ l, w < hs.length := fun w hw => (hwt.ok w (by rw [List.append_nil]; exact hw)).1
              have hm := mem_of_full hs.length l nd2 hlt hl2 v hv'
              exact (hwt.ok v (by rw [List.append_nil]; exact hm)).2.1
          · obtain ⟨hs', z1, fo⟩ := z
            rw [e'] at z1
            have eh := hv_inj (Option.some.inj z1)
            subst eh
            refine decide_eq_true ?_
            rw [nv_length, List.length_map]
            have h1 := hwt.lens
            rw [List.length_nil] at h1
            have h2 : hs.length ≤ l.length := by
              have q2 := nodup_sub (List.range hs.length) l List.nodup_range fun v hv' => hwt.all_found (fo.all v (List.mem_range.mp hv'))
              rw [List.length_range] at q2; exact q2
            have h3 : l.length = hs.length := by omega
            rw [h3]
end

end My

namespace My
open PySem PySem.Spec PyProof.Rows L2
/-! ### the law's well of numbers -/
structure Well (H : Hp) (wl : Addr) (n : Nat) : Prop where
  ex : ∃ a b c : Int, H wl = some (.lst [.int a, .int b, .int c]) ∧ 0 ≤ a ∧ 0 ≤ b ∧ b.natAbs < 2 ^ 200 ∧ 0 ≤ c ∧ c ≤ (n : Int)
theorem Well.mono {H : Hp} {wl : Addr} {n m : Nat} (h : Well H wl n) (l : n ≤ m) : Well H wl m := by
  obtain ⟨a, b, c, e, h1, h2, h3, h4, h5⟩ := h.ex
  exact ⟨a, b, c, e, h1, h2, h3, h4, by omega⟩
theorem Well.same {H H' : Hp} {wl : Addr} {n : Nat} (h : Well H wl n) (s : Same H H') : Well H' wl n := by
  obtain ⟨a, b, c, e, r⟩ := h.ex
  exact ⟨a, b, c, s _ _ e, r⟩
theorem Well.here {H : Hp} {wl : Addr} {n : Nat} (h : Well H wl n) : ∃ l, H wl = some (.lst l) := by
  obtain ⟨a, b, c, e, r⟩ := h.ex
  exact ⟨_, e⟩
def spWell (K : PySem.W.Frag) : Sp := fun vs H Q _ => ∃ (a : Addr) (ns : List Int) (i : Nat), vs = [.ref a, .int (i : Int)] ∧ SqL K H a (ns.map V.int) ∧ i < 64 ∧ ∀ p H', Same H H' → H p = none → Well H' p 0 → Q (.ref p) H'
def spDraw : Sp := fun vs H Q _ => ∃ (wl : Addr) (n : Nat) (m : Int), vs = [.ref wl, .int m] ∧ Well H wl n ∧ n < 2 ^ 60 ∧ 1 ≤ m ∧ m.natAbs < 2 ^ 100 ∧ ∀ d H', 0 ≤ d → d < m → Keep wl H H' → Well H' wl (n + 1) → Q (.int d) H'
theorem mul_small {i j : Int} (h : -(2 ^ 64) < i ∧ i < 2 ^ 64) : CMul i j := .inl h
theorem mod_abs {x m : Int} {b : Nat} (h0 : 0 < m) (h : m.natAbs < 2 ^ b) : (x % m).natAbs < 2 ^ b := by
  have h1 := Int.emod_nonneg x (show m ≠ 0 by omega)
  have h2 := Int.emod_lt_of_pos x h0
  omega
theorem cpow10 {k : Int} (h0 : 0 ≤ k) (h : k ≤ 1000) : CPowW 10 k := by
  refine ⟨h0, ?_⟩
  have e : (Builtin.Int.intBits 10 : Int) = 4 := by decide
  have e2 : (2 : Int) ^ 27 = 134217728 := by decide
  rw [e, e2]; omega
section
variable {P : Program} {w : World} {K : PySem.W.Frag} {mg : Str → Option Value} {base : Heap}
abbrev st__law_draw : Stmt := topS 30
abbrev N__law_draw : List Str := ["well", "most", "digit", "blend"]
theorem sc__law_draw : FnScope N__law_draw ["well", "most"] (defScope st__law_draw) := ⟨rfl, rfl, rfl, by decide +kernel, rfl, by decide +kernel, by decide +kernel⟩
theorem ok__law_draw (D : Df K mg "_law_draw" st__law_draw ["well", "most"]) (B : Bl mg) : Kn P w K mg base CX0 1 "_law_draw" st__law_draw ["well", "most"] spDraw := by
  refine D.ok sc__law_draw (fun vs H Q E h => ?_) (fun f cdv A outer s H vs Q E hr h => ?_)
  · obtain ⟨wl, n, m, rfl, _⟩ := h; rfl
  obtain ⟨wl, n, m, rfl, hw, hn, h1, hm, q⟩ := h
  refine ⟨_, ((pss_cons (ps_if (pt_cmpR op_gt (pe_ix ix_list (pv 0) pe_int (fun _ _ => rfl)) pe_int (nomark _)) (pss_cons (ps_set (i := 2) sc__law_draw.nd rfl (Or.inl rfl) (pe_op op_mod (pe_callTy call_int1 (by rfl) B.int (by decide +kernel) (pa_cons (pe_ix ix_list (pv 0) pe_int (fun _ _ => rfl)) pa_nil)) (pv 1)))
      (pss_cons (ps_asg (pe_op op_fdivW (pe_ix ix_list (pv 0) pe_int (fun _ _ => rfl)) (pv 1)) (pg_sub (pv 0) pe_int set_list))
      (pss_one (ps_ret (pv 2))))) pss_nil)
      (pss_cons (ps_asg (pe_op op_add (pe_ix ix_list (pv 0) pe_int (fun _ _ => rfl)) pe_int) (pg_sub (pv 0) pe_int set_list))
      (pss_cons (ps_set (i := 3) sc__law_draw.nd rfl (Or.inl rfl) (pe_op op_mod (pe_op op_powW (pe_callTy call_int1 (by rfl) B.int (by decide +kernel) (pa_cons (pe_op op_add (pe_ix ix_list (pv 0) pe_int (fun _ _ => rfl)) (pe_op op_mul pe_int (pe_ix ix_list (pv 0) pe_int (fun _ _ => rfl)))) pa_nil)) pe_int) (pe_op op_add (pe_op op_powW pe_int pe_int) pe_int)))
      (pss_cons (ps_set (i := 3) sc__law_draw.nd rfl (Or.inl rfl) (pe_op op_mod (pe_op op_powW (pe_callTy call_int1 (by rfl) B.int (by decide +kernel) (pa_cons (pe_op op_add (pv 3) (pe_op op_mul pe_int (pe_ix ix_list (pv 0) pe_int (fun _ _ => rfl)))) pa_nil)) pe_int) (pe_op op_add (pe_op op_powW pe_int pe_int) pe_int)))
      (pss_one (ps_ret (pe_op op_mod (pe_callTy call_int1 (by rfl) B.int (by decide +kernel) (pa_cons (pe_op op_fdivW (pv 3) pe_int) pa_nil)) (pv 1))))))))), ?_⟩
  obtain ⟨a, b, c, e, ha, hb, hb2, hc, hc2⟩ := hw.ex
  have g0 : ∀ {H' : Hp} {x y z : V}, H' wl = some (.lst [x, y, z]) → SqL K H' wl [x, y, z] := fun h => SqL.of h
  -- if well[0] > 0
  refine ⟨_, rfl, wl, _, _, _, rfl, rfl, g0 e, rfl, _, _, rfl, rfl, _, rfl, ?_⟩
  refine ite2 (fun c1 => ?_) (fun c1 => ?_)
  · -- digit = int(well[0]) % most; well[0] = well[0] // most; return digit
    refine ⟨_, rfl, wl, _, _, _, rfl, rfl, g0 e, rfl, .inl ⟨_, rfl, _, rfl, _, _, rfl, rfl, by show (0 : Int) < m; omega, ?_⟩⟩
    refine ⟨_, rfl, wl, _, _, _, rfl, rfl, g0 e, rfl, _, rfl, _, _, rfl, rfl, wide_div (by omega) hm (by decide) (by decide), ?_⟩
    refine ⟨_, rfl, wl, _, _, 0, rfl, rfl, e, rfl, ?_⟩
    refine ⟨_, rfl, q _ _ (Int.emod_nonneg a (by omega)) (Int.emod_lt_of_pos a (by omega)) (Keep.upd _ _ _) ⟨a / m, b, c, upd_same, Int.ediv_nonneg ha (by omega), hb, hb2, hc, by omega⟩⟩
  · -- well[2] = well[2] + 1
    refine ⟨_, rfl, wl, _, _, _, rfl, rfl, g0 e, rfl, _, _, rfl, rfl, ?_⟩
    refine ⟨_, rfl, wl, _, _, 2, rfl, rfl, e, rfl, ?_⟩
    have e2 : upd H wl (.lst (([V.int a, V.int b, V.int c]).set 2 (V.int (c + 1)))) wl = some (.lst [V.int a, V.int b, V.int (c + 1)]) := upd_same
    have k2 : Keep wl H (upd H wl (.lst (([V.int a, V.int b, V.int c]).set 2 (V.int (c + 1))))) := Keep.upd _ _ _
    have w2 : Well (upd H wl (.lst (([V.int a, V.int b, V.int c]).set 2 (V.int (c + 1))))) wl (n + 1) := ⟨a, b, c + 1, e2, ha, hb, hb2, by omega, by omega⟩
    generalize upd H wl (.lst (([V.int a, V.int b, V.int c]).set 2 (V.int (c + 1)))) = H2 at e2 k2 w2 ⊢
    have p60 : (2 : Nat) ^ 60 = 1152921504606846976 := by decide
    have p64 : (2 : Int) ^ 64 = 18446744073709551616 := by decide
    have p200 : (2 : Nat) ^ 200 = 1606938044258990275541962092341162602522202993782792835301376 := by decide +kernel
    have p201 : (2 : Nat) ^ 201 = 3213876088517980551083924184682325205044405987565585670602752 := by decide +kernel
    have b1 : (b + 715827883 * (c + 1)).natAbs < 2 ^ 201 := by omega
    have m1 : (10 : Int) ^ (41 : Int).toNat + 109 = 100000000000000000000000000000000000000109 := by decide +kernel
    have m2 : (10 : Int) ^ (39 : Int).toNat + 3 = 1000000000000000000000000000000000000003 := by decide +kernel
    -- blend = int(well[1] + 715827883 * well[2]) ** 3 % (10 ** 41 + 109)
    refine ⟨_, rfl, wl, _, _, _, rfl, rfl, g0 e2, rfl, _, rfl, wl, _, _, _, rfl, rfl, g0 e2, rfl, _, _, rfl, rfl, mul_small ⟨by rw [p64]; decide, by rw [p64]; decide⟩, _, _, rfl, rfl, .inl ⟨_, rfl, _, _, rfl, rfl, cpow3 b1 (by decide) (by decide),
      _, _, rfl, rfl, cpow10 (by decide) (by decide), _, _, rfl, rfl, _, _, rfl, rfl, by rw [m1]; show (0 : Int) < 100000000000000000000000000000000000000109; decide, ?_⟩⟩
    rw [m1]
    have b2 : ∀ x : Int, 0 ≤ x → x < 100000000000000000000000000000000000000109 → (x + 198491317 * (c + 1)).natAbs < 2 ^ 201 := fun x h h' => by omega
    have b3 : ∀ z : Int, (z % 100000000000000000000000000000000000000109 + 198491317 * (c + 1)).natAbs < 2 ^ 201 := fun z => b2 _ (Int.emod_nonneg _ (by decide)) (Int.emod_lt_of_pos _ (by decide))
    -- blend = int(blend + 198491317 * well[2]) ** 3 % (10 ** 39 + 3)
    refine ⟨_, rfl, _, rfl, wl, _, _, _, rfl, rfl, g0 e2, rfl, _, _, rfl, rfl, mul_small ⟨by rw [p64]; decide, by rw [p64]; decide⟩, _, _, rfl, rfl, .inl ⟨_, rfl, _, _, rfl, rfl, cpow3 (b3 _) (by decide) (by decide),
      _, _, rfl, rfl, cpow10 (by decide) (by decide), _, _, rfl, rfl, _, _, rfl, rfl, by rw [m2]; show (0 : Int) < 1000000000000000000000000000000000000003; decide, ?_⟩⟩
    rw [m2]
    -- return int(blend // 1048576) % most
    refine ⟨_, rfl, _, _, rfl, rfl, ⟨by decide, by decide +kernel⟩, .inl ⟨_, rfl, _, rfl, _, _, rfl, rfl, by omega, ?_⟩⟩
    exact q _ _ (Int.emod_nonneg _ (by omega)) (Int.emod_lt_of_pos _ (by omega)) k2 w2
abbrev st__law_well : Stmt := topS 29
abbrev N__law_well : List Str := ["script", "at", "cell"]
theorem sc__law_well : FnScope N__law_well ["script", "at"] (defScope st__law_well) := ⟨rfl, rfl, rfl, by decide +kernel, rfl, by decide +kernel, by decide +kernel⟩
theorem ok__law_well (D : Df K mg "_law_well" st__law_well ["script", "at"]) (B : Bl mg) : Kn P w K mg base CX0 1 "_law_well" st__law_well ["script", "at"] (spWell K) := by
  refine D.ok sc__law_well (fun vs H Q E h => ?_) (fun f cdv A outer s H vs Q E hr h => ?_)
  · obtain ⟨a, ns, i, rfl, _⟩ := h; rfl
  obtain ⟨a, ns, i, rfl, hS, hi, q⟩ := h
  refine ⟨_, ((pss_cons (ps_set (i := 2) sc__law_well.nd rfl (Or.inl rfl) (pe_ifExp (pt_cmpR op_lt (pv 1) (pe_callB call_len (by rfl) B.len (by decide +kernel) (pa_cons (pv 0) pa_nil)) (nomark _)) (pe_ix ix_list (pv 0) (pv 1) (fun _ _ => rfl)) pe_int))
      (pss_one (ps_ret (pe_lst (pa_cons (pe_callB (call_max2 rfl) (by rfl) B.max (by decide +kernel) (pa_cons pe_int (pa_cons (pe_op op_sub (pe_callB call_abs (by rfl) B.abs (by decide +kernel) (pa_cons (pv 2) pa_nil)) (pe_op op_powW pe_int pe_int)) pa_nil))) (pa_cons (pe_op op_add (pe_op op_add (pe_op op_mul (pe_op op_mod (pe_callTy call_int1 (by rfl) B.int (by decide +kernel) (pa_cons (pv 2) pa_nil)) (pe_op op_add (pe_op op_powW pe_int pe_int) pe_int)) pe_int) (pe_op op_mul pe_int (pv 1))) pe_int) (pa_cons pe_int pa_nil)))))))), ?_⟩
  have p64 : (2 : Int) ^ 64 = 18446744073709551616 := by decide
  have m1 : (10 : Int) ^ (37 : Int).toNat + 141 = 10000000000000000000000000000000000141 := by decide +kernel
  have p200 : (2 : Nat) ^ 200 = 1606938044258990275541962092341162602522202993782792835301376 := by decide +kernel
  -- what follows once the cell is known
  have rest : ∀ cell : Int, (tRet (tLst (tCons (tCB (fun xs H Q => ∃ i j, xs = [V.int i, V.int j] ∧ Q (.int (if j > i then j else i)) H) (tCons (tC (.int 0)) (tCons (tOp (rI0 fun i j => .int (i - j)) (tCB (fun xs H Q => ∃ i, xs = [V.int i] ∧ Q (.int (if i < 0 then -i else i)) H) (tCons (tVar 2) tNil)) (tOp (rI CPowW fun i j => .int (i ^ j.toNat)) (tC (.int 10)) (tC (.int 18)))) tNil)))
      (tCons (tOp (rI0 fun i j => .int (i + j)) (tOp (rI0 fun i j => .int (i + j)) (tOp (rI CMul fun i j => .int (i * j)) (tOp (rI (fun _ j => 0 < j) fun i j => .int (i % j)) (tCB (fun xs H Q => (∃ i, xs = [V.int i] ∧ Q (.int i) H) ∨ ∃ k, xs = [V.bl k] ∧ Q (.int (if k then 1 else 0)) H) (tCons (tVar 2) tNil)) (tOp (rI0 fun i j => .int (i + j)) (tOp (rI CPowW fun i j => .int (i ^ j.toNat)) (tC (.int 10)) (tC (.int 37))) (tC (.int 141)))) (tC (.int 101))) (tOp (rI CMul fun i j => .int (i * j)) (tC (.int 67)) (tVar 1))) (tC (.int 41)))
        (tCons (tC (.int 0)) tNil))))) { nx := fun _ H' => Q .non H', rt := Q } [some (.ref a), some (.int (i : Int)), some (.int cell)] H := fun cell => by
    refine ⟨_, rfl, _, rfl, _, _, rfl, rfl, cpow10 (by decide) (by decide), _, _, rfl, rfl, _, _, rfl, ?_⟩
    refine ⟨_, rfl, .inl ⟨_, rfl, _, _, rfl, rfl, cpow10 (by decide) (by decide), _, _, rfl, rfl, _, _, rfl, rfl, by rw [m1]; show (0 : Int) < 10000000000000000000000000000000000141; decide, _, _, rfl, rfl, .inr ⟨by decide, by decide⟩, _, rfl, _, _, rfl, rfl, .inl ⟨by decide, by decide⟩, _, _, rfl, rfl, _, _, rfl, rfl, by show 3 ≤ sizeLine; decide, fun p hp => ?_⟩⟩
    rw [m1]
    have x0 : 0 ≤ cell % 10000000000000000000000000000000000141 := Int.emod_nonneg _ (by decide)
    have x1 : cell % 10000000000000000000000000000000000141 < 10000000000000000000000000000000000141 := Int.emod_lt_of_pos _ (by decide)
    refine q p _ ((Same.refl H).new hp) hp ⟨_, _, 0, upd_same, ?_, ?_, ?_, Int.le_refl _, Int.le_refl _⟩
    · split <;> omega
    · omega
    · omega
  refine ⟨_, rfl, _, rfl, _, _, rfl, .inl ⟨_, hS, rfl⟩, _, _, rfl, rfl, _, rfl, ?_⟩
  refine ite2 (fun c1 => ?_) (fun c1 => ?_)
  · have hl : i < (ns.map V.int).length := by
      have c2 := of_decide_eq_true c1
      omega
    have hl2 : i < ns.length := by rw [List.length_map] at hl; exact hl
    refine ⟨_, rfl, _, rfl, a, _, _, _, rfl, rfl, hS, atI_nat (v := V.int ns[i]) (by rw [List.getElem?_map, List.getElem?_eq_getElem hl2]; rfl), ?_⟩
    exact rest _
  · exact rest 0
end

end My

namespace My
open PySem PySem.Spec PyProof.Rows L2
/-! ### a drawn forest: the mathematics -/
theorem walk_range0 {n : Nat} : Walk (Itr 0 n) n (fun _ => True) (YFn fun i => .int (i : Int)) :=
  (walk_range (lo := 0)).mono (fun _ h => h) fun i H x H' _ _ y => ⟨y.1, by rw [y.2]; show V.int (0 + (i : Int)) = V.int (i : Int); rw [Int.zero_add]⟩
def LtF (l : Hs) : Prop := ∀ j u : Nat, l[j]? = some (some u) → u < j
theorem LtF.snoc {l : Hs} {o : Option Nat} (h : LtF l) (ho : ∀ u, o = some u → u < l.length) : LtF (l ++ [o]) := fun j u e => by
  by_cases hj : j < l.length
  · rw [List.getElem?_append_left hj] at e; exact h j u e
  · have hj2 : l.length ≤ j := by omega
    rw [List.getElem?_append_right hj2] at e
    by_cases hz : j - l.length = 0
    · rw [hz] at e
      have q := ho u (Option.some.inj e)
      omega
    · obtain ⟨k, hk⟩ := Nat.exists_eq_succ_of_ne_zero hz
      rw [hk] at e; cases e
theorem fo_plain {l : Hs} (hne : l ≠ []) (h : LtF l) : Fo l := by
  refine ⟨hne, fun v u e => ?_, fun v hv => ?_⟩
  · have h1 := h v u e
    have h2 := (List.getElem?_eq_some_iff.mp e).1
    omega
  · induction v using Nat.strongRecOn with
    | _ v ih =>
      cases e : l[v]? with
      | none => rw [List.getElem?_eq_none_iff] at e; omega
      | some o =>
        cases o with
        | none => exact .root e
        | some u =>
          have q := h v u e
          exact .step e (ih u q (by omega))
def ren (nm : List Nat) : Option Nat → Option Nat
  | none => none
  | some u => some (nm.getD u 0)
theorem fo_turned {l T : Hs} {nm : List Nat} (hne : l ≠ []) (h : LtF l) (hp : nm.Perm (List.range l.length)) (hT : T.length = l.length)
    (hr : ∀ (j v : Nat) (o : Option Nat), nm[j]? = some v → l[j]? = some o → T[v]? = some (ren nm o)) : Fo T := by
  have hlen : nm.length = l.length := by rw [hp.length_eq, List.length_range]
  have hat : ∀ j : Nat, j < l.length → ∃ v o, nm[j]? = some v ∧ l[j]? = some o ∧ v < l.length := fun j hj => by
    have h1 : j < nm.length := by omega
    refine ⟨nm[j], l[j], List.getElem?_eq_getElem h1, List.getElem?_eq_getElem hj, ?_⟩
    have q := hp.mem_iff.mp (List.getElem_mem h1)
    exact List.mem_range.mp q
  have back : ∀ v : Nat, v < l.length → ∃ j : Nat, nm[j]? = some v := fun v hv => by
    have q := hp.mem_iff.mpr (List.mem_range.mpr hv)
    exact List.getElem?_of_mem q
  have jl : ∀ {j v : Nat}, nm[j]? = some v → j < l.length := fun {j v} e => by
    have q := (List.getElem?_eq_some_iff.mp e).1
    omega
  have rc : ∀ j v : Nat, nm[j]? = some v → Rch T v := fun j => by
    induction j using Nat.strongRecOn with
    | _ j ih =>
      intro v e
      obtain ⟨v', o, e1, e2, e3⟩ := hat j (jl e)
      have ev : v' = v := Option.some.inj (e1.symm.trans e)
      subst ev
      have q := hr j v' o e e2
      cases o with
      | none => exact .root q
      | some u =>
        have hu := h j u e2
        obtain ⟨vu, ou, f1, f2, f3⟩ := hat u (Nat.lt_trans hu (jl e))
        have g : nm.getD u 0 = vu := by rw [List.getD_eq_getElem?_getD, f1]; rfl
        refine .step (u := vu) ?_ (ih u hu vu f1)
        rw [q]; show some (some (nm.getD u 0)) = _; rw [g]
  refine ⟨fun z => hne (List.eq_nil_of_length_eq_zero (by rw [z] at hT; exact hT.symm)), fun v u e => ?_, fun v hv => ?_⟩
  · have hv := (List.getElem?_eq_some_iff.mp e).1
    rw [hT] at hv
    obtain ⟨j, ej⟩ := back v hv
    obtain ⟨v', o, e1, e2, e3⟩ := hat j (jl ej)
    have q := hr j v o ej e2
    rw [q] at e
    cases o with
    | none => cases e
    | some w =>
      have hw := h j w e2
      obtain ⟨vu, ou, f1, f2, f3⟩ := hat w (Nat.lt_trans hw (jl ej))
      have g : nm.getD w 0 = vu := by rw [List.getD_eq_getElem?_getD, f1]; rfl
      have e4 : nm.getD w 0 = u := Option.some.inj (Option.some.inj e)
      rw [hT]; omega
  · rw [hT] at hv
    obtain ⟨j, ej⟩ := back v hv
    exact rc j v ej
theorem nv_erase : ∀ (l : List Nat) (k : Nat), nv (l.eraseIdx k) = (nv l).eraseIdx k
  | [], k => by simp [nv]
  | a :: r, 0 => rfl
  | a :: r, k + 1 => by
    have ih := nv_erase r k
    show V.int (a : Int) :: nv (r.eraseIdx k) = V.int (a : Int) :: (nv r).eraseIdx k
    rw [ih]
theorem nv_range (n : Nat) : rgV 0 (n : Int) = nv (List.range n) := by
  unfold rgV nv
  have e : ((n : Int) - 0).toNat = n := by omega
  rw [e]
  refine List.map_congr_left fun i _ => ?_
  show V.int (0 + (i : Int)) = V.int (i : Int)
  rw [Int.zero_add]
theorem ixN_nat {n j : Nat} (h : j < n) : ixN n (j : Int) = some j := by
  unfold ixN
  rw [if_pos (by omega), if_pos (by omega)]
  congr 1
theorem seq_nat {n j : Nat} (h : j < n) : seqIndex? (j : Int) n = some j := (ixN_seq (ixN_nat h)).1
theorem rep_non : ∀ k : Nat, (List.replicate k [V.non]).flatten = (List.replicate k (none : Option Nat)).map hv
  | 0 => rfl
  | k + 1 => by
    rw [List.replicate_succ, List.flatten_cons, rep_non k, List.replicate_succ, List.map_cons]; rfl
theorem erase_perm : ∀ (l : List Nat) (j : Nat) (h : j < l.length), (l[j] :: l.eraseIdx j).Perm l
  | a :: r, 0, _ => List.Perm.refl _
  | a :: r, j + 1, h => by
    have hj : j < r.length := by rw [List.length_cons] at h; omega
    have ih := erase_perm r j hj
    exact (List.Perm.swap a (r[j]'hj) (r.eraseIdx j)).trans (List.Perm.cons a ih)
/-- one of a few, by a drawn number -/
theorem pick {xs : List V} {d : Int} (h0 : 0 ≤ d) (h1 : d < (xs.length : Int)) : ∃ v, v ∈ xs ∧ atI xs d = some v := by
  have hl : d.toNat < xs.length := by omega
  refine ⟨xs[d.toNat], List.getElem_mem hl, ?_⟩
  have e : d = ((d.toNat : Nat) : Int) := by omega
  have q := atI_nat (List.getElem?_eq_getElem hl)
  rw [← e] at q; exact q
def OkV (k : Nat) (v : V) : Prop := ∃ o : Option Nat, v = hv o ∧ ∀ u, o = some u → u < k
theorem OkV.non (k : Nat) : OkV k .non := ⟨none, rfl, fun _ h => by cases h⟩
theorem OkV.int {k : Nat} {i : Int} (h0 : 0 ≤ i) (h1 : i < (k : Int)) : OkV k (.int i) := by
  refine ⟨some i.toNat, ?_, fun u h => ?_⟩
  · show V.int i = V.int ((i.toNat : Nat) : Int)
    congr 1; omega
  · have e := Option.some.inj h
    omega
/-- slots of the drawing def -/
abbrev slF (wl F : Addr) (m sz way : Int) (v5 v6 v7 v8 v9 : Option V) : L2.St := [some (.ref wl), some (.int m), some (.int sz), some (.int way), some (.ref F), v5, v6, v7, v8, v9]
def spLForest : Sp := fun vs H Q _ => ∃ (wl : Addr) (n : Nat) (m : Int), vs = [.ref wl, .int m] ∧ Well H wl n ∧ n < 2 ^ 50 ∧ 1 ≤ m ∧ m ≤ 60 ∧
  ∀ t hs H', Fo hs → (hs.length : Int) ≤ m → Keep wl H H' → Well H' wl (n + 400) → H t = none → H' t = some (.tup (hs.map hv)) → Q (.ref t) H'
section
variable {P : Program} {w : World} {K : PySem.W.Frag} {mg : Str → Option Value} {base : Heap}
abbrev st__law_forest : Stmt := topS 31
abbrev N__law_forest : List Str := ["well", "most", "size", "way", "found", "k", "some", "names", "left", "turned_here"]
theorem sc__law_forest : FnScope N__law_forest ["well", "most"] (defScope st__law_forest) := ⟨rfl, rfl, rfl, by decide +kernel, rfl, by decide +kernel, by decide +kernel⟩
theorem ok__law_forest (D : Df K mg "_law_forest" st__law_forest ["well", "most"]) (B : Bl mg) (K_law_draw : Kn P w K mg base CX0 1 "_law_draw" st__law_draw ["well", "most"] spDraw) :
    Kn P w K mg base CX0 3 "_law_forest" st__law_forest ["well", "most"] spLForest := by
  refine D.ok sc__law_forest (fun vs H Q E h => ?_) (fun f cdv A outer s H vs Q E hr h => ?_)
  · obtain ⟨wl, n, m, rfl, _⟩ := h; rfl
  obtain ⟨wl, n, m, rfl, hw, hn, hm1, hm2, q⟩ := h
  refine ⟨_, ((pss_cons (ps_set (i := 2) sc__law_forest.nd rfl (Or.inl rfl) (pe_op op_add pe_int (pe_callF K_law_draw (hr.mono (by decide)) pass0 (pa_cons (pv 0) (pa_cons (pv 1) pa_nil)))))
      (pss_cons (ps_set (i := 3) sc__law_forest.nd rfl (Or.inl rfl) (pe_callF K_law_draw (hr.mono (by decide)) pass0 (pa_cons (pv 0) (pa_cons pe_int pa_nil))))
      (pss_cons (ps_set (i := 4) sc__law_forest.nd rfl (Or.inl rfl) (pe_lst pa_nil))
      (pss_cons (ps_for PassesOwn.never rfl (pi_range1 (by rfl) B.range (pa_cons (pv 2) pa_nil)) (pg_name (i := 5) sc__law_forest.nd rfl (Or.inl rfl)) (C8.pss_cut (ps_set (i := 6) sc__law_forest.nd rfl (Or.inl rfl) (pe_ifExp (pt_cmpR op_gt (pv 5) pe_int (nomark _)) (pe_ix ix_list (pe_lst (pa_cons pe_non (pa_cons (pe_op op_sub (pv 5) pe_int) (pa_cons (pe_callF K_law_draw (hr.mono (by decide)) pass0 (pa_cons (pv 0) (pa_cons (pe_callB (call_max2 rfl) (by rfl) B.max (by decide +kernel) (pa_cons pe_int (pa_cons (pv 5) pa_nil))) pa_nil))) pa_nil)))) (pe_callF K_law_draw (hr.mono (by decide)) pass0 (pa_cons (pv 0) (pa_cons pe_int pa_nil))) (fun _ _ => rfl)) pe_non))
      (C8.pss_cut (ps_if (PW.pt (pw_and (pt_cmpR op_gt (pv 5) pe_int (nomark _)) (pw_and1 (pt_cmpR op_eq (pv 3) pe_int (nomark _))))) (pss_one (ps_set (i := 6) sc__law_forest.nd rfl (Or.inl rfl) (pe_ix ix_list (pe_lst (pa_cons (pe_op op_sub (pv 5) pe_int) (pa_cons (pe_callB (call_max2 rfl) (by rfl) B.max (by decide +kernel) (pa_cons pe_int (pa_cons (pe_op op_sub (pv 5) pe_int) pa_nil))) pa_nil))) (pe_callF K_law_draw (hr.mono (by decide)) pass0 (pa_cons (pv 0) (pa_cons pe_int pa_nil))) (fun _ _ => rfl)))) pss_nil)
      (C8.pss_cut (ps_if (PW.pt (pw_and (pt_cmpR op_gt (pv 5) pe_int (nomark _)) (pw_and1 (pt_cmpR op_eq (pv 3) pe_int (nomark _))))) (pss_one (ps_set (i := 6) sc__law_forest.nd rfl (Or.inl rfl) (pe_ix ix_list (pe_lst (pa_cons pe_int (pa_cons pe_int (pa_cons pe_non (pa_cons (pe_callF K_law_draw (hr.mono (by decide)) pass0 (pa_cons (pv 0) (pa_cons (pv 5) pa_nil))) pa_nil))))) (pe_callF K_law_draw (hr.mono (by decide)) pass0 (pa_cons (pv 0) (pa_cons pe_int pa_nil))) (fun _ _ => rfl)))) pss_nil)
      (pss_one (ps_expr (pe_bm PySem.F.plainAttrs_list PySem.F.slot_list_append PySem.F.type_list_append mt_append (pv 4) (pa_cons (pv 6) pa_nil))))))))
      (pss_cons (ps_if (pt_cmpR op_eq (pe_callF K_law_draw (hr.mono (by decide)) pass0 (pa_cons (pv 0) (pa_cons pe_int pa_nil))) pe_int (nomark _)) (pss_one (ps_ret (pe_callTy call_tuple_of (by rfl) B.tuple (by decide +kernel) (pa_cons (pv 4) pa_nil)))) pss_nil)
      (pss_cons (ps_par (i := 7) (j := 8) (by rfl) sc__law_forest.nd rfl rfl (by decide) rfl rfl (pa_cons (pe_lst pa_nil) (pa_cons (pe_listRg rfl (by rfl) B.list (prg_1 (by rfl) B.range (pv 2))) pa_nil)) (by rfl))
      (pss_cons (ps_for PassesOwn.never rfl (pi_range1 (by rfl) B.range (pa_cons (pv 2) pa_nil)) (pg_name (i := 5) sc__law_forest.nd rfl (Or.inl rfl)) (pss_one (ps_expr (pe_bm PySem.F.plainAttrs_list PySem.F.slot_list_append PySem.F.type_list_append mt_append (pv 7) (pa_cons (pe_bm PySem.F.plainAttrs_list PySem.F.slot_list_pop PySem.F.type_list_pop mt_popAt (pv 8) (pa_cons (pe_callF K_law_draw (hr.mono (by decide)) pass0 (pa_cons (pv 0) (pa_cons (pe_callB call_len (by rfl) B.len (by decide +kernel) (pa_cons (pv 8) pa_nil)) pa_nil))) pa_nil)) pa_nil)))))
      (pss_cons (ps_set (i := 9) sc__law_forest.nd rfl (Or.inl rfl) (pe_op op_rep (pe_lst (pa_cons pe_non pa_nil)) (pv 2)))
      (pss_cons (ps_for PassesOwn.never rfl (pi_range1 (by rfl) B.range (pa_cons (pv 2) pa_nil)) (pg_name (i := 5) sc__law_forest.nd rfl (Or.inl rfl)) (pss_one (ps_asg (pe_ifExp (pt_cmpR op_isN (pe_ix ix_list (pv 4) (pv 5) (fun _ _ => rfl)) pe_non (nomark _)) pe_non (pe_ix ix_list (pv 7) (pe_ix ix_list (pv 4) (pv 5) (fun _ _ => rfl)) (fun _ _ => rfl))) (pg_sub (pv 9) (pe_ix ix_list (pv 7) (pv 5) (fun _ _ => rfl)) set_list))))
      (pss_one (ps_ret (pe_callTy call_tuple_of (by rfl) B.tuple (by decide +kernel) (pa_cons (pv 9) pa_nil)))))))))))))), ?_⟩
  have p50 : (2 : Nat) ^ 50 = 1125899906842624 := by decide
  have p60 : (2 : Nat) ^ 60 = 1152921504606846976 := by decide
  have p100 : (2 : Nat) ^ 100 = 1267650600228229401496703205376 := by decide +kernel
  have p62 : (2 : Int) ^ 62 = 4611686018427387904 := by decide
  have p63 : (2 : Int) ^ 63 = 9223372036854775808 := by decide
  obtain ⟨wl0, hwl0⟩ := hw.here
  -- size = 1 + _law_draw(well, most); way = _law_draw(well, 4); found = []
  refine ⟨_, rfl, _, rfl, wl, n, _, rfl, hw, by omega, by omega, by omega, fun d0 H1 d00 d01 k1 w1 => ⟨_, _, rfl, rfl, ?_⟩⟩
  refine ⟨_, rfl, wl, n + 1, _, rfl, w1, by omega, by omega, by omega, fun way H2 _ _ k2 w2 => ?_⟩
  refine ⟨by show 0 ≤ sizeLine; decide, fun F hF2 => ?_⟩
  obtain ⟨sz, hsz⟩ : ∃ sz : Nat, 1 + d0 = (sz : Int) := ⟨(1 + d0).toNat, by omega⟩
  have hsz1 : 1 ≤ sz := by omega
  have hsz2 : (sz : Int) ≤ m := by omega
  have hsz3 : sz ≤ 60 := by omega
  have k02 := k1.trans k2
  have hFw : F ≠ wl := by
    obtain ⟨l2, e2⟩ := w2.here
    exact (ne_of_none e2 hF2).symm
  have hFn : H F = none := by
    cases eF : H F with
    | none => rfl
    | some o =>
      have z := k02 F o hFw eF
      rw [hF2] at z; cases z
  -- for k in range(size)
  refine ⟨_, rfl, _, rfl, by omega, by omega, for_it walk_range0 (fun i σ H' => ∃ v5 v6, σ = slF wl F m (1 + d0) way v5 v6 none none none ∧ Keep wl H H' ∧ Well H' wl (n + 2 + 5 * i) ∧ ∃ l : Hs, l.length = i ∧ LtF l ∧ H' F = some (.lst (l.map hv)))
    ⟨none, none, rfl, k02.new hF2, (w2.same ((Same.refl H2).new hF2)), [], rfl, fun j u e => (by cases e), upd_same⟩ (fun _ _ _ _ _ => trivial) ?_ ?_⟩
  · rintro i x σ H3 H4 hi ⟨v5, v6, rfl, k3, w3, l, hl, hlt, hF3⟩ ⟨rfl, rfl⟩
    have hi' : i < sz := by omega
    -- some = [None, k - 1, draw(max(1, k))][draw(3)] if k > 0 else None
    refine ⟨fun σ' H' => ∃ v6, OkV i v6 ∧ σ' = slF wl F m (1 + d0) way (some (.int (i : Int))) (some v6) none none none ∧ Keep wl H H' ∧ Well H' wl (n + 2 + 5 * i + 2) ∧ H' F = some (.lst (l.map hv)), ?_, ?_⟩
    · refine ⟨_, rfl, _, _, rfl, rfl, _, rfl, ?_⟩
      refine ite2 (fun c => ?_) (fun c => ?_)
      · have ci : (0 : Int) < (i : Int) := of_decide_eq_true c
        refine ⟨_, rfl, _, _, rfl, rfl, ?_⟩
        refine ⟨_, rfl, _, rfl, _, _, rfl, wl, _, _, rfl, w3, by omega, by split <;> omega, by split <;> omega, fun d H5 d0 d1 k5 w5 => ⟨by show 3 ≤ sizeLine; decide, fun L hL => ?_⟩⟩
        have w6 := w5.same ((Same.refl H5).new (o := .lst [.non, .int ((i : Int) - 1), .int d]) hL)
        refine ⟨_, rfl, wl, _, _, rfl, w6, by omega, by omega, by omega, fun d2 H6 e0 e1 k6 w6 => ?_⟩
        have hLw : L ≠ wl := by
          obtain ⟨l2, e2⟩ := w5.here
          exact (ne_of_none e2 hL).symm
        have hL6 : H6 L = some (.lst [.non, .int ((i : Int) - 1), .int d]) := k6 L _ hLw upd_same
        obtain ⟨v, hv1, hv2⟩ := pick (xs := [.non, .int ((i : Int) - 1), .int d]) e0 e1
        refine ⟨L, _, _, v, rfl, rfl, SqL.of hL6, hv2, v, ?_, rfl, (k3.trans (k5.new hL)).trans k6, w6, k6 F _ hFw ?_⟩
        · have d2' : d < (i : Int) := by
            split at d1 <;> omega
          simp only [List.mem_cons, List.not_mem_nil, or_false] at hv1
          rcases hv1 with rfl | rfl | rfl
          · exact .non i
          · exact .int (by omega) (by omega)
          · exact .int d0 d2'
        · have z := k5 F _ hFw hF3
          rw [upd_ne (ne_of_none z hL)]; exact z
      · exact ⟨.non, .non i, rfl, k3, w3.mono (by omega), hF3⟩
    · rintro σ' H5 ⟨v6, ok6, rfl, k5, w5, hF5⟩
      -- if k > 0 and way == 0
      refine ⟨fun σ' H' => ∃ v6, OkV i v6 ∧ σ' = slF wl F m (1 + d0) way (some (.int (i : Int))) (some v6) none none none ∧ Keep wl H H' ∧ Well H' wl (n + 2 + 5 * i + 3) ∧ H' F = some (.lst (l.map hv)), ?_, ?_⟩
      · refine ⟨_, rfl, _, _, rfl, rfl, _, rfl, ?_⟩
        refine ite2 (fun c => ?_) (fun c => ?_)
        · have ci : (0 : Int) < (i : Int) := of_decide_eq_true c
          refine ⟨_, rfl, rfl, _, rfl, ?_⟩
          refine ite2 (fun c2 => ?_) (fun c2 => ?_)
          · refine ⟨_, rfl, _, _, rfl, rfl, _, rfl, _, _, rfl, rfl, _, _, rfl, by show 2 ≤ sizeLine; decide, fun L hL => ?_⟩
            have w6 := w5.same ((Same.refl H5).new (o := .lst [.int ((i : Int) - 1), .int (if (i : Int) - 2 > 0 then (i : Int) - 2 else 0)]) hL)
            refine ⟨_, rfl, wl, _, _, rfl, w6, by omega, by omega, by omega, fun d2 H6 e0 e1 k6 w6 => ?_⟩
            have hLw : L ≠ wl := by
              obtain ⟨l2, e2⟩ := w5.here
              exact (ne_of_none e2 hL).symm
            have hL6 : H6 L = some (.lst [.int ((i : Int) - 1), .int (if (i : Int) - 2 > 0 then (i : Int) - 2 else 0)]) := k6 L _ hLw upd_same
            obtain ⟨v, hv1, hv2⟩ := pick (xs := [.int ((i : Int) - 1), .int (if (i : Int) - 2 > 0 then (i : Int) - 2 else 0)]) e0 e1
            refine ⟨L, _, _, v, rfl, rfl, SqL.of hL6, hv2, v, ?_, rfl, (k5.new hL).trans k6, w6, k6 F _ hFw ?_⟩
            · simp only [List.mem_cons, List.not_mem_nil, or_false] at hv1
              rcases hv1 with rfl | rfl
              · exact .int (by omega) (by omega)
              · exact .int (by split <;> omega) (by split <;> omega)
            · rw [upd_ne (ne_of_none hF5 hL)]; exact hF5
          · exact ⟨v6, ok6, rfl, k5, w5.mono (by omega), hF5⟩
        · exact ⟨v6, ok6, rfl, k5, w5.mono (by omega), hF5⟩
      · rintro σ' H6 ⟨v6, ok6, rfl, k6, w6, hF6⟩
        -- if k > 0 and way == 1
        refine ⟨fun σ' H' => ∃ v6, OkV i v6 ∧ σ' = slF wl F m (1 + d0) way (some (.int (i : Int))) (some v6) none none none ∧ Keep wl H H' ∧ Well H' wl (n + 2 + 5 * i + 5) ∧ H' F = some (.lst (l.map hv)), ?_, ?_⟩
        · refine ⟨_, rfl, _, _, rfl, rfl, _, rfl, ?_⟩
          refine ite2 (fun c => ?_) (fun c => ?_)
          · have ci : (0 : Int) < (i : Int) := of_decide_eq_true c
            refine ⟨_, rfl, rfl, _, rfl, ?_⟩
            refine ite2 (fun c2 => ?_) (fun c2 => ?_)
            · refine ⟨_, rfl, _, rfl, wl, _, _, rfl, w6, by omega, by omega, by omega, fun d H7 d0 d1 k7 w7 => ⟨by show 4 ≤ sizeLine; decide, fun L hL => ?_⟩⟩
              have w8 := w7.same ((Same.refl H7).new (o := .lst [.int 0, .int 0, .non, .int d]) hL)
              refine ⟨_, rfl, wl, _, _, rfl, w8, by omega, by omega, by omega, fun d2 H8 e0 e1 k8 w8 => ?_⟩
              have hLw : L ≠ wl := by
                obtain ⟨l2, e2⟩ := w7.here
                exact (ne_of_none e2 hL).symm
              have hL8 : H8 L = some (.lst [.int 0, .int 0, .non, .int d]) := k8 L _ hLw upd_same
              obtain ⟨v, hv1, hv2⟩ := pick (xs := [.int 0, .int 0, .non, .int d]) e0 e1
              refine ⟨L, _, _, v, rfl, rfl, SqL.of hL8, hv2, v, ?_, rfl, (k6.trans (k7.new hL)).trans k8, w8, k8 F _ hFw ?_⟩
              · simp only [List.mem_cons, List.not_mem_nil, or_false] at hv1
                rcases hv1 with rfl | rfl | rfl | rfl
                · exact .int (by omega) (by omega)
                · exact .int (by omega) (by omega)
                · exact .non i
                · exact .int d0 d1
              · have z := k7 F _ hFw hF6
                rw [upd_ne (ne_of_none z hL)]; exact z
            · exact ⟨v6, ok6, rfl, k6, w6.mono (by omega), hF6⟩
          · exact ⟨v6, ok6, rfl, k6, w6.mono (by omega), hF6⟩
        · rintro σ' H7 ⟨v6, ⟨o, rfl, ho⟩, rfl, k7, w7, hF7⟩
          -- found.append(some)
          refine ⟨_, rfl, .inl ⟨rfl, _, SqL.of hF7⟩, _, rfl, F, _, _, rfl, rfl, hF7, by rw [List.length_map]; exact szl (by omega), ?_⟩
          have kf : Keep wl H (upd H7 F (.lst (l.map hv ++ [hv o]))) := fun b u hb e => by
            rw [upd_ne (ne_of_none e hFn)]; exact k7 b u hb e
          refine ⟨_, _, rfl, kf, ?_, l ++ [o], by rw [List.length_append, hl]; rfl, hlt.snoc (by rw [hl]; exact ho), by rw [upd_same, List.map_append]; rfl⟩
          obtain ⟨a, b, c, e, r⟩ := w7.ex
          exact ⟨a, b, c, by rw [upd_ne hFw.symm]; exact e, r.1, r.2.1, r.2.2.1, r.2.2.2.1, by omega⟩
  · rintro σ H3 ⟨v5, v6, rfl, k3, w3, l, hl, hlt, hF3⟩
    have e0 : (1 + d0).toNat = sz := by omega
    rw [e0] at w3 hl
    have hlne : l ≠ [] := by
      intro z; rw [z] at hl; rw [← hl] at hsz1; exact absurd hsz1 (by decide)
    -- if _law_draw(well, 3) == 0: return tuple(found)
    refine ⟨_, rfl, wl, _, _, rfl, w3, by omega, by omega, by omega, fun d H4 _ _ k4 w4 => ?_⟩
    have hF4 := k4 F _ hFw hF3
    have k04 := k3.trans k4
    refine ⟨rfl, _, rfl, ?_⟩
    refine ite2 (fun c => ?_) (fun c => ?_)
    · refine ⟨_, rfl, F, _, rfl, .inl ⟨SqL.of hF4, fun t ht => ?_⟩⟩
      have w5 := w4.same ((Same.refl H4).new (o := .tup (l.map hv)) ht)
      have htn : H t = none := by
        cases et : H t with
        | none => rfl
        | some o =>
          by_cases htw : t = wl
          · obtain ⟨l2, e2⟩ := w4.here
            rw [htw, e2] at ht; cases ht
          · have z := k04 t o htw et
            rw [ht] at z; cases z
      refine q t l _ (fo_plain hlne hlt) (by omega) (k04.new ht) (w5.mono (by omega)) htn upd_same
    · -- names, left = [], list(range(size))
      refine ⟨by show 0 ≤ sizeLine; decide, fun N hN => ?_⟩
      refine ⟨_, rfl, _, rfl, RgOk.of_le (by omega) (by omega) (by omega) (by omega), fun L hL => ⟨_, _, rfl, ?_⟩⟩
      have hNn : H N = none := by
        cases et : H N with
        | none => rfl
        | some o =>
          by_cases htw : N = wl
          · obtain ⟨l2, e2⟩ := w4.here
            rw [htw, e2] at hN; cases hN
          · have z := k04 N o htw et
            rw [hN] at z; cases z
      have hNw : N ≠ wl := by
        obtain ⟨l2, e2⟩ := w4.here
        exact (ne_of_none e2 hN).symm
      have hNL : N ≠ L := ne_of_none upd_same hL
      have hNF : F ≠ N := ne_of_none hF4 hN
      have hL4 : H4 L = none := by rw [upd_ne hNL.symm] at hL; exact hL
      have hLw : L ≠ wl := by
        obtain ⟨l2, e2⟩ := w4.here
        exact (ne_of_none e2 hL4).symm
      have hFL : F ≠ L := ne_of_none hF4 hL4
      have hLn : H L = none := by
        cases et : H L with
        | none => rfl
        | some o =>
          have z := k04 L o hLw et
          rw [hL4] at z; cases z
      have kk : ∀ {H' : Hp} {a : Addr} {o : HO}, Keep wl H H' → H a = none → Keep wl H (upd H' a o) := fun {H' a o} k hn b u hb e => by
        rw [upd_ne (ne_of_none e hn)]; exact k b u hb e
      have ww : ∀ {H' : Hp} {a : Addr} {o : HO} {k : Nat}, Well H' wl k → a ≠ wl → Well (upd H' a o) wl k := fun {H' a o k} h hn => by
        obtain ⟨x, y, z, e, r⟩ := h.ex
        exact ⟨x, y, z, by rw [upd_ne hn.symm]; exact e, r⟩
      -- for k in range(size): names.append(left.pop(_law_draw(well, len(left))))
      refine ⟨_, rfl, _, rfl, by omega, by omega, for_it walk_range0 (fun i σ H' => ∃ v5, σ = slF wl F m (1 + d0) way v5 v6 (some (.ref N)) (some (.ref L)) none ∧ Keep wl H H' ∧ Well H' wl (n + 3 + 5 * sz + i) ∧ H' F = some (.lst (l.map hv)) ∧
          ∃ nm lf : List Nat, nm.length = i ∧ (nm ++ lf).Perm (List.range sz) ∧ H' N = some (.lst (nv nm)) ∧ H' L = some (.lst (nv lf)))
        ⟨v5, rfl, kk (kk k04 hNn) hLn, (ww (ww w4 hNw) hLw).mono (by omega), by rw [upd_ne hFL, upd_ne hNF]; exact hF4, [], List.range sz, rfl, List.Perm.refl _, by rw [upd_ne hNL, upd_same]; rfl, by rw [upd_same, hsz, nv_range]⟩ (fun _ _ _ _ _ => trivial) ?_ ?_⟩
      · rintro i x σ H5 H6 hi ⟨v5, rfl, k5, w5, hF5, nm, lf, hnm, hp, hN5, hL5⟩ ⟨rfl, rfl⟩
        have hi' : i < sz := by omega
        have hlf : nm.length + lf.length = sz := by
          have z := hp.length_eq
          rw [List.length_append, List.length_range] at z; exact z
        refine ⟨_, rfl, .inl ⟨rfl, _, SqL.of hN5⟩, ?_⟩
        refine ⟨_, rfl, .inl ⟨rfl, _, SqL.of hL5⟩, ?_⟩
        refine ⟨_, rfl, _, rfl, _, _, rfl, .inl ⟨_, SqL.of hL5, rfl⟩, wl, _, _, rfl, w5, by omega, by rw [nv_length]; omega, by rw [nv_length]; omega, fun d H6 d0 d1 k6 w6 => ?_⟩
        rw [nv_length] at d1
        obtain ⟨j, hj⟩ : ∃ j : Nat, d = (j : Int) := ⟨d.toNat, by omega⟩
        subst hj
        have hjl : j < lf.length := by omega
        have hL6 := k6 L _ hLw hL5
        have hN6 := k6 N _ hNw hN5
        have hF6 := k6 F _ hFw hF5
        refine ⟨L, _, _, j, _, rfl, rfl, hL6, by omega, by omega, by rw [nv_length]; exact seq_nat hjl, nv_get (List.getElem?_eq_getElem hjl), ?_⟩
        refine ⟨N, _, _, rfl, rfl, by rw [upd_ne hNL]; exact hN6, by rw [nv_length]; exact szl (by omega), ?_⟩
        refine ⟨_, rfl, kk (kk (k5.trans k6) hLn) hNn, (ww (ww w6 hLw) hNw).mono (by omega), by rw [upd_ne hNF, upd_ne hFL]; exact hF6, nm ++ [lf[j]], lf.eraseIdx j, by rw [List.length_append, hnm]; rfl, ?_, by rw [upd_same, nv_append]; rfl, by rw [upd_ne hNL.symm, upd_same, nv_erase]⟩
        have pe := erase_perm lf j hjl
        rw [List.append_assoc]
        exact (List.Perm.append_left nm pe).trans hp
      · rintro σ H5 ⟨v5, rfl, k5, w5, hF5, nm, lf, hnm, hp, hN5, hL5⟩
        rw [e0] at hnm w5
        have hlf : nm.length + lf.length = sz := by
          have z := hp.length_eq
          rw [List.length_append, List.length_range] at z; exact z
        have hlf0 : lf = [] := List.eq_nil_of_length_eq_zero (by omega)
        subst hlf0
        rw [List.append_nil] at hp
        -- turned_here = [None] * size
        refine ⟨by show 1 ≤ sizeLine; decide, fun O hO => ?_⟩
        refine ⟨_, rfl, O, _, _, rfl, rfl, upd_same, by omega, by omega, ?_, fun T hT => ?_⟩
        · show 1 * (1 + d0).toNat ≤ sizeLine
          rw [e0, Nat.one_mul]; exact Nat.le_of_lt (szl (by omega))
        have hT5 : H5 T = none := by
          have z := hT
          rw [upd_ne (ne_of_none upd_same hT).symm] at z; exact z
        have fresh : ∀ {a : Addr}, H5 a = none → H a = none ∧ a ≠ wl ∧ F ≠ a ∧ N ≠ a := fun {a} ha => by
          have h1 : a ≠ wl := by
            obtain ⟨l2, e2⟩ := w5.here
            exact (ne_of_none e2 ha).symm
          refine ⟨?_, h1, ne_of_none hF5 ha, ne_of_none hN5 ha⟩
          cases et : H a with
          | none => rfl
          | some o =>
            have z := k5 a o h1 et
            rw [ha] at z; cases z
        obtain ⟨o1, o2, o3, o4⟩ := fresh hO
        obtain ⟨t1, t2, t3, t4⟩ := fresh hT5
        have hnl : ∀ j : Nat, j < sz → ∃ v, nm[j]? = some v ∧ v < sz := fun j hj => by
          have h1 : j < nm.length := by omega
          exact ⟨nm[j], List.getElem?_eq_getElem h1, List.mem_range.mp (hp.mem_iff.mp (List.getElem_mem h1))⟩
        have hnd : nm.Nodup := hp.nodup_iff.mpr List.nodup_range
        -- for k in range(size): turned_here[names[k]] = ..
        refine ⟨_, rfl, _, rfl, by omega, by omega, for_it walk_range0 (fun i σ H' => ∃ v5, σ = slF wl F m (1 + d0) way v5 v6 (some (.ref N)) (some (.ref L)) (some (.ref T)) ∧ Keep wl H H' ∧ Well H' wl (n + 3 + 6 * sz) ∧ H' F = some (.lst (l.map hv)) ∧ H' N = some (.lst (nv nm)) ∧
            ∃ th : Hs, th.length = sz ∧ (∀ (j v : Nat) (o : Option Nat), j < i → nm[j]? = some v → l[j]? = some o → th[v]? = some (ren nm o)) ∧ H' T = some (.lst (th.map hv)))
          ⟨v5, rfl, kk (kk k5 o1) t1, (ww (ww w5 o2) t2).mono (by omega), by rw [upd_ne t3, upd_ne o3]; exact hF5, by rw [upd_ne t4, upd_ne o4]; exact hN5, List.replicate sz none, List.length_replicate, fun j v o hj => absurd hj (Nat.not_lt_zero j), by rw [upd_same, rep_non, e0]⟩ (fun _ _ _ _ _ => trivial) ?_ ?_⟩
        · rintro i x σ H6 H7 hi ⟨v5, rfl, k6, w6, hF6, hN6, th, hth, hr, hT6⟩ ⟨rfl, rfl⟩
          have hi' : i < sz := by omega
          have hil : i < l.length := by omega
          obtain ⟨v, ev, hv'⟩ := hnl i hi'
          have eo : l[i]? = some l[i] := List.getElem?_eq_getElem hil
          generalize l[i] = o at eo
          have fin : ∀ x : V, x = hv (ren nm o) → gSub (tVar 9) (tOp (rIxL K) (tVar 7) (tVar 5)) rSetL x (slF wl F m (1 + d0) way (some (.int (i : Int))) v6 (some (.ref N)) (some (.ref L)) (some (.ref T))) H7
              (fun σ H' => ∃ v5, σ = slF wl F m (1 + d0) way v5 v6 (some (.ref N)) (some (.ref L)) (some (.ref T)) ∧ Keep wl H H' ∧ Well H' wl (n + 3 + 6 * sz) ∧ H' F = some (.lst (l.map hv)) ∧ H' N = some (.lst (nv nm)) ∧
                ∃ th : Hs, th.length = sz ∧ (∀ (j v : Nat) (o : Option Nat), j < i + 1 → nm[j]? = some v → l[j]? = some o → th[v]? = some (ren nm o)) ∧ H' T = some (.lst (th.map hv))) := by
            rintro x rfl
            refine ⟨_, rfl, _, rfl, _, rfl, N, _, _, _, rfl, rfl, SqL.of hN6, atI_nat (nv_get ev), T, _, _, v, rfl, rfl, hT6, by rw [List.length_map, hth]; exact ixN_nat hv', ?_⟩
            refine ⟨_, rfl, kk k6 t1, ww w6 t2, by rw [upd_ne t3]; exact hF6, by rw [upd_ne t4]; exact hN6, th.set v (ren nm o), by rw [List.length_set]; exact hth, ?_, by rw [upd_same, List.map_set]⟩
            intro j v' o' hj e1 e2
            by_cases hji : j = i
            · subst hji
              have q1 : v' = v := Option.some.inj (e1.symm.trans ev)
              have q2 : o' = o := Option.some.inj (e2.symm.trans eo)
              subst q1 q2
              exact List.getElem?_set_self (by rw [hth]; exact hv')
            · have hne : v ≠ v' := fun z => hji (nodup_at hnd e1 (by rw [← z]; exact ev))
              rw [List.getElem?_set_ne hne]
              exact hr j v' o' (by omega) e1 e2
          refine ⟨_, rfl, _, rfl, F, _, _, _, rfl, rfl, SqL.of hF6, atI_nat (hv_at eo), rfl, _, rfl, ?_⟩
          cases o with
          | none => exact iteT (fin _ rfl)
          | some u =>
            have hu := hlt i u eo
            obtain ⟨vu, eu, _⟩ := hnl u (by omega)
            refine iteF ⟨_, rfl, _, rfl, _, rfl, F, _, _, _, rfl, rfl, SqL.of hF6, atI_nat (hv_at eo), N, _, _, _, rfl, rfl, SqL.of hN6, atI_nat (nv_get eu), fin _ ?_⟩
            show V.int (vu : Int) = V.int ((nm.getD u 0 : Nat) : Int)
            rw [List.getD_eq_getElem?_getD, eu]; rfl
        · rintro σ H6 ⟨v5, rfl, k6, w6, hF6, hN6, th, hth, hr, hT6⟩
          rw [e0] at hr
          refine ⟨_, rfl, T, _, rfl, .inl ⟨SqL.of hT6, fun t ht => ?_⟩⟩
          have w7 := w6.same ((Same.refl H6).new (o := .tup (th.map hv)) ht)
          have htn : H t = none := by
            have h1 : t ≠ wl := by
              obtain ⟨l2, e2⟩ := w6.here
              exact (ne_of_none e2 ht).symm
            cases et : H t with
            | none => rfl
            | some o =>
              have z := k6 t o h1 et
              rw [ht] at z; cases z
          refine q t th _ (fo_turned hlne hlt (by rw [hl]; exact hp) (by rw [hth, hl]) fun j v o e1 e2 => hr j v o ?_ e1 e2) (by omega) (k6.new ht) (w7.mono (by omega)) htn upd_same
          have z := (List.getElem?_eq_some_iff.mp e2).1
          omega
end

end My

namespace My
open PySem PySem.Spec PyProof.Rows L2
/-! ### what the functions of heldbehind.forests raise and hand back -/
def spCheckF (C : Addr) : Sp := fun vs H Q E => ∃ x : V, vs = [x] ∧ Askd H x ∧ (IsF H x → ∀ H', Same H H' → Q .non H') ∧ (¬ IsF H x → ∀ H', Same H H' → E (.ref C) none H')
def spCheckT (C : Addr) : Sp := fun vs H Q E => ∃ (a : Addr) (xs : List V) (y : V), vs = [.ref a, y] ∧ H a = some (.tup xs) ∧ Vd H y ∧ (isIdx (xs.length : Int) y = true → Q .non H) ∧ (isIdx (xs.length : Int) y = false → E (.ref C) none H)
/-- a function of a forest alone: R what its answer's list may be -/
def spOf (C : Addr) (R : Hs → List V → Prop) : Sp := fun vs H Q E => ∃ x : V, vs = [x] ∧ Askd H x ∧ (∀ hs : Hs, tupAt H x = some (hs.map hv) → hs.length ≤ 60) ∧ (¬ IsF H x → ∀ H', Same H H' → E (.ref C) none H') ∧
  ∀ hs : Hs, tupAt H x = some (hs.map hv) → Fo hs → ∀ r l H', R hs l → Same H H' → H r = none → H' r = some (.lst l) → Q (.ref r) H'
/-- a function of a forest and a thing -/
def spOf2 (C C2 : Addr) (R : Hs → Nat → List V → Prop) : Sp := fun vs H Q E => ∃ x y : V, vs = [x, y] ∧ Askd H x ∧ Vd H y ∧ (∀ hs : Hs, tupAt H x = some (hs.map hv) → hs.length ≤ 60) ∧ (¬ IsF H x → ∀ H', Same H H' → E (.ref C) none H') ∧
  (∀ hs : Hs, tupAt H x = some (hs.map hv) → Fo hs → isIdx (hs.length : Int) y = false → ∀ H', Same H H' → E (.ref C2) none H') ∧
  ∀ hs : Hs, tupAt H x = some (hs.map hv) → Fo hs → ∀ t : Nat, y = .int (t : Int) → t < hs.length → ∀ r l H', R hs t l → Same H H' → H r = none → H' r = some (.lst l) → Q (.ref r) H'
theorem tupAt_same {H H' : Hp} {x : V} {xs : List V} (h : tupAt H x = some xs) (s : Same H H') : tupAt H' x = some xs := by
  obtain ⟨a, rfl, ha⟩ := tupAt_ref h
  exact tupAt_tup (s _ _ ha)
theorem Askd.same {H H' : Hp} {x : V} (h : Askd H x) (s : Same H H') (hi : ∀ xs, tupAt H' x = some xs → tupAt H x = some xs) : Askd H' x :=
  ⟨h.vd.same s, fun xs e => ⟨(h.items xs (hi xs e)).1, fun y hy => ((h.items xs (hi xs e)).2 y hy).same s⟩⟩
theorem isIdx_true {n : Nat} {y : V} (h : isIdx (n : Int) y = true) : ∃ t : Nat, y = .int (t : Int) ∧ t < n := by
  cases y with
  | int i =>
    have c : (decide (0 ≤ i) && decide (i < (n : Int))) = true := h
    rw [Bool.and_eq_true, decide_eq_true_eq, decide_eq_true_eq] at c
    exact ⟨i.toNat, by congr 1; omega, by omega⟩
  | _ => cases h
theorem vd_hv {H : Hp} (o : Option Nat) : Vd H (hv o) := by
  cases o with
  | none => exact .non
  | some u => exact .int _
section
variable {P : Program} {w : World} {K : PySem.W.Frag} {mg : Str → Option Value} {base : Heap} {CF CT : Addr}
abbrev st_check_forest : Stmt := topS 13
abbrev N_check_forest : List Str := ["forest"]
theorem sc_check_forest : FnScope N_check_forest ["forest"] (defScope st_check_forest) := ⟨rfl, rfl, rfl, by decide +kernel, rfl, by decide +kernel, by decide +kernel⟩
theorem ok_check_forest (D : Df K mg "check_forest" st_check_forest ["forest"]) (B : Bl mg) (EInvalidForest : Ex1 K mg "InvalidForest" CF) (Kis_forest : Kn P w K mg base CX0 4 "is_forest" st_is_forest ["value"] spIsForest) :
    Kn P w K mg base (L2.CX P w) 5 "check_forest" st_check_forest ["forest"] (spCheckF CF) := by
  refine D.okX sc_check_forest (fun vs H Q E h => ?_) (fun f cdv A outer s H vs Q E hr h => ?_)
  · obtain ⟨x, rfl, _⟩ := h; rfl
  obtain ⟨x, rfl, ask, q1, q2⟩ := h
  refine ⟨_, ((pss_one (ps_if (pt_not (pt_val (pe_callF Kis_forest (hr.mono (by decide)) pass0 (pa_cons (pv 0) pa_nil)))) (pss_one (ps_raise rfl (takes_of rfl rfl rfl rfl) (pmk_own0 PySem.F.excBase_ValueError EInvalidForest.x EInvalidForest.g EInvalidForest.k (raises_own EInvalidForest.b EInvalidForest.t) rfl))) pss_nil))), ?_⟩
  refine ⟨_, rfl, x, rfl, ask, fun b H' s' hb => ⟨_, rfl, ?_⟩⟩
  cases b with
  | true => exact iteF (q1 (hb.mp rfl) H' s')
  | false => exact iteT (q2 (fun z => Bool.false_ne_true (hb.mpr z)) H' s')
abbrev st_check_thing : Stmt := topS 14
abbrev N_check_thing : List Str := ["forest", "thing"]
theorem sc_check_thing : FnScope N_check_thing ["forest", "thing"] (defScope st_check_thing) := ⟨rfl, rfl, rfl, by decide +kernel, rfl, by decide +kernel, by decide +kernel⟩
theorem ok_check_thing (D : Df K mg "check_thing" st_check_thing ["forest", "thing"]) (B : Bl mg) (EInvalidThing : Ex1 K mg "InvalidThing" CT) (Kis_index : Kn P w K mg base CX0 3 "is_index" st_is_index ["value", "many"] spIsIndex) :
    Kn P w K mg base (L2.CX P w) 5 "check_thing" st_check_thing ["forest", "thing"] (spCheckT CT) := by
  refine D.okX sc_check_thing (fun vs H Q E h => ?_) (fun f cdv A outer s H vs Q E hr h => ?_)
  · obtain ⟨a, xs, y, rfl, _⟩ := h; rfl
  obtain ⟨a, xs, y, rfl, ha, vy, q1, q2⟩ := h
  refine ⟨_, ((pss_one (ps_if (pt_not (pt_val (pe_callF Kis_index (hr.mono (by decide)) pass0 (pa_cons (pv 1) (pa_cons (pe_callB call_len (by rfl) B.len (by decide +kernel) (pa_cons (pv 0) pa_nil)) pa_nil))))) (pss_one (ps_raise rfl (takes_of rfl rfl rfl rfl) (pmk_own0 PySem.F.excBase_ValueError EInvalidThing.x EInvalidThing.g EInvalidThing.k (raises_own EInvalidThing.b EInvalidThing.t) rfl))) pss_nil))), ?_⟩
  refine ⟨_, rfl, _, rfl, _, _, rfl, .inr ⟨_, SqT.of ha, rfl⟩, y, _, rfl, vy, _, rfl, ?_⟩
  cases b : isIdx (xs.length : Int) y with
  | true => exact iteF (q1 b)
  | false => exact iteT (q2 b)
end

end My

namespace My
open PySem PySem.Spec PyProof.Rows L2
/-! ### the ways up -/
inductive Ups (hs : Hs) : Nat → List Nat → Prop where
  | root {v : Nat} (h : hs[v]? = some none) : Ups hs v []
  | step {v u : Nat} {l : List Nat} (h : hs[v]? = some (some u)) (r : Ups hs u l) : Ups hs v (u :: l)
theorem Rch.ups {hs : Hs} {v : Nat} (r : Rch hs v) : ∃ l, Ups hs v l := by
  induction r with
  | root h => exact ⟨[], .root h⟩
  | step h _ ih => obtain ⟨l, hl⟩ := ih; exact ⟨_, .step h hl⟩
theorem Ups.inj {hs : Hs} {v : Nat} {l m : List Nat} (a : Ups hs v l) (b : Ups hs v m) : l = m := by
  induction a generalizing m with
  | root h => cases b with
    | root _ => rfl
    | step h2 _ => rw [h] at h2; cases h2
  | step h r ih => cases b with
    | root h2 => rw [h] at h2; cases h2
    | step h2 r2 =>
      rw [h] at h2; cases h2
      rw [ih r2]
theorem Ups.lt {hs : Hs} {v : Nat} {l : List Nat} (a : Ups hs v l) : v < hs.length := by
  cases a with
  | root h => exact (List.getElem?_eq_some_iff.mp h).1
  | step h r => exact (List.getElem?_eq_some_iff.mp h).1
theorem Ups.mem {hs : Hs} {v : Nat} {l : List Nat} (a : Ups hs v l) : ∀ w ∈ l, ∃ m, Ups hs w m ∧ m.length < l.length := by
  induction a with
  | root h => intro w hw; cases hw
  | step h r ih =>
    intro w hw
    rcases List.mem_cons.mp hw with rfl | hw
    · exact ⟨_, r, Nat.lt_succ_self _⟩
    · obtain ⟨m, hm, hl⟩ := ih w hw
      exact ⟨m, hm, Nat.lt_succ_of_lt hl⟩
theorem Ups.nd {hs : Hs} {v : Nat} {l : List Nat} (a : Ups hs v l) : (v :: l).Nodup := by
  induction a with
  | root h => simp
  | step h r ih =>
    refine List.nodup_cons.mpr ⟨fun hm => ?_, ih⟩
    obtain ⟨m, hm, hl⟩ := (Ups.step h r).mem _ hm
    rw [hm.inj (.step h r)] at hl
    exact Nat.lt_irrefl _ hl
theorem Ups.len {hs : Hs} {v : Nat} {l : List Nat} (a : Ups hs v l) : l.length < hs.length := by
  have q := nodup_len hs.length _ a.nd fun w hw => by
    rcases List.mem_cons.mp hw with rfl | hw
    · exact a.lt
    · obtain ⟨m, hm, _⟩ := a.mem w hw
      exact hm.lt
  rw [List.length_cons] at q; omega
/-- below: a thing's held ones, and theirs -/
inductive Blw (hs : Hs) (t : Nat) : Nat → Prop where
  | kid {v : Nat} (h : hs[v]? = some (some t)) : Blw hs t v
  | step {v u : Nat} (h : hs[v]? = some (some u)) (r : Blw hs t u) : Blw hs t v
theorem Blw.ups {hs : Hs} {t v : Nat} (b : Blw hs t v) {l : List Nat} (a : Ups hs v l) : t ∈ l := by
  induction b generalizing l with
  | kid h => cases a with
    | root h2 => rw [h] at h2; cases h2
    | step h2 r => rw [h] at h2; cases h2; exact List.mem_cons_self
  | step h r ih => cases a with
    | root h2 => rw [h] at h2; cases h2
    | step h2 r2 => rw [h] at h2; cases h2; exact List.mem_cons_of_mem _ (ih r2)
theorem ups_blw {hs : Hs} {t v : Nat} {l : List Nat} (a : Ups hs v l) (h : t ∈ l) : Blw hs t v := by
  induction a with
  | root _ => cases h
  | step e r ih =>
    rcases List.mem_cons.mp h with rfl | h
    · exact .kid e
    · exact .step e (ih h)
theorem Blw.irr {hs : Hs} {t : Nat} (r : Rch hs t) : ¬ Blw hs t t := fun b => by
  obtain ⟨l, a⟩ := r.ups
  exact (List.nodup_cons.mp a.nd).1 (b.ups a)
theorem starts_kids {hs : Hs} {t : Nat} (r : Rch hs t) : Starts hs (kids hs t) (Blw hs t) where
  nd := nodup_kids hs t
  ok := fun s h => ⟨(List.getElem?_eq_some_iff.mp (mem_kids.mp h)).1, .kid (mem_kids.mp h)⟩
  down := fun _ _ e b => .step e b
  no := fun s h u e => by
    rw [mem_kids.mp h] at e
    cases e
    exact Blw.irr r
theorem WT.blw {hs : Hs} {t : Nat} {l : List Nat} (h : WT hs (kids hs t) (Blw hs t) l []) (v : Nat) : v ∈ l ↔ Blw hs t v := by
  have z : ∀ w, w ∈ l ++ [] ↔ w ∈ l := fun w => by rw [List.append_nil]
  refine ⟨fun hv => (h.ok v ((z v).mpr hv)).2.1, fun b => ?_⟩
  induction b with
  | kid e => exact (z _).mp (h.sm _ (mem_kids.mpr e))
  | step e _ ih => exact (z _).mp (h.cl _ _ e ih)
/-! ### sizes -/
def sumP (hs : Hs) (F : List Int) (D : List Nat) (v : Nat) : Int := (((kids hs v).filter fun c => decide (c ∈ D)).map fun c => F.getD c 0).sum
def SizeOk (hs : Hs) (F : List Int) : Prop := F.length = hs.length ∧ ∀ v : Nat, v < hs.length → F.getD v 0 = 1 + ((kids hs v).map fun c => F.getD c 0).sum
theorem filter_cons_sum (f : Nat → Int) (D : List Nat) (t : Nat) (ht : t ∉ D) : ∀ l : List Nat, l.Nodup → ((l.filter fun c => decide (c ∈ t :: D)).map f).sum = ((l.filter fun c => decide (c ∈ D)).map f).sum + (if t ∈ l then f t else 0)
  | [], _ => by simp
  | a :: r, nd => by
    have ih := filter_cons_sum f D t ht r (List.nodup_cons.mp nd).2
    have nd1 := (List.nodup_cons.mp nd).1
    by_cases e : a = t
    · subst e
      have h1 : decide (a ∈ a :: D) = true := decide_eq_true List.mem_cons_self
      have h2 : decide (a ∈ D) = false := decide_eq_false ht
      rw [if_neg nd1] at ih
      rw [List.filter_cons_of_pos (by exact h1), List.filter_cons_of_neg (by rw [h2]; exact Bool.false_ne_true), if_pos List.mem_cons_self, List.map_cons, List.sum_cons, ih]
      omega
    · have h3 : (t ∈ a :: r) ↔ t ∈ r := by
        rw [List.mem_cons]
        exact ⟨fun h => h.resolve_left fun z => e z.symm, .inr⟩
      by_cases hd : a ∈ D
      · have h1 : decide (a ∈ t :: D) = true := decide_eq_true (List.mem_cons_of_mem _ hd)
        have h2 : decide (a ∈ D) = true := decide_eq_true hd
        rw [List.filter_cons_of_pos (by exact h1), List.filter_cons_of_pos (by exact h2), List.map_cons, List.sum_cons, List.map_cons, List.sum_cons, ih]
        by_cases h : t ∈ r
        · rw [if_pos h, if_pos (h3.mpr h)]; omega
        · rw [if_neg h, if_neg (fun z => h (h3.mp z))]; omega
      · have h1 : decide (a ∈ t :: D) = false := decide_eq_false fun z => (List.mem_cons.mp z).elim e hd
        have h2 : decide (a ∈ D) = false := decide_eq_false hd
        rw [List.filter_cons_of_neg (by rw [h1]; exact Bool.false_ne_true), List.filter_cons_of_neg (by rw [h2]; exact Bool.false_ne_true), ih]
        by_cases h : t ∈ r
        · rw [if_pos h, if_pos (h3.mpr h)]
        · rw [if_neg h, if_neg (fun z => h (h3.mp z))]
/-- how far the sizes are summed up: of the things in D all is said to their holders -/
def SizeTo (hs : Hs) (F : List Int) (D : List Nat) : Prop := F.length = hs.length ∧ ∀ v : Nat, v < hs.length → F.getD v 0 = 1 + sumP hs F D v
theorem sumP_nil (hs : Hs) (F : List Int) (v : Nat) : sumP hs F [] v = 0 := by
  unfold sumP
  have e : ((kids hs v).filter fun c => decide (c ∈ ([] : List Nat))) = [] := by simp
  rw [e]; rfl
theorem getD_set_self {F : List Int} {u : Nat} {x : Int} (h : u < F.length) : (F.set u x).getD u 0 = x := by
  rw [List.getD_eq_getElem?_getD, List.getElem?_set_self h]; rfl
theorem getD_set_ne {F : List Int} {u v : Nat} {x : Int} (h : u ≠ v) : (F.set u x).getD v 0 = F.getD v 0 := by
  rw [List.getD_eq_getElem?_getD, List.getElem?_set_ne h, List.getD_eq_getElem?_getD]
theorem sumP_set {hs : Hs} {F : List Int} {D : List Nat} {u : Nat} {x : Int} (v : Nat) (h : u ∉ D) : sumP hs (F.set u x) D v = sumP hs F D v := by
  unfold sumP
  congr 1
  refine List.map_congr_left fun c hc => ?_
  have h2 := of_decide_eq_true (List.mem_filter.mp hc).2
  exact getD_set_ne fun e => h (e ▸ h2)
theorem SizeTo.skip {hs : Hs} {F : List Int} {D : List Nat} {t : Nat} (h : SizeTo hs F D) (ht : t ∉ D) (e : hs[t]? = some none) : SizeTo hs F (t :: D) := by
  refine ⟨h.1, fun v hv => ?_⟩
  rw [h.2 v hv]
  unfold sumP
  rw [filter_cons_sum _ D t ht _ (nodup_kids hs v), if_neg (fun z => by rw [mem_kids.mp z] at e; cases e)]
  omega
theorem SizeTo.put {hs : Hs} {F : List Int} {D : List Nat} {t u : Nat} (h : SizeTo hs F D) (ht : t ∉ D) (hu : u ∉ D) (hut : u ≠ t) (e : hs[t]? = some (some u)) (hul : u < hs.length) : SizeTo hs (F.set u (F.getD u 0 + F.getD t 0)) (t :: D) := by
  have hlu : u < F.length := by rw [h.1]; exact hul
  have hu2 : u ∉ t :: D := fun z => (List.mem_cons.mp z).elim hut hu
  refine ⟨by rw [List.length_set]; exact h.1, fun v hv => ?_⟩
  rw [sumP_set v hu2]
  have q : sumP hs F (t :: D) v = sumP hs F D v + (if t ∈ kids hs v then F.getD t 0 else 0) := filter_cons_sum _ D t ht _ (nodup_kids hs v)
  rw [q]
  by_cases hvu : v = u
  · subst hvu
    rw [getD_set_self hlu, if_pos (mem_kids.mpr e), h.2 v hv]; omega
  · rw [getD_set_ne (fun z => hvu z.symm), if_neg (fun z => by
      rw [mem_kids.mp z] at e; cases e; exact hvu rfl), h.2 v hv]; omega
theorem SizeTo.all {hs : Hs} {F : List Int} {D : List Nat} (h : SizeTo hs F D) (hD : ∀ v : Nat, v < hs.length → v ∈ D) : SizeOk hs F := by
  refine ⟨h.1, fun v hv => ?_⟩
  rw [h.2 v hv]
  unfold sumP
  rw [List.filter_eq_self.mpr]
  intro c hc
  exact decide_eq_true (hD c (List.getElem?_eq_some_iff.mp (mem_kids.mp hc)).1)
/-- a forest's walk has all things, each behind its holder -/
structure Ord (hs : Hs) (l : List Nat) : Prop where
  nd : l.Nodup
  len : l.length = hs.length
  lt : ∀ v ∈ l, v < hs.length
  mem : ∀ v : Nat, v < hs.length → v ∈ l
  od : ∀ i v u : Nat, l[i]? = some v → hs[v]? = some (some u) → ∃ j : Nat, j < i ∧ l[j]? = some u
theorem WT.ord {hs : Hs} {l : List Nat} (fo : Fo hs) (h : WT hs (roots hs) (Rch hs) l []) : Ord hs l := by
  have nd := h.nd
  rw [List.append_nil] at nd
  have lt : ∀ v ∈ l, v < hs.length := fun v hv => (h.ok v (by rw [List.append_nil]; exact hv)).1
  have mem : ∀ v : Nat, v < hs.length → v ∈ l := fun v hv => h.all_found (fo.all v hv)
  refine ⟨nd, ?_, lt, mem, fun i v u e e2 => ?_⟩
  · have h1 := nodup_len hs.length l nd lt
    have h2 := nodup_sub (List.range hs.length) l List.nodup_range fun v hv => mem v (List.mem_range.mp hv)
    rw [List.length_range] at h2; omega
  · rcases h.od i v e with z | ⟨j, u', hj, e3, e4⟩
    · rw [mem_roots.mp z] at e2; cases e2
    · rw [e2] at e4; cases e4
      exact ⟨j, hj, e3⟩
/-! ### depths -/
def DepthOk (hs : Hs) (F : List Int) : Prop := F.length = hs.length ∧ ∀ v : Nat, v < hs.length → ∀ l, Ups hs v l → F.getD v 0 = (l.length : Int)
def iv (l : List Int) : List V := l.map V.int
theorem iv_get {F : List Int} {v : Nat} (h : v < F.length) : (iv F)[v]? = some (.int (F.getD v 0)) := by
  unfold iv
  rw [List.getElem?_map, List.getElem?_eq_getElem h, List.getD_eq_getElem?_getD, List.getElem?_eq_getElem h]; rfl
theorem iv_rep (x : Int) : ∀ k : Nat, (List.replicate k [V.int x]).flatten = iv (List.replicate k x)
  | 0 => rfl
  | k + 1 => by rw [List.replicate_succ, List.flatten_cons, iv_rep x k]; rfl
theorem iv_set (F : List Int) (u : Nat) (x : Int) : (iv F).set u (.int x) = iv (F.set u x) := by unfold iv; rw [List.map_set]
theorem iv_length (F : List Int) : (iv F).length = F.length := List.length_map _
section
variable {P : Program} {w : World} {K : PySem.W.Frag} {mg : Str → Option Value} {base : Heap} {CF CT : Addr}
abbrev st_above : Stmt := topS 15
abbrev N_above : List Str := ["forest", "thing", "found", "holder"]
theorem sc_above : FnScope N_above ["forest", "thing"] (defScope st_above) := ⟨rfl, rfl, rfl, by decide +kernel, rfl, by decide +kernel, by decide +kernel⟩
theorem ok_above (D : Df K mg "above" st_above ["forest", "thing"]) (B : Bl mg) (Kcheck_forest : Kn P w K mg base (L2.CX P w) 5 "check_forest" st_check_forest ["forest"] (spCheckF CF)) (Kcheck_thing : Kn P w K mg base (L2.CX P w) 5 "check_thing" st_check_thing ["forest", "thing"] (spCheckT CT)) :
    Kn P w K mg base (L2.CX P w) 6 "above" st_above ["forest", "thing"] (spOf2 CF CT fun hs t l => ∃ o, l = nv o ∧ Ups hs t o) := by
  refine D.okX sc_above (fun vs H Q E h => ?_) (fun f cdv A outer s H vs Q E hr h => ?_)
  · obtain ⟨x, y, rfl, _⟩ := h; rfl
  obtain ⟨x, y, rfl, ask, vy, _, q2, q3, q⟩ := h
  refine ⟨_, ((pss_cons (ps_expr (pe_callF Kcheck_forest (hr.mono (by decide)) (passX (takes_of rfl rfl rfl rfl)) (pa_cons (pv 0) pa_nil)))
      (pss_cons (ps_expr (pe_callF Kcheck_thing (hr.mono (by decide)) (passX (takes_of rfl rfl rfl rfl)) (pa_cons (pv 0) (pa_cons (pv 1) pa_nil))))
      (pss_cons (ps_set (i := 2) sc_above.nd rfl (Or.inl rfl) (pe_lst pa_nil))
      (pss_cons (ps_set (i := 3) sc_above.nd rfl (Or.inl rfl) (pe_ix ix_tup (pv 0) (pv 1) (fun _ _ => rfl)))
      (pss_cons (ps_while (passes_of rfl) (pt_cmpR op_notN (pv 3) pe_non (nomark _)) (pss_cons (ps_expr (pe_bm PySem.F.plainAttrs_list PySem.F.slot_list_append PySem.F.type_list_append mt_append (pv 2) (pa_cons (pv 3) pa_nil)))
      (pss_one (ps_set (i := 3) sc_above.nd rfl (Or.inl rfl) (pe_ix ix_tup (pv 0) (pv 3) (fun _ _ => rfl))))))
      (pss_one (ps_ret (pv 2))))))))), ?_⟩
  refine ⟨_, rfl, x, rfl, ask, fun ⟨hs, e, fo⟩ H1 s1 => ?_, q2⟩
  obtain ⟨a, rfl, ha⟩ := tupAt_ref e
  have hl := (ask.items _ e).1
  rw [List.length_map] at hl
  have ha1 := s1 _ _ ha
  refine ⟨_, rfl, _, rfl, a, _, y, rfl, ha1, vy.same s1, fun b => ?_, fun b => ?_⟩
  · rw [List.length_map] at b
    obtain ⟨t, rfl, ht⟩ := isIdx_true b
    obtain ⟨ups, hu⟩ := (fo.all t ht).ups
    refine ⟨by show 0 ≤ sizeLine; decide, fun F hF => ?_⟩
    have hFn : H F = none := s1.free hF
    have s2 : Same H (upd H1 F (.lst [])) := s1.new hF
    have sq : ∀ {H' : Hp}, Same H H' → SqT K H' a (hs.map hv) := fun s' => SqT.of (s' _ _ ha)
    obtain ⟨o, eo⟩ : ∃ o, hs[t]? = some o := ⟨hs[t], List.getElem?_eq_getElem ht⟩
    refine ⟨_, rfl, _, rfl, a, _, _, hv o, rfl, rfl, sq s2, atI_nat (hv_at eo), ?_⟩
    refine ⟨fun m σ H' => ∃ (o : Option Nat) (done rest : List Nat), σ = [some (.ref a), some (.int (t : Int)), some (.ref F), some (hv o)] ∧ Same H H' ∧ H' F = some (.lst (nv done)) ∧ ups = done ++ rest ∧
        ((o = none ∧ rest = []) ∨ ∃ u r', o = some u ∧ rest = u :: r' ∧ Ups hs u r') ∧ m = rest.length, ⟨_, o, [], ups, rfl, s2, upd_same, rfl, ?_, rfl⟩, ?_⟩
    · cases hu with
      | root h => rw [h] at eo; cases eo; exact .inl ⟨rfl, rfl⟩
      | step h r => rw [h] at eo; cases eo; exact .inr ⟨_, _, rfl, rfl, r⟩
    · rintro m σ H' ⟨o, done, rest, rfl, s3, hF3, eu, hor, rfl⟩
      have hlen := hu.len
      refine ⟨_, rfl, rfl, _, rfl, ?_⟩
      rcases hor with ⟨rfl, rfl⟩ | ⟨u, r', rfl, rfl, hur⟩
      · refine iteF ?_
        rw [List.append_nil] at eu
        subst eu
        exact ⟨_, rfl, q hs e fo t rfl ht F _ H' ⟨_, rfl, hu⟩ s3 hFn hF3⟩
      · have hdl : done.length ≤ 1000 := by
          rw [eu, List.length_append] at hlen; omega
        refine iteT ⟨fun σ' H' => ∃ m', m' < (u :: r').length ∧ ∃ (o : Option Nat) (done rest : List Nat), σ' = [some (.ref a), some (.int (t : Int)), some (.ref F), some (hv o)] ∧ Same H H' ∧ H' F = some (.lst (nv done)) ∧ ups = done ++ rest ∧
            ((o = none ∧ rest = []) ∨ ∃ u r', o = some u ∧ rest = u :: r' ∧ Ups hs u r') ∧ m' = rest.length, fun _ _ h => h, ?_⟩
        refine ⟨_, rfl, .inl ⟨rfl, _, SqL.of hF3⟩, _, rfl, F, _, _, rfl, rfl, hF3, by rw [nv_length]; exact szl hdl, ?_⟩
        have s4 : Same H (upd H' F (.lst (nv done ++ [hv (some u)]))) := s3.upd hFn
        have hul := hur.lt
        obtain ⟨o2, eo2⟩ : ∃ o, hs[u]? = some o := ⟨hs[u], List.getElem?_eq_getElem hul⟩
        refine ⟨_, rfl, _, rfl, a, _, _, hv o2, rfl, rfl, sq s4, atI_nat (hv_at eo2), ?_⟩
        refine ⟨r'.length, Nat.lt_succ_self _, o2, done ++ [u], r', rfl, s4, ?_, by rw [eu, List.append_assoc]; rfl, ?_, rfl⟩
        · rw [upd_same, nv_append]; rfl
        · cases hur with
          | root h => rw [h] at eo2; cases eo2; exact .inl ⟨rfl, rfl⟩
          | step h r => rw [h] at eo2; cases eo2; exact .inr ⟨_, _, rfl, rfl, r⟩
  · rw [List.length_map] at b
    exact q3 hs e fo b H1 s1
abbrev st_below : Stmt := topS 16
abbrev N_below : List Str := ["forest", "thing", "held"]
theorem sc_below : FnScope N_below ["forest", "thing"] (defScope st_below) := ⟨rfl, rfl, rfl, by decide +kernel, rfl, by decide +kernel, by decide +kernel⟩
theorem ok_below (D : Df K mg "below" st_below ["forest", "thing"]) (B : Bl mg) (Kcheck_forest : Kn P w K mg base (L2.CX P w) 5 "check_forest" st_check_forest ["forest"] (spCheckF CF)) (Kcheck_thing : Kn P w K mg base (L2.CX P w) 5 "check_thing" st_check_thing ["forest", "thing"] (spCheckT CT))
    (K_held_lists : Kn P w K mg base CX0 1 "_held_lists" st__held_lists ["forest"] (spHeld K)) (K_walk_through : Kn P w K mg base CX0 1 "_walk_through" st__walk_through ["held", "starts"] (spWalkT K)) :
    Kn P w K mg base (L2.CX P w) 6 "below" st_below ["forest", "thing"] (spOf2 CF CT fun hs t l => ∃ ns : List Int, l = iv ns ∧ ns.Pairwise (· ≤ ·) ∧ ∃ o : List Nat, ns.Perm (o.map fun v : Nat => (v : Int)) ∧ o.Nodup ∧ ∀ v, v ∈ o ↔ Blw hs t v) := by
  refine D.okX sc_below (fun vs H Q E h => ?_) (fun f cdv A outer s H vs Q E hr h => ?_)
  · obtain ⟨x, y, rfl, _⟩ := h; rfl
  obtain ⟨x, y, rfl, ask, vy, q1, q2, q3, q⟩ := h
  refine ⟨_, ((pss_cons (ps_expr (pe_callF Kcheck_forest (hr.mono (by decide)) (passX (takes_of rfl rfl rfl rfl)) (pa_cons (pv 0) pa_nil)))
      (pss_cons (ps_expr (pe_callF Kcheck_thing (hr.mono (by decide)) (passX (takes_of rfl rfl rfl rfl)) (pa_cons (pv 0) (pa_cons (pv 1) pa_nil))))
      (pss_cons (ps_set (i := 2) sc_below.nd rfl (Or.inl rfl) (pe_callF K_held_lists (hr.mono (by decide)) pass0 (pa_cons (pv 0) pa_nil)))
      (pss_one (ps_ret (pe_callB cr_sorted (by rfl) B.sorted (by decide +kernel) (pa_cons (pe_callF K_walk_through (hr.mono (by decide)) pass0 (pa_cons (pv 2) (pa_cons (pe_ix ix_list (pv 2) (pv 1) (fun _ _ => rfl)) pa_nil))) pa_nil)))))))), ?_⟩
  refine ⟨_, rfl, x, rfl, ask, fun ⟨hs, e, fo⟩ H1 s1 => ?_, q2⟩
  obtain ⟨a, rfl, ha⟩ := tupAt_ref e
  have hl := (ask.items _ e).1
  rw [List.length_map] at hl
  have ha1 := s1 _ _ ha
  have hl60 := q1 hs e
  refine ⟨_, rfl, _, rfl, a, _, y, rfl, ha1, vy.same s1, fun b => ?_, fun b => ?_⟩
  · rw [List.length_map] at b
    obtain ⟨t, rfl, ht⟩ := isIdx_true b
    refine ⟨_, rfl, a, hs, rfl, SqT.of ha1, hl, fo.inb, fun p as H2 s2 hp hpc hA => ?_⟩
    obtain ⟨c, hc⟩ : ∃ c, as[t]? = some c := ⟨as[t]'(by rw [hA.len]; exact ht), List.getElem?_eq_getElem _⟩
    have hc2 : (as.map V.ref)[t]? = some (.ref c) := by rw [List.getElem?_map, hc]; rfl
    refine ⟨_, rfl, _, rfl, _, rfl, p, _, _, _, rfl, rfl, SqL.of hA.lst, atI_nat hc2, p, c, as, hs, kids hs t, Blw hs t, rfl, hA, SqL.of (hA.at_ t c hc), hl, starts_kids (fo.all t ht), fun r l H3 s3 hr3 hl3 hwt => ?_⟩
    have hll := hwt.lens
    rw [List.length_nil] at hll
    have el : nv l = iv (l.map fun v : Nat => (v : Int)) := by unfold nv iv; rw [List.map_map]; rfl
    refine ⟨r, l.map (fun v : Nat => (v : Int)), rfl, SqL.of (by rw [hl3, el]; rfl), by rw [List.length_map]; omega, fun ns p2 hperm hpw hp2 => ?_⟩
    have nd := hwt.nd
    rw [List.append_nil] at nd
    have s13 := (s1.trans s2).trans s3
    exact q hs e fo t rfl ht p2 _ _ ⟨ns, rfl, hpw, l, hperm, nd, hwt.blw⟩ (s13.new hp2) (s13.free hp2) upd_same
  · rw [List.length_map] at b
    exact q3 hs e fo b H1 s1
end

end My

namespace My
open PySem PySem.Spec PyProof.Rows L2
theorem sizeTo_start (hs : Hs) : SizeTo hs (List.replicate hs.length 1) [] := by
  refine ⟨List.length_replicate, fun v hv => ?_⟩
  rw [sumP_nil, List.getD_eq_getElem?_getD, List.getElem?_replicate, if_pos hv]; rfl
theorem drop_back {l : List Nat} {i t : Nat} (hi : i < l.length) (h : l[l.length - 1 - i]? = some t) : l.drop (l.length - (i + 1)) = t :: l.drop (l.length - i) := by
  have e : l.length - (i + 1) = l.length - 1 - i := by omega
  have e2 : l.length - i = l.length - 1 - i + 1 := by omega
  have hlt : l.length - 1 - i < l.length := by omega
  rw [e, e2, List.drop_eq_getElem_cons hlt]
  rw [List.getElem?_eq_getElem hlt] at h
  rw [Option.some.inj h]
theorem nv_at {l : List Nat} {i : Nat} {x : V} (h : (nv l)[i]? = some x) : ∃ t : Nat, l[i]? = some t ∧ x = .int (t : Int) := by
  unfold nv at h
  rw [List.getElem?_map] at h
  cases e : l[i]? with
  | none => rw [e] at h; cases h
  | some t => rw [e] at h; exact ⟨t, rfl, (Option.some.inj h).symm⟩
theorem not_mem_drop {l : List Nat} (nd : l.Nodup) {i j v : Nat} (h : l[i]? = some v) (hij : i < j) : v ∉ l.drop j := fun z => by
  obtain ⟨k, hk⟩ := List.getElem?_of_mem z
  rw [List.getElem?_drop] at hk
  have e := nodup_at nd h hk
  omega
section
variable {P : Program} {w : World} {K : PySem.W.Frag} {mg : Str → Option Value} {base : Heap} {CF CT : Addr}
end

end My

namespace My
open PySem PySem.Spec PyProof.Rows L2
/-! ### lists of naturals as data -/
def nD (l : List Nat) : List PyData := l.map fun v : Nat => PyData.int ((v : Nat) : Int)
theorem dp_nv {K : PySem.W.Frag} {H : Hp} : ∀ l : List Nat, DpAll K H (nv l) (nD l)
  | [] => .nil
  | v :: l => .cons (.int (v : Int)) (dp_nv l)
theorem lay_nD : ∀ l : List Nat, PyData.canLayAll0 (nD l) = true
  | [] => rfl
  | v :: l => by
    show PyData.canLayAll0 (PyData.int (v : Int) :: nD l) = true
    rw [PyData.canLayAll0, lay_nD l]; rfl
theorem deep_nD : ∀ l : List Nat, PyData.depthAll (nD l) = 0
  | [] => rfl
  | v :: l => by
    show PyData.depthAll (PyData.int (v : Int) :: nD l) = 0
    rw [PyData.depthAll, deep_nD l]; rfl
theorem shaped_nD (l : List Nat) : SeqAt.shaped (.list (nD l)) = true := by
  unfold SeqAt.shaped
  rw [PyData.canLay0, lay_nD, PyData.depth, deep_nD]; rfl
theorem eqv_nD : ∀ a b : List Nat, PyData.eqvAll (nD a) (nD b) = decide (a = b)
  | [], [] => rfl
  | [], _ :: _ => rfl
  | _ :: _, [] => rfl
  | x :: a, y :: b => by
    show PyData.eqvAll (PyData.int (x : Int) :: nD a) (PyData.int (y : Int) :: nD b) = _
    rw [PyData.eqvAll, eqv_nD a b, PyData.eqv]
    by_cases h : x = y
    · subst h
      by_cases h2 : a = b
      · subst h2; simp
      · simp [h2]
    · have h3 : ¬ ((x : Int) = (y : Int)) := by omega
      simp [h, h3]
theorem eqv_list (a b : List PyData) : PyData.eqv (.list a) (.list b) = PyData.eqvAll a b := by rw [PyData.eqv]
theorem flat_nv (l : List Nat) : (nv l).all flatV = true := by
  rw [List.all_eq_true]
  intro y hy
  obtain ⟨v, _, rfl⟩ := List.mem_map.mp hy
  rfl
theorem inV_nv (u : Nat) (l : List Nat) : inV (.int (u : Int)) (nv l) = decide (u ∈ l) := by
  unfold inV nv
  rw [List.any_map]
  induction l with
  | nil => rfl
  | cons v l ih =>
    rw [List.any_cons, ih]
    show ((v : Int) == (u : Int) || decide (u ∈ l)) = _
    by_cases h : v = u
    · subst h; simp
    · have h1 : ((v : Int) == (u : Int)) = false := beq_eq_false_iff_ne.mpr (by omega)
      have h2 : ¬ u = v := fun q => h q.symm
      rw [h1, Bool.false_or]
      simp [h2]

/-! ### a forest of some of the things -/
/-- the place of a thing -/
def posOf (l : List Nat) (u : Nat) : Option Nat := l.findIdx? fun v => decide (v = u)
def amongH (hs : Hs) (l : List Nat) : Hs := l.map fun v => match hs[v]? with
  | some (some u) => posOf l u
  | _ => none
theorem posOf_snoc (l : List Nat) (v u : Nat) : posOf (l ++ [v]) u = (posOf l u).or (if v = u then some l.length else none) := by
  unfold posOf
  rw [List.findIdx?_append]
  by_cases c : v = u <;> simp [c]
theorem posOf_none {l : List Nat} {u : Nat} (h : ¬ u ∈ l) : posOf l u = none := by
  unfold posOf
  rw [List.findIdx?_eq_none_iff]
  intro v hv'
  exact decide_eq_false fun z => h (z ▸ hv')
/-- the dict tells the places -/
def NameK (kvs : List (Key × V)) (l : List Nat) : Prop := (∀ u : Nat, valV kvs (Sum.inl (u : Int)) = (posOf l u).map fun i : Nat => V.int ((i : Nat) : Int)) ∧ kvs.length ≤ l.length
theorem NameK.nil : NameK [] [] := ⟨fun _ => rfl, Nat.le_refl _⟩
theorem NameK.put {kvs : List (Key × V)} {l : List Nat} (h : NameK kvs l) {v : Nat} (hn : ¬ v ∈ l) : NameK (putK kvs (Sum.inl (v : Int)) (.int (l.length : Int))) (l ++ [v]) := by
  refine ⟨fun u => ?_, ?_⟩
  · rw [valV_put, posOf_snoc]
    by_cases e : u = v
    · subst e
      rw [if_pos rfl, if_pos rfl, posOf_none hn]; rfl
    · have n : ¬ (Sum.inl (u : Int) : Key) = Sum.inl (v : Int) := fun z => e (by have := Sum.inl.inj z; omega)
      rw [if_neg n, if_neg (fun z => e z.symm), Option.or_none]
      exact h.1 u
  · have z := length_putK kvs (Sum.inl (v : Int)) (V.int (l.length : Int))
    rw [List.length_append, List.length_singleton]
    have y := h.2
    omega
theorem dc_any {J : It} {n : Nat} {G : Hp → Prop} {Y : Nat → Hp → V → Hp → Prop} (wk : Walk J n G Y) {g : TG} {tt : TT} {tk tv : TE} {vs : List Nat} {σ : L2.St} {H1 : Hp} {D : Addr} {Qd : Hp → Prop} (S : Nat → Hp → Prop) (s0 : S 0 (upd H1 D (.dK [])))
    (sG : ∀ i H, i ≤ n → S i H → G H) (st : ∀ i x H H', i < n → S i H → Y i H x H' → g x (wipe σ vs) H' fun σ2 H2 => wipe σ2 vs = wipe σ vs ∧ tt σ2 H2 fun b H3 => if b = true then tk σ2 H3 fun y H4 => tv σ2 H4 fun z H5 => ∃ kvs k, y = kV k ∧ H5 D = some (.dK kvs) ∧ kvs.length < sizeLine ∧ S (i + 1) (upd H5 D (.dK (putK kvs k z))) else S (i + 1) H3)
    (fin : ∀ H, S n H → Qd H) : ∃ W : Nat → Nat → Hp → Prop, (∃ m, W 0 m (upd H1 D (.dK []))) ∧ ∀ i m H, W i m H → (J.stop i H ∧ Qd H) ∨ (J.go i H ∧ ∃ Nx : Hp → Prop, (∀ H', Nx H' → ∃ m', m' < m ∧ W (i + 1) m' H') ∧
      ∀ x H', J.yld i H x H' → g x (wipe σ vs) H' fun σ2 H2 => wipe σ2 vs = wipe σ vs ∧ tt σ2 H2 fun b H3 => if b = true then tk σ2 H3 fun y H4 => tv σ2 H4 fun z H5 => ∃ kvs k, y = kV k ∧ H5 D = some (.dK kvs) ∧ kvs.length < sizeLine ∧ Nx (upd H5 D (.dK (putK kvs k z))) else Nx H3) := by
  refine ⟨fun i m H => m + i = n ∧ S i H, ⟨n, rfl, s0⟩, fun i m H ⟨e, hS⟩ => ?_⟩
  have hG := sG i H (by omega) hS
  rcases Nat.eq_zero_or_pos m with z | z
  · have ei : i = n := by omega
    subst ei
    exact .inl ⟨wk.stops H hG, fin H hS⟩
  · have hi : i < n := by omega
    exact .inr ⟨wk.goes i H hi hG, S (i + 1), fun H' q => ⟨m - 1, by omega, by omega, q⟩, fun x H' y => st i x H H' hi hS (wk.yields i H x H' hi hG y)⟩
theorem among_len (hs : Hs) (l : List Nat) : (amongH hs l).length = l.length := List.length_map _
theorem among_step {hs : Hs} {l : List Nat} {i : Nat} (hi : i < l.length) : (amongH hs l).take (i + 1) = (amongH hs l).take i ++ [match hs[l[i]]? with
  | some (some u) => posOf l u
  | _ => none] := by
  rw [List.take_add_one, List.getElem?_eq_getElem (by rw [among_len]; exact hi)]
  unfold amongH
  rw [List.getElem_map]; rfl
def spAmong (K : PySem.W.Frag) : Sp := fun vs H Q _ => ∃ (a p : Addr) (hs : Hs) (l : List Nat), vs = [.ref a, .ref p] ∧ H a = some (.tup (hs.map hv)) ∧ (H p = some (.lst (nv l)) ∨ H p = some (.tup (nv l))) ∧ l.Nodup ∧ (∀ v ∈ l, v < hs.length) ∧ l.length ≤ 60 ∧
  ∀ r H', Same H H' → H r = none → H' r = some (.tup ((amongH hs l).map hv)) → Q (.ref r) H'
section
variable {P : Program} {w : World} {K : PySem.W.Frag} {mg : Str → Option Value} {base : Heap}
abbrev st_forest_among : Stmt := topS 17
abbrev N_forest_among : List Str := ["forest", "things", "name_of", "name", "thing"]
theorem sc_forest_among : FnScope N_forest_among ["forest", "things"] (defScope st_forest_among) := ⟨rfl, rfl, rfl, by decide +kernel, rfl, by decide +kernel, by decide +kernel⟩
theorem ok_forest_among (D : Df K mg "forest_among" st_forest_among ["forest", "things"]) (B : Bl mg) : Kn P w K mg base CX0 1 "forest_among" st_forest_among ["forest", "things"] (spAmong K) := by
  refine D.ok sc_forest_among (fun vs H Q E h => ?_) (fun f cdv A outer s H vs Q E hr h => ?_)
  · obtain ⟨a, p, hs, l, rfl, _⟩ := h; rfl
  obtain ⟨a, p, hs, l, rfl, ha, hp, nd, hlt, hl, q⟩ := h
  refine ⟨_, ((pss_cons (ps_set (i := 2) sc_forest_among.nd rfl (Or.inr rfl) (pe_dc (own := [("name", 3), ("thing", 4)]) (g := gTup K 2 (gCons (gName 3) (gCons (gName 4) gNil))) rfl sc_forest_among.nd (pi_or (pi_enum (by rfl) B.enumerate (pa_cons (pv 1) pa_nil)) (pi_enumT (by rfl) B.enumerate (pa_cons (pv 1) pa_nil))) (blkOk_by (N := N_forest_among) (sc := defScope st_forest_among) (own := [("name", 3), ("thing", 4)]) (by decide +kernel)) (fun _ _ _ _ _ => by (refine pg_tup (n := 2) ?hc ?h ?hn ?hst; (case hc => rfl); (case hn => rfl); (case hst => rfl); case h => (refine pgs_cons ?g1 ?g2; (case g1 => exact (pg_name (i := 3) sc_forest_among.nd rfl (Or.inl rfl))); case g2 => (refine pgs_cons ?g1 ?g2; (case g1 => exact (pg_name (i := 4) sc_forest_among.nd rfl (Or.inl rfl))); case g2 => (exact pgs_nil))))) (fun _ _ _ _ _ => by exact pts_nil) (fun _ _ _ _ _ => by exact (pv 4)) (fun _ _ _ _ _ => by exact (pv 3))))
      (pss_one (ps_ret (pe_callTy call_tuple_of (by rfl) B.tuple (by decide +kernel) (pa_cons (pe_lc (own := [("thing", 4)]) (g := gName 4) rfl sc_forest_among.nd (pi_or (pi_list (pv 1)) (pi_tup (pv 1))) (blkOk_by (N := N_forest_among) (sc := defScope st_forest_among) (own := [("thing", 4)]) (by decide +kernel)) (fun _ _ _ _ _ => by (exact (pg_name (i := 4) sc_forest_among.nd rfl (Or.inl rfl)))) (fun _ _ _ _ _ => by exact pts_nil) (fun _ _ _ _ _ => by exact (pe_dgetO (hu_of hr) (pv 2) (pe_ix (ix_tupK K) (pv 0) (pv 4) (fun _ _ => rfl)) ⟨by rfl, by rfl, by rfl, by rfl⟩))) pa_nil)))))), ?_⟩
  -- the turn of the walk over the things' numbers, whichever kind they are
  have turn : ∀ (i : Nat) (Y H1 H2 : Hp) (D : Addr) (T : Addr) (hi : i < l.length), Same H H1 → H D = none → (∃ kvs, H1 D = some (.dK kvs) ∧ NameK kvs (l.take i)) → H1 T = none →
      ∃ kvs, upd H1 T (.tup [.int (i : Int), .int ((l[i] : Nat) : Int)]) D = some (.dK kvs) ∧ NameK (putK kvs (Sum.inl ((l[i] : Nat) : Int)) (.int (i : Int))) (l.take (i + 1)) ∧ kvs.length ≤ 60 := fun i _ H1 _ D T hi s1 hD ⟨kvs, hk, nk⟩ hT => by
    have tk : l.take (i + 1) = l.take i ++ [l[i]] := by rw [List.take_add_one, List.getElem?_eq_getElem hi]; rfl
    have ti : (l.take i).length = i := by rw [List.length_take]; omega
    have nm : ¬ l[i] ∈ l.take i := fun m => by
      have z : (l.take i ++ [l[i]]).Nodup := by rw [← tk]; exact (List.take_sublist _ _).nodup nd
      exact (List.nodup_append.mp z).2.2 _ m _ (List.mem_singleton.mpr rfl) rfl
    refine ⟨kvs, (upd_ne (ne_of_none hk hT)).trans hk, ?_, ?_⟩
    · have z := nk.put nm
      rw [ti] at z
      rw [tk]; exact z
    · have := nk.2
      omega
  rcases hp with hp | hp
  · refine .inl ⟨_, rfl, p, _, rfl, SqL.of hp, fun D hD => dc_any (walk_enum (xs := nv l)) (fun i H' => Same H H' ∧ ∃ kvs, H' D = some (.dK kvs) ∧ NameK kvs (l.take i)) ⟨(Same.refl H).new hD, [], upd_same, .nil⟩ (fun i H' _ z => SqL.of (z.1 _ _ hp)) ?_ ?_⟩
    · rintro i x H1 H2 hi ⟨s1, kx⟩ ⟨T, x1, x2, rfl, hT, rfl, e1, e2⟩
      rw [nv_length] at hi
      have e1' := Option.some.inj e1; subst e1'
      have e2' : (nv l)[i]? = some x2 := e2
      rw [nv_get (List.getElem?_eq_getElem hi)] at e2'
      cases e2'
      obtain ⟨kvs, k1, k2, k3⟩ := turn i H1 H1 H1 D T hi s1 hD kx hT
      have s2 : Same H (upd H1 T (.tup [.int (i : Int), .int ((l[i] : Nat) : Int)])) := s1.new hT
      exact ⟨T, _, rfl, SqT.of upd_same, rfl, _, _, rfl, _, _, rfl, rfl, rfl, _, rfl, _, rfl, kvs, Sum.inl ((l[i] : Nat) : Int), rfl, k1, szl (by omega), s2.upd hD, _, upd_same, k2⟩
    · rintro H1 ⟨s1, kvs, hk, nk⟩
      rw [nv_length, List.take_length] at nk
      refine .inl ⟨_, rfl, p, rfl, ⟨_, SqL.of (s1 _ _ hp)⟩, fun L hL => lc_it (walk_list (xs := nv l)) (fun i H' => Same H1 H' ∧ H' L = some (.lst (((amongH hs l).take i).map hv))) ⟨(Same.refl H1).new hL, upd_same⟩ (fun i H' _ z => SqL.of (z.1 _ _ (s1 _ _ hp))) ?_ ?_⟩
      · rintro i x H2 H3 hi ⟨s2, o2⟩ ⟨rfl, e1⟩
        rw [nv_length] at hi
        rw [nv_get (List.getElem?_eq_getElem hi)] at e1
        cases e1
        obtain ⟨o, ho⟩ : ∃ o, hs[l[i]]? = some o := ⟨_, List.getElem?_eq_getElem (hlt _ (List.getElem_mem hi))⟩
        have hk3 := s2 _ _ hk
        have acc : ((((amongH hs l).take i).map hv).length : Nat) < sizeLine := by rw [List.length_map, List.length_take]; exact szl (by omega)
        refine ⟨rfl, _, rfl, D, rfl, .inl ⟨kvs, .inl hk3⟩, _, rfl, _, rfl, a, _, _, _, rfl, rfl, SqT.of (s2 _ _ (s1 _ _ ha)), atI_nat (hv_at ho), ?_⟩
        cases o with
        | none =>
          refine .inl ⟨rfl, ⟨kvs, hk3⟩, _, o2, acc, s2.upd hL, ?_⟩
          rw [upd_same, among_step hi, ho, List.map_append]; rfl
        | some u =>
          refine .inr ⟨_, DGet.k (k := Sum.inl (u : Int)) hk3, _, o2, acc, s2.upd hL, ?_⟩
          rw [upd_same, among_step hi, ho, List.map_append, nk.1 u]
          show some (HO.lst (_ ++ [_])) = some (HO.lst (_ ++ [hv (posOf l u)]))
          cases posOf l u <;> rfl
      · rintro H2 ⟨s2, o2⟩
        have et : (amongH hs l).take (nv l).length = amongH hs l := by rw [nv_length, ← among_len hs l, List.take_length]
        rw [et] at o2
        refine ⟨L, _, rfl, .inl ⟨SqL.of o2, fun r hr2 => ?_⟩⟩
        have s12 := s1.trans s2
        exact q r _ (s12.new hr2) (s12.free hr2) upd_same
  · refine .inr ⟨_, rfl, p, _, rfl, SqT.of hp, fun D hD => dc_any (walk_enumT (xs := nv l)) (fun i H' => Same H H' ∧ ∃ kvs, H' D = some (.dK kvs) ∧ NameK kvs (l.take i)) ⟨(Same.refl H).new hD, [], upd_same, .nil⟩ (fun i H' _ z => SqT.of (z.1 _ _ hp)) ?_ ?_⟩
    · rintro i x H1 H2 hi ⟨s1, kx⟩ ⟨T, x1, x2, rfl, hT, rfl, e1, e2⟩
      rw [nv_length] at hi
      have e1' := Option.some.inj e1; subst e1'
      have e2' : (nv l)[i]? = some x2 := e2
      rw [nv_get (List.getElem?_eq_getElem hi)] at e2'
      cases e2'
      obtain ⟨kvs, k1, k2, k3⟩ := turn i H1 H1 H1 D T hi s1 hD kx hT
      have s2 : Same H (upd H1 T (.tup [.int (i : Int), .int ((l[i] : Nat) : Int)])) := s1.new hT
      exact ⟨T, _, rfl, SqT.of upd_same, rfl, _, _, rfl, _, _, rfl, rfl, rfl, _, rfl, _, rfl, kvs, Sum.inl ((l[i] : Nat) : Int), rfl, k1, szl (by omega), s2.upd hD, _, upd_same, k2⟩
    · rintro H1 ⟨s1, kvs, hk, nk⟩
      rw [nv_length, List.take_length] at nk
      refine .inr ⟨_, rfl, p, rfl, ⟨_, SqT.of (s1 _ _ hp)⟩, fun L hL => lc_it (walk_tup (xs := nv l)) (fun i H' => Same H1 H' ∧ H' L = some (.lst (((amongH hs l).take i).map hv))) ⟨(Same.refl H1).new hL, upd_same⟩ (fun i H' _ z => SqT.of (z.1 _ _ (s1 _ _ hp))) ?_ ?_⟩
      · rintro i x H2 H3 hi ⟨s2, o2⟩ ⟨rfl, e1⟩
        rw [nv_length] at hi
        rw [nv_get (List.getElem?_eq_getElem hi)] at e1
        cases e1
        obtain ⟨o, ho⟩ : ∃ o, hs[l[i]]? = some o := ⟨_, List.getElem?_eq_getElem (hlt _ (List.getElem_mem hi))⟩
        have hk3 := s2 _ _ hk
        have acc : ((((amongH hs l).take i).map hv).length : Nat) < sizeLine := by rw [List.length_map, List.length_take]; exact szl (by omega)
        refine ⟨rfl, _, rfl, D, rfl, .inl ⟨kvs, .inl hk3⟩, _, rfl, _, rfl, a, _, _, _, rfl, rfl, SqT.of (s2 _ _ (s1 _ _ ha)), atI_nat (hv_at ho), ?_⟩
        cases o with
        | none =>
          refine .inl ⟨rfl, ⟨kvs, hk3⟩, _, o2, acc, s2.upd hL, ?_⟩
          rw [upd_same, among_step hi, ho, List.map_append]; rfl
        | some u =>
          refine .inr ⟨_, DGet.k (k := Sum.inl (u : Int)) hk3, _, o2, acc, s2.upd hL, ?_⟩
          rw [upd_same, among_step hi, ho, List.map_append, nk.1 u]
          show some (HO.lst (_ ++ [_])) = some (HO.lst (_ ++ [hv (posOf l u)]))
          cases posOf l u <;> rfl
      · rintro H2 ⟨s2, o2⟩
        have et : (amongH hs l).take (nv l).length = amongH hs l := by rw [nv_length, ← among_len hs l, List.take_length]
        rw [et] at o2
        refine ⟨L, _, rfl, .inl ⟨SqL.of o2, fun r hr2 => ?_⟩⟩
        have s12 := s1.trans s2
        exact q r _ (s12.new hr2) (s12.free hr2) upd_same
end

end My

namespace My
open PySem PySem.Spec PyProof.Rows L2
theorem askdF {H : Hp} {t : Addr} {hs : Hs} (ht : H t = some (.tup (hs.map hv))) (hl : hs.length ≤ 60) : Askd H (.ref t) := by
  refine ⟨.tup ht, fun xs e => ?_⟩
  rw [tupAt_tup ht] at e
  cases e
  refine ⟨by rw [List.length_map]; omega, fun y hy => ?_⟩
  obtain ⟨o, _, rfl⟩ := List.mem_map.mp hy
  exact vd_hv o

/-! ### what a value reads as, further on -/
theorem tupAt_sameV {H H' : Hp} {x : V} (v : Vd H x) (s : Same H H') : tupAt H' x = tupAt H x := by
  cases v with
  | lst h => rw [tupAt_lst h, tupAt_lst (s _ _ h)]
  | tup h => rw [tupAt_tup h, tupAt_tup (s _ _ h)]
  | dK h => rw [tupAt_dK h, tupAt_dK (s _ _ h)]
  | _ => rfl
theorem Askd.sameV {H H' : Hp} {x : V} (k : Askd H x) (s : Same H H') : Askd H' x :=
  ⟨k.vd.same s, fun xs e => by
    rw [tupAt_sameV k.vd s] at e
    exact ⟨(k.items xs e).1, fun y hy => ((k.items xs e).2 y hy).same s⟩⟩
theorem isF_same {H H' : Hp} {x : V} (v : Vd H x) (s : Same H H') : IsF H' x ↔ IsF H x := by
  unfold IsF
  rw [tupAt_sameV v s]
mutual
theorem Rp.same {z : Bool} {H H' : Hp} (s : Same H H') : ∀ (d : PyData) (x : V), Rp z H x d → Rp z H' x d
  | .none, _, h => by cases h; exact .non
  | .bool b, _, h => by cases h; exact .bl b
  | .int i, _, h => by cases h; exact .int i
  | .str x, _, h => by cases h; exact .str x
  | .list ds, _, h => by
    cases h with
    | lst e n r => exact .lst (s _ _ e) n (Rps.same s ds _ r)
  | .tuple ds, _, h => by
    cases h with
    | tup e r => exact .tup (s _ _ e) (Rps.same s ds _ r)
  | .dict _, _, h => by
    cases h with
    | dct y e => exact .dct y (s _ _ e)
theorem Rps.same {z : Bool} {H H' : Hp} (s : Same H H') : ∀ (ds : List PyData) (xs : List V), Rps z H xs ds → Rps z H' xs ds
  | [], _, h => by cases h; exact .nil
  | d :: ds, _, h => by
    cases h with
    | cons a r => exact .cons (Rp.same s d _ a) (Rps.same s ds _ r)
end
theorem shows_of {d : PyData} (h1 : d.showable = true) (h2 : d.leavesShort 100 = true) (h3 : d.bulk ≤ 100000) (h4 : d.depth ≤ 60) : Shows d := by
  refine ⟨h1, ?_, h4⟩
  have z := PyData.shown_le_bulk 100 (by decide) d h2
  rw [sizeLine_eq]
  omega
structure Small (d : PyData) : Prop where
  ok : d.showable = true
  short : d.leavesShort 100 = true
  bulk : d.bulk ≤ 10
  deep : d.depth ≤ 3
theorem small_all : ∀ ds : List PyData, (∀ d ∈ ds, Small d) → PyData.showableAll ds = true ∧ PyData.leavesShortAll 100 ds = true ∧ PyData.bulkAll ds ≤ 11 * ds.length ∧ PyData.depthAll ds ≤ 3
  | [], _ => ⟨rfl, rfl, Nat.le_refl _, Nat.zero_le _⟩
  | d :: ds, h => by
    obtain ⟨a, b, c, e⟩ := small_all ds fun x hx => h x (List.mem_cons_of_mem _ hx)
    have k := h d List.mem_cons_self
    refine ⟨by rw [PyData.showableAll, k.ok, a]; rfl, by rw [PyData.leavesShortAll, k.short, b]; rfl, ?_, ?_⟩
    · rw [PyData.bulkAll, List.length_cons]
      have := k.bulk
      omega
    · rw [PyData.depthAll]
      exact Nat.max_le.mpr ⟨k.deep, e⟩
theorem shows_tuple {ds : List PyData} (h : ∀ d ∈ ds, Small d) (hl : ds.length ≤ 1000) : Shows (.tuple ds) := by
  obtain ⟨a, b, c, e⟩ := small_all ds h
  exact shows_of (by rw [PyData.showable]; exact a) (by rw [PyData.leavesShort]; exact b) (by rw [PyData.bulk]; omega) (by rw [PyData.depth]; omega)
theorem shows_list {ds : List PyData} (h : ∀ d ∈ ds, Small d) (hl : ds.length ≤ 1000) : Shows (.list ds) := by
  obtain ⟨a, b, c, e⟩ := small_all ds h
  exact shows_of (by rw [PyData.showable]; exact a) (by rw [PyData.leavesShort]; exact b) (by rw [PyData.bulk]; omega) (by rw [PyData.depth]; omega)
theorem small_int {i : Int} (h : i.natAbs < 10 ^ 12) : Small (.int i) := by
  refine ⟨?_, ?_, Nat.zero_le _, Nat.zero_le _⟩
  · have z : i.natAbs < 2 ^ 1920 := Nat.lt_trans h (by decide +kernel)
    exact decide_eq_true (PySem.Flt.log2_lt_of (by decide) z)
  · exact decide_eq_true (Nat.le_trans (PyData.shown_int_le h) (by decide))
theorem small_non : Small .none := ⟨rfl, rfl, Nat.zero_le _, Nat.zero_le _⟩
theorem small_bl (b : Bool) : Small (.bool b) := ⟨rfl, rfl, Nat.zero_le _, Nat.zero_le _⟩

/-! ### parts of tuples, tuples put together -/
theorem cut_whole (xs : List V) {lo hi : Option Int} (h : HT.sIx xs.length 0 lo = 0 ∧ HT.sIx xs.length xs.length hi = xs.length) : cutV xs lo hi = xs := by
  unfold cutV
  rw [h.1, h.2, List.drop_zero, Nat.sub_zero, List.take_length]
theorem cut_mem {xs : List V} {lo hi : Option Int} {y : V} (h : y ∈ cutV xs lo hi) : y ∈ xs := List.mem_of_mem_drop (List.mem_of_mem_take h)
theorem cut_lo (xs : List V) (d : Nat) : (cutV xs none (some (d : Int))).length ≤ d := by
  unfold cutV
  rw [HT.sIx_nat, HT.sIx_none, List.length_take]
  omega
theorem cut_hi (xs : List V) (d : Nat) : (cutV xs (some (d : Int)) none).length ≤ xs.length - d := by
  unfold cutV
  rw [HT.sIx_nat, HT.sIx_none, List.length_take, List.length_drop]
  omega
theorem slA {K : PySem.W.Frag} {H : Hp} {t : Addr} {xs : List V} {lo hi : Option Int} {Q : VK} (h : H t = some (.tup xs)) (q : ∀ p H', Same H H' → H' p = some (.tup (cutV xs lo hi)) → Q (.ref p) H') : rSlA K (.ref t) lo hi H Q :=
  ⟨t, xs, rfl, SqT.of h, fun c => q t H (Same.refl H) (by rw [cut_whole xs c]; exact h), fun _ p hp => q p _ ((Same.refl H).new hp) upd_same⟩
theorem catA {K : PySem.W.Frag} {H : Hp} {a b : Addr} {xs ys : List V} {Q : VK} (ha : H a = some (.tup xs)) (hb : H b = some (.tup ys)) (hz : xs.length + ys.length ≤ 1000) (q : ∀ p H', Same H H' → H' p = some (.tup (xs ++ ys)) → Q (.ref p) H') : rCatA K (.ref a) (.ref b) H Q := by
  refine ⟨a, b, xs, ys, rfl, rfl, SqT.of ha, SqT.of hb, Nat.le_of_lt (szl hz), fun e => ?_, fun _ e => ?_, fun _ _ p hp => q p _ ((Same.refl H).new hp) upd_same⟩
  · subst e; exact q b H (Same.refl H) hb
  · subst e; exact q a H (Same.refl H) (by rw [List.append_nil]; exact ha)

/-! ### the law's own ways up, and how many things lie at or below each -/
def upF (hs : Hs) : Nat → Nat → List Nat
  | 0, _ => []
  | k + 1, v => match hs[v]? with
    | some (some u) => u :: upF hs k u
    | _ => []
def up (hs : Hs) (v : Nat) : List Nat := upF hs hs.length v
theorem upF_of {hs : Hs} {v : Nat} {l : List Nat} (a : Ups hs v l) : ∀ k : Nat, l.length ≤ k → upF hs k v = l := by
  induction a with
  | root h =>
    intro k _
    cases k with
    | zero => rfl
    | succ k => unfold upF; rw [h]
  | @step v u l h r ih =>
    intro k hk
    cases k with
    | zero => rw [List.length_cons] at hk; omega
    | succ k =>
      rw [List.length_cons] at hk
      unfold upF
      rw [h]
      show u :: upF hs k u = u :: l
      rw [ih k (by omega)]
theorem Ups.up {hs : Hs} {v : Nat} {l : List Nat} (a : Ups hs v l) : My.up hs v = l := upF_of a _ (Nat.le_of_lt a.len)
theorem Fo.ups {hs : Hs} (fo : Fo hs) {v : Nat} (h : v < hs.length) : Ups hs v (up hs v) := by
  obtain ⟨l, a⟩ := (fo.all v h).ups
  rw [a.up]; exact a
def ind (p : Prop) [Decidable p] : Int := if p then 1 else 0
theorem ind_split {hs : Hs} {v w : Nat} {l : List Nat} (a : Ups hs w l) : ind (v ∈ l) = ((kids hs v).map fun c => ind (c = w) + ind (c ∈ l)).sum := by
  have one : ∀ (cs : List Nat) (x : Nat), cs.Nodup → (cs.map fun c => ind (c = x)).sum = ind (x ∈ cs) := fun cs x => by
    induction cs with
    | nil => intro _; rfl
    | cons c cs ih =>
      intro nd
      obtain ⟨n1, n2⟩ := List.nodup_cons.mp nd
      rw [List.map_cons, List.sum_cons, ih n2]
      unfold ind
      by_cases e : c = x
      · subst e
        rw [if_pos rfl, if_neg n1, if_pos List.mem_cons_self]; rfl
      · rw [if_neg e]
        by_cases m : x ∈ cs
        · rw [if_pos m, if_pos (List.mem_cons_of_mem _ m)]; rfl
        · rw [if_neg m, if_neg (fun z => (List.mem_cons.mp z).elim (fun q => e q.symm) m)]; rfl
  have add : ∀ (cs : List Nat) (f g : Nat → Int), (cs.map fun c => f c + g c).sum = (cs.map f).sum + (cs.map g).sum := fun cs f g => by
    induction cs with
    | nil => rfl
    | cons c cs ih => rw [List.map_cons, List.sum_cons, List.map_cons, List.sum_cons, List.map_cons, List.sum_cons, ih]; omega
  induction a with
  | @root w h =>
    rw [add, one _ _ (nodup_kids hs v)]
    have z1 : ¬ w ∈ kids hs v := fun z => by rw [mem_kids.mp z] at h; cases h
    have z2 : ((kids hs v).map fun c => ind (c ∈ ([] : List Nat))).sum = 0 := by
      generalize kids hs v = cs
      induction cs with
      | nil => rfl
      | cons c cs ih =>
        rw [List.map_cons, List.sum_cons, ih]
        unfold ind
        rw [if_neg List.not_mem_nil]; rfl
    rw [z2]
    unfold ind
    rw [if_neg List.not_mem_nil, if_neg z1]; rfl
  | @step w u l h r ih =>
    rw [add] at ih ⊢
    rw [one _ _ (nodup_kids hs v)] at ih ⊢
    have nd := r.nd
    have z1 : ind (w ∈ kids hs v) = ind (v = u) := by
      unfold ind
      by_cases e : v = u
      · subst e
        rw [if_pos (mem_kids.mpr h), if_pos rfl]
      · rw [if_neg e, if_neg fun z => e ?_]
        have q := mem_kids.mp z
        rw [h] at q
        exact (Option.some.inj (Option.some.inj q)).symm
    have z2 : ∀ cs : List Nat, (cs.map fun c => ind (c ∈ u :: l)).sum = (cs.map fun c => ind (c = u)).sum + (cs.map fun c => ind (c ∈ l)).sum := fun cs => by
      rw [← add]
      congr 1
      refine List.map_congr_left fun c _ => ?_
      unfold ind
      by_cases e : c = u
      · subst e
        rw [if_pos List.mem_cons_self, if_pos rfl, if_neg (List.nodup_cons.mp nd).1]; rfl
      · rw [if_neg e]
        by_cases m : c ∈ l
        · rw [if_pos m, if_pos (List.mem_cons_of_mem _ m)]; rfl
        · rw [if_neg m, if_neg (fun z => (List.mem_cons.mp z).elim e m)]; rfl
    have z3 : ind (v ∈ u :: l) = ind (v = u) + ind (v ∈ l) := by
      have z := z2 [v]
      simpa using z
    rw [z1, z2, one _ _ (nodup_kids hs v), z3, ih]
/-- as many things as lie below one -/
def cnt (hs : Hs) (v i : Nat) : Int := ((List.range i).map fun w => ind (v ∈ up hs w)).sum
def Wt (hs : Hs) (F : List Int) : Prop := F.length = hs.length ∧ ∀ v : Nat, v < hs.length → F.getD v 0 = 1 + cnt hs v hs.length
theorem cnt_split {hs : Hs} (fo : Fo hs) (v : Nat) : ∀ i : Nat, i ≤ hs.length → cnt hs v i = ((kids hs v).map fun c => ind (c < i) + cnt hs c i).sum
  | 0, _ => by
    unfold cnt
    rw [List.range_zero]
    generalize kids hs v = cs
    show (0 : Int) = _
    induction cs with
    | nil => rfl
    | cons c cs ih => rw [List.map_cons, List.sum_cons, ← ih]; rfl
  | i + 1, h => by
    have ih := cnt_split fo v i (by omega)
    have suc : ∀ c : Nat, cnt hs c (i + 1) = cnt hs c i + ind (c ∈ up hs i) := fun c => by
      unfold cnt
      rw [List.range_succ, List.map_append, List.sum_append]
      show _ + (ind (c ∈ up hs i) + 0) = _
      omega
    rw [suc, ih, ind_split (v := v) (fo.ups (show i < hs.length by omega))]
    generalize kids hs v = cs
    induction cs with
    | nil => rfl
    | cons c cs ih2 =>
      rw [List.map_cons, List.sum_cons, List.map_cons, List.sum_cons, List.map_cons, List.sum_cons, ← ih2, suc]
      have z : ind (c < i + 1) = ind (c < i) + ind (c = i) := by
        unfold ind
        by_cases e : c = i
        · subst e
          rw [if_pos (Nat.lt_succ_self c), if_neg (Nat.lt_irrefl c), if_pos rfl]; rfl
        · rw [if_neg e]
          by_cases m : c < i
          · rw [if_pos m, if_pos (by omega)]; rfl
          · rw [if_neg m, if_neg (by omega)]; rfl
      rw [z]; omega
theorem Wt.size {hs : Hs} {F : List Int} (fo : Fo hs) (h : Wt hs F) : SizeOk hs F := by
  refine ⟨h.1, fun v hv => ?_⟩
  rw [h.2 v hv, cnt_split fo v _ (Nat.le_refl _)]
  congr 2
  refine List.map_congr_left fun c hc => ?_
  have hcl := (List.getElem?_eq_some_iff.mp (mem_kids.mp hc)).1
  rw [h.2 c hcl]
  unfold ind
  rw [if_pos hcl]
theorem size_one {hs : Hs} {F G : List Int} (fo : Fo hs) (h : SizeOk hs F) (g : SizeOk hs G) : F = G := by
  have key : ∀ (k v : Nat), v < hs.length → hs.length - (up hs v).length = k → F.getD v 0 = G.getD v 0 := fun k => by
    induction k using Nat.strongRecOn with
    | _ k ih =>
      intro v hv e
      rw [h.2 v hv, g.2 v hv]
      congr 2
      refine List.map_congr_left fun c hc => ?_
      have ec := mem_kids.mp hc
      have hcl := (List.getElem?_eq_some_iff.mp ec).1
      have u1 : up hs c = v :: up hs v := (Ups.step ec (fo.ups hv)).up
      have l1 := (fo.ups hcl).len
      refine ih (hs.length - (up hs c).length) ?_ c hcl rfl
      rw [u1, List.length_cons] at l1 ⊢
      omega
  refine List.ext_getElem (h.1.trans g.1.symm) fun i h1 h2 => ?_
  have z := key _ i (by rw [← h.1]; exact h1) rfl
  rw [List.getD_eq_getElem?_getD, List.getD_eq_getElem?_getD, List.getElem?_eq_getElem h1, List.getElem?_eq_getElem h2] at z
  exact z
def spUp : Sp := fun vs H Q _ => ∃ (t : Addr) (hs : Hs) (v : Nat), vs = [.ref t, .int (v : Int)] ∧ H t = some (.tup (hs.map hv)) ∧ Fo hs ∧ hs.length ≤ 1000 ∧ v < hs.length ∧ ∀ p H', Same H H' → H p = none → H' p = some (.lst (nv (up hs v))) → Q (.ref p) H'

theorem posOf_some {l : List Nat} {u j : Nat} (h : posOf l u = some j) : l[j]? = some u := by
  unfold posOf at h
  obtain ⟨hj, h1, _⟩ := List.findIdx?_eq_some_iff_getElem.mp h
  rw [List.getElem?_eq_getElem hj, of_decide_eq_true h1]
theorem posOf_mem {l : List Nat} {u : Nat} (h : u ∈ l) : ∃ j, posOf l u = some j := by
  unfold posOf
  cases e : l.findIdx? fun v => decide (v = u) with
  | some j => exact ⟨j, rfl⟩
  | none => exact absurd (List.findIdx?_eq_none_iff.mp e u h) (by simp)
theorem among_at {hs : Hs} {l : List Nat} {i v : Nat} (h : l[i]? = some v) : (amongH hs l)[i]? = some (match hs[v]? with
  | some (some u) => posOf l u
  | _ => none) := by
  unfold amongH
  rw [List.getElem?_map, h]; rfl
theorem fo_among {hs : Hs} {l : List Nat} (fo : Fo hs) (ne : l ≠ []) (nd : l.Nodup) (hlt : ∀ v ∈ l, v < hs.length) : Fo (amongH hs l) := by
  have key : ∀ v, Rch hs v → ∀ i, l[i]? = some v → Rch (amongH hs l) i := fun v r => by
    induction r with
    | @root v h =>
      intro i e
      refine .root ?_
      rw [among_at e, h]
    | @step v u h r ih =>
      intro i e
      by_cases m : u ∈ l
      · obtain ⟨j, ej⟩ := posOf_mem m
        refine .step (u := j) ?_ (ih j (posOf_some ej))
        rw [among_at e, h]
        show some (posOf l u) = _
        rw [ej]
      · refine .root ?_
        rw [among_at e, h]
        show some (posOf l u) = _
        rw [posOf_none m]
  refine ⟨fun z => ne ?_, fun v u e => ?_, fun v hv' => ?_⟩
  · have q := congrArg List.length z
    rw [among_len] at q
    exact List.eq_nil_of_length_eq_zero q
  · rw [among_len]
    have lt := (List.getElem?_eq_some_iff.mp e).1
    rw [among_len] at lt
    rw [among_at (List.getElem?_eq_getElem lt)] at e
    have e2 := Option.some.inj e
    cases eh : hs[l[v]]? with
    | none => rw [eh] at e2; cases e2
    | some o =>
      rw [eh] at e2
      cases o with
      | none => cases e2
      | some w =>
        have e3 : posOf l w = some u := e2
        exact (List.getElem?_eq_some_iff.mp (posOf_some e3)).1
  · rw [among_len] at hv'
    exact key l[v] (fo.all _ (hlt _ (List.getElem_mem hv'))) v (List.getElem?_eq_getElem hv')

theorem up_nat {ms : List Int} {l : List Nat} (pm : ms.Perm (l.map fun v : Nat => (v : Int))) (hs : ms.Pairwise (· ≤ ·)) (nd : l.Nodup) : ∃ ns : List Nat, ms = ns.map (fun v : Nat => (v : Int)) ∧ ns.Perm l ∧ ns.Pairwise (· < ·) := by
  have e : ms = (ms.map Int.toNat).map fun v : Nat => (v : Int) := by
    rw [List.map_map]
    conv => lhs; rw [← List.map_id ms]
    refine List.map_congr_left fun x hx => ?_
    obtain ⟨v, _, rfl⟩ := List.mem_map.mp (pm.mem_iff.mp hx)
    rfl
  have p2 : (ms.map Int.toNat).Perm l := by
    have z := pm.map Int.toNat
    rw [List.map_map] at z
    have y : l.map (Int.toNat ∘ fun v : Nat => (v : Int)) = l := by
      conv => rhs; rw [← List.map_id l]
      exact List.map_congr_left fun v _ => rfl
    rwa [y] at z
  refine ⟨ms.map Int.toNat, e, p2, ?_⟩
  generalize ms.map Int.toNat = ns at e p2
  rw [e] at hs
  have h1 : ns.Pairwise (· ≤ ·) := (List.pairwise_map.mp hs).imp fun {a b} h => by omega
  have h2 : ns.Nodup := p2.nodup_iff.mpr nd
  exact (h1.and h2).imp fun {a b} h => by have := h.1; have := h.2; omega

/-! ### changed forests: the mathematics -/
theorem iteT' {b : Bool} {A B : Prop} (e : b = true) (h : A) : if b = true then A else B := by rw [if_pos e]; exact h
theorem iteF' {b : Bool} {A B : Prop} (e : b = false) (h : B) : if b = true then A else B := by rw [if_neg (by rw [e]; exact Bool.false_ne_true)]; exact h

theorem Ups.rch {hs : Hs} {v : Nat} {l : List Nat} (a : Ups hs v l) : Rch hs v := by
  induction a with
  | root h => exact .root h
  | step h _ ih => exact .step h ih
theorem fo_ups {hs : Hs} (ne : hs ≠ []) (h : ∀ v : Nat, v < hs.length → ∃ l, Ups hs v l) : Fo hs where
  ne := ne
  inb := fun v u e => by
    obtain ⟨l, a⟩ := h v (List.getElem?_eq_some_iff.mp e).1
    cases a with
    | root h2 => rw [e] at h2; cases h2
    | step h2 r => rw [e] at h2; cases h2; exact r.lt
  all := fun v hv => by obtain ⟨l, a⟩ := h v hv; exact a.rch
def upsL (hs : Hs) : List (List Nat) := (List.range hs.length).map (up hs)
theorem upsL_len (hs : Hs) : (upsL hs).length = hs.length := by unfold upsL; rw [List.length_map, List.length_range]
theorem upsL_at {hs : Hs} {i : Nat} (h : i < hs.length) : (upsL hs)[i]? = some (up hs i) := by
  unfold upsL
  rw [List.getElem?_map, List.getElem?_range h]; rfl
def behindH (ms : Hs) (n : Nat) (top : Option Nat) : Hs := ms.map fun o => match o with
  | none => top
  | some u => some (u + n)
theorem behind_len (ms : Hs) (n : Nat) (top : Option Nat) : (behindH ms n top).length = ms.length := List.length_map _
theorem behind_step {ms : Hs} {n : Nat} {top : Option Nat} {i : Nat} {o : Option Nat} (h : ms[i]? = some o) : (behindH ms n top).take (i + 1) = (behindH ms n top).take i ++ [match o with
  | none => top
  | some u => some (u + n)] := by
  rw [List.take_add_one]
  unfold behindH
  rw [List.getElem?_map, h]; rfl
theorem Ups.app {hs ex : Hs} {v : Nat} {l : List Nat} (a : Ups hs v l) : Ups (hs ++ ex) v l := by
  induction a with
  | root h => exact .root ((List.getElem?_append_left (List.getElem?_eq_some_iff.mp h).1).trans h)
  | step h _ ih => exact .step ((List.getElem?_append_left (List.getElem?_eq_some_iff.mp h).1).trans h) ih
/-- what stands above what the top thing holds -/
def TopT (hs : Hs) (top : Option Nat) (tl : List Nat) : Prop := (top = none ∧ tl = []) ∨ ∃ o l', top = some o ∧ tl = o :: l' ∧ Ups hs o l'
theorem Ups.beh {hs ms : Hs} {v : Nat} {l : List Nat} {top : Option Nat} {tl : List Nat} (ht : TopT hs top tl) (a : Ups ms v l) : Ups (hs ++ behindH ms hs.length top) (v + hs.length) (l.map (· + hs.length) ++ tl) := by
  have at_ : ∀ (v : Nat) (o : Option Nat), ms[v]? = some o → (hs ++ behindH ms hs.length top)[v + hs.length]? = some (match o with
    | none => top
    | some u => some (u + hs.length)) := fun v o e => by
    rw [List.getElem?_append_right (by omega), Nat.add_sub_cancel]
    unfold behindH
    rw [List.getElem?_map, e]; rfl
  induction a with
  | root h =>
    rcases ht with ⟨rfl, rfl⟩ | ⟨o, l', rfl, rfl, u⟩
    · exact .root (at_ _ _ h)
    · exact .step (at_ _ _ h) u.app
  | step h _ ih => exact .step (at_ _ _ h) ih
theorem both_ups {hs ms : Hs} (fo : Fo hs) (fm : Fo ms) {top : Option Nat} {tl : List Nat} (ht : TopT hs top tl) (i : Nat) (hi : i < hs.length + ms.length) :
    Ups (hs ++ behindH ms hs.length top) i (if i < hs.length then up hs i else (up ms (i - hs.length)).map (· + hs.length) ++ tl) := by
  by_cases c : i < hs.length
  · rw [if_pos c]; exact (fo.ups c).app
  · rw [if_neg c]
    have z := (fm.ups (show i - hs.length < ms.length by omega)).beh ht
    rw [show i - hs.length + hs.length = i by omega] at z
    exact z
theorem both_fo {hs ms : Hs} (fo : Fo hs) (fm : Fo ms) {top : Option Nat} {tl : List Nat} (ht : TopT hs top tl) : Fo (hs ++ behindH ms hs.length top) := by
  refine fo_ups (fun z => fo.ne (List.append_eq_nil_iff.mp z).1) fun v hv => ⟨_, both_ups fo fm ht v ?_⟩
  rw [List.length_append, behind_len] at hv; exact hv
theorem both_upsL {hs ms : Hs} (fo : Fo hs) (fm : Fo ms) {top : Option Nat} {tl : List Nat} (ht : TopT hs top tl) :
    upsL (hs ++ behindH ms hs.length top) = upsL hs ++ (upsL ms).map fun l => l.map (· + hs.length) ++ tl := by
  refine List.ext_getElem? fun i => ?_
  by_cases c : i < hs.length + ms.length
  · rw [upsL_at (by rw [List.length_append, behind_len]; exact c), (both_ups fo fm ht i c).up]
    by_cases d : i < hs.length
    · rw [if_pos d, List.getElem?_append_left (by rw [upsL_len]; exact d), upsL_at d]
    · rw [if_neg d, List.getElem?_append_right (by rw [upsL_len]; omega), upsL_len, List.getElem?_map, upsL_at (by omega)]; rfl
  · rw [List.getElem?_eq_none (by rw [upsL_len, List.length_append, behind_len]; omega), List.getElem?_eq_none (by rw [List.length_append, upsL_len, List.length_map, upsL_len]; omega)]
/-! ### forests of some of the things -/
def posD (l : List Nat) (u : Nat) : Nat := (posOf l u).getD 0
theorem posOf_at {l : List Nat} (nd : l.Nodup) {i u : Nat} (h : l[i]? = some u) : posOf l u = some i := by
  obtain ⟨hi, e⟩ := List.getElem?_eq_some_iff.mp h
  unfold posOf
  rw [List.findIdx?_eq_some_iff_getElem]
  refine ⟨hi, decide_eq_true e, fun j hj => ?_⟩
  have hjl : j < l.length := by omega
  intro z
  have z2 := of_decide_eq_true z
  have q := nodup_at nd (List.getElem?_eq_getElem hjl) (by rw [h, z2])
  omega
theorem posD_at {l : List Nat} (nd : l.Nodup) {i u : Nat} (h : l[i]? = some u) : posD l u = i := by unfold posD; rw [posOf_at nd h]; rfl
theorem ups_among {hs : Hs} {l : List Nat} (nd : l.Nodup) (cl : ∀ v ∈ l, ∀ u : Nat, hs[v]? = some (some u) → u ∈ l ∨ ∀ m, Ups hs u m → ∀ x ∈ u :: m, ¬ x ∈ l) {v : Nat} {m : List Nat} (a : Ups hs v m) :
    ∀ i : Nat, l[i]? = some v → Ups (amongH hs l) i ((m.filter fun x => decide (x ∈ l)).map (posD l)) := by
  induction a with
  | root h =>
    intro i e
    refine .root ?_
    rw [among_at e, h]
  | @step v u m h r ih =>
    intro i e
    have q := among_at (hs := hs) e
    rw [h] at q
    rcases cl v (List.mem_of_getElem? e) u h with c | c
    · obtain ⟨j, ej⟩ := List.getElem?_of_mem c
      rw [List.filter_cons_of_pos (p := fun x => decide (x ∈ l)) (decide_eq_true c), List.map_cons, posD_at nd ej]
      refine .step ?_ (ih j ej)
      rw [q]
      show some (posOf l u) = _
      rw [posOf_at nd ej]
    · have e0 : (u :: m).filter (fun x => decide (x ∈ l)) = [] := List.filter_eq_nil_iff.mpr fun x hx z => c m r x hx (of_decide_eq_true z)
      rw [e0]
      refine .root ?_
      rw [q]
      show some (posOf l u) = _
      rw [posOf_none (c m r u List.mem_cons_self)]
/-- the thing and those below it -/
def partL (hs : Hs) (t : Nat) : List Nat := (List.range hs.length).filter fun v => decide (v = t) || decide (t ∈ up hs v)
theorem mem_partL {hs : Hs} {t v : Nat} : v ∈ partL hs t ↔ v < hs.length ∧ (v = t ∨ t ∈ up hs v) := by
  unfold partL
  rw [List.mem_filter, List.mem_range, Bool.or_eq_true, decide_eq_true_eq, decide_eq_true_eq]
theorem partL_nd (hs : Hs) (t : Nat) : (partL hs t).Nodup := List.nodup_range.filter _
theorem partL_up (hs : Hs) (t : Nat) : (partL hs t).Pairwise (· < ·) := List.pairwise_lt_range.filter _
theorem partL_cl {hs : Hs} (fo : Fo hs) {t : Nat} (ht : t < hs.length) : ∀ v ∈ partL hs t, ∀ u : Nat, hs[v]? = some (some u) → u ∈ partL hs t ∨ ∀ m, Ups hs u m → ∀ x ∈ u :: m, ¬ x ∈ partL hs t := fun v hv u e => by
  obtain ⟨hl, c⟩ := mem_partL.mp hv
  have hu : u < hs.length := fo.inb v u e
  have eu : up hs v = u :: up hs u := (Ups.step e (fo.ups hu)).up
  rcases c with rfl | c
  · refine .inr fun m a x hx z => ?_
    have nd := (Ups.step e a).nd
    obtain ⟨hx1, hx2⟩ := mem_partL.mp z
    rcases hx2 with rfl | hx2
    · exact (List.nodup_cons.mp nd).1 hx
    · obtain ⟨mx, ax, lx⟩ := (Ups.step e a).mem x hx
      rw [ax.up] at hx2
      obtain ⟨mv, av, lv⟩ := ax.mem v hx2
      rw [av.inj (.step e a)] at lv
      omega
  · refine .inl (mem_partL.mpr ⟨hu, ?_⟩)
    rw [eu] at c
    rcases List.mem_cons.mp c with c | c
    · exact .inl c.symm
    · exact .inr c
def partH (hs : Hs) (t : Nat) : Hs := amongH hs (partL hs t)
def partU (hs : Hs) (t : Nat) : List (List Nat) := (partL hs t).map fun v => ((up hs v).filter fun x => decide (x ∈ partL hs t)).map (posD (partL hs t))
theorem among_upsL {hs : Hs} {l : List Nat} (nd : l.Nodup) (lt : ∀ v ∈ l, v < hs.length) (fo : Fo hs) (cl : ∀ v ∈ l, ∀ u : Nat, hs[v]? = some (some u) → u ∈ l ∨ ∀ m, Ups hs u m → ∀ x ∈ u :: m, ¬ x ∈ l) :
    upsL (amongH hs l) = l.map fun v => ((up hs v).filter fun x => decide (x ∈ l)).map (posD l) := by
  refine List.ext_getElem? fun i => ?_
  by_cases c : i < l.length
  · have e : l[i]? = some l[i] := List.getElem?_eq_getElem c
    rw [upsL_at (by rw [among_len]; exact c), (ups_among nd cl (fo.ups (lt _ (List.getElem_mem c))) i e).up, List.getElem?_map, e]; rfl
  · rw [List.getElem?_eq_none (by rw [upsL_len, among_len]; omega), List.getElem?_eq_none (by rw [List.length_map]; omega)]
theorem part_upsL {hs : Hs} (fo : Fo hs) {t : Nat} (ht : t < hs.length) : upsL (partH hs t) = partU hs t :=
  among_upsL (partL_nd hs t) (fun _ h => (mem_partL.mp h).1) fo (partL_cl fo ht)
theorem part_fo {hs : Hs} (fo : Fo hs) {t : Nat} (ht : t < hs.length) : Fo (partH hs t) :=
  fo_among fo (fun z => by
    have m : t ∈ partL hs t := mem_partL.mpr ⟨ht, .inl rfl⟩
    rw [z] at m; cases m) (partL_nd hs t) fun _ h => (mem_partL.mp h).1
/-! ### a forest without a thing -/
def passH (hs : Hs) (t : Nat) : Hs := hs.map fun o => if o = some t then (hs[t]?).getD none else o
theorem pass_len (hs : Hs) (t : Nat) : (passH hs t).length = hs.length := List.length_map _
theorem pass_at {hs : Hs} {t v : Nat} {o : Option Nat} (h : hs[v]? = some o) : (passH hs t)[v]? = some (if o = some t then (hs[t]?).getD none else o) := by
  unfold passH
  rw [List.getElem?_map, h]; rfl
theorem pass_step {hs : Hs} {t i : Nat} {o : Option Nat} (h : hs[i]? = some o) : (passH hs t).take (i + 1) = (passH hs t).take i ++ [if o = some t then (hs[t]?).getD none else o] := by
  rw [List.take_add_one, pass_at h]; rfl
theorem ups_pass {hs : Hs} {t v : Nat} {m : List Nat} (a : Ups hs v m) : Ups (passH hs t) v (m.filter fun x => decide (x ≠ t)) := by
  induction a with
  | @root v h =>
    refine .root ?_
    rw [pass_at h, if_neg (by intro z; cases z)]
  | @step v u m h r ih =>
    have q := pass_at (t := t) h
    by_cases c : u = t
    · subst c
      rw [if_pos rfl] at q
      rw [List.filter_cons_of_neg (by simp)]
      cases r with
      | root h2 =>
        rw [h2] at q
        exact .root q
      | @step _ u2 m2 h2 r2 =>
        rw [h2] at q
        have n2 : u2 ≠ u := fun z => by
          have nd := (Ups.step h2 r2).nd
          rw [z] at nd
          exact (List.nodup_cons.mp nd).1 List.mem_cons_self
        rw [List.filter_cons_of_pos (by simpa using n2)]
        refine .step q ?_
        have ih := ih
        rw [List.filter_cons_of_pos (by simpa using n2)] at ih
        cases ih with
        | step h3 r3 =>
          rw [pass_at h2, if_neg (fun z => n2 (Option.some.inj z))] at h3
          cases h3
          exact r3
    · rw [if_neg (fun z => c (Option.some.inj z))] at q
      rw [List.filter_cons_of_pos (by simpa using c)]
      exact .step q ih
theorem pass_fo {hs : Hs} (fo : Fo hs) (t : Nat) : Fo (passH hs t) := by
  refine fo_ups (fun z => fo.ne ?_) fun v hv => ⟨_, ups_pass (fo.ups (by rw [pass_len] at hv; exact hv))⟩
  have q := congrArg List.length z
  rw [pass_len] at q
  exact List.eq_nil_of_length_eq_zero q
def othL (n t : Nat) : List Nat := (List.range n).filter fun v => decide (v ≠ t)
theorem mem_othL {n t v : Nat} : v ∈ othL n t ↔ v < n ∧ v ≠ t := by
  unfold othL
  rw [List.mem_filter, List.mem_range, decide_eq_true_eq]
theorem othL_nd (n t : Nat) : (othL n t).Nodup := List.nodup_range.filter _
theorem othL_succ (n t : Nat) : othL (n + 1) t = othL n t ++ (if n ≠ t then [n] else []) := by
  unfold othL
  rw [List.range_succ, List.filter_append]
  by_cases c : n = t <;> simp [c]
theorem othL_len (n t : Nat) : (othL n t).length ≤ n := by
  have z := List.length_filter_le (fun v => decide (v ≠ t)) (List.range n)
  rw [List.length_range] at z; exact z
theorem othL_ne {n t : Nat} (h : 2 ≤ n) : othL n t ≠ [] := fun z => by
  have m : (if t = 0 then 1 else 0) ∈ othL n t := mem_othL.mpr (by split <;> omega)
  rw [z] at m; cases m
def withoutH (hs : Hs) (t : Nat) : Hs := amongH (passH hs t) (othL hs.length t)
def withoutU (hs : Hs) (t : Nat) : List (List Nat) := (othL hs.length t).map fun v => ((up hs v).filter fun x => decide (x ≠ t)).map (posD (othL hs.length t))
theorem without_fo {hs : Hs} (fo : Fo hs) {t : Nat} (h2 : 2 ≤ hs.length) : Fo (withoutH hs t) :=
  fo_among (pass_fo fo t) (othL_ne h2) (othL_nd _ _) fun v h => by rw [pass_len]; exact (mem_othL.mp h).1
theorem without_upsL {hs : Hs} (fo : Fo hs) {t : Nat} (h2 : 2 ≤ hs.length) : upsL (withoutH hs t) = withoutU hs t := by
  have cl : ∀ v ∈ othL hs.length t, ∀ u : Nat, (passH hs t)[v]? = some (some u) → u ∈ othL hs.length t ∨ ∀ m, Ups (passH hs t) u m → ∀ x ∈ u :: m, ¬ x ∈ othL hs.length t := fun v hv u e => by
    have hu : u < hs.length := by
      have z := (pass_fo fo t).inb v u e
      rw [pass_len] at z; exact z
    refine .inl (mem_othL.mpr ⟨hu, fun z => ?_⟩)
    subst z
    obtain ⟨o, ho⟩ : ∃ o, hs[v]? = some o := ⟨_, List.getElem?_eq_getElem (mem_othL.mp hv).1⟩
    rw [pass_at ho] at e
    by_cases c : o = some u
    · rw [if_pos c, List.getElem?_eq_getElem hu] at e
      have e2 : hs[u]? = some (some u) := by rw [List.getElem?_eq_getElem hu]; exact e
      have nd := (Ups.step e2 (fo.ups hu)).nd
      exact (List.nodup_cons.mp nd).1 List.mem_cons_self
    · rw [if_neg c] at e
      exact c (Option.some.inj e)
  unfold withoutH withoutU
  rw [among_upsL (othL_nd _ _) (fun v h => by rw [pass_len]; exact (mem_othL.mp h).1) (pass_fo fo t) cl]
  refine List.map_congr_left fun v hv => ?_
  rw [(ups_pass (t := t) (fo.ups (mem_othL.mp hv).1)).up]
  congr 1
  rw [List.filter_filter]
  refine List.filter_congr fun x hx => ?_
  obtain ⟨mx, ax, _⟩ := (fo.ups (mem_othL.mp hv).1).mem x hx
  have lx := ax.lt
  by_cases c : x = t
  · simp [c]
  · have m : x ∈ othL hs.length t := mem_othL.mpr ⟨lx, c⟩
    simp [c, m]

end My

namespace My
open PySem PySem.Spec PyProof.Rows L2
/-! ### heldbehind.changes -/
def spBehind : Sp := fun vs H Q _ => ∃ (a : Addr) (ms : Hs) (n : Nat) (top : Option Nat), vs = [.ref a, .int (n : Int), hv top] ∧ H a = some (.tup (ms.map hv)) ∧ ms.length ≤ 60 ∧
  ∀ r H', Same H H' → H r = none → H' r = some (.tup ((behindH ms n top).map hv)) → Q (.ref r) H'
/-- a forest, or none -/
structure FoV (H : Hp) (x : V) : Prop where
  ask : Askd H x
  bd : ∀ hs : Hs, tupAt H x = some (hs.map hv) → hs.length ≤ 60
theorem FoV.same {H H' : Hp} {x : V} (h : FoV H x) (s : Same H H') : FoV H' x := ⟨h.ask.sameV s, fun hs e => h.bd hs (by rw [tupAt_sameV h.ask.vd s] at e; exact e)⟩
theorem foV_of {H : Hp} {a : Addr} {hs : Hs} (h : H a = some (.tup (hs.map hv))) (hl : hs.length ≤ 60) : FoV H (.ref a) := ⟨askdF h hl, fun hs' e => by
  rw [tupAt_tup h] at e
  have z := congrArg List.length (Option.some.inj e)
  rw [List.length_map, List.length_map] at z
  omega⟩
def IsH (H : Hp) (x : V) (hs : Hs) : Prop := tupAt H x = some (hs.map hv) ∧ Fo hs
theorem isF_isH {H : Hp} {x : V} (h : IsF H x) : ∃ hs, IsH H x hs := h
def spBeside (CF : Addr) : Sp := fun vs H Q E => ∃ x y : V, vs = [x, y] ∧ FoV H x ∧ FoV H y ∧ (¬ IsF H x → ∀ H', Same H H' → E (.ref CF) none H') ∧ (¬ IsF H y → ∀ H', Same H H' → E (.ref CF) none H') ∧
  ∀ hs ms : Hs, IsH H x hs → IsH H y ms → ∀ r H', Same H H' → H' r = some (.tup ((hs ++ behindH ms hs.length none).map hv)) → Q (.ref r) H'
def spGrafted (CF CT : Addr) : Sp := fun vs H Q E => ∃ x y z : V, vs = [x, y, z] ∧ FoV H x ∧ Vd H y ∧ FoV H z ∧ (¬ IsF H x → ∀ H', Same H H' → E (.ref CF) none H') ∧
  (∀ hs : Hs, IsH H x hs → isIdx (hs.length : Int) y = false → ∀ H', Same H H' → E (.ref CT) none H') ∧ (∀ hs : Hs, IsH H x hs → isIdx (hs.length : Int) y = true → ¬ IsF H z → ∀ H', Same H H' → E (.ref CF) none H') ∧
  ∀ hs ms : Hs, IsH H x hs → IsH H z ms → ∀ t : Nat, y = .int (t : Int) → t < hs.length → ∀ r H', Same H H' → H' r = some (.tup ((hs ++ behindH ms hs.length (some t)).map hv)) → Q (.ref r) H'
def spPart (CF CT : Addr) : Sp := fun vs H Q E => ∃ x y : V, vs = [x, y] ∧ FoV H x ∧ Vd H y ∧ (¬ IsF H x → ∀ H', Same H H' → E (.ref CF) none H') ∧
  (∀ hs : Hs, IsH H x hs → isIdx (hs.length : Int) y = false → ∀ H', Same H H' → E (.ref CT) none H') ∧
  ∀ hs : Hs, IsH H x hs → ∀ t : Nat, y = .int (t : Int) → t < hs.length → ∀ r H', Same H H' → H' r = some (.tup ((partH hs t).map hv)) → Q (.ref r) H'
def spWithoutF (CF CT CO : Addr) : Sp := fun vs H Q E => ∃ x y : V, vs = [x, y] ∧ FoV H x ∧ Vd H y ∧ (¬ IsF H x → ∀ H', Same H H' → E (.ref CF) none H') ∧
  (∀ hs : Hs, IsH H x hs → isIdx (hs.length : Int) y = false → ∀ H', Same H H' → E (.ref CT) none H') ∧
  (∀ hs : Hs, IsH H x hs → isIdx (hs.length : Int) y = true → hs.length = 1 → ∀ H', Same H H' → E (.ref CO) none H') ∧
  ∀ hs : Hs, IsH H x hs → ∀ t : Nat, y = .int (t : Int) → t < hs.length → 2 ≤ hs.length → ∀ r H', Same H H' → H' r = some (.tup ((withoutH hs t).map hv)) → Q (.ref r) H'
theorem asc_ext : ∀ {a b : List Nat}, a.Pairwise (· < ·) → b.Pairwise (· < ·) → (∀ v, v ∈ a ↔ v ∈ b) → a = b
  | [], [], _, _, _ => rfl
  | [], y :: b, _, _, h => absurd ((h y).mpr List.mem_cons_self) List.not_mem_nil
  | x :: a, [], _, _, h => absurd ((h x).mp List.mem_cons_self) List.not_mem_nil
  | x :: a, y :: b, ha, hb, h => by
    obtain ⟨a1, a2⟩ := List.pairwise_cons.mp ha
    obtain ⟨b1, b2⟩ := List.pairwise_cons.mp hb
    have e : x = y := by
      have p := (h x).mp List.mem_cons_self
      have q := (h y).mpr List.mem_cons_self
      rcases List.mem_cons.mp p with p | p
      · exact p
      rcases List.mem_cons.mp q with q | q
      · exact q.symm
      have := b1 x p
      have := a1 y q
      omega
    subst e
    rw [asc_ext a2 b2 fun v => ?_]
    have z := h v
    rw [List.mem_cons, List.mem_cons] at z
    refine ⟨fun m => ?_, fun m => ?_⟩
    · rcases z.mp (.inr m) with rfl | k
      · exact absurd (a1 _ m) (Nat.lt_irrefl _)
      · exact k
    · rcases z.mpr (.inr m) with rfl | k
      · exact absurd (b1 _ m) (Nat.lt_irrefl _)
      · exact k

theorem blw_up {hs : Hs} (fo : Fo hs) {t v : Nat} : Blw hs t v ↔ v < hs.length ∧ t ∈ up hs v := by
  refine ⟨fun b => ?_, fun ⟨h, m⟩ => ups_blw (fo.ups h) m⟩
  have hl : v < hs.length := by
    cases b with
    | kid h => exact (List.getElem?_eq_some_iff.mp h).1
    | step h _ => exact (List.getElem?_eq_some_iff.mp h).1
  exact ⟨hl, b.ups (fo.ups hl)⟩
section
variable {P : Program} {w : World} {K : PySem.W.Frag} {mg : Str → Option Value} {base : Heap} {CF CT CO : Addr}
abbrev st__behind : Stmt := topS 27
abbrev N__behind : List Str := ["forest", "many", "top", "holder"]
theorem sc__behind : FnScope N__behind ["forest", "many", "top"] (defScope st__behind) := ⟨rfl, rfl, rfl, by decide +kernel, rfl, by decide +kernel, by decide +kernel⟩
theorem ok__behind (D : Df K mg "_behind" st__behind ["forest", "many", "top"]) (B : Bl mg) : Kn P w K mg base CX0 1 "_behind" st__behind ["forest", "many", "top"] spBehind := by
  refine D.ok sc__behind (fun vs H Q E h => ?_) (fun f cdv A outer s H vs Q E hr h => ?_)
  · obtain ⟨a, ms, n, top, rfl, _⟩ := h; rfl
  obtain ⟨a, ms, n, top, rfl, ha, hl, q⟩ := h
  refine ⟨_, ((pss_one (ps_ret (pe_callTy call_tuple_of (by rfl) B.tuple (by decide +kernel) (pa_cons (pe_lc (own := [("holder", 3)]) (g := gName 3) rfl sc__behind.nd (pi_tup (pv 0)) (blkOk_by (N := N__behind) (sc := defScope st__behind) (own := [("holder", 3)]) (by decide +kernel)) (fun _ _ _ _ _ => by (exact (pg_name (i := 3) sc__behind.nd rfl (Or.inl rfl)))) (fun _ _ _ _ _ => by exact pts_nil) (fun _ _ _ _ _ => by exact (pe_ifExp (pt_cmpR op_isN (pv 3) pe_non (nomark _)) (pv 2) (pe_op op_add (pv 3) (pv 1))))) pa_nil))))), ?_⟩
  refine ⟨_, rfl, a, rfl, ⟨_, SqT.of ha⟩, fun L hL => lc_it (walk_tup (xs := ms.map hv)) (fun i H' => Same H H' ∧ H' L = some (.lst (((behindH ms n top).take i).map hv))) ⟨(Same.refl H).new hL, upd_same⟩ (fun i H' _ z => SqT.of (z.1 _ _ ha)) ?_ ?_⟩
  · rintro i x H1 H2 hi ⟨s1, o1⟩ ⟨rfl, e1⟩
    obtain ⟨o, ho, rfl⟩ := hv_get e1
    have hil := (List.getElem?_eq_some_iff.mp ho).1
    have acc : ((((behindH ms n top).take i).map hv).length : Nat) < sizeLine := by rw [List.length_map, List.length_take]; exact szl (by omega)
    refine ⟨rfl, _, rfl, rfl, _, rfl, ?_⟩
    cases o with
    | none =>
      refine iteT ⟨_, rfl, _, o1, acc, s1.upd hL, ?_⟩
      rw [upd_same, behind_step ho, List.map_append]; rfl
    | some u =>
      refine iteF ⟨_, rfl, _, rfl, _, _, rfl, rfl, _, o1, acc, s1.upd hL, ?_⟩
      rw [upd_same, behind_step ho, List.map_append]; rfl
  · rintro H1 ⟨s1, o1⟩
    have et : (behindH ms n top).take (ms.map hv).length = behindH ms n top := by rw [List.length_map, ← behind_len ms n top, List.take_length]
    rw [et] at o1
    exact ⟨L, _, rfl, .inl ⟨SqL.of o1, fun r hr2 => q r _ (s1.new hr2) (s1.free hr2) upd_same⟩⟩
abbrev st_beside : Stmt := topS 22
abbrev N_beside : List Str := ["forest", "other"]
theorem sc_beside : FnScope N_beside ["forest", "other"] (defScope st_beside) := ⟨rfl, rfl, rfl, by decide +kernel, rfl, by decide +kernel, by decide +kernel⟩
theorem ok_beside (D : Df K mg "beside" st_beside ["forest", "other"]) (B : Bl mg) (Kcheck_forest : Kn P w K mg base (L2.CX P w) 5 "check_forest" st_check_forest ["forest"] (spCheckF CF))
    (K_behind : Kn P w K mg base CX0 1 "_behind" st__behind ["forest", "many", "top"] spBehind) : Kn P w K mg base (L2.CX P w) 6 "beside" st_beside ["forest", "other"] (spBeside CF) := by
  refine D.okX sc_beside (fun vs H Q E h => ?_) (fun f cdv A outer s H vs Q E hr h => ?_)
  · obtain ⟨x, y, rfl, _⟩ := h; rfl
  obtain ⟨x, y, rfl, fx, fy, q1, q2, q⟩ := h
  refine ⟨_, ((pss_cons (ps_expr (pe_callF Kcheck_forest (hr.mono (by decide)) (passX (takes_of rfl rfl rfl rfl)) (pa_cons (pv 0) pa_nil)))
      (pss_cons (ps_expr (pe_callF Kcheck_forest (hr.mono (by decide)) (passX (takes_of rfl rfl rfl rfl)) (pa_cons (pv 1) pa_nil)))
      (pss_one (ps_ret (pe_op op_catA (pv 0) (pe_callF K_behind (hr.mono (by decide)) pass0 (pa_cons (pv 1) (pa_cons (pe_callB call_len (by rfl) B.len (by decide +kernel) (pa_cons (pv 0) pa_nil)) (pa_cons pe_non pa_nil)))))))))), ?_⟩
  refine ⟨_, rfl, x, rfl, fx.ask, fun isx H1 s1 => ?_, q1⟩
  refine ⟨_, rfl, y, rfl, (fy.same s1).ask, fun isy H2 s2 => ?_, fun n H2 s2 => q2 (fun z => n ((isF_same fy.ask.vd s1).mpr z)) H2 (s1.trans s2)⟩
  rw [isF_same fy.ask.vd s1] at isy
  obtain ⟨hs, hx⟩ := isF_isH isx
  obtain ⟨ms, hy⟩ := isF_isH isy
  obtain ⟨a, rfl, ha⟩ := tupAt_ref hx.1
  obtain ⟨b, rfl, hb⟩ := tupAt_ref hy.1
  have l1 := fx.bd hs hx.1
  have l2 := fy.bd ms hy.1
  have s12 := s1.trans s2
  refine ⟨_, rfl, _, rfl, _, rfl, _, _, rfl, .inr ⟨_, SqT.of (s12 _ _ ha), rfl⟩, b, ms, (hs.map hv).length, none, rfl, s12 _ _ hb, l2, fun r H3 s3 hr0 hr3 => ?_⟩
  have s13 := s12.trans s3
  refine catA (s13 _ _ ha) hr3 (by rw [List.length_map, List.length_map, behind_len]; omega) fun p H4 s4 hp => ?_
  refine q hs ms hx hy p H4 (s13.trans s4) ?_
  rw [hp, List.map_append, List.length_map]
abbrev st_grafted : Stmt := topS 23
abbrev N_grafted : List Str := ["forest", "thing", "other"]
theorem sc_grafted : FnScope N_grafted ["forest", "thing", "other"] (defScope st_grafted) := ⟨rfl, rfl, rfl, by decide +kernel, rfl, by decide +kernel, by decide +kernel⟩
theorem ok_grafted (D : Df K mg "grafted" st_grafted ["forest", "thing", "other"]) (B : Bl mg) (Kcheck_forest : Kn P w K mg base (L2.CX P w) 5 "check_forest" st_check_forest ["forest"] (spCheckF CF))
    (Kcheck_thing : Kn P w K mg base (L2.CX P w) 5 "check_thing" st_check_thing ["forest", "thing"] (spCheckT CT))
    (K_behind : Kn P w K mg base CX0 1 "_behind" st__behind ["forest", "many", "top"] spBehind) : Kn P w K mg base (L2.CX P w) 6 "grafted" st_grafted ["forest", "thing", "other"] (spGrafted CF CT) := by
  refine D.okX sc_grafted (fun vs H Q E h => ?_) (fun f cdv A outer s H vs Q E hr h => ?_)
  · obtain ⟨x, y, z, rfl, _⟩ := h; rfl
  obtain ⟨x, y, z, rfl, fx, vy, fz, q1, q2, q3, q⟩ := h
  refine ⟨_, ((pss_cons (ps_expr (pe_callF Kcheck_forest (hr.mono (by decide)) (passX (takes_of rfl rfl rfl rfl)) (pa_cons (pv 0) pa_nil)))
      (pss_cons (ps_expr (pe_callF Kcheck_thing (hr.mono (by decide)) (passX (takes_of rfl rfl rfl rfl)) (pa_cons (pv 0) (pa_cons (pv 1) pa_nil))))
      (pss_cons (ps_expr (pe_callF Kcheck_forest (hr.mono (by decide)) (passX (takes_of rfl rfl rfl rfl)) (pa_cons (pv 2) pa_nil)))
      (pss_one (ps_ret (pe_op op_catA (pv 0) (pe_callF K_behind (hr.mono (by decide)) pass0 (pa_cons (pv 2) (pa_cons (pe_callB call_len (by rfl) B.len (by decide +kernel) (pa_cons (pv 0) pa_nil)) (pa_cons (pv 1) pa_nil))))))))))), ?_⟩
  refine ⟨_, rfl, x, rfl, fx.ask, fun isx H1 s1 => ?_, q1⟩
  obtain ⟨hs, hx⟩ := isF_isH isx
  obtain ⟨a, rfl, ha⟩ := tupAt_ref hx.1
  refine ⟨_, rfl, _, rfl, a, _, y, rfl, s1 _ _ ha, vy.same s1, fun b => ?_, fun b => ?_⟩
  · rw [List.length_map] at b
    refine ⟨_, rfl, z, rfl, (fz.same s1).ask, fun isz H2 s2 => ?_, fun n H2 s2 => q3 hs hx b (fun k => n ((isF_same fz.ask.vd s1).mpr k)) H2 (s1.trans s2)⟩
    rw [isF_same fz.ask.vd s1] at isz
    obtain ⟨ms, hz⟩ := isF_isH isz
    obtain ⟨c, rfl, hc⟩ := tupAt_ref hz.1
    obtain ⟨t, rfl, ht⟩ := isIdx_true b
    have l1 := fx.bd hs hx.1
    have l2 := fz.bd ms hz.1
    have s12 := s1.trans s2
    refine ⟨_, rfl, _, rfl, _, rfl, _, _, rfl, .inr ⟨_, SqT.of (s12 _ _ ha), rfl⟩, _, rfl, c, ms, (hs.map hv).length, some t, rfl, s12 _ _ hc, l2, fun r H3 s3 hr0 hr3 => ?_⟩
    have s13 := s12.trans s3
    refine catA (s13 _ _ ha) hr3 (by rw [List.length_map, List.length_map, behind_len]; omega) fun p H4 s4 hp => ?_
    refine q hs ms hx hz t rfl ht p H4 (s13.trans s4) ?_
    rw [hp, List.map_append, List.length_map]
  · rw [List.length_map] at b
    exact q2 hs hx b H1 s1
abbrev st_part : Stmt := topS 24
abbrev N_part : List Str := ["forest", "thing"]
theorem sc_part : FnScope N_part ["forest", "thing"] (defScope st_part) := ⟨rfl, rfl, rfl, by decide +kernel, rfl, by decide +kernel, by decide +kernel⟩
theorem ok_part (D : Df K mg "part" st_part ["forest", "thing"]) (B : Bl mg) (Kforest_among : Kn P w K mg base CX0 1 "forest_among" st_forest_among ["forest", "things"] (spAmong K))
    (Kbelow : Kn P w K mg base (L2.CX P w) 6 "below" st_below ["forest", "thing"] (spOf2 CF CT fun hs t l => ∃ ns : List Int, l = iv ns ∧ ns.Pairwise (· ≤ ·) ∧ ∃ o : List Nat, ns.Perm (o.map fun v : Nat => (v : Int)) ∧ o.Nodup ∧ ∀ v, v ∈ o ↔ Blw hs t v)) :
    Kn P w K mg base (L2.CX P w) 7 "part" st_part ["forest", "thing"] (spPart CF CT) := by
  refine D.okX sc_part (fun vs H Q E h => ?_) (fun f cdv A outer s H vs Q E hr h => ?_)
  · obtain ⟨x, y, rfl, _⟩ := h; rfl
  obtain ⟨x, y, rfl, fx, vy, q1, q2, q⟩ := h
  refine ⟨_, ((pss_one (ps_ret (pe_callF Kforest_among (hr.mono (by decide)) pass0 (pa_cons (pv 0) (pa_cons (pe_callB cr_sorted (by rfl) B.sorted (by decide +kernel) (pa_cons (pe_op op_cat (pe_lst (pa_cons (pv 1) pa_nil)) (pe_callF Kbelow (hr.mono (by decide)) (passX (takes_of rfl rfl rfl rfl)) (pa_cons (pv 0) (pa_cons (pv 1) pa_nil)))) pa_nil)) pa_nil)))))), ?_⟩
  refine ⟨_, rfl, _, rfl, by show 1 ≤ sizeLine; decide, fun L hL => ?_⟩
  have s1 := (Same.refl H).new (o := .lst [y]) hL
  have oL : upd H L (.lst [y]) L = some (.lst [y]) := upd_same
  generalize upd H L (.lst [y]) = H1 at s1 oL ⊢
  have fx1 := fx.same s1
  have tx := tupAt_sameV fx.ask.vd s1
  refine ⟨_, rfl, _, rfl, x, y, rfl, fx1.ask, vy.same s1, fx1.bd, fun n H2 s2 => q1 (fun z => n ((isF_same fx.ask.vd s1).mpr z)) H2 (s1.trans s2), fun hs e fo b H2 s2 => q2 hs ⟨by rw [← tx]; exact e, fo⟩ b H2 (s1.trans s2), fun hs e fo t ey ht r l H2 hR s2 hr0 hr2 => ?_⟩
  obtain ⟨ns, rfl, pw, o, pm, nd, mo⟩ := hR
  subst ey
  rw [tx] at e
  have l60 := fx.bd hs e
  obtain ⟨a, rfl, ha⟩ := tupAt_ref e
  have s12 := s1.trans s2
  have lo : o.length ≤ hs.length := nodup_len hs.length o nd fun v hv => ((blw_up fo).mp ((mo v).mp hv)).1
  have ln : ns.length = o.length := by rw [pm.length_eq, List.length_map]
  refine ⟨L, r, _, _, rfl, rfl, s2 _ _ oL, hr2, by rw [iv_length]; exact Nat.le_of_lt (szl (by show 1 + _ ≤ 1000; omega)), fun p hp => ?_⟩
  have s3 := s12.new (o := .lst ([V.int (t : Int)] ++ iv ns)) hp
  have op : upd H2 p (.lst ([V.int (t : Int)] ++ iv ns)) p = some (.lst (iv ((t : Int) :: ns))) := upd_same
  generalize upd H2 p (.lst ([V.int (t : Int)] ++ iv ns)) = H3 at s3 op ⊢
  refine ⟨p, (t : Int) :: ns, rfl, SqL.of op, by rw [List.length_cons]; omega, fun ms p2 pm2 pw2 hp2 => ?_⟩
  have pm3 : ms.Perm ((t :: o).map fun v : Nat => (v : Int)) := pm2.trans (by rw [List.map_cons]; exact List.Perm.cons _ pm)
  have nt : ¬ t ∈ o := fun z => Blw.irr (fo.all t ht) ((mo t).mp z)
  obtain ⟨ks, rfl, pk, pwk⟩ := up_nat pm3 pw2 (List.nodup_cons.mpr ⟨nt, nd⟩)
  have ek : ks = partL hs t := asc_ext pwk (partL_up hs t) fun v => by
    rw [pk.mem_iff, List.mem_cons, mo, blw_up fo, mem_partL]
    refine ⟨fun z => ?_, fun z => ?_⟩
    · rcases z with rfl | z
      · exact ⟨ht, .inl rfl⟩
      · exact ⟨z.1, .inr z.2⟩
    · rcases z with ⟨z1, rfl | z2⟩
      · exact .inl rfl
      · exact .inr ⟨z1, z2⟩
  have eiv : (ks.map fun v : Nat => (v : Int)).map V.int = nv ks := by unfold nv; rw [List.map_map]; rfl
  rw [eiv, ek]
  have s4 := s3.new (o := .lst (nv (partL hs t))) hp2
  refine ⟨a, p2, hs, partL hs t, rfl, s4 _ _ ha, .inl upd_same, partL_nd hs t, fun v hv => (mem_partL.mp hv).1, ?_, fun r2 H5 s5 hr5 hr6 => q hs ⟨e, fo⟩ t rfl ht r2 H5 (s4.trans s5) hr6⟩
  have z : (partL hs t).length = (t :: o).length := by rw [← ek]; exact pk.length_eq
  have y := nodup_len hs.length (partL hs t) (partL_nd hs t) fun v hv => (mem_partL.mp hv).1
  omega
abbrev st_without : Stmt := topS 25
abbrev N_without : List Str := ["forest", "thing", "passed_on", "holder", "other"]
theorem sc_without : FnScope N_without ["forest", "thing"] (defScope st_without) := ⟨rfl, rfl, rfl, by decide +kernel, rfl, by decide +kernel, by decide +kernel⟩
theorem ok_without (D : Df K mg "without" st_without ["forest", "thing"]) (B : Bl mg) (EOnlyThing : Ex1 K mg "OnlyThing" CO) (Kcheck_forest : Kn P w K mg base (L2.CX P w) 5 "check_forest" st_check_forest ["forest"] (spCheckF CF))
    (Kcheck_thing : Kn P w K mg base (L2.CX P w) 5 "check_thing" st_check_thing ["forest", "thing"] (spCheckT CT)) (Kforest_among : Kn P w K mg base CX0 1 "forest_among" st_forest_among ["forest", "things"] (spAmong K)) :
    Kn P w K mg base (L2.CX P w) 6 "without" st_without ["forest", "thing"] (spWithoutF CF CT CO) := by
  refine D.okX sc_without (fun vs H Q E h => ?_) (fun f cdv A outer s H vs Q E hr h => ?_)
  · obtain ⟨x, y, rfl, _⟩ := h; rfl
  obtain ⟨x, y, rfl, fx, vy, q1, q2, q3, q⟩ := h
  refine ⟨_, ((pss_cons (ps_expr (pe_callF Kcheck_forest (hr.mono (by decide)) (passX (takes_of rfl rfl rfl rfl)) (pa_cons (pv 0) pa_nil)))
      (pss_cons (ps_expr (pe_callF Kcheck_thing (hr.mono (by decide)) (passX (takes_of rfl rfl rfl rfl)) (pa_cons (pv 0) (pa_cons (pv 1) pa_nil))))
      (pss_cons (ps_if (pt_cmpR op_eq (pe_callB call_len (by rfl) B.len (by decide +kernel) (pa_cons (pv 0) pa_nil)) pe_int (nomark _)) (pss_one (ps_raise rfl (takes_of rfl rfl rfl rfl) (pmk_own0 PySem.F.excBase_ValueError EOnlyThing.x EOnlyThing.g EOnlyThing.k (raises_own EOnlyThing.b EOnlyThing.t) rfl))) pss_nil)
      (pss_cons (ps_set (i := 2) sc_without.nd rfl (Or.inl rfl) (pe_callTy call_tuple_of (by rfl) B.tuple (by decide +kernel) (pa_cons (pe_lc (own := [("holder", 3)]) (g := gName 3) rfl sc_without.nd (pi_tup (pv 0)) (blkOk_by (N := N_without) (sc := defScope st_without) (own := [("holder", 3)]) (by decide +kernel)) (fun _ _ _ _ _ => by (exact (pg_name (i := 3) sc_without.nd rfl (Or.inl rfl)))) (fun _ _ _ _ _ => by exact pts_nil) (fun _ _ _ _ _ => by exact (pe_ifExp (pt_cmpR op_eq (pv 3) (pv 1) (nomark _)) (pe_ix (ix_tupK K) (pv 0) (pv 1) (fun _ _ => rfl)) (pv 3)))) pa_nil)))
      (pss_one (ps_ret (pe_callF Kforest_among (hr.mono (by decide)) pass0 (pa_cons (pv 2) (pa_cons (pe_lc (own := [("other", 4)]) (g := gName 4) rfl sc_without.nd (pi_range1 (by rfl) B.range (pa_cons (pe_callB call_len (by rfl) B.len (by decide +kernel) (pa_cons (pv 0) pa_nil)) pa_nil)) (blkOk_by (N := N_without) (sc := defScope st_without) (own := [("other", 4)]) (by decide +kernel)) (fun _ _ _ _ _ => by (exact (pg_name (i := 4) sc_without.nd rfl (Or.inl rfl)))) (fun _ _ _ _ _ => by exact (pts_one (pt_cmpR op_ne (pv 4) (pv 1) (nomark _)))) (fun _ _ _ _ _ => by exact (pv 4))) pa_nil)))))))))), ?_⟩
  refine ⟨_, rfl, x, rfl, fx.ask, fun isx H1 s1 => ?_, q1⟩
  obtain ⟨hs, hx⟩ := isF_isH isx
  obtain ⟨a, rfl, ha⟩ := tupAt_ref hx.1
  have l60 := fx.bd hs hx.1
  have hlm : (hs.map hv).length = hs.length := List.length_map _
  refine ⟨_, rfl, _, rfl, a, _, y, rfl, s1 _ _ ha, vy.same s1, fun b => ?_, fun b => ?_⟩
  · rw [List.length_map] at b
    obtain ⟨t, rfl, ht⟩ := isIdx_true b
    refine ⟨_, rfl, _, _, rfl, .inr ⟨_, SqT.of (s1 _ _ ha), rfl⟩, rfl, _, rfl, ?_⟩
    by_cases c1 : hs.length = 1
    · refine iteT' (decide_eq_true (by rw [hlm, c1]; rfl)) ?_
      exact q3 hs hx b c1 H1 s1
    refine iteF' (decide_eq_false (fun z => c1 (by have := V.int.inj z; omega))) ?_
    obtain ⟨ot, hot⟩ : ∃ o, hs[t]? = some o := ⟨_, List.getElem?_eq_getElem ht⟩
    refine ⟨_, rfl, a, rfl, ⟨_, SqT.of (s1 _ _ ha)⟩, fun L hL => lc_it (walk_tup (xs := hs.map hv)) (fun i H' => Same H1 H' ∧ H' L = some (.lst (((passH hs t).take i).map hv))) ⟨(Same.refl H1).new hL, upd_same⟩ (fun i H' _ z => SqT.of (z.1 _ _ (s1 _ _ ha))) ?_ ?_⟩
    · rintro i x H2 H3 hi ⟨s2, o2⟩ ⟨rfl, e1⟩
      obtain ⟨o, ho, rfl⟩ := hv_get e1
      have hil := (List.getElem?_eq_some_iff.mp ho).1
      have acc : ((((passH hs t).take i).map hv).length : Nat) < sizeLine := by rw [List.length_map, List.length_take]; exact szl (by omega)
      refine ⟨rfl, _, rfl, _, rfl, by cases o <;> rfl, _, rfl, ?_⟩
      by_cases c : o = some t
      · subst c
        refine iteT' (decide_eq_true rfl) ⟨_, rfl, _, rfl, a, _, _, _, rfl, rfl, SqT.of (s2 _ _ (s1 _ _ ha)), atI_nat (hv_at hot), _, o2, acc, s2.upd hL, ?_⟩
        rw [upd_same, pass_step ho, if_pos rfl, hot, List.map_append]; rfl
      · refine iteF' (decide_eq_false (fun z => c ?_)) ⟨_, rfl, _, o2, acc, s2.upd hL, ?_⟩
        · cases o with
          | none => cases z
          | some u => have z2 : (u : Int) = (t : Int) := V.int.inj z; congr 1; omega
        · rw [upd_same, pass_step ho, if_neg c, List.map_append]; rfl
    rintro H2 ⟨s2, o2⟩
    have et : (passH hs t).take (hs.map hv).length = passH hs t := by rw [hlm, ← pass_len hs t, List.take_length]
    rw [et] at o2
    refine ⟨L, _, rfl, .inl ⟨SqL.of o2, fun p hp => ?_⟩⟩
    have s3 := (s1.trans s2).new (o := .tup ((passH hs t).map hv)) hp
    have op : upd H2 p (.tup ((passH hs t).map hv)) p = some (.tup ((passH hs t).map hv)) := upd_same
    generalize upd H2 p (.tup ((passH hs t).map hv)) = H3 at s3 op ⊢
    refine ⟨_, rfl, _, rfl, _, _, rfl, .inr ⟨_, SqT.of (s3 _ _ ha), rfl⟩, _, rfl, by omega, by omega, fun M hM => lc_it walk_range0 (fun i H' => Same H3 H' ∧ H' M = some (.lst (nv (othL i t)))) ⟨(Same.refl H3).new hM, upd_same⟩ (fun _ _ _ _ => trivial) ?_ ?_⟩
    · rintro i x H4 H5 hi ⟨s4, o4⟩ ⟨rfl, rfl⟩
      have l4 := othL_len i t
      refine ⟨rfl, _, rfl, _, rfl, rfl, _, rfl, ?_⟩
      by_cases c : i = t
      · refine iteF' (by rw [decide_eq_true (by rw [c])]; rfl) ⟨s4, ?_⟩
        rw [o4, othL_succ, if_neg (fun z => z c), List.append_nil]
      · refine iteT' (by rw [decide_eq_false (fun z => c (by have := V.int.inj z; omega))]; rfl) ⟨_, rfl, _, o4, by rw [nv_length]; exact szl (by omega), s4.upd hM, ?_⟩
        rw [upd_same, othL_succ, if_pos c, nv_append]; rfl
    rintro H4 ⟨s4, o4⟩
    have en : (((hs.map hv).length : Nat) : Int).toNat = hs.length := by rw [hlm]; omega
    rw [en] at o4
    have h2 : 2 ≤ hs.length := by omega
    refine ⟨p, M, passH hs t, othL hs.length t, rfl, s4 _ _ op, .inl o4, othL_nd _ _, fun v h => by rw [pass_len]; exact (mem_othL.mp h).1, Nat.le_trans (othL_len _ _) l60, fun r H5 s5 hr5 hr6 => q hs hx t rfl ht h2 r H5 ((s3.trans s4).trans s5) hr6⟩
  · rw [List.length_map] at b
    exact q2 hs hx b H1 s1
end

end My

namespace My
open PySem PySem.Spec PyProof.Rows L2
/-! ### heldbehind.changes.told_ahead, for right arguments -/
theorem cut_to (xs : List V) (d : Nat) : cutV xs none (some (d : Int)) = xs.take d := by
  unfold cutV
  rw [HT.sIx_nat, HT.sIx_none, List.drop_zero, Nat.sub_zero]
  by_cases c : d ≤ xs.length
  · rw [Nat.min_eq_left c]
  · rw [Nat.min_eq_right (by omega), List.take_of_length_le (Nat.le_refl _), List.take_of_length_le (by omega)]
theorem cut_from (xs : List V) (d : Nat) : cutV xs (some (d : Int)) none = xs.drop d := by
  unfold cutV
  rw [HT.sIx_nat, HT.sIx_none]
  by_cases c : d ≤ xs.length
  · rw [Nat.min_eq_left c, List.take_of_length_le (by rw [List.length_drop]; omega)]
  · rw [Nat.min_eq_right (by omega), List.drop_of_length_le (Nat.le_refl _), List.drop_of_length_le (by omega), List.take_nil]
theorem cut_mid (xs : List V) {i j : Nat} (h : i ≤ j) (hj : j ≤ xs.length) : cutV xs (some (i : Int)) (some (j : Int)) = (xs.drop i).take (j - i) := by
  unfold cutV
  rw [HT.sIx_nat, HT.sIx_nat, Nat.min_eq_left (by omega), Nat.min_eq_left (by omega)]
theorem nv_take (l : List Nat) (d : Nat) : (nv l).take d = nv (l.take d) := by unfold nv; rw [List.map_take]
theorem nv_drop (l : List Nat) (d : Nat) : (nv l).drop d = nv (l.drop d) := by unfold nv; rw [List.map_drop]

theorem isIdx_nat {n t : Nat} (h : t < n) : isIdx (n : Int) (.int (t : Int)) = true := by
  show (decide (0 ≤ (t : Int)) && decide ((t : Int) < (n : Int))) = true
  rw [decide_eq_true (by omega), decide_eq_true (by omega)]; rfl

theorem catA_ask {K : PySem.W.Frag} {H0 H : Hp} {a b : Addr} {xs ys : List V} {Q : VK} (ha : H a = some (.tup xs)) (hb : H b = some (.tup ys)) (s : Same H0 H) (na : H0 a = none) (nb : H0 b = none) (hz : xs.length + ys.length ≤ sizeLine)
    (q : ∀ r H', Same H0 H' → H0 r = none → H' r = some (.tup (xs ++ ys)) → Q (.ref r) H') : rCatA K (.ref a) (.ref b) H Q :=
  ⟨a, b, xs, ys, rfl, rfl, SqT.of ha, SqT.of hb, hz, fun e => q b H s nb (by rw [e]; exact hb), fun _ e => q a H s na (by rw [e, List.append_nil]; exact ha), fun _ _ p hp => q p _ (s.new hp) (s.free hp) upd_same⟩
theorem slA_to {K : PySem.W.Frag} {H : Hp} {a : Addr} {xs : List V} {y : Nat} {Q : VK} (ha : H a = some (.tup xs)) (hy : y < xs.length) (q : ∀ p, H p = none → Q (.ref p) (upd H p (.tup (xs.take y)))) : rSlA K (.ref a) none (some (y : Int)) H Q :=
  ⟨a, xs, rfl, SqT.of ha, fun z => by rw [HT.sIx_nat] at z; omega, fun _ p hp => by rw [cut_to]; exact q p hp⟩
theorem slA_from {K : PySem.W.Frag} {H : Hp} {a : Addr} {xs : List V} {y : Nat} {Q : VK} (ha : H a = some (.tup xs)) (hy : 1 ≤ y) (h1 : y ≤ xs.length) (q : ∀ p, H p = none → Q (.ref p) (upd H p (.tup (xs.drop y)))) : rSlA K (.ref a) (some (y : Int)) none H Q :=
  ⟨a, xs, rfl, SqT.of ha, fun z => by rw [HT.sIx_nat] at z; omega, fun _ p hp => by rw [cut_from]; exact q p hp⟩
def spTold47 (CF CT CS CN : Addr) : Sp := fun vs H Q E => ∃ x y z : V, vs = [x, y, z] ∧ FoV H x ∧ Vd H y ∧ Vd H z ∧ (¬ IsF H x → ∀ H', Same H H' → E (.ref CF) none H') ∧
  (∀ hs : Hs, IsH H x hs → isIdx (hs.length : Int) y = false → ∀ H', Same H H' → E (.ref CT) none H') ∧ (∀ hs : Hs, IsH H x hs → isIdx (hs.length : Int) y = true → isIdx (hs.length : Int) z = false → ∀ H', Same H H' → E (.ref CT) none H') ∧
  (∀ hs : Hs, IsH H x hs → ∀ t : Nat, y = .int (t : Int) → z = .int (t : Int) → t < hs.length → ∀ H', Same H H' → E (.ref CS) none H') ∧
  (∀ hs : Hs, IsH H x hs → ∀ t u : Nat, y = .int (t : Int) → z = .int (u : Int) → t < hs.length → u < hs.length → t ≠ u → (∀ H', Same H H' → E (.ref CN) none H') ∧ ∀ v H', Same H H' → Q v H')
section
variable {P : Program} {w : World} {K : PySem.W.Frag} {mg : Str → Option Value} {base : Heap} {CF CT CS CN : Addr}
abbrev st_told_ahead : Stmt := topS 26
abbrev N_told_ahead : List Str := ["forest", "thing", "other", "above_thing", "above_other"]
theorem sc_told_ahead : FnScope N_told_ahead ["forest", "thing", "other"] (defScope st_told_ahead) := ⟨rfl, rfl, rfl, by decide +kernel, rfl, by decide +kernel, by decide +kernel⟩
theorem ok_told_ahead (D : Df K mg "told_ahead" st_told_ahead ["forest", "thing", "other"]) (B : Bl mg) (ESameThing : Ex1 K mg "SameThing" CS) (ENoForest : Ex1 K mg "NoForest" CN)
    (Kabove : Kn P w K mg base (L2.CX P w) 6 "above" st_above ["forest", "thing"] (spOf2 CF CT fun hs t l => ∃ o, l = nv o ∧ Ups hs t o)) :
    Kn P w K mg base (L2.CX P w) 7 "told_ahead" st_told_ahead ["forest", "thing", "other"] (spTold47 CF CT CS CN) := by
  refine D.okX sc_told_ahead (fun vs H Q E h => ?_) (fun f cdv A outer s H vs Q E hr h => ?_)
  · obtain ⟨x, y, z, rfl, _⟩ := h; rfl
  obtain ⟨vx, vy, vz, rfl, fx, dy, dz, q1, q2, q3, q4, q5⟩ := h
  refine ⟨_, ((pss_cons (ps_par (i := 3) (j := 4) (by rfl) sc_told_ahead.nd rfl rfl (by decide) rfl rfl (pa_cons (pe_callF Kabove (hr.mono (by decide)) (passX (takes_of rfl rfl rfl rfl)) (pa_cons (pv 0) (pa_cons (pv 1) pa_nil))) (pa_cons (pe_callF Kabove (hr.mono (by decide)) (passX (takes_of rfl rfl rfl rfl)) (pa_cons (pv 0) (pa_cons (pv 2) pa_nil))) pa_nil)) (by rfl))
      (pss_cons (ps_if (pt_cmpR op_eq (pv 1) (pv 2) (nomark _)) (pss_one (ps_raise rfl (takes_of rfl rfl rfl rfl) (pmk_own0 PySem.F.excBase_ValueError ESameThing.x ESameThing.g ESameThing.k (raises_own ESameThing.b ESameThing.t) rfl))) pss_nil)
      (pss_cons (ps_if (pt_cmpR op_in_seq (pv 1) (pv 4) (by rfl)) (pss_one (ps_ret (pv 0))) pss_nil)
      (pss_cons (ps_if (pt_cmpR op_in_seq (pv 2) (pv 3) (by rfl)) (pss_one (ps_ret pe_non)) pss_nil)
      (pss_cons (ps_if (PW.pt (pw_and (pt_cmpR op_notN (pe_ix ix_tup (pv 0) (pv 2) (fun _ _ => rfl)) pe_non (nomark _)) (pw_and1 (pt_cmpR op_notIn_seq (pe_ix ix_tup (pv 0) (pv 2) (fun _ _ => rfl)) (pv 3) (by rfl))))) (pss_one (ps_raise rfl (takes_of rfl rfl rfl rfl) (pmk_own0 PySem.F.excBase_ValueError ENoForest.x ENoForest.g ENoForest.k (raises_own ENoForest.b ENoForest.t) rfl))) pss_nil)
      (pss_one (ps_ret (pe_op op_catA (pe_op op_catA (pe_slice sl_tupA (pv 0) po_none (po_some (pv 2))) (pe_tup (pa_cons (pv 1) pa_nil))) (pe_slice sl_tupA (pv 0) (po_some (pe_op op_add (pv 2) pe_int)) po_none)))))))))), ?_⟩
  refine ⟨_, rfl, _, rfl, vx, vy, rfl, fx.ask, dy, fx.bd, q1, fun hs e fo b => q2 hs ⟨e, fo⟩ b, fun hs e fo x et hx r l H1 ⟨o, el, uo⟩ s1 hr0 hr1 => ?_⟩
  subst et
  have ix : isIdx (hs.length : Int) (.int (x : Int)) = true := isIdx_nat hx
  have eo : up hs x = o := (fo.ups hx).inj uo
  subst eo
  subst el
  have fx1 := fx.same s1
  have e1 : tupAt H1 vx = some (hs.map hv) := by rw [tupAt_sameV fx.ask.vd s1]; exact e
  have hl := fx.bd hs e
  obtain ⟨a, rfl, ha⟩ := tupAt_ref e
  have hlm : (hs.map hv).length = hs.length := List.length_map _
  have same : ∀ {H' : Hp} {hs' : Hs}, H' a = some (.tup (hs.map hv)) → tupAt H' (.ref a) = some (hs'.map hv) → hs = hs' := fun {H' hs'} h e => by
    rw [tupAt_tup h] at e
    exact hv_inj (Option.some.inj e)
  have ha1 := s1 _ _ ha
  refine ⟨_, rfl, _, rfl, .ref a, vz, rfl, fx1.ask, dz.same s1, fx1.bd, fun n => absurd ⟨hs, e1, fo⟩ n, fun hs' e' _ b H2 s2 => ?_, fun hs' e' fo' y et hy r2 l H2 ⟨o, el, uo⟩ s2 hr20 hr2 => ?_⟩
  · rw [← same ha1 e'] at b
    exact q3 hs ⟨e, fo⟩ ix b H2 (s1.trans s2)
  have eh := same ha1 e'
  subst eh
  subst et
  have eo : up hs y = o := (fo.ups hy).inj uo
  subst eo
  subst el
  have s02 := s1.trans s2
  have hr12 := s2 _ _ hr1
  refine ⟨_, _, rfl, ?_⟩
  have ha2 := s02 _ _ ha
  by_cases ne : x = y
  · subst ne
    exact ⟨_, rfl, _, rfl, rfl, _, rfl, iteT' (decide_eq_true rfl) (q4 hs ⟨e, fo⟩ x rfl rfl hx H2 s02)⟩
  obtain ⟨qe, qv⟩ := q5 hs ⟨e, fo⟩ x y rfl rfl hx hy ne
  refine ⟨_, rfl, _, rfl, rfl, _, rfl, iteF' (decide_eq_false fun z => ne (by have := V.int.inj z; omega)) ?_⟩
  refine ⟨_, rfl, _, rfl, r2, _, rfl, .inl (SqL.of hr2), rfl, flat_nv _, _, rfl, ?_⟩
  by_cases m1 : x ∈ up hs y
  · exact iteT' (by show inV _ _ = _; rw [inV_nv, decide_eq_true m1]) ⟨_, rfl, qv _ H2 s02⟩
  refine iteF' (by show inV _ _ = _; rw [inV_nv, decide_eq_false m1]) ?_
  refine ⟨_, rfl, _, rfl, r, _, rfl, .inl (SqL.of hr12), rfl, flat_nv _, _, rfl, ?_⟩
  by_cases m2 : y ∈ up hs x
  · exact iteT' (by show inV _ _ = _; rw [inV_nv, decide_eq_true m2]) (qv _ H2 s02)
  refine iteF' (by show inV _ _ = _; rw [inV_nv, decide_eq_false m2]) ?_
  have fin : (∀ u : Nat, hs[y]? = some (some u) → u ∈ up hs x) → ∀ p H', Same H H' → H p = none → H' p = some (.tup ((hs.map hv).take y ++ [V.int (x : Int)] ++ (hs.map hv).drop (y + 1))) → Q (.ref p) H' := fun c p H' s hp e => qv _ H' s
  obtain ⟨ov, ho⟩ : ∃ ov, hs[y]? = some ov := ⟨_, List.getElem?_eq_getElem hy⟩
  refine ⟨_, rfl, _, rfl, a, _, _, _, rfl, rfl, SqT.of ha2, atI_nat (hv_at ho), rfl, _, rfl, ?_⟩
  have last : (∀ u : Nat, hs[y]? = some (some u) → u ∈ up hs x) → ∀ p H', Same H H' → H p = none → H' p = some (.tup ((hs.map hv).take y ++ [V.int (x : Int)] ++ (hs.map hv).drop (y + 1))) → Q (.ref p) H' := fin
  cases ov with
  | none =>
    refine iteF' (by rw [decide_eq_true (show hv none = V.non from rfl)]; rfl) (iteF ?_)
    dsimp only [tNoPart]
    refine ⟨_, rfl, _, rfl, _, rfl, slA_to ha2 (by rw [hlm]; exact hy) fun p1 hp1 => ?_⟩
    have s3 := s02.new (o := .tup ((hs.map hv).take y)) hp1
    have o1 : upd H2 p1 (.tup ((hs.map hv).take y)) p1 = some (.tup ((hs.map hv).take y)) := upd_same
    generalize upd H2 p1 (.tup ((hs.map hv).take y)) = H3 at s3 o1 ⊢
    have n1 := s02.free hp1
    refine ⟨_, rfl, by show 1 ≤ sizeLine; decide, fun p2 hp2 => ?_⟩
    have s4 := s3.new (o := .tup [.int (x : Int)]) hp2
    have o2 : upd H3 p2 (.tup [.int (x : Int)]) p2 = some (.tup [.int (x : Int)]) := upd_same
    have o12 := ((Same.refl H3).new (o := .tup [.int (x : Int)]) hp2) _ _ o1
    generalize upd H3 p2 (.tup [.int (x : Int)]) = H4 at s4 o2 o12 ⊢
    have n2 := s3.free hp2
    have bd : ((hs.map hv).take y).length + ([V.int (x : Int)]).length ≤ sizeLine := by
      rw [List.length_take, hlm]
      exact Nat.le_of_lt (szl (by show min y hs.length + 1 ≤ 1000; omega))
    refine catA_ask o12 o2 s4 n1 n2 bd fun p3 H5 s5 n3 o3 => ?_
    dsimp only [tNoPart]
    refine ⟨_, rfl, _, rfl, _, _, rfl, rfl, _, rfl, ?_⟩
    rw [show (y : Int) + 1 = ((y + 1 : Nat) : Int) by omega]
    dsimp only [tNoPart]
    refine slA_from (y := y + 1) (s5 _ _ ha) (by omega) (by rw [hlm]; omega) fun p4 hp4 => ?_
    have s6 := s5.new (o := .tup ((hs.map hv).drop (y + 1))) hp4
    have o4 : upd H5 p4 (.tup ((hs.map hv).drop (y + 1))) p4 = some (.tup ((hs.map hv).drop (y + 1))) := upd_same
    have o34 := ((Same.refl H5).new (o := .tup ((hs.map hv).drop (y + 1))) hp4) _ _ o3
    generalize upd H5 p4 (.tup ((hs.map hv).drop (y + 1))) = H6 at s6 o4 o34 ⊢
    have n4 := s5.free hp4
    refine catA_ask o34 o4 s6 n3 n4 (by
      rw [List.length_append, List.length_take, List.length_drop, hlm]
      exact Nat.le_of_lt (szl (by show min y hs.length + 1 + (hs.length - (y + 1)) ≤ 1000; omega))) fun p5 H7 s7 n5 o5 => ?_
    exact last (fun u e => by rw [ho] at e; cases e) p5 H7 s7 n5 o5
  | some u =>
    refine iteT' (by rw [decide_eq_false (show ¬ hv (some u) = V.non from fun z => by cases z)]; rfl) ?_
    refine ⟨_, rfl, _, rfl, a, _, _, _, rfl, rfl, SqT.of ha2, atI_nat (hv_at ho), _, rfl, r, _, rfl, .inl (SqL.of hr12), rfl, flat_nv _, _, rfl, ?_⟩
    by_cases m3 : u ∈ up hs x
    · refine iteF' (by show (!inV (V.int (u : Int)) _) = _; rw [inV_nv, decide_eq_true m3]; rfl) ?_
      dsimp only [tNoPart]
      refine ⟨_, rfl, _, rfl, _, rfl, slA_to ha2 (by rw [hlm]; exact hy) fun p1 hp1 => ?_⟩
      have s3 := s02.new (o := .tup ((hs.map hv).take y)) hp1
      have o1 : upd H2 p1 (.tup ((hs.map hv).take y)) p1 = some (.tup ((hs.map hv).take y)) := upd_same
      generalize upd H2 p1 (.tup ((hs.map hv).take y)) = H3 at s3 o1 ⊢
      have n1 := s02.free hp1
      refine ⟨_, rfl, by show 1 ≤ sizeLine; decide, fun p2 hp2 => ?_⟩
      have s4 := s3.new (o := .tup [.int (x : Int)]) hp2
      have o2 : upd H3 p2 (.tup [.int (x : Int)]) p2 = some (.tup [.int (x : Int)]) := upd_same
      have o12 := ((Same.refl H3).new (o := .tup [.int (x : Int)]) hp2) _ _ o1
      generalize upd H3 p2 (.tup [.int (x : Int)]) = H4 at s4 o2 o12 ⊢
      have n2 := s3.free hp2
      have bd : ((hs.map hv).take y).length + ([V.int (x : Int)]).length ≤ sizeLine := by
        rw [List.length_take, hlm]
        exact Nat.le_of_lt (szl (by show min y hs.length + 1 ≤ 1000; omega))
      refine catA_ask o12 o2 s4 n1 n2 bd fun p3 H5 s5 n3 o3 => ?_
      dsimp only [tNoPart]
      refine ⟨_, rfl, _, rfl, _, _, rfl, rfl, _, rfl, ?_⟩
      rw [show (y : Int) + 1 = ((y + 1 : Nat) : Int) by omega]
      dsimp only [tNoPart]
      refine slA_from (y := y + 1) (s5 _ _ ha) (by omega) (by rw [hlm]; omega) fun p4 hp4 => ?_
      have s6 := s5.new (o := .tup ((hs.map hv).drop (y + 1))) hp4
      have o4 : upd H5 p4 (.tup ((hs.map hv).drop (y + 1))) p4 = some (.tup ((hs.map hv).drop (y + 1))) := upd_same
      have o34 := ((Same.refl H5).new (o := .tup ((hs.map hv).drop (y + 1))) hp4) _ _ o3
      generalize upd H5 p4 (.tup ((hs.map hv).drop (y + 1))) = H6 at s6 o4 o34 ⊢
      have n4 := s5.free hp4
      refine catA_ask o34 o4 s6 n3 n4 (by
        rw [List.length_append, List.length_take, List.length_drop, hlm]
        exact Nat.le_of_lt (szl (by show min y hs.length + 1 + (hs.length - (y + 1)) ≤ 1000; omega))) fun p5 H7 s7 n5 o5 => ?_
      exact last (fun u e => by rw [ho] at e; rw [← Option.some.inj (Option.some.inj e)]; exact m3) p5 H7 s7 n5 o5
    · exact iteT' (by show (!inV (V.int (u : Int)) _) = _; rw [inV_nv, decide_eq_false m3]; rfl) (qe H2 s02)
end

end My

namespace My
open PySem PySem.Spec PyProof.Rows L2
def hD : Option Nat → PyData
  | none => .none
  | some u => .int (u : Int)
theorem rps_hv {z : Bool} {H : Hp} : ∀ hs : Hs, Rps z H (hs.map hv) (hs.map hD)
  | [] => .nil
  | none :: hs => .cons .non (rps_hv hs)
  | some u :: hs => .cons (.int (u : Int)) (rps_hv hs)
theorem small_hD {hs : Hs} (ib : InB hs) (hl : hs.length ≤ 60) : ∀ d ∈ hs.map hD, Small d := fun d hd => by
  obtain ⟨o, ho, rfl⟩ := List.mem_map.mp hd
  obtain ⟨v, e⟩ := List.getElem?_of_mem ho
  cases o with
  | none => exact small_non
  | some u =>
    have q := ib v u e
    exact small_int (by have z : (10 : Nat) ^ 12 = 1000000000000 := by decide
                        omega)

def spLaw (K : PySem.W.Frag) : Sp := fun vs H Q _ => ∃ (a : Addr) (ns : List Int), vs = [.ref a] ∧ SqL K H a (ns.map V.int) ∧ ns.length ≤ 63 ∧ ∀ H', Q (.bl true) H'
theorem Well.ne {H : Hp} {wl p : Addr} {n : Nat} (w : Well H wl n) (h : H p = none) : p ≠ wl := by
  obtain ⟨l, e⟩ := w.here
  exact (ne_of_none e h).symm
theorem thenK {H H1 H2 : Hp} {wl : Addr} (s : Same H H1) (hn : H wl = none) (k : Keep wl H1 H2) : Same H H2 := fun b o e => k b o (ne_of_none e hn) (s b o e)
theorem isF_fo {H : Hp} {x : V} {hs : Hs} (e : tupAt H x = some (hs.map hv)) (h : IsF H x) : Fo hs := by
  obtain ⟨hs', e', fo⟩ := h
  rw [e] at e'
  rw [hv_inj (Option.some.inj e')]; exact fo
/-- values that are no forests: by what their tuple is -/
theorem noF_none {H : Hp} {x : V} (h : tupAt H x = none) : ¬ IsF H x := fun ⟨hs, e, _⟩ => by rw [h] at e; cases e
theorem noF_nil {H : Hp} {x : V} (h : tupAt H x = some []) : ¬ IsF H x := fun ⟨hs, e, fo⟩ => by
  rw [h] at e
  have z := Option.some.inj e
  cases hs with
  | nil => exact fo.ne rfl
  | cons o r => cases z
theorem noF_odd {H : Hp} {x : V} {xs : List V} {y : V} (h : tupAt H x = some (xs ++ [y])) (hy : ∀ o, y ≠ hv o) : ¬ IsF H x := fun ⟨hs, e, fo⟩ => by
  rw [h] at e
  have z := Option.some.inj e
  have hm : y ∈ hs.map hv := by rw [← z]; simp
  obtain ⟨o, _, ho⟩ := List.mem_map.mp hm
  exact hy o ho.symm
theorem snoc_hs {hs hs' : Hs} {o : Option Nat} (h : hs.map hv ++ [hv o] = hs'.map hv) : hs' = hs ++ [o] := by
  have e : (hs ++ [o]).map hv = hs'.map hv := by rw [List.map_append]; exact h
  exact (hv_inj e).symm
theorem noF_self {H : Hp} {x : V} {hs : Hs} (h : tupAt H x = some (hs.map hv ++ [.int (hs.length : Int)])) : ¬ IsF H x := fun ⟨hs', e, fo⟩ => by
  rw [h] at e
  have z := snoc_hs (o := some hs.length) (Option.some.inj e)
  subst z
  have hat : (hs ++ [some hs.length])[hs.length]? = some (some hs.length) := by
    rw [List.getElem?_append_right (Nat.le_refl _), Nat.sub_self]; rfl
  have no : ∀ v, Rch (hs ++ [some hs.length]) v → v ≠ hs.length := fun v r => by
    induction r with
    | root h1 => intro e1; rw [e1, hat] at h1; cases h1
    | step h1 _ ih =>
      intro e1
      rw [e1, hat] at h1
      cases h1
      exact ih rfl
  exact no hs.length (fo.all hs.length (by rw [List.length_append]; exact Nat.lt_succ_self _)) rfl
theorem noF_far {H : Hp} {x : V} {hs : Hs} (h : tupAt H x = some (hs.map hv ++ [.int ((hs.length : Int) + 1)])) : ¬ IsF H x := fun ⟨hs', e, fo⟩ => by
  rw [h] at e
  have z := snoc_hs (o := some (hs.length + 1)) (Option.some.inj e)
  subst z
  have hat : (hs ++ [some (hs.length + 1)])[hs.length]? = some (some (hs.length + 1)) := by
    rw [List.getElem?_append_right (Nat.le_refl _), Nat.sub_self]; rfl
  have q := fo.inb _ _ hat
  rw [List.length_append] at q
  exact Nat.lt_irrefl _ q
theorem askd_tup {H : Hp} {a : Addr} {xs : List V} (h : H a = some (.tup xs)) (hl : xs.length ≤ 1000) (hv' : ∀ y ∈ xs, Vd H y) : Askd H (.ref a) :=
  ⟨.tup h, fun ys e => by rw [tupAt_tup h] at e; cases e; exact ⟨hl, hv'⟩⟩
theorem askd_no {H : Hp} {x : V} (v : Vd H x) (h : tupAt H x = none) : Askd H x := ⟨v, fun ys e => by rw [h] at e; cases e⟩
theorem hv_ne_str (z : Str) (o : Option Nat) : V.str z ≠ hv o := by cases o <;> (intro e; cases e)
theorem hv_ne_bl (z : Bool) (o : Option Nat) : V.bl z ≠ hv o := by cases o <;> (intro e; cases e)
abbrev slL (a t : Addr) (at' : Int) (wl : Addr) (x : V) (way : Int) (y : V) (due : Str) (v7 v8 : Option V) : L2.St := [some (.ref a), some (.int at'), some (.ref wl), some x, some (.int way), some y, some (.str due), v7, v8]

/-- the heap without some of its objects (the well, the row that grows) -/
def Off (P : Addr → Bool) (H : Hp) : Hp := fun a => if P a = true then none else H a
theorem Off.at {P : Addr → Bool} {p : Addr} {H : Hp} {o : HO} (n : P p = false) (h : H p = some o) : Off P H p = some o := by
  unfold Off; rw [if_neg (by rw [n]; exact Bool.false_ne_true)]; exact h
theorem Off.keep {P : Addr → Bool} {wl : Addr} {H H' : Hp} (k : Keep wl H H') (pw : P wl = true) : Same (Off P H) (Off P H') := fun b o h => by
  unfold Off at h ⊢
  by_cases c : P b = true
  · rw [if_pos c] at h; cases h
  · rw [if_neg c] at h ⊢
    exact k b o (fun e => c (by rw [e]; exact pw)) h
theorem Off.same {P : Addr → Bool} {H : Hp} : Same (Off P H) H := fun b o h => by
  unfold Off at h
  by_cases c : P b = true
  · rw [if_pos c] at h; cases h
  · rw [if_neg c] at h; exact h
theorem Off.upd {P : Addr → Bool} {H : Hp} {a : Addr} {o : HO} (pa : P a = true) : Same (Off P H) (Off P (upd H a o)) := Off.keep (Keep.upd a H o) pa
theorem ne_P {P : Addr → Bool} {wl p : Addr} (pw : P wl = true) (n : P p = false) : p ≠ wl := fun e => by rw [e, pw] at n; cases n
theorem catA_w {K : PySem.W.Frag} {H : Hp} {a b : Addr} {P : Addr → Bool} {xs ys : List V} {Q : VK} (ha : H a = some (.tup xs)) (hb : H b = some (.tup ys)) (na : P a = false) (nb : P b = false) (hz : xs.length + ys.length ≤ 1000) (pn : ∀ a, H a = none → P a = false)
    (q : ∀ p H', Same H H' → P p = false → H' p = some (.tup (xs ++ ys)) → Q (.ref p) H') : rCatA K (.ref a) (.ref b) H Q := by
  refine ⟨a, b, xs, ys, rfl, rfl, SqT.of ha, SqT.of hb, Nat.le_of_lt (szl hz), fun e => ?_, fun _ e => ?_, fun _ _ p hp => q p _ ((Same.refl H).new hp) (pn p hp) upd_same⟩
  · subst e; exact q b H (Same.refl H) nb hb
  · subst e; exact q a H (Same.refl H) na (by rw [List.append_nil]; exact ha)
theorem slA_w {K : PySem.W.Frag} {H : Hp} {t : Addr} {P : Addr → Bool} {xs : List V} {lo hi : Option Int} {Q : VK} (h : H t = some (.tup xs)) (nt : P t = false) (pn : ∀ a, H a = none → P a = false) (q : ∀ p H', Same H H' → P p = false → H' p = some (.tup (cutV xs lo hi)) → Q (.ref p) H') : rSlA K (.ref t) lo hi H Q :=
  ⟨t, xs, rfl, SqT.of h, fun c => q t H (Same.refl H) nt (by rw [cut_whole xs c]; exact h), fun _ p hp => q p _ ((Same.refl H).new hp) (pn p hp) upd_same⟩
/-- what can be shown, a little larger -/
structure Md (d : PyData) : Prop where
  ok : d.showable = true
  short : d.leavesShort 100 = true
  bulk : d.bulk ≤ 2000
  deep : d.depth ≤ 20
theorem Small.md {d : PyData} (s : Small d) : Md d := ⟨s.ok, s.short, Nat.le_trans s.bulk (by decide), Nat.le_trans s.deep (by decide)⟩
theorem md_big : Md (.int ((10 : Int) ^ (39 : Int).toNat)) := ⟨by decide +kernel, by decide +kernel, Nat.zero_le _, Nat.zero_le _⟩
theorem md_gib : Md (.int (0 - (10 : Int) ^ (39 : Int).toNat)) := ⟨by decide +kernel, by decide +kernel, Nat.zero_le _, Nat.zero_le _⟩
theorem small_s0 : Small (.str "0") := ⟨by decide +kernel, by decide +kernel, by decide +kernel, by decide +kernel⟩
theorem small_s1 : Small (.str "-") := ⟨by decide +kernel, by decide +kernel, by decide +kernel, by decide +kernel⟩
theorem small_s2 : Small (.str "") := ⟨by decide +kernel, by decide +kernel, by decide +kernel, by decide +kernel⟩
theorem small_t0 : Small (.tuple [.int 0]) := ⟨by decide +kernel, by decide +kernel, by decide +kernel, by decide +kernel⟩
theorem small_l0 : Small (.list [.int 0]) := ⟨by decide +kernel, by decide +kernel, by decide +kernel, by decide +kernel⟩
theorem small_ln : Small (.list [.none]) := ⟨by decide +kernel, by decide +kernel, by decide +kernel, by decide +kernel⟩
theorem small_d0 : Small (.dict []) := ⟨by decide +kernel, by decide +kernel, by decide +kernel, by decide +kernel⟩
theorem md_tuple {ds : List PyData} (h : ∀ d ∈ ds, Small d) (hl : ds.length ≤ 60) : Md (.tuple ds) := by
  obtain ⟨a, b, c, e⟩ := small_all ds h
  exact ⟨by rw [PyData.showable]; exact a, by rw [PyData.leavesShort]; exact b, by rw [PyData.bulk]; omega, by rw [PyData.depth]; omega⟩
theorem md_list {ds : List PyData} (h : ∀ d ∈ ds, Small d) (hl : ds.length ≤ 60) : Md (.list ds) := by
  obtain ⟨a, b, c, e⟩ := small_all ds h
  exact ⟨by rw [PyData.showable]; exact a, by rw [PyData.leavesShort]; exact b, by rw [PyData.bulk]; omega, by rw [PyData.depth]; omega⟩
theorem md_inner {ds : List PyData} (h : ∀ d ∈ ds, Small d) (hl : ds.length ≤ 60) : Md (.tuple [.tuple ds]) := by
  obtain ⟨a, b, c, e⟩ := small_all ds h
  refine ⟨?_, ?_, ?_, ?_⟩
  · rw [PyData.showable, PyData.showableAll, PyData.showable, a]; rfl
  · rw [PyData.leavesShort, PyData.leavesShortAll, PyData.leavesShort, b]; rfl
  · rw [PyData.bulk, PyData.bulkAll, PyData.bulk, PyData.bulkAll]; omega
  · rw [PyData.depth, PyData.depthAll, PyData.depth, PyData.depthAll]; omega
theorem md_row : ∀ ds : List PyData, (∀ d ∈ ds, Md d) → PyData.showableAll ds = true ∧ PyData.leavesShortAll 100 ds = true ∧ PyData.bulkAll ds ≤ 2001 * ds.length ∧ PyData.depthAll ds ≤ 20
  | [], _ => ⟨rfl, rfl, Nat.le_refl _, Nat.zero_le _⟩
  | d :: ds, h => by
    obtain ⟨a, b, c, e⟩ := md_row ds fun x hx => h x (List.mem_cons_of_mem _ hx)
    have k := h d List.mem_cons_self
    refine ⟨by rw [PyData.showableAll, k.ok, a]; rfl, by rw [PyData.leavesShortAll, k.short, b]; rfl, ?_, ?_⟩
    · rw [PyData.bulkAll, List.length_cons]
      have := k.bulk
      omega
    · rw [PyData.depthAll]
      exact Nat.max_le.mpr ⟨k.deep, e⟩
theorem shows_row {ds : List PyData} (h : ∀ d ∈ ds, Md d) (hl : ds.length ≤ 10) : Shows (.list ds) := by
  obtain ⟨a, b, c, e⟩ := md_row ds h
  exact shows_of (by rw [PyData.showable]; exact a) (by rw [PyData.leavesShort]; exact b) (by rw [PyData.bulk]; omega) (by rw [PyData.depth]; omega)
theorem Rps.app {z : Bool} {H : Hp} : ∀ {xs : List V} {ds : List PyData} {ys : List V} {es : List PyData}, Rps z H xs ds → Rps z H ys es → Rps z H (xs ++ ys) (ds ++ es)
  | _, _, _, _, .nil, b => b
  | _, _, _, _, .cons h r, b => .cons h (Rps.app r b)
/-- no forest: some things hold one another in a ring -/
theorem noF_ring {H : Hp} {x : V} {hs : Hs} (h : tupAt H x = some (hs.map hv)) (S : Nat → Prop) {v0 : Nat} (h0 : S v0) (hl : v0 < hs.length) (cl : ∀ v, S v → ∃ u, hs[v]? = some (some u) ∧ S u) : ¬ IsF H x := fun ⟨hs', e, fo⟩ => by
  rw [h] at e
  have z := hv_inj (Option.some.inj e)
  subst z
  have no : ∀ v, Rch hs v → ¬ S v := fun v r => by
    induction r with
    | root h1 =>
      intro s
      obtain ⟨u, e1, _⟩ := cl _ s
      rw [h1] at e1; cases e1
    | step h1 _ ih =>
      intro s
      obtain ⟨u, e1, s1⟩ := cl _ s
      rw [h1] at e1
      have := Option.some.inj (Option.some.inj e1)
      exact ih (by rw [this]; exact s1)
  exact no v0 (fo.all v0 hl) h0

end My

namespace My
open PySem PySem.Spec PyProof.Rows L2
/-- a value that is no forest; a value that is no thing -/
structure BadV (H : Hp) (v : V) : Prop where
  fov : FoV H v
  no : ¬ IsF H v
  rp : ∃ d, Rp true H v d ∧ Md d
structure OddV (H : Hp) (n : Nat) (v : V) : Prop where
  vd : Vd H v
  no : isIdx (n : Int) v = false
  rp : ∃ d, Rp true H v d ∧ Md d
def InB2 (ms : Hs) : Prop := ∀ v u : Nat, ms[v]? = some (some u) → u ≤ 60
theorem small_hD2 {hs : Hs} (ib : InB2 hs) : ∀ d ∈ hs.map hD, Small d := fun d hd => by
  obtain ⟨o, ho, rfl⟩ := List.mem_map.mp hd
  obtain ⟨v, e⟩ := List.getElem?_of_mem ho
  cases o with
  | none => exact small_non
  | some u =>
    have q := ib v u e
    exact small_int (by have z : (10 : Nat) ^ 12 = 1000000000000 := by decide
                        omega)
def spBroken : Sp := fun vs H Q _ => ∃ (wl t : Addr) (n : Nat) (hs : Hs) (P : Addr → Bool), vs = [.ref wl, .ref t] ∧ Well H wl n ∧ n < 2 ^ 50 ∧ H t = some (.tup (hs.map hv)) ∧ InB hs ∧ hs.length ≤ 10 ∧ P wl = true ∧ P t = false ∧ (∀ a, H a = none → P a = false) ∧
  ∀ v H', Keep wl H H' → Well H' wl (n + 1) → BadV (Off P H') v → Q v H'
def spOdd : Sp := fun vs H Q _ => ∃ (wl : Addr) (m n : Nat) (P : Addr → Bool), vs = [.ref wl, .int (m : Int)] ∧ Well H wl n ∧ n < 2 ^ 50 ∧ m ≤ 60 ∧ P wl = true ∧ (∀ a, H a = none → P a = false) ∧
  ∀ v H', Keep wl H H' → Well H' wl (n + 1) → OddV (Off P H') m v → Q v H'
theorem ib3 {ms : Hs} (h : ms.all (fun o => match o with
  | none => true
  | some u => decide (u ≤ 60)) = true) : InB2 ms := fun v u e => by
  have z := List.all_eq_true.mp h _ (List.mem_of_getElem? e)
  exact of_decide_eq_true z
section
variable {P : Program} {w : World} {K : PySem.W.Frag} {mg : Str → Option Value} {base : Heap}
abbrev st__law_broken : Stmt := topS 32
abbrev N__law_broken : List Str := ["well", "plan", "size", "some"]
theorem sc__law_broken : FnScope N__law_broken ["well", "plan"] (defScope st__law_broken) := ⟨rfl, rfl, rfl, by decide +kernel, rfl, by decide +kernel, by decide +kernel⟩
theorem ok__law_broken (D : Df K mg "_law_broken" st__law_broken ["well", "plan"]) (B : Bl mg) (K_law_draw : Kn P w K mg base CX0 1 "_law_draw" st__law_draw ["well", "most"] spDraw) :
    Kn P w K mg base CX0 2 "_law_broken" st__law_broken ["well", "plan"] spBroken := by
  refine D.ok sc__law_broken (fun vs H Q E h => ?_) (fun f cdv A outer s H vs Q E hr h => ?_)
  · obtain ⟨wl, t, n, hs, P0, rfl, _⟩ := h; rfl
  obtain ⟨wl, t, n, hs, P0, rfl, w, hn, ht, ib, hl, pw, tw, pn, q⟩ := h
  refine ⟨_, ((pss_cons (ps_set (i := 2) sc__law_broken.nd rfl (Or.inl rfl) (pe_callB call_len (by rfl) B.len (by decide +kernel) (pa_cons (pv 1) pa_nil)))
      (pss_cons (ps_set (i := 3) sc__law_broken.nd rfl (Or.inl rfl) (pe_lst (pa_cons pe_non (pa_cons (pe_tup pa_nil) (pa_cons (pe_callTy call_list_ofN (by rfl) B.list (by decide +kernel) (pa_cons (pv 1) pa_nil)) (pa_cons pe_dnewK (pa_cons pe_str (pa_cons pe_int (pa_cons pe_bl (pa_cons (pe_op op_catA (pv 1) (pe_tup (pa_cons (pv 2) pa_nil))) (pa_cons (pe_op op_catA (pv 1) (pe_tup (pa_cons (pe_op op_add (pv 2) pe_int) pa_nil))) (pa_cons (pe_op op_catA (pv 1) (pe_tup (pa_cons (pe_un un_neg pe_int) pa_nil))) pa_nil))))))))))))
      (pss_cons (ps_set (i := 3) sc__law_broken.nd rfl (Or.inl rfl) (pe_op op_cat (pv 3) (pe_lst (pa_cons (pe_op op_catA (pv 1) (pe_tup (pa_cons pe_bl pa_nil))) (pa_cons (pe_op op_catA (pv 1) (pe_tup (pa_cons pe_str pa_nil))) (pa_cons (pe_op op_catA (pv 1) (pe_tup (pa_cons (pe_tup (pa_cons pe_int pa_nil)) pa_nil))) (pa_cons (pe_op op_catA (pv 1) (pe_tup (pa_cons (pe_lstN (pa_cons pe_non pa_nil)) pa_nil))) (pa_cons (pe_tup (pa_cons (pv 1) pa_nil)) pa_nil))))))))
      (pss_cons (ps_set (i := 3) sc__law_broken.nd rfl (Or.inl rfl) (pe_op op_cat (pv 3) (pe_lst (pa_cons (pe_op op_catA (pe_tup (pa_cons pe_int (pa_cons pe_int pa_nil))) (pe_slice sl_tupA (pv 1) (po_some pe_int) po_none)) (pa_cons (pe_tup (pa_cons pe_int (pa_cons pe_int (pa_cons pe_int pa_nil)))) (pa_cons (pe_tup (pa_cons pe_non (pa_cons pe_int (pa_cons pe_int (pa_cons pe_int pa_nil))))) (pa_cons (pe_tup (pa_cons pe_non (pa_cons pe_non (pa_cons pe_int pa_nil)))) pa_nil)))))))
      (pss_one (ps_ret (pe_ix ix_list (pv 3) (pe_callF K_law_draw (hr.mono (by decide)) pass0 (pa_cons (pv 0) (pa_cons (pe_callB call_len (by rfl) B.len (by decide +kernel) (pa_cons (pv 3) pa_nil)) pa_nil))) (fun _ _ => rfl))))))))), ?_⟩
  have hlm : (hs.map hv).length = hs.length := List.length_map _
  have q0 : Same H H := Same.refl H
  refine ⟨_, rfl, _, _, rfl, .inr ⟨_, SqT.of ht, rfl⟩, ?_⟩
  refine ⟨by show 0 ≤ sizeLine; decide, fun pe hpe => ?_⟩
  have npe : P0 pe = false := pn _ (q0.free hpe)
  have g1 : Same H (upd H pe (.tup [])) := (Same.refl _).new hpe
  have ope : upd H pe (.tup []) pe = some (.tup []) := upd_same
  generalize upd H pe (.tup []) = J1 at g1 ope ⊢
  have q1 := q0.trans g1
  refine ⟨_, rfl, t, _, rfl, .inr (SqT.of (q1 _ _ ht)), fun pl hpl mpl => ?_⟩
  have npl : P0 pl = false := pn _ (q1.free hpl)
  have g2 : Same J1 (upd J1 pl (.lst (hs.map hv))) := (Same.refl _).new hpl
  have opl : upd J1 pl (.lst (hs.map hv)) pl = some (.lst (hs.map hv)) := upd_same
  generalize upd J1 pl (.lst (hs.map hv)) = J2 at g2 opl ⊢
  have q2 := q1.trans g2
  intro pd hpd
  have npd : P0 pd = false := pn _ (q2.free hpd)
  have g3 : Same J2 (upd J2 pd (.dK [])) := (Same.refl _).new hpd
  have opd : upd J2 pd (.dK []) pd = some (.dK []) := upd_same
  generalize upd J2 pd (.dK []) = J3 at g3 opd ⊢
  have q3 := q2.trans g3
  refine ⟨_, rfl, _, rfl, by show 1 ≤ sizeLine; decide, fun pat hpat => ?_⟩
  have npat : P0 pat = false := pn _ (q3.free hpat)
  have g4 : Same J3 (upd J3 pat (.tup [.int ((hs.map hv).length : Int)])) := (Same.refl _).new hpat
  have opat : upd J3 pat (.tup [.int ((hs.map hv).length : Int)]) pat = some (.tup [.int ((hs.map hv).length : Int)]) := upd_same
  generalize upd J3 pat (.tup [.int ((hs.map hv).length : Int)]) = J4 at g4 opat ⊢
  have q4 := q3.trans g4
  refine catA_w (q4 _ _ ht) opat tw npat (by simp only [List.length_append, List.length_cons, List.length_nil, cut_from, List.length_drop]; omega) (fun a z => pn a (q4.free z)) fun pa J5 g5 npa opa => ?_
  have q5 := q4.trans g5
  refine ⟨_, rfl, _, rfl, _, _, rfl, rfl, by show 1 ≤ sizeLine; decide, fun pbt hpbt => ?_⟩
  dsimp only
  have npbt : P0 pbt = false := pn _ (q5.free hpbt)
  have g6 : Same J5 (upd J5 pbt (.tup [.int (((hs.map hv).length : Int) + 1)])) := (Same.refl _).new hpbt
  have opbt : upd J5 pbt (.tup [.int (((hs.map hv).length : Int) + 1)]) pbt = some (.tup [.int (((hs.map hv).length : Int) + 1)]) := upd_same
  generalize upd J5 pbt (.tup [.int (((hs.map hv).length : Int) + 1)]) = J6 at g6 opbt ⊢
  have q6 := q5.trans g6
  refine catA_w (q6 _ _ ht) opbt tw npbt (by simp only [List.length_append, List.length_cons, List.length_nil, cut_from, List.length_drop]; omega) (fun a z => pn a (q6.free z)) fun pb J7 g7 npb opb => ?_
  have q7 := q6.trans g7
  refine ⟨_, rfl, _, rfl, by show 1 ≤ sizeLine; decide, fun pct hpct => ?_⟩
  have npct : P0 pct = false := pn _ (q7.free hpct)
  have g8 : Same J7 (upd J7 pct (.tup [.int (-1)])) := (Same.refl _).new hpct
  have opct : upd J7 pct (.tup [.int (-1)]) pct = some (.tup [.int (-1)]) := upd_same
  generalize upd J7 pct (.tup [.int (-1)]) = J8 at g8 opct ⊢
  have q8 := q7.trans g8
  refine catA_w (q8 _ _ ht) opct tw npct (by simp only [List.length_append, List.length_cons, List.length_nil, cut_from, List.length_drop]; omega) (fun a z => pn a (q8.free z)) fun pc J9 g9 npc opc => ?_
  have q9 := q8.trans g9
  refine ⟨by show 10 ≤ sizeLine; decide, fun L hL => ?_⟩
  have nL : P0 L = false := pn _ (q9.free hL)
  have g10 : Same J9 (upd J9 L (.lst [.non, .ref pe, .ref pl, .ref pd, .str "-", .int 5, .bl true, .ref pa, .ref pb, .ref pc])) := (Same.refl _).new hL
  have oL : upd J9 L (.lst [.non, .ref pe, .ref pl, .ref pd, .str "-", .int 5, .bl true, .ref pa, .ref pb, .ref pc]) L = some (.lst [.non, .ref pe, .ref pl, .ref pd, .str "-", .int 5, .bl true, .ref pa, .ref pb, .ref pc]) := upd_same
  generalize upd J9 L (.lst [.non, .ref pe, .ref pl, .ref pd, .str "-", .int 5, .bl true, .ref pa, .ref pb, .ref pc]) = J10 at g10 oL ⊢
  have q10 := q9.trans g10
  refine ⟨_, rfl, ?_⟩
  refine ⟨_, rfl, by show 1 ≤ sizeLine; decide, fun ptt hptt => ?_⟩
  have nptt : P0 ptt = false := pn _ (q10.free hptt)
  have g11 : Same J10 (upd J10 ptt (.tup [.bl true])) := (Same.refl _).new hptt
  have optt : upd J10 ptt (.tup [.bl true]) ptt = some (.tup [.bl true]) := upd_same
  generalize upd J10 ptt (.tup [.bl true]) = J11 at g11 optt ⊢
  have q11 := q10.trans g11
  refine catA_w (q11 _ _ ht) optt tw nptt (by simp only [List.length_append, List.length_cons, List.length_nil, cut_from, List.length_drop]; omega) (fun a z => pn a (q11.free z)) fun pt J12 g12 npt opt => ?_
  have q12 := q11.trans g12
  refine ⟨_, rfl, by show 1 ≤ sizeLine; decide, fun pst hpst => ?_⟩
  have npst : P0 pst = false := pn _ (q12.free hpst)
  have g13 : Same J12 (upd J12 pst (.tup [.str "0"])) := (Same.refl _).new hpst
  have opst : upd J12 pst (.tup [.str "0"]) pst = some (.tup [.str "0"]) := upd_same
  generalize upd J12 pst (.tup [.str "0"]) = J13 at g13 opst ⊢
  have q13 := q12.trans g13
  refine catA_w (q13 _ _ ht) opst tw npst (by simp only [List.length_append, List.length_cons, List.length_nil, cut_from, List.length_drop]; omega) (fun a z => pn a (q13.free z)) fun ps J14 g14 nps ops => ?_
  have q14 := q13.trans g14
  refine ⟨_, rfl, by show 1 ≤ sizeLine; decide, fun pz hpz => ?_⟩
  have npz : P0 pz = false := pn _ (q14.free hpz)
  have g15 : Same J14 (upd J14 pz (.tup [.int 0])) := (Same.refl _).new hpz
  have opz : upd J14 pz (.tup [.int 0]) pz = some (.tup [.int 0]) := upd_same
  generalize upd J14 pz (.tup [.int 0]) = J15 at g15 opz ⊢
  have q15 := q14.trans g15
  refine ⟨by show 1 ≤ sizeLine; decide, fun put hput => ?_⟩
  have nput : P0 put = false := pn _ (q15.free hput)
  have g16 : Same J15 (upd J15 put (.tup [.ref pz])) := (Same.refl _).new hput
  have oput : upd J15 put (.tup [.ref pz]) put = some (.tup [.ref pz]) := upd_same
  generalize upd J15 put (.tup [.ref pz]) = J16 at g16 oput ⊢
  have q16 := q15.trans g16
  refine catA_w (q16 _ _ ht) oput tw nput (by simp only [List.length_append, List.length_cons, List.length_nil, cut_from, List.length_drop]; omega) (fun a z => pn a (q16.free z)) fun pu J17 g17 npu opu => ?_
  have q17 := q16.trans g17
  refine ⟨_, rfl, by show 1 ≤ sizeLine; decide, fun py hpy mpy => ?_⟩
  have npy : P0 py = false := pn _ (q17.free hpy)
  have g18 : Same J17 (upd J17 py (.lst [.non])) := (Same.refl _).new hpy
  have opy : upd J17 py (.lst [.non]) py = some (.lst [.non]) := upd_same
  generalize upd J17 py (.lst [.non]) = J18 at g18 opy ⊢
  have q18 := q17.trans g18
  refine ⟨by show 1 ≤ sizeLine; decide, fun pvt hpvt => ?_⟩
  have npvt : P0 pvt = false := pn _ (q18.free hpvt)
  have g19 : Same J18 (upd J18 pvt (.tup [.ref py])) := (Same.refl _).new hpvt
  have opvt : upd J18 pvt (.tup [.ref py]) pvt = some (.tup [.ref py]) := upd_same
  generalize upd J18 pvt (.tup [.ref py]) = J19 at g19 opvt ⊢
  have q19 := q18.trans g19
  refine catA_w (q19 _ _ ht) opvt tw npvt (by simp only [List.length_append, List.length_cons, List.length_nil, cut_from, List.length_drop]; omega) (fun a z => pn a (q19.free z)) fun pv J20 g20 npv opv => ?_
  have q20 := q19.trans g20
  refine ⟨_, rfl, by show 1 ≤ sizeLine; decide, fun pp hpp => ?_⟩
  have npp : P0 pp = false := pn _ (q20.free hpp)
  have g21 : Same J20 (upd J20 pp (.tup [.ref t])) := (Same.refl _).new hpp
  have opp : upd J20 pp (.tup [.ref t]) pp = some (.tup [.ref t]) := upd_same
  generalize upd J20 pp (.tup [.ref t]) = J21 at g21 opp ⊢
  have q21 := q20.trans g21
  refine ⟨by show 5 ≤ sizeLine; decide, fun M hM => ?_⟩
  have nM : P0 M = false := pn _ (q21.free hM)
  have g22 : Same J21 (upd J21 M (.lst [.ref pt, .ref ps, .ref pu, .ref pv, .ref pp])) := (Same.refl _).new hM
  have oM : upd J21 M (.lst [.ref pt, .ref ps, .ref pu, .ref pv, .ref pp]) M = some (.lst [.ref pt, .ref ps, .ref pu, .ref pv, .ref pp]) := upd_same
  generalize upd J21 M (.lst [.ref pt, .ref ps, .ref pu, .ref pv, .ref pp]) = J22 at g22 oM ⊢
  have q22 := q21.trans g22
  refine ⟨L, M, _, _, rfl, rfl, ((((((((((((g11.trans g12).trans g13).trans g14).trans g15).trans g16).trans g17).trans g18).trans g19).trans g20).trans g21).trans g22) _ _ oL), oM, by show 15 ≤ sizeLine; decide, fun L2 hL2 => ?_⟩
  have nL2 : P0 L2 = false := pn _ (q22.free hL2)
  have g23 : Same J22 (upd J22 L2 (.lst ([.non, .ref pe, .ref pl, .ref pd, .str "-", .int 5, .bl true, .ref pa, .ref pb, .ref pc] ++ [.ref pt, .ref ps, .ref pu, .ref pv, .ref pp]))) := (Same.refl _).new hL2
  have oL2 : upd J22 L2 (.lst ([.non, .ref pe, .ref pl, .ref pd, .str "-", .int 5, .bl true, .ref pa, .ref pb, .ref pc] ++ [.ref pt, .ref ps, .ref pu, .ref pv, .ref pp])) L2 = some (.lst ([.non, .ref pe, .ref pl, .ref pd, .str "-", .int 5, .bl true, .ref pa, .ref pb, .ref pc] ++ [.ref pt, .ref ps, .ref pu, .ref pv, .ref pp])) := upd_same
  generalize upd J22 L2 (.lst ([.non, .ref pe, .ref pl, .ref pd, .str "-", .int 5, .bl true, .ref pa, .ref pb, .ref pc] ++ [.ref pt, .ref ps, .ref pu, .ref pv, .ref pp])) = J23 at g23 oL2 ⊢
  have q23 := q22.trans g23
  refine ⟨_, rfl, ?_⟩
  refine ⟨by show 2 ≤ sizeLine; decide, fun pf hpf => ?_⟩
  have npf : P0 pf = false := pn _ (q23.free hpf)
  have g24 : Same J23 (upd J23 pf (.tup [.int 1, .int 0])) := (Same.refl _).new hpf
  have opf : upd J23 pf (.tup [.int 1, .int 0]) pf = some (.tup [.int 1, .int 0]) := upd_same
  generalize upd J23 pf (.tup [.int 1, .int 0]) = J24 at g24 opf ⊢
  have q24 := q23.trans g24
  refine ⟨_, rfl, _, rfl, ?_⟩
  dsimp only [tNoPart]
  refine slA_w (lo := some 2) (hi := none) (q24 _ _ ht) tw (fun a z => pn a (q24.free z)) fun pg J25 g25 npg opg => ?_
  rw [show (some (2 : Int)) = some ((2 : Nat) : Int) from rfl, cut_from] at opg
  have q25 := q24.trans g25
  refine catA_w (g25 _ _ opf) opg npf npg (by simp only [List.length_append, List.length_cons, List.length_nil, cut_from, List.length_drop]; omega) (fun a z => pn a (q25.free z)) fun ph J26 g26 nph oph => ?_
  have q26 := q25.trans g26
  refine ⟨by show 3 ≤ sizeLine; decide, fun pi hpi => ?_⟩
  have npi : P0 pi = false := pn _ (q26.free hpi)
  have g27 : Same J26 (upd J26 pi (.tup [.int 1, .int 2, .int 0])) := (Same.refl _).new hpi
  have opi : upd J26 pi (.tup [.int 1, .int 2, .int 0]) pi = some (.tup [.int 1, .int 2, .int 0]) := upd_same
  generalize upd J26 pi (.tup [.int 1, .int 2, .int 0]) = J27 at g27 opi ⊢
  have q27 := q26.trans g27
  refine ⟨by show 4 ≤ sizeLine; decide, fun pj hpj => ?_⟩
  have npj : P0 pj = false := pn _ (q27.free hpj)
  have g28 : Same J27 (upd J27 pj (.tup [.non, .int 2, .int 3, .int 1])) := (Same.refl _).new hpj
  have opj : upd J27 pj (.tup [.non, .int 2, .int 3, .int 1]) pj = some (.tup [.non, .int 2, .int 3, .int 1]) := upd_same
  generalize upd J27 pj (.tup [.non, .int 2, .int 3, .int 1]) = J28 at g28 opj ⊢
  have q28 := q27.trans g28
  refine ⟨by show 3 ≤ sizeLine; decide, fun pk hpk => ?_⟩
  have npk : P0 pk = false := pn _ (q28.free hpk)
  have g29 : Same J28 (upd J28 pk (.tup [.non, .non, .int 2])) := (Same.refl _).new hpk
  have opk : upd J28 pk (.tup [.non, .non, .int 2]) pk = some (.tup [.non, .non, .int 2]) := upd_same
  generalize upd J28 pk (.tup [.non, .non, .int 2]) = J29 at g29 opk ⊢
  have q29 := q28.trans g29
  refine ⟨by show 4 ≤ sizeLine; decide, fun M2 hM2 => ?_⟩
  have nM2 : P0 M2 = false := pn _ (q29.free hM2)
  have g30 : Same J29 (upd J29 M2 (.lst [.ref ph, .ref pi, .ref pj, .ref pk])) := (Same.refl _).new hM2
  have oM2 : upd J29 M2 (.lst [.ref ph, .ref pi, .ref pj, .ref pk]) M2 = some (.lst [.ref ph, .ref pi, .ref pj, .ref pk]) := upd_same
  generalize upd J29 M2 (.lst [.ref ph, .ref pi, .ref pj, .ref pk]) = J30 at g30 oM2 ⊢
  have q30 := q29.trans g30
  refine ⟨L2, M2, _, _, rfl, rfl, (((((((g24.trans g25).trans g26).trans g27).trans g28).trans g29).trans g30) _ _ oL2), oM2, by show 19 ≤ sizeLine; decide, fun N hN => ?_⟩
  have nN : P0 N = false := pn _ (q30.free hN)
  have g31 : Same J30 (upd J30 N (.lst (([.non, .ref pe, .ref pl, .ref pd, .str "-", .int 5, .bl true, .ref pa, .ref pb, .ref pc] ++ [.ref pt, .ref ps, .ref pu, .ref pv, .ref pp]) ++ [.ref ph, .ref pi, .ref pj, .ref pk]))) := (Same.refl _).new hN
  have oN : upd J30 N (.lst (([.non, .ref pe, .ref pl, .ref pd, .str "-", .int 5, .bl true, .ref pa, .ref pb, .ref pc] ++ [.ref pt, .ref ps, .ref pu, .ref pv, .ref pp]) ++ [.ref ph, .ref pi, .ref pj, .ref pk])) N = some (.lst (([.non, .ref pe, .ref pl, .ref pd, .str "-", .int 5, .bl true, .ref pa, .ref pb, .ref pc] ++ [.ref pt, .ref ps, .ref pu, .ref pv, .ref pp]) ++ [.ref ph, .ref pi, .ref pj, .ref pk])) := upd_same
  generalize upd J30 N (.lst (([.non, .ref pe, .ref pl, .ref pd, .str "-", .int 5, .bl true, .ref pa, .ref pb, .ref pc] ++ [.ref pt, .ref ps, .ref pu, .ref pv, .ref pp]) ++ [.ref ph, .ref pi, .ref pj, .ref pk])) = J31 at g31 oN ⊢
  have q31 := q30.trans g31
  have oA : J31 N = some (.lst [.non, .ref pe, .ref pl, .ref pd, .str "-", .int 5, .bl true, .ref pa, .ref pb, .ref pc, .ref pt, .ref ps, .ref pu, .ref pv, .ref pp, .ref ph, .ref pi, .ref pj, .ref pk]) := oN
  refine ⟨_, rfl, _, rfl, _, rfl, _, _, rfl, .inl ⟨_, SqL.of oA, rfl⟩, wl, n, _, rfl, w.same q31, by omega, by show (1 : Int) ≤ 19; decide, by show (19 : Int).natAbs < 2 ^ 100; decide +kernel, fun e F e0 e1 k7 w7 => ?_⟩
  obtain ⟨v, hv1, hv2⟩ := pick (xs := [.non, .ref pe, .ref pl, .ref pd, .str "-", .int 5, .bl true, .ref pa, .ref pb, .ref pc, .ref pt, .ref ps, .ref pu, .ref pv, .ref pp, .ref ph, .ref pi, .ref pj, .ref pk]) e0 e1
  refine ⟨N, _, _, v, rfl, rfl, SqL.of (k7 N _ (ne_P pw nN) oA), hv2, ?_⟩
  refine q v F (fun b o hb z => k7 b o hb (q31 b o z)) w7 ?_
  have rpe := Off.at npe (k7 _ _ (ne_P pw npe) ((((((((((((((((((((((((((((((g2.trans g3).trans g4).trans g5).trans g6).trans g7).trans g8).trans g9).trans g10).trans g11).trans g12).trans g13).trans g14).trans g15).trans g16).trans g17).trans g18).trans g19).trans g20).trans g21).trans g22).trans g23).trans g24).trans g25).trans g26).trans g27).trans g28).trans g29).trans g30).trans g31) _ _ ope))
  have rpl := Off.at npl (k7 _ _ (ne_P pw npl) (((((((((((((((((((((((((((((g3.trans g4).trans g5).trans g6).trans g7).trans g8).trans g9).trans g10).trans g11).trans g12).trans g13).trans g14).trans g15).trans g16).trans g17).trans g18).trans g19).trans g20).trans g21).trans g22).trans g23).trans g24).trans g25).trans g26).trans g27).trans g28).trans g29).trans g30).trans g31) _ _ opl))
  have rpd := Off.at npd (k7 _ _ (ne_P pw npd) ((((((((((((((((((((((((((((g4.trans g5).trans g6).trans g7).trans g8).trans g9).trans g10).trans g11).trans g12).trans g13).trans g14).trans g15).trans g16).trans g17).trans g18).trans g19).trans g20).trans g21).trans g22).trans g23).trans g24).trans g25).trans g26).trans g27).trans g28).trans g29).trans g30).trans g31) _ _ opd))
  have rpa := Off.at npa (k7 _ _ (ne_P pw npa) ((((((((((((((((((((((((((g6.trans g7).trans g8).trans g9).trans g10).trans g11).trans g12).trans g13).trans g14).trans g15).trans g16).trans g17).trans g18).trans g19).trans g20).trans g21).trans g22).trans g23).trans g24).trans g25).trans g26).trans g27).trans g28).trans g29).trans g30).trans g31) _ _ opa))
  have rpb := Off.at npb (k7 _ _ (ne_P pw npb) ((((((((((((((((((((((((g8.trans g9).trans g10).trans g11).trans g12).trans g13).trans g14).trans g15).trans g16).trans g17).trans g18).trans g19).trans g20).trans g21).trans g22).trans g23).trans g24).trans g25).trans g26).trans g27).trans g28).trans g29).trans g30).trans g31) _ _ opb))
  have rpc := Off.at npc (k7 _ _ (ne_P pw npc) ((((((((((((((((((((((g10.trans g11).trans g12).trans g13).trans g14).trans g15).trans g16).trans g17).trans g18).trans g19).trans g20).trans g21).trans g22).trans g23).trans g24).trans g25).trans g26).trans g27).trans g28).trans g29).trans g30).trans g31) _ _ opc))
  have rpt := Off.at npt (k7 _ _ (ne_P pw npt) (((((((((((((((((((g13.trans g14).trans g15).trans g16).trans g17).trans g18).trans g19).trans g20).trans g21).trans g22).trans g23).trans g24).trans g25).trans g26).trans g27).trans g28).trans g29).trans g30).trans g31) _ _ opt))
  have rps := Off.at nps (k7 _ _ (ne_P pw nps) (((((((((((((((((g15.trans g16).trans g17).trans g18).trans g19).trans g20).trans g21).trans g22).trans g23).trans g24).trans g25).trans g26).trans g27).trans g28).trans g29).trans g30).trans g31) _ _ ops))
  have rpz := Off.at npz (k7 _ _ (ne_P pw npz) ((((((((((((((((g16.trans g17).trans g18).trans g19).trans g20).trans g21).trans g22).trans g23).trans g24).trans g25).trans g26).trans g27).trans g28).trans g29).trans g30).trans g31) _ _ opz))
  have rpu := Off.at npu (k7 _ _ (ne_P pw npu) ((((((((((((((g18.trans g19).trans g20).trans g21).trans g22).trans g23).trans g24).trans g25).trans g26).trans g27).trans g28).trans g29).trans g30).trans g31) _ _ opu))
  have rpy := Off.at npy (k7 _ _ (ne_P pw npy) (((((((((((((g19.trans g20).trans g21).trans g22).trans g23).trans g24).trans g25).trans g26).trans g27).trans g28).trans g29).trans g30).trans g31) _ _ opy))
  have rpv := Off.at npv (k7 _ _ (ne_P pw npv) (((((((((((g21.trans g22).trans g23).trans g24).trans g25).trans g26).trans g27).trans g28).trans g29).trans g30).trans g31) _ _ opv))
  have rpp := Off.at npp (k7 _ _ (ne_P pw npp) ((((((((((g22.trans g23).trans g24).trans g25).trans g26).trans g27).trans g28).trans g29).trans g30).trans g31) _ _ opp))
  have rph := Off.at nph (k7 _ _ (ne_P pw nph) (((((g27.trans g28).trans g29).trans g30).trans g31) _ _ oph))
  have rpi := Off.at npi (k7 _ _ (ne_P pw npi) ((((g28.trans g29).trans g30).trans g31) _ _ opi))
  have rpj := Off.at npj (k7 _ _ (ne_P pw npj) (((g29.trans g30).trans g31) _ _ opj))
  have rpk := Off.at npk (k7 _ _ (ne_P pw npk) ((g30.trans g31) _ _ opk))
  have rT := Off.at tw (k7 _ _ (ne_P pw tw) (q31 _ _ ht))
  generalize Off P0 F = G at *
  have p12 : (10 : Nat) ^ 12 = 1000000000000 := by decide
  have sd := small_hD ib (Nat.le_trans hl (by decide))
  have no : ∀ (z : V) (d : PyData), Vd G z → tupAt G z = none → Rp true G z d → Md d → BadV G z := fun z d hz e r m => ⟨⟨askd_no hz e, fun hs' e' => by rw [e] at e'; cases e'⟩, noF_none e, d, r, m⟩
  have bd : ∀ {p : Addr} {xs : List V}, G p = some (.tup xs) → xs.length ≤ 60 → ∀ hs' : Hs, tupAt G (.ref p) = some (hs'.map hv) → hs'.length ≤ 60 := fun {p xs} hp hx hs' e => by
    rw [tupAt_tup hp] at e
    have z := congrArg List.length (Option.some.inj e)
    rw [List.length_map] at z; omega
  have tp : ∀ (p : Addr) (z : V) (d : PyData), G p = some (.tup (hs.map hv ++ [z])) → Vd G z → ¬ IsF G (.ref p) → Rp true G z d → Small d → BadV G (.ref p) := fun p z d hp hz nf r sm => by
    have lz : (hs.map hv ++ [z]).length ≤ 60 := by rw [List.length_append, hlm]; show hs.length + 1 ≤ 60; omega
    refine ⟨⟨askd_tup hp (by omega) fun y hy => ?_, bd hp lz⟩, nf, _, .tup hp (Rps.app (rps_hv hs) (.cons r .nil)), md_tuple (fun d' hd => ?_) (by rw [List.length_append, List.length_map]; show hs.length + 1 ≤ 60; omega)⟩
    · rcases List.mem_append.mp hy with h | h
      · obtain ⟨o, _, rfl⟩ := List.mem_map.mp h
        exact vd_hv o
      · rw [List.mem_singleton.mp h]; exact hz
    · rcases List.mem_append.mp hd with h | h
      · exact sd d' h
      · rw [List.mem_singleton.mp h]; exact sm
  have fo : ∀ (p : Addr) (ms : Hs), G p = some (.tup (ms.map hv)) → ms.length ≤ 60 → InB2 ms → ¬ IsF G (.ref p) → BadV G (.ref p) := fun p ms hp lm ib2 nf =>
    ⟨⟨askdF hp lm, bd hp (by rw [List.length_map]; exact lm)⟩, nf, _, .tup hp (rps_hv ms), md_tuple (small_hD2 ib2) (by rw [List.length_map]; exact lm)⟩
  simp only [List.mem_cons, List.not_mem_nil, or_false] at hv1
  rcases hv1 with rfl | rfl | rfl | rfl | rfl | rfl | rfl | rfl | rfl | rfl | rfl | rfl | rfl | rfl | rfl | rfl | rfl | rfl | rfl
  · exact no _ _ .non rfl .non small_non.md
  · exact fo pe [] rpe (by decide) (fun v u z => by cases z) (noF_nil (tupAt_tup rpe))
  · exact no _ _ (.lst rpl) (tupAt_lst rpl) (.lst rpl (fun _ => mpl) (rps_hv hs)) (md_list sd (by rw [List.length_map]; omega))
  · exact no _ _ (.dK rpd) (tupAt_dK rpd) (.dct rfl rpd) small_d0.md
  · exact no _ _ (.str _) rfl (.str _) small_s1.md
  · exact no _ _ (.int _) rfl (.int _) (small_int (by decide)).md
  · exact no _ _ (.bl _) rfl (.bl _) (small_bl _).md
  · exact tp _ _ _ rpa (.int _) (noF_self (hs := hs) (by rw [tupAt_tup rpa, hlm])) (.int _) (small_int (by rw [hlm]; omega))
  · exact tp _ _ _ rpb (.int _) (noF_far (hs := hs) (by rw [tupAt_tup rpb, hlm])) (.int _) (small_int (by rw [hlm]; omega))
  · exact tp _ _ _ rpc (.int _) (noF_odd (tupAt_tup rpc) (fun o e => by cases o <;> (first | (cases e; done) | (have z := V.int.inj e; omega)))) (.int _) (small_int (by decide))
  · exact tp _ _ _ rpt (.bl _) (noF_odd (tupAt_tup rpt) (hv_ne_bl _)) (.bl _) (small_bl _)
  · exact tp _ _ _ rps (.str _) (noF_odd (tupAt_tup rps) (hv_ne_str _)) (.str _) small_s0
  · exact tp _ _ _ rpu (.tup rpz) (noF_odd (tupAt_tup rpu) (fun o e => by cases o <;> cases e)) (.tup rpz (.cons (.int 0) .nil)) small_t0
  · exact tp _ _ _ rpv (.lst rpy) (noF_odd (tupAt_tup rpv) (fun o e => by cases o <;> cases e)) (.lst rpy (fun _ => mpy) (.cons .non .nil)) small_ln
  · exact ⟨⟨askd_tup rpp (by show 1 ≤ 1000; decide) (fun y hy => by rw [List.mem_singleton.mp hy]; exact .tup rT), bd rpp (by show 1 ≤ 60; decide)⟩, noF_odd (xs := []) (tupAt_tup rpp) (fun o e => by cases o <;> cases e), _, .tup rpp (.cons (.tup rT (rps_hv hs)) .nil), md_inner sd (by rw [List.length_map]; omega)⟩
  · have e : ([V.int 1, V.int 0] ++ (hs.map hv).drop 2) = (([some 1, some 0] ++ hs.drop 2 : Hs).map hv) := by
      rw [List.map_append, List.map_drop]; rfl
    rw [e] at rph
    refine fo ph _ rph (by rw [List.length_append, List.length_drop]; show 2 + _ ≤ 60; omega) (fun v u z => ?_) (noF_ring (tupAt_tup rph) (fun v => v ≤ 1) (Nat.zero_le 1) (by rw [List.length_append]; show 0 < 2 + _; omega) (fun v hv => ?_))
    · by_cases c : v < 2
      · rw [List.getElem?_append_left (by exact c)] at z
        match v, c, z with
        | 0, _, z => cases z; decide
        | 1, _, z => cases z; decide
      · rw [List.getElem?_append_right (by show 2 ≤ v; omega), List.getElem?_drop] at z
        have := ib _ _ z
        omega
    · match v, hv with
      | 0, _ => exact ⟨1, rfl, Nat.le_refl 1⟩
      | 1, _ => exact ⟨0, rfl, Nat.zero_le 1⟩
  · refine fo pi [some 1, some 2, some 0] rpi (by decide) (ib3 (by decide)) (noF_ring (hs := [some 1, some 2, some 0]) (tupAt_tup rpi) (fun v => v ≤ 2) (Nat.zero_le 2) (by decide) (fun v hv => ?_))
    match v, hv with
    | 0, _ => exact ⟨1, rfl, by decide⟩
    | 1, _ => exact ⟨2, rfl, by decide⟩
    | 2, _ => exact ⟨0, rfl, by decide⟩
  · refine fo pj [none, some 2, some 3, some 1] rpj (by decide) (ib3 (by decide)) (noF_ring (hs := [none, some 2, some 3, some 1]) (tupAt_tup rpj) (fun v => 1 ≤ v ∧ v ≤ 3) (v0 := 1) (by decide) (by decide) (fun v hv => ?_))
    match v, hv with
    | 1, _ => exact ⟨2, rfl, by decide⟩
    | 2, _ => exact ⟨3, rfl, by decide⟩
    | 3, _ => exact ⟨1, rfl, by decide⟩
  · refine fo pk [none, none, some 2] rpk (by decide) (ib3 (by decide)) (noF_ring (hs := [none, none, some 2]) (tupAt_tup rpk) (fun v => v = 2) (v0 := 2) rfl (by decide) (fun v hv => ?_))
    subst hv
    exact ⟨2, rfl, rfl⟩
abbrev st__law_odd : Stmt := topS 33
abbrev N__law_odd : List Str := ["well", "size", "some"]
theorem sc__law_odd : FnScope N__law_odd ["well", "size"] (defScope st__law_odd) := ⟨rfl, rfl, rfl, by decide +kernel, rfl, by decide +kernel, by decide +kernel⟩
theorem ok__law_odd (D : Df K mg "_law_odd" st__law_odd ["well", "size"]) (B : Bl mg) (K_law_draw : Kn P w K mg base CX0 1 "_law_draw" st__law_draw ["well", "most"] spDraw) :
    Kn P w K mg base CX0 2 "_law_odd" st__law_odd ["well", "size"] spOdd := by
  refine D.ok sc__law_odd (fun vs H Q E h => ?_) (fun f cdv A outer s H vs Q E hr h => ?_)
  · obtain ⟨wl, m, n, P0, rfl, _⟩ := h; rfl
  obtain ⟨wl, m, n, P0, rfl, w, hn, hm, pw, pn, q⟩ := h
  refine ⟨_, ((pss_cons (ps_set (i := 2) sc__law_odd.nd rfl (Or.inl rfl) (pe_lst (pa_cons pe_non (pa_cons (pe_un un_neg pe_int) (pa_cons (pv 1) (pa_cons pe_bl (pa_cons pe_bl (pa_cons pe_str (pa_cons pe_str (pa_cons (pe_lstN (pa_cons pe_int pa_nil)) (pa_cons (pe_tup (pa_cons pe_int pa_nil)) (pa_cons pe_dnewK (pa_cons (pe_op op_powW pe_int pe_int) (pa_cons (pe_op op_sub pe_int (pe_op op_powW pe_int pe_int)) pa_nil))))))))))))))
      (pss_one (ps_ret (pe_ix ix_list (pv 2) (pe_callF K_law_draw (hr.mono (by decide)) pass0 (pa_cons (pv 0) (pa_cons (pe_callB call_len (by rfl) B.len (by decide +kernel) (pa_cons (pv 2) pa_nil)) pa_nil))) (fun _ _ => rfl)))))), ?_⟩
  have e39 : (10 : Int) ^ (39 : Int).toNat = 1000000000000000000000000000000000000000 := by decide +kernel
  have q0 : Same H H := Same.refl H
  refine ⟨_, rfl, _, rfl, by show 1 ≤ sizeLine; decide, fun pl hpl mpl => ?_⟩
  have npl : P0 pl = false := pn _ (q0.free hpl)
  have g1 : Same H (upd H pl (.lst [.int 0])) := (Same.refl _).new hpl
  have opl : upd H pl (.lst [.int 0]) pl = some (.lst [.int 0]) := upd_same
  generalize upd H pl (.lst [.int 0]) = J1 at g1 opl ⊢
  have q1 := q0.trans g1
  refine ⟨by show 1 ≤ sizeLine; decide, fun pt hpt => ?_⟩
  have npt : P0 pt = false := pn _ (q1.free hpt)
  have g2 : Same J1 (upd J1 pt (.tup [.int 0])) := (Same.refl _).new hpt
  have opt : upd J1 pt (.tup [.int 0]) pt = some (.tup [.int 0]) := upd_same
  generalize upd J1 pt (.tup [.int 0]) = J2 at g2 opt ⊢
  have q2 := q1.trans g2
  intro pd hpd
  have npd : P0 pd = false := pn _ (q2.free hpd)
  have g3 : Same J2 (upd J2 pd (.dK [])) := (Same.refl _).new hpd
  have opd : upd J2 pd (.dK []) pd = some (.dK []) := upd_same
  generalize upd J2 pd (.dK []) = J3 at g3 opd ⊢
  have q3 := q2.trans g3
  refine ⟨_, _, rfl, rfl, cpow10 (by decide) (by decide), _, _, rfl, rfl, cpow10 (by decide) (by decide), _, _, rfl, rfl, by show 12 ≤ sizeLine; decide, fun N hN => ?_⟩
  have nN : P0 N = false := pn _ (q3.free hN)
  have g4 : Same J3 (upd J3 N (.lst [.non, .int (-1), .int (m : Int), .bl true, .bl false, .str "0", .str "", .ref pl, .ref pt, .ref pd, .int ((10 : Int) ^ (39 : Int).toNat), .int (0 - (10 : Int) ^ (39 : Int).toNat)])) := (Same.refl _).new hN
  have oN : upd J3 N (.lst [.non, .int (-1), .int (m : Int), .bl true, .bl false, .str "0", .str "", .ref pl, .ref pt, .ref pd, .int ((10 : Int) ^ (39 : Int).toNat), .int (0 - (10 : Int) ^ (39 : Int).toNat)]) N = some (.lst [.non, .int (-1), .int (m : Int), .bl true, .bl false, .str "0", .str "", .ref pl, .ref pt, .ref pd, .int ((10 : Int) ^ (39 : Int).toNat), .int (0 - (10 : Int) ^ (39 : Int).toNat)]) := upd_same
  generalize upd J3 N (.lst [.non, .int (-1), .int (m : Int), .bl true, .bl false, .str "0", .str "", .ref pl, .ref pt, .ref pd, .int ((10 : Int) ^ (39 : Int).toNat), .int (0 - (10 : Int) ^ (39 : Int).toNat)]) = J4 at g4 oN ⊢
  have q4 := q3.trans g4
  refine ⟨_, rfl, _, rfl, _, rfl, _, _, rfl, .inl ⟨_, SqL.of oN, rfl⟩, wl, n, _, rfl, w.same q4, by omega, by show (1 : Int) ≤ 12; decide, by show (12 : Int).natAbs < 2 ^ 100; decide +kernel, fun e F e0 e1 k7 w7 => ?_⟩
  obtain ⟨v, hv1, hv2⟩ := pick (xs := [.non, .int (-1), .int (m : Int), .bl true, .bl false, .str "0", .str "", .ref pl, .ref pt, .ref pd, .int ((10 : Int) ^ (39 : Int).toNat), .int (0 - (10 : Int) ^ (39 : Int).toNat)]) e0 e1
  refine ⟨N, _, _, v, rfl, rfl, SqL.of (k7 N _ (ne_P pw nN) oN), hv2, ?_⟩
  refine q v F (fun b o hb z => k7 b o hb (q4 b o z)) w7 ?_
  have rpl := Off.at npl (k7 _ _ (ne_P pw npl) (((g2.trans g3).trans g4) _ _ opl))
  have rpt := Off.at npt (k7 _ _ (ne_P pw npt) ((g3.trans g4) _ _ opt))
  have rpd := Off.at npd (k7 _ _ (ne_P pw npd) (g4 _ _ opd))
  generalize Off P0 F = G at *
  have big : ∀ z : Int, ¬ (0 ≤ z ∧ z < (m : Int)) → isIdx (m : Int) (.int z) = false := fun z hz => by
    show (decide (0 ≤ z) && decide (z < (m : Int))) = false
    rw [Bool.and_eq_false_iff, decide_eq_false_iff_not, decide_eq_false_iff_not]; omega
  have p12 : (10 : Nat) ^ 12 = 1000000000000 := by decide
  simp only [List.mem_cons, List.not_mem_nil, or_false] at hv1
  rcases hv1 with rfl | rfl | rfl | rfl | rfl | rfl | rfl | rfl | rfl | rfl | rfl | rfl
  · exact ⟨.non, rfl, _, .non, small_non.md⟩
  · exact ⟨.int _, big _ (by omega), _, .int _, (small_int (by decide)).md⟩
  · exact ⟨.int _, big _ (by omega), _, .int _, (small_int (by omega)).md⟩
  · exact ⟨.bl _, rfl, _, .bl _, (small_bl _).md⟩
  · exact ⟨.bl _, rfl, _, .bl _, (small_bl _).md⟩
  · exact ⟨.str _, rfl, _, .str _, small_s0.md⟩
  · exact ⟨.str _, rfl, _, .str _, small_s2.md⟩
  · exact ⟨.lst rpl, rfl, _, .lst rpl (fun _ => mpl) (.cons (.int 0) .nil), small_l0.md⟩
  · exact ⟨.tup rpt, rfl, _, .tup rpt (.cons (.int 0) .nil), small_t0.md⟩
  · exact ⟨.dK rpd, rfl, _, .dct rfl rpd, small_d0.md⟩
  · exact ⟨.int _, big _ (by rw [e39]; omega), _, .int _, md_big⟩
  · exact ⟨.int _, big _ (by rw [e39]; omega), _, .int _, md_gib⟩
end

end My

namespace My
open PySem PySem.Spec PyProof.Rows L2
def rIsEG (K : PySem.W.Frag) (a : Addr) (cls : Value) (d : Option Addr) : List V → Hp → VK → Prop := fun xs H Q => ∃ D, cls = .ref D ∧ d = none ∧ ExcC K D ∧ rIsE K D a xs H Q
theorem call_isEG {X : Cx} {a : Addr} {oe : Obj} {cls : Value} {d : Option Addr} {pn : List (Addr × Obj)} (hz : Zc cls d oe) (hf : ∃ vs, oe.data = .fields vs) : CallR (X.suite a ((a, oe) :: pn)) (.builtin "isinstance") (rIsEG X.K a cls d) := by
  intro pins s σ H xs us Q I r ⟨D, e1, e2, C, h⟩
  subst e1 e2
  exact call_isE C hz hf pins s σ H xs us Q I r h
theorem cut_skip {t u : TS} {D : Ends} {σ : L2.St} {H : Hp} (h : t { D with nx := fun σ' H' => σ' = σ ∧ H' = H } σ H) (k : u D σ H) : C8.tCut t u D σ H := ⟨_, h, by rintro _ _ ⟨rfl, rfl⟩; exact k⟩
/-- a row of values that a change is called with, and what is due -/
inductive RowD (H : Hp) : Int → List V → Str → Prop
  | be {w : Int} {x y : V} {due : Str} (hw : w = 0 ∨ w = 5) (fx : FoV H x) (fy : FoV H y) (a : ¬ IsF H x → due = "forest") (b : ¬ IsF H y → due = "forest") (c : IsF H x → IsF H y → due = "none") : RowD H w [x, y] due
  | gr {w : Int} {x y z : V} {due : Str} (hw : w = 1 ∨ w = 6) (fx : FoV H x) (vy : Vd H y) (fz : FoV H z) (a : ¬ IsF H x → due = "forest") (b : ∀ hs, IsH H x hs → isIdx (hs.length : Int) y = false → due = "thing")
      (c : ∀ hs, IsH H x hs → isIdx (hs.length : Int) y = true → ¬ IsF H z → due = "forest") (d : ∀ hs, IsH H x hs → isIdx (hs.length : Int) y = true → IsF H z → due = "none") : RowD H w [x, y, z] due
  | pa {w : Int} {x y : V} {due : Str} (hw : w = 2) (fx : FoV H x) (vy : Vd H y) (a : ¬ IsF H x → due = "forest") (b : ∀ hs, IsH H x hs → isIdx (hs.length : Int) y = false → due = "thing")
      (d : ∀ hs, IsH H x hs → isIdx (hs.length : Int) y = true → due = "none") : RowD H w [x, y] due
  | wi {w : Int} {x y : V} {due : Str} (hw : w = 3 ∨ w = 7) (fx : FoV H x) (vy : Vd H y) (a : ¬ IsF H x → due = "forest") (b : ∀ hs, IsH H x hs → isIdx (hs.length : Int) y = false → due = "thing")
      (c : ∀ hs, IsH H x hs → isIdx (hs.length : Int) y = true → hs.length = 1 → due = "only") (d : ∀ hs, IsH H x hs → isIdx (hs.length : Int) y = true → 2 ≤ hs.length → due = "none") : RowD H w [x, y] due
  | ah {w : Int} {x y z : V} {due : Str} (hw : w = 4 ∨ w = 8) (fx : FoV H x) (vy : Vd H y) (vz : Vd H z) (a : ¬ IsF H x → due = "forest") (b : ∀ hs, IsH H x hs → isIdx (hs.length : Int) y = false → due = "thing")
      (c : ∀ hs, IsH H x hs → isIdx (hs.length : Int) y = true → isIdx (hs.length : Int) z = false → due = "thing") (d : ∀ hs, IsH H x hs → ∀ t : Nat, y = .int (t : Int) → z = .int (t : Int) → t < hs.length → due = "same")
      (e : ∀ hs, IsH H x hs → ∀ t u : Nat, y = .int (t : Int) → z = .int (u : Int) → t < hs.length → u < hs.length → t ≠ u → due = "none") : RowD H w [x, y, z] due
structure Out47 (CF CT CO CS CN : Addr) (H : Hp) (Q : VK) (E : XK) (due : Str) : Prop where
  f : due = "forest" → ∀ H', Same H H' → E (.ref CF) none H'
  t : due = "thing" → ∀ H', Same H H' → E (.ref CT) none H'
  o : due = "only" → ∀ H', Same H H' → E (.ref CO) none H'
  s : due = "same" → ∀ H', Same H H' → E (.ref CS) none H'
  n : due = "none" → (∀ H', Same H H' → E (.ref CN) none H') ∧ ∀ H', Same H H' → Q .non H'
def spCalled47 (CF CT CO CS CN : Addr) : Sp := fun vs H Q E => ∃ (way : Int) (r : Addr) (xs : List V) (due : Str), vs = [.int way, .ref r] ∧ H r = some (.lst xs) ∧ RowD H way xs due ∧ Out47 CF CT CO CS CN H Q E due
section
variable {P : Program} {w : World} {K : PySem.W.Frag} {mg : Str → Option Value} {base : Heap} {CF CT CO CS CN : Addr}
theorem kb_beside_other_forest : KwB "beside" st_beside ["forest", "other"] ["other", "forest"] (fun us ws => us ++ ws.reverse) (fun us ws => us ++ ws.reverse) :=
  ⟨fun _ _ _ _ _ _ us ws hl => by
    rw [List.length_append, List.length_reverse] at hl
    have z : ([("forest" : Str), ("other" : Str)]).length = 2 := rfl
    rcases us with _ | ⟨u1, _ | ⟨u2, us⟩⟩
    · have h : ws.length = 2 := by rw [List.length_nil] at hl; omega
      exact match ws, h with | [_, _], _ => rfl
    · have h : ws.length = 1 := by rw [List.length_cons, List.length_nil] at hl; omega
      exact match ws, h with | [_], _ => rfl
    · rw [List.length_cons, List.length_cons] at hl
      have h : ws.length = 0 := by omega
      have h2 : us.length = 0 := by omega
      exact match us, ws, h2, h with | [], [], _, _ => rfl, fun a b => a.append b.reverse⟩
theorem kb_grafted_other_thing_forest : KwB "grafted" st_grafted ["forest", "thing", "other"] ["other", "thing", "forest"] (fun us ws => us ++ ws.reverse) (fun us ws => us ++ ws.reverse) :=
  ⟨fun _ _ _ _ _ _ us ws hl => by
    rw [List.length_append, List.length_reverse] at hl
    have z : ([("forest" : Str), ("thing" : Str), ("other" : Str)]).length = 3 := rfl
    rcases us with _ | ⟨u1, _ | ⟨u2, _ | ⟨u3, us⟩⟩⟩
    · have h : ws.length = 3 := by rw [List.length_nil] at hl; omega
      exact match ws, h with | [_, _, _], _ => rfl
    · have h : ws.length = 2 := by rw [List.length_cons, List.length_nil] at hl; omega
      exact match ws, h with | [_, _], _ => rfl
    · have h : ws.length = 1 := by rw [List.length_cons, List.length_cons, List.length_nil] at hl; omega
      exact match ws, h with | [_], _ => rfl
    · rw [List.length_cons, List.length_cons, List.length_cons] at hl
      have h : ws.length = 0 := by omega
      have h2 : us.length = 0 := by omega
      exact match us, ws, h2, h with | [], [], _, _ => rfl, fun a b => a.append b.reverse⟩
theorem kb_part_thing_forest : KwB "part" st_part ["forest", "thing"] ["thing", "forest"] (fun us ws => us ++ ws.reverse) (fun us ws => us ++ ws.reverse) :=
  ⟨fun _ _ _ _ _ _ us ws hl => by
    rw [List.length_append, List.length_reverse] at hl
    have z : ([("forest" : Str), ("thing" : Str)]).length = 2 := rfl
    rcases us with _ | ⟨u1, _ | ⟨u2, us⟩⟩
    · have h : ws.length = 2 := by rw [List.length_nil] at hl; omega
      exact match ws, h with | [_, _], _ => rfl
    · have h : ws.length = 1 := by rw [List.length_cons, List.length_nil] at hl; omega
      exact match ws, h with | [_], _ => rfl
    · rw [List.length_cons, List.length_cons] at hl
      have h : ws.length = 0 := by omega
      have h2 : us.length = 0 := by omega
      exact match us, ws, h2, h with | [], [], _, _ => rfl, fun a b => a.append b.reverse⟩
theorem kb_without_thing_forest : KwB "without" st_without ["forest", "thing"] ["thing", "forest"] (fun us ws => us ++ ws.reverse) (fun us ws => us ++ ws.reverse) :=
  ⟨fun _ _ _ _ _ _ us ws hl => by
    rw [List.length_append, List.length_reverse] at hl
    have z : ([("forest" : Str), ("thing" : Str)]).length = 2 := rfl
    rcases us with _ | ⟨u1, _ | ⟨u2, us⟩⟩
    · have h : ws.length = 2 := by rw [List.length_nil] at hl; omega
      exact match ws, h with | [_, _], _ => rfl
    · have h : ws.length = 1 := by rw [List.length_cons, List.length_nil] at hl; omega
      exact match ws, h with | [_], _ => rfl
    · rw [List.length_cons, List.length_cons] at hl
      have h : ws.length = 0 := by omega
      have h2 : us.length = 0 := by omega
      exact match us, ws, h2, h with | [], [], _, _ => rfl, fun a b => a.append b.reverse⟩
theorem kb_told_ahead_other_thing_forest : KwB "told_ahead" st_told_ahead ["forest", "thing", "other"] ["other", "thing", "forest"] (fun us ws => us ++ ws.reverse) (fun us ws => us ++ ws.reverse) :=
  ⟨fun _ _ _ _ _ _ us ws hl => by
    rw [List.length_append, List.length_reverse] at hl
    have z : ([("forest" : Str), ("thing" : Str), ("other" : Str)]).length = 3 := rfl
    rcases us with _ | ⟨u1, _ | ⟨u2, _ | ⟨u3, us⟩⟩⟩
    · have h : ws.length = 3 := by rw [List.length_nil] at hl; omega
      exact match ws, h with | [_, _, _], _ => rfl
    · have h : ws.length = 2 := by rw [List.length_cons, List.length_nil] at hl; omega
      exact match ws, h with | [_, _], _ => rfl
    · have h : ws.length = 1 := by rw [List.length_cons, List.length_cons, List.length_nil] at hl; omega
      exact match ws, h with | [_], _ => rfl
    · rw [List.length_cons, List.length_cons, List.length_cons] at hl
      have h : ws.length = 0 := by omega
      have h2 : us.length = 0 := by omega
      exact match us, ws, h2, h with | [], [], _, _ => rfl, fun a b => a.append b.reverse⟩
abbrev st__law_called : Stmt := topS 34
abbrev N__law_called : List Str := ["way", "row"]
theorem sc__law_called : FnScope N__law_called ["way", "row"] (defScope st__law_called) := ⟨rfl, rfl, rfl, by decide +kernel, rfl, by decide +kernel, by decide +kernel⟩
theorem ok__law_called (D : Df K mg "_law_called" st__law_called ["way", "row"]) (B : Bl mg)
    (Kbeside : Kn P w K mg base (L2.CX P w) 6 "beside" st_beside ["forest", "other"] (spBeside CF))
    (Kgrafted : Kn P w K mg base (L2.CX P w) 6 "grafted" st_grafted ["forest", "thing", "other"] (spGrafted CF CT))
    (Kpart : Kn P w K mg base (L2.CX P w) 7 "part" st_part ["forest", "thing"] (spPart CF CT))
    (Kwithout : Kn P w K mg base (L2.CX P w) 6 "without" st_without ["forest", "thing"] (spWithoutF CF CT CO))
    (Ktold_ahead : Kn P w K mg base (L2.CX P w) 7 "told_ahead" st_told_ahead ["forest", "thing", "other"] (spTold47 CF CT CS CN)) :
    Kn P w K mg base (L2.CX P w) 8 "_law_called" st__law_called ["way", "row"] (spCalled47 CF CT CO CS CN) := by
  refine D.okX sc__law_called (fun vs H Q E h => ?_) (fun f cdv A outer s H vs Q E hr h => ?_)
  · obtain ⟨way, r, xs, due, rfl, _⟩ := h; rfl
  obtain ⟨way, r, xs, due, rfl, hr0, row, out⟩ := h
  refine ⟨_, ((C8.pss_cut (ps_if (pt_cmpR op_eq (pv 0) pe_int (nomark _)) (pss_one (ps_expr (pe_callF Kbeside (hr.mono (by decide)) (passX (takes_of rfl rfl rfl rfl)) (pa_cons (pe_ix ix_list (pv 1) pe_int (fun _ _ => rfl)) (pa_cons (pe_ix ix_list (pv 1) pe_int (fun _ _ => rfl)) pa_nil))))) pss_nil)
      (C8.pss_cut (ps_if (pt_cmpR op_eq (pv 0) pe_int (nomark _)) (pss_one (ps_expr (pe_callF Kgrafted (hr.mono (by decide)) (passX (takes_of rfl rfl rfl rfl)) (pa_cons (pe_ix ix_list (pv 1) pe_int (fun _ _ => rfl)) (pa_cons (pe_ix ix_list (pv 1) pe_int (fun _ _ => rfl)) (pa_cons (pe_ix ix_list (pv 1) pe_int (fun _ _ => rfl)) pa_nil)))))) pss_nil)
      (C8.pss_cut (ps_if (pt_cmpR op_eq (pv 0) pe_int (nomark _)) (pss_one (ps_expr (pe_callFK0 Kpart (hr.mono (by decide)) kb_part_thing_forest (passX (takes_of rfl rfl rfl rfl)) (pk_cons (pe_ix ix_list (pv 1) pe_int (fun _ _ => rfl)) (pk_cons (pe_ix ix_list (pv 1) pe_int (fun _ _ => rfl)) pk_nil))))) pss_nil)
      (C8.pss_cut (ps_if (pt_cmpR op_eq (pv 0) pe_int (nomark _)) (pss_one (ps_expr (pe_callF Kwithout (hr.mono (by decide)) (passX (takes_of rfl rfl rfl rfl)) (pa_cons (pe_ix ix_list (pv 1) pe_int (fun _ _ => rfl)) (pa_cons (pe_ix ix_list (pv 1) pe_int (fun _ _ => rfl)) pa_nil))))) pss_nil)
      (C8.pss_cut (ps_if (pt_cmpR op_eq (pv 0) pe_int (nomark _)) (pss_one (ps_expr (pe_callF Ktold_ahead (hr.mono (by decide)) (passX (takes_of rfl rfl rfl rfl)) (pa_cons (pe_ix ix_list (pv 1) pe_int (fun _ _ => rfl)) (pa_cons (pe_ix ix_list (pv 1) pe_int (fun _ _ => rfl)) (pa_cons (pe_ix ix_list (pv 1) pe_int (fun _ _ => rfl)) pa_nil)))))) pss_nil)
      (C8.pss_cut (ps_if (pt_cmpR op_eq (pv 0) pe_int (nomark _)) (pss_one (ps_expr (pe_callFK0 Kbeside (hr.mono (by decide)) kb_beside_other_forest (passX (takes_of rfl rfl rfl rfl)) (pk_cons (pe_ix ix_list (pv 1) pe_int (fun _ _ => rfl)) (pk_cons (pe_ix ix_list (pv 1) pe_int (fun _ _ => rfl)) pk_nil))))) pss_nil)
      (C8.pss_cut (ps_if (pt_cmpR op_eq (pv 0) pe_int (nomark _)) (pss_one (ps_expr (pe_callFK0 Kgrafted (hr.mono (by decide)) kb_grafted_other_thing_forest (passX (takes_of rfl rfl rfl rfl)) (pk_cons (pe_ix ix_list (pv 1) pe_int (fun _ _ => rfl)) (pk_cons (pe_ix ix_list (pv 1) pe_int (fun _ _ => rfl)) (pk_cons (pe_ix ix_list (pv 1) pe_int (fun _ _ => rfl)) pk_nil)))))) pss_nil)
      (C8.pss_cut (ps_if (pt_cmpR op_eq (pv 0) pe_int (nomark _)) (pss_one (ps_expr (pe_callFK0 Kwithout (hr.mono (by decide)) kb_without_thing_forest (passX (takes_of rfl rfl rfl rfl)) (pk_cons (pe_ix ix_list (pv 1) pe_int (fun _ _ => rfl)) (pk_cons (pe_ix ix_list (pv 1) pe_int (fun _ _ => rfl)) pk_nil))))) pss_nil)
      (pss_one (ps_if (pt_cmpR op_eq (pv 0) pe_int (nomark _)) (pss_one (ps_expr (pe_callFK0 Ktold_ahead (hr.mono (by decide)) kb_told_ahead_other_thing_forest (passX (takes_of rfl rfl rfl rfl)) (pk_cons (pe_ix ix_list (pv 1) pe_int (fun _ _ => rfl)) (pk_cons (pe_ix ix_list (pv 1) pe_int (fun _ _ => rfl)) (pk_cons (pe_ix ix_list (pv 1) pe_int (fun _ _ => rfl)) pk_nil)))))) pss_nil))))))))))), ?_⟩
  cases row with
  | be hw fx fy a b c =>
    rcases hw with rfl | rfl
    · refine ⟨fun σ' H' => σ' = [some (.int 0), some (.ref r)] ∧ Same H H' ∧ (∀ H'', Same H H'' → Q .non H''), ⟨_, rfl, rfl, _, rfl, iteT ⟨_, rfl, r, _, _, _, rfl, rfl, SqL.of hr0, rfl, _, rfl, r, _, _, _, rfl, rfl, SqL.of hr0, rfl, _, _, rfl, fx, fy, fun n => out.f (a n), fun n => out.f (b n), fun hs ms hx hy p H' s' _ => ⟨rfl, s', (out.n (c ⟨hs, hx⟩ ⟨ms, hy⟩)).2⟩⟩⟩, ?_⟩
      rintro _ H1 ⟨rfl, s1, qn⟩
      iterate 7 (refine cut_skip ⟨_, rfl, rfl, _, rfl, iteF ⟨rfl, rfl⟩⟩ ?_)
      exact ⟨_, rfl, rfl, _, rfl, iteF (qn H1 s1)⟩
    · iterate 5 (refine cut_skip ⟨_, rfl, rfl, _, rfl, iteF ⟨rfl, rfl⟩⟩ ?_)
      refine ⟨fun σ' H' => σ' = [some (.int 5), some (.ref r)] ∧ Same H H' ∧ (∀ H'', Same H H'' → Q .non H''), ⟨_, rfl, rfl, _, rfl, iteT ⟨_, rfl, r, _, _, _, rfl, rfl, SqL.of hr0, rfl, _, rfl, r, _, _, _, rfl, rfl, SqL.of hr0, rfl, _, _, rfl, fx, fy, fun n => out.f (a n), fun n => out.f (b n), fun hs ms hx hy p H' s' _ => ⟨rfl, s', (out.n (c ⟨hs, hx⟩ ⟨ms, hy⟩)).2⟩⟩⟩, ?_⟩
      rintro _ H1 ⟨rfl, s1, qn⟩
      iterate 2 (refine cut_skip ⟨_, rfl, rfl, _, rfl, iteF ⟨rfl, rfl⟩⟩ ?_)
      exact ⟨_, rfl, rfl, _, rfl, iteF (qn H1 s1)⟩
  | gr hw fx vy fz a b c d =>
    rcases hw with rfl | rfl
    · iterate 1 (refine cut_skip ⟨_, rfl, rfl, _, rfl, iteF ⟨rfl, rfl⟩⟩ ?_)
      refine ⟨fun σ' H' => σ' = [some (.int 1), some (.ref r)] ∧ Same H H' ∧ (∀ H'', Same H H'' → Q .non H''), ⟨_, rfl, rfl, _, rfl, iteT ⟨_, rfl, r, _, _, _, rfl, rfl, SqL.of hr0, rfl, _, rfl, r, _, _, _, rfl, rfl, SqL.of hr0, rfl, _, rfl, r, _, _, _, rfl, rfl, SqL.of hr0, rfl, _, _, _, rfl, fx, vy, fz, fun n => out.f (a n), fun hs hx i => out.t (b hs hx i), fun hs hx i n => out.f (c hs hx i n), fun hs ms hx hz t et ht p H' s' _ => ⟨rfl, s', (out.n (d hs hx (by rw [et]; exact isIdx_nat ht) ⟨ms, hz⟩)).2⟩⟩⟩, ?_⟩
      rintro _ H1 ⟨rfl, s1, qn⟩
      iterate 6 (refine cut_skip ⟨_, rfl, rfl, _, rfl, iteF ⟨rfl, rfl⟩⟩ ?_)
      exact ⟨_, rfl, rfl, _, rfl, iteF (qn H1 s1)⟩
    · iterate 6 (refine cut_skip ⟨_, rfl, rfl, _, rfl, iteF ⟨rfl, rfl⟩⟩ ?_)
      refine ⟨fun σ' H' => σ' = [some (.int 6), some (.ref r)] ∧ Same H H' ∧ (∀ H'', Same H H'' → Q .non H''), ⟨_, rfl, rfl, _, rfl, iteT ⟨_, rfl, r, _, _, _, rfl, rfl, SqL.of hr0, rfl, _, rfl, r, _, _, _, rfl, rfl, SqL.of hr0, rfl, _, rfl, r, _, _, _, rfl, rfl, SqL.of hr0, rfl, _, _, _, rfl, fx, vy, fz, fun n => out.f (a n), fun hs hx i => out.t (b hs hx i), fun hs hx i n => out.f (c hs hx i n), fun hs ms hx hz t et ht p H' s' _ => ⟨rfl, s', (out.n (d hs hx (by rw [et]; exact isIdx_nat ht) ⟨ms, hz⟩)).2⟩⟩⟩, ?_⟩
      rintro _ H1 ⟨rfl, s1, qn⟩
      iterate 1 (refine cut_skip ⟨_, rfl, rfl, _, rfl, iteF ⟨rfl, rfl⟩⟩ ?_)
      exact ⟨_, rfl, rfl, _, rfl, iteF (qn H1 s1)⟩
  | pa hw fx vy a b d =>
    subst hw
    iterate 2 (refine cut_skip ⟨_, rfl, rfl, _, rfl, iteF ⟨rfl, rfl⟩⟩ ?_)
    refine ⟨fun σ' H' => σ' = [some (.int 2), some (.ref r)] ∧ Same H H' ∧ (∀ H'', Same H H'' → Q .non H''), ⟨_, rfl, rfl, _, rfl, iteT ⟨_, rfl, r, _, _, _, rfl, rfl, SqL.of hr0, rfl, _, rfl, r, _, _, _, rfl, rfl, SqL.of hr0, rfl, _, _, rfl, fx, vy, fun n => out.f (a n), fun hs hx i => out.t (b hs hx i), fun hs hx t et ht p H' s' _ => ⟨rfl, s', (out.n (d hs hx (by rw [et]; exact isIdx_nat ht))).2⟩⟩⟩, ?_⟩
    rintro _ H1 ⟨rfl, s1, qn⟩
    iterate 5 (refine cut_skip ⟨_, rfl, rfl, _, rfl, iteF ⟨rfl, rfl⟩⟩ ?_)
    exact ⟨_, rfl, rfl, _, rfl, iteF (qn H1 s1)⟩
  | wi hw fx vy a b c d =>
    rcases hw with rfl | rfl
    · iterate 3 (refine cut_skip ⟨_, rfl, rfl, _, rfl, iteF ⟨rfl, rfl⟩⟩ ?_)
      refine ⟨fun σ' H' => σ' = [some (.int 3), some (.ref r)] ∧ Same H H' ∧ (∀ H'', Same H H'' → Q .non H''), ⟨_, rfl, rfl, _, rfl, iteT ⟨_, rfl, r, _, _, _, rfl, rfl, SqL.of hr0, rfl, _, rfl, r, _, _, _, rfl, rfl, SqL.of hr0, rfl, _, _, rfl, fx, vy, fun n => out.f (a n), fun hs hx i => out.t (b hs hx i), fun hs hx i l => out.o (c hs hx i l), fun hs hx t et ht l2 p H' s' _ => ⟨rfl, s', (out.n (d hs hx (by rw [et]; exact isIdx_nat ht) l2)).2⟩⟩⟩, ?_⟩
      rintro _ H1 ⟨rfl, s1, qn⟩
      iterate 4 (refine cut_skip ⟨_, rfl, rfl, _, rfl, iteF ⟨rfl, rfl⟩⟩ ?_)
      exact ⟨_, rfl, rfl, _, rfl, iteF (qn H1 s1)⟩
    · iterate 7 (refine cut_skip ⟨_, rfl, rfl, _, rfl, iteF ⟨rfl, rfl⟩⟩ ?_)
      refine ⟨fun σ' H' => σ' = [some (.int 7), some (.ref r)] ∧ Same H H' ∧ (∀ H'', Same H H'' → Q .non H''), ⟨_, rfl, rfl, _, rfl, iteT ⟨_, rfl, r, _, _, _, rfl, rfl, SqL.of hr0, rfl, _, rfl, r, _, _, _, rfl, rfl, SqL.of hr0, rfl, _, _, rfl, fx, vy, fun n => out.f (a n), fun hs hx i => out.t (b hs hx i), fun hs hx i l => out.o (c hs hx i l), fun hs hx t et ht l2 p H' s' _ => ⟨rfl, s', (out.n (d hs hx (by rw [et]; exact isIdx_nat ht) l2)).2⟩⟩⟩, ?_⟩
      rintro _ H1 ⟨rfl, s1, qn⟩
      exact ⟨_, rfl, rfl, _, rfl, iteF (qn H1 s1)⟩
  | ah hw fx vy vz a b c d e =>
    rcases hw with rfl | rfl
    · iterate 4 (refine cut_skip ⟨_, rfl, rfl, _, rfl, iteF ⟨rfl, rfl⟩⟩ ?_)
      refine ⟨fun σ' H' => σ' = [some (.int 4), some (.ref r)] ∧ Same H H' ∧ (∀ H'', Same H H'' → Q .non H''), ⟨_, rfl, rfl, _, rfl, iteT ⟨_, rfl, r, _, _, _, rfl, rfl, SqL.of hr0, rfl, _, rfl, r, _, _, _, rfl, rfl, SqL.of hr0, rfl, _, rfl, r, _, _, _, rfl, rfl, SqL.of hr0, rfl, _, _, _, rfl, fx, vy, vz, fun n => out.f (a n), fun hs hx i => out.t (b hs hx i), fun hs hx i j => out.t (c hs hx i j), fun hs hx t et eu ht => out.s (d hs hx t et eu ht), fun hs hx t u et eu ht hu ne => ⟨fun H' s' => (out.n (e hs hx t u et eu ht hu ne)).1 H' s', fun v H' s' => ⟨rfl, s', (out.n (e hs hx t u et eu ht hu ne)).2⟩⟩⟩⟩, ?_⟩
      rintro _ H1 ⟨rfl, s1, qn⟩
      iterate 3 (refine cut_skip ⟨_, rfl, rfl, _, rfl, iteF ⟨rfl, rfl⟩⟩ ?_)
      exact ⟨_, rfl, rfl, _, rfl, iteF (qn H1 s1)⟩
    · iterate 8 (refine cut_skip ⟨_, rfl, rfl, _, rfl, iteF ⟨rfl, rfl⟩⟩ ?_)
      exact ⟨_, rfl, rfl, _, rfl, iteT ⟨_, rfl, r, _, _, _, rfl, rfl, SqL.of hr0, rfl, _, rfl, r, _, _, _, rfl, rfl, SqL.of hr0, rfl, _, rfl, r, _, _, _, rfl, rfl, SqL.of hr0, rfl, _, _, _, rfl, fx, vy, vz, fun n => out.f (a n), fun hs hx i => out.t (b hs hx i), fun hs hx i j => out.t (c hs hx i j), fun hs hx t et eu ht => out.s (d hs hx t et eu ht), fun hs hx t u et eu ht hu ne => ⟨fun H' s' => (out.n (e hs hx t u et eu ht hu ne)).1 H' s', fun v H' s' => (out.n (e hs hx t u et eu ht hu ne)).2 H' s'⟩⟩⟩
def spCaught47 : Sp := fun vs H Q _ => ∃ (way : Int) (r : Addr) (xs : List V) (ds : List PyData) (due : Str), vs = [.int way, .ref r] ∧ H r = some (.lst xs) ∧ r ≠ sysModules ∧ Rps true H xs ds ∧ Shows (.list ds) ∧ RowD H way xs due ∧
  ∀ H', Same H H' → Q (.str due) H'
structure Gl5 (K : PySem.W.Frag) (mg : Str → Option Value) (CH CF CT CN CO CS : Addr) : Prop where
  gH : mg "HolderError" = some (.ref CH)
  gF : mg "InvalidForest" = some (.ref CF)
  gT : mg "InvalidThing" = some (.ref CT)
  gN : mg "NoForest" = some (.ref CN)
  gO : mg "OnlyThing" = some (.ref CO)
  gS : mg "SameThing" = some (.ref CS)
  bV : mg "ValueError" = none
structure ExO (K : PySem.W.Frag) (CH CF CT CN CO CS c : Addr) (b0 b1 b2 b3 b4 : Bool) : Prop where
  x : ExcC K c
  m : PySem.W.exmOne K (.ref c) (.ref CH) = some true
  i0 : PySem.W.kitOne K (.ref c) (.ref CF) = some b0
  i1 : PySem.W.kitOne K (.ref c) (.ref CT) = some b1
  i2 : PySem.W.kitOne K (.ref c) (.ref CN) = some b2
  i3 : PySem.W.kitOne K (.ref c) (.ref CO) = some b3
  i4 : PySem.W.kitOne K (.ref c) (.ref CS) = some b4
  iV : PySem.W.kitOne K (.ref c) (.type "ValueError") = some true
def t_caught_body (CF CT CO CS CN : Addr) (W : WX) : TS := tDrop (tCallS (spCalled47 CF CT CO CS CN) (WE W) (tCons (tVar 0) (tCons (tVar 1) tNil)))
def t_isi (K : PySem.W.Frag) (a : Addr) (cls : Value) (d : Option Addr) (v : V) : TE := tCB (rIsEG K a cls d) (tCons (tVar 4) (tCons (tC v) tNil))
def t_caught_suite (K : PySem.W.Frag) (CF CT CN CO CS : Addr) (a : Addr) (cls : Value) (d : Option Addr) : TS :=
  tSeq (tAsg (tLst (tCons (t_isi K a cls d (.ref CF)) (tCons (t_isi K a cls d (.ref CT)) (tCons (t_isi K a cls d (.ref CN)) tNil)))) (gName 3))
    (tSeq (tAsg (tOp rCat (tVar 3) (tLst (tCons (t_isi K a cls d (.ref CO)) (tCons (t_isi K a cls d (.ref CS)) tNil)))) (gName 3))
      (tSeq (tIfS (tOr (tNot (tB (t_isi K a cls d (.ty "ValueError")))) (tTest (tOp rNe (tBM K "list" (rCntV K) (tVar 3) (tCons (tC (.bl true)) tNil)) (tC (.int 1))))) (tRet (tC (.str "odd"))) tNext)
        (tRet (tOp (rIxL K) (tLst (tCons (tC (.str "forest")) (tCons (tC (.str "thing")) (tCons (tC (.str "none")) (tCons (tC (.str "only")) (tCons (tC (.str "same")) tNil)))))) (tBM K "list" (rIndex K) (tVar 3) (tCons (tC (.bl true)) tNil))))))
end
section
variable {P : Program} {w : World} {K : PySem.W.Frag} {mg : Str → Option Value} {base : Heap} {CH CF CT CO CS CN : Addr}
theorem suite0 {c : Addr} (T : ExO K CH CF CT CN CO CS c true false false false false) {D : Ends} {H1 : Hp} {v0 v1 v2 v3 v4 : Option V} (k : ∀ H', Same H1 H' → D.rt (.str "forest") H') : wAs K (.ref CH) 4 (t_caught_suite K CF CT CN CO CS) (fun _ _ _ _ => False) D (.ref c) none [v0, v1, v2, v3, v4] H1 := by
  refine ⟨true, T.m, fun _ a ha => ?_, fun q => Bool.noConfusion q⟩
  refine ⟨_, rfl, c, rfl, rfl, T.x, .ref CF, .ref CF, true, rfl, fun u r => r, T.i0, _, rfl, c, rfl, rfl, T.x, .ref CT, .ref CT, false, rfl, fun u r => r, T.i1, _, rfl, c, rfl, rfl, T.x, .ref CN, .ref CN, false, rfl, fun u r => r, T.i2, by show 3 ≤ sizeLine; decide, fun L hL => ?_⟩
  have s1 := (Same.refl H1).new (o := .lst [V.bl true, V.bl false, V.bl false]) hL
  have oL : upd H1 L (.lst [V.bl true, V.bl false, V.bl false]) L = some (.lst [V.bl true, V.bl false, V.bl false]) := upd_same
  generalize upd H1 L (.lst [V.bl true, V.bl false, V.bl false]) = H2 at s1 oL ⊢
  refine ⟨_, rfl, _, rfl, c, rfl, rfl, T.x, .ref CO, .ref CO, false, rfl, fun u r => r, T.i3, _, rfl, c, rfl, rfl, T.x, .ref CS, .ref CS, false, rfl, fun u r => r, T.i4, by show 2 ≤ sizeLine; decide, fun M hM => ?_⟩
  have s2 := (Same.refl H2).new (o := .lst [V.bl false, V.bl false]) hM
  have oM : upd H2 M (.lst [V.bl false, V.bl false]) M = some (.lst [V.bl false, V.bl false]) := upd_same
  generalize upd H2 M (.lst [V.bl false, V.bl false]) = H3 at s2 oM ⊢
  refine ⟨L, M, _, _, rfl, rfl, s2 _ _ oL, oM, by show 5 ≤ sizeLine; decide, fun N hN => ?_⟩
  have s3 := (Same.refl H3).new (o := .lst ([V.bl true, V.bl false, V.bl false] ++ [V.bl false, V.bl false])) hN
  have oN : upd H3 N (.lst ([V.bl true, V.bl false, V.bl false] ++ [V.bl false, V.bl false])) N = some (.lst [V.bl true, V.bl false, V.bl false, V.bl false, V.bl false]) := upd_same
  generalize upd H3 N (.lst ([V.bl true, V.bl false, V.bl false] ++ [V.bl false, V.bl false])) = H4 at s3 oN ⊢
  refine ⟨_, rfl, c, rfl, rfl, T.x, .ty "ValueError", .type "ValueError", true, rfl, fun u r => r, T.iV, _, rfl, iteF ?_⟩
  refine ⟨_, rfl, .inl ⟨rfl, _, SqL.of oN⟩, N, _, .bl true, rfl, rfl, SqL.of oN, rfl, rfl, rfl, _, rfl, iteF ?_⟩
  refine ⟨by show 5 ≤ sizeLine; decide, fun R hR => ?_⟩
  have s4 := (Same.refl H4).new (o := .lst [V.str "forest", .str "thing", .str "none", .str "only", .str "same"]) hR
  have oR : upd H4 R (.lst [V.str "forest", .str "thing", .str "none", .str "only", .str "same"]) R = some (.lst [V.str "forest", .str "thing", .str "none", .str "only", .str "same"]) := upd_same
  generalize upd H4 R (.lst [V.str "forest", .str "thing", .str "none", .str "only", .str "same"]) = H5 at s4 oR ⊢
  refine ⟨_, rfl, .inl ⟨rfl, _, SqL.of (s4 _ _ oN)⟩, N, [V.bl true, V.bl false, V.bl false, V.bl false, V.bl false], .bl true, 0, .bl true, rfl, rfl, SqL.of (s4 _ _ oN), rfl, rfl, rfl, rfl, fun m z hm => absurd hm (Nat.not_lt_zero m), R, _, _, _, rfl, rfl, SqL.of oR, atI_nat rfl, ?_⟩
  exact k _ (((s1.trans s2).trans s3).trans s4)
theorem suite1 {c : Addr} (T : ExO K CH CF CT CN CO CS c false true false false false) {D : Ends} {H1 : Hp} {v0 v1 v2 v3 v4 : Option V} (k : ∀ H', Same H1 H' → D.rt (.str "thing") H') : wAs K (.ref CH) 4 (t_caught_suite K CF CT CN CO CS) (fun _ _ _ _ => False) D (.ref c) none [v0, v1, v2, v3, v4] H1 := by
  refine ⟨true, T.m, fun _ a ha => ?_, fun q => Bool.noConfusion q⟩
  refine ⟨_, rfl, c, rfl, rfl, T.x, .ref CF, .ref CF, false, rfl, fun u r => r, T.i0, _, rfl, c, rfl, rfl, T.x, .ref CT, .ref CT, true, rfl, fun u r => r, T.i1, _, rfl, c, rfl, rfl, T.x, .ref CN, .ref CN, false, rfl, fun u r => r, T.i2, by show 3 ≤ sizeLine; decide, fun L hL => ?_⟩
  have s1 := (Same.refl H1).new (o := .lst [V.bl false, V.bl true, V.bl false]) hL
  have oL : upd H1 L (.lst [V.bl false, V.bl true, V.bl false]) L = some (.lst [V.bl false, V.bl true, V.bl false]) := upd_same
  generalize upd H1 L (.lst [V.bl false, V.bl true, V.bl false]) = H2 at s1 oL ⊢
  refine ⟨_, rfl, _, rfl, c, rfl, rfl, T.x, .ref CO, .ref CO, false, rfl, fun u r => r, T.i3, _, rfl, c, rfl, rfl, T.x, .ref CS, .ref CS, false, rfl, fun u r => r, T.i4, by show 2 ≤ sizeLine; decide, fun M hM => ?_⟩
  have s2 := (Same.refl H2).new (o := .lst [V.bl false, V.bl false]) hM
  have oM : upd H2 M (.lst [V.bl false, V.bl false]) M = some (.lst [V.bl false, V.bl false]) := upd_same
  generalize upd H2 M (.lst [V.bl false, V.bl false]) = H3 at s2 oM ⊢
  refine ⟨L, M, _, _, rfl, rfl, s2 _ _ oL, oM, by show 5 ≤ sizeLine; decide, fun N hN => ?_⟩
  have s3 := (Same.refl H3).new (o := .lst ([V.bl false, V.bl true, V.bl false] ++ [V.bl false, V.bl false])) hN
  have oN : upd H3 N (.lst ([V.bl false, V.bl true, V.bl false] ++ [V.bl false, V.bl false])) N = some (.lst [V.bl false, V.bl true, V.bl false, V.bl false, V.bl false]) := upd_same
  generalize upd H3 N (.lst ([V.bl false, V.bl true, V.bl false] ++ [V.bl false, V.bl false])) = H4 at s3 oN ⊢
  refine ⟨_, rfl, c, rfl, rfl, T.x, .ty "ValueError", .type "ValueError", true, rfl, fun u r => r, T.iV, _, rfl, iteF ?_⟩
  refine ⟨_, rfl, .inl ⟨rfl, _, SqL.of oN⟩, N, _, .bl true, rfl, rfl, SqL.of oN, rfl, rfl, rfl, _, rfl, iteF ?_⟩
  refine ⟨by show 5 ≤ sizeLine; decide, fun R hR => ?_⟩
  have s4 := (Same.refl H4).new (o := .lst [V.str "forest", .str "thing", .str "none", .str "only", .str "same"]) hR
  have oR : upd H4 R (.lst [V.str "forest", .str "thing", .str "none", .str "only", .str "same"]) R = some (.lst [V.str "forest", .str "thing", .str "none", .str "only", .str "same"]) := upd_same
  generalize upd H4 R (.lst [V.str "forest", .str "thing", .str "none", .str "only", .str "same"]) = H5 at s4 oR ⊢
  refine ⟨_, rfl, .inl ⟨rfl, _, SqL.of (s4 _ _ oN)⟩, N, [V.bl false, V.bl true, V.bl false, V.bl false, V.bl false], .bl true, 1, .bl true, rfl, rfl, SqL.of (s4 _ _ oN), rfl, rfl, rfl, rfl, fun m z hm hz => (by
    have e0 : m = 0 := by omega
    subst e0
    (rw [← Option.some.inj hz]; rfl)), R, _, _, _, rfl, rfl, SqL.of oR, atI_nat rfl, ?_⟩
  exact k _ (((s1.trans s2).trans s3).trans s4)
theorem suite2 {c : Addr} (T : ExO K CH CF CT CN CO CS c false false true false false) {D : Ends} {H1 : Hp} {v0 v1 v2 v3 v4 : Option V} (k : ∀ H', Same H1 H' → D.rt (.str "none") H') : wAs K (.ref CH) 4 (t_caught_suite K CF CT CN CO CS) (fun _ _ _ _ => False) D (.ref c) none [v0, v1, v2, v3, v4] H1 := by
  refine ⟨true, T.m, fun _ a ha => ?_, fun q => Bool.noConfusion q⟩
  refine ⟨_, rfl, c, rfl, rfl, T.x, .ref CF, .ref CF, false, rfl, fun u r => r, T.i0, _, rfl, c, rfl, rfl, T.x, .ref CT, .ref CT, false, rfl, fun u r => r, T.i1, _, rfl, c, rfl, rfl, T.x, .ref CN, .ref CN, true, rfl, fun u r => r, T.i2, by show 3 ≤ sizeLine; decide, fun L hL => ?_⟩
  have s1 := (Same.refl H1).new (o := .lst [V.bl false, V.bl false, V.bl true]) hL
  have oL : upd H1 L (.lst [V.bl false, V.bl false, V.bl true]) L = some (.lst [V.bl false, V.bl false, V.bl true]) := upd_same
  generalize upd H1 L (.lst [V.bl false, V.bl false, V.bl true]) = H2 at s1 oL ⊢
  refine ⟨_, rfl, _, rfl, c, rfl, rfl, T.x, .ref CO, .ref CO, false, rfl, fun u r => r, T.i3, _, rfl, c, rfl, rfl, T.x, .ref CS, .ref CS, false, rfl, fun u r => r, T.i4, by show 2 ≤ sizeLine; decide, fun M hM => ?_⟩
  have s2 := (Same.refl H2).new (o := .lst [V.bl false, V.bl false]) hM
  have oM : upd H2 M (.lst [V.bl false, V.bl false]) M = some (.lst [V.bl false, V.bl false]) := upd_same
  generalize upd H2 M (.lst [V.bl false, V.bl false]) = H3 at s2 oM ⊢
  refine ⟨L, M, _, _, rfl, rfl, s2 _ _ oL, oM, by show 5 ≤ sizeLine; decide, fun N hN => ?_⟩
  have s3 := (Same.refl H3).new (o := .lst ([V.bl false, V.bl false, V.bl true] ++ [V.bl false, V.bl false])) hN
  have oN : upd H3 N (.lst ([V.bl false, V.bl false, V.bl true] ++ [V.bl false, V.bl false])) N = some (.lst [V.bl false, V.bl false, V.bl true, V.bl false, V.bl false]) := upd_same
  generalize upd H3 N (.lst ([V.bl false, V.bl false, V.bl true] ++ [V.bl false, V.bl false])) = H4 at s3 oN ⊢
  refine ⟨_, rfl, c, rfl, rfl, T.x, .ty "ValueError", .type "ValueError", true, rfl, fun u r => r, T.iV, _, rfl, iteF ?_⟩
  refine ⟨_, rfl, .inl ⟨rfl, _, SqL.of oN⟩, N, _, .bl true, rfl, rfl, SqL.of oN, rfl, rfl, rfl, _, rfl, iteF ?_⟩
  refine ⟨by show 5 ≤ sizeLine; decide, fun R hR => ?_⟩
  have s4 := (Same.refl H4).new (o := .lst [V.str "forest", .str "thing", .str "none", .str "only", .str "same"]) hR
  have oR : upd H4 R (.lst [V.str "forest", .str "thing", .str "none", .str "only", .str "same"]) R = some (.lst [V.str "forest", .str "thing", .str "none", .str "only", .str "same"]) := upd_same
  generalize upd H4 R (.lst [V.str "forest", .str "thing", .str "none", .str "only", .str "same"]) = H5 at s4 oR ⊢
  refine ⟨_, rfl, .inl ⟨rfl, _, SqL.of (s4 _ _ oN)⟩, N, [V.bl false, V.bl false, V.bl true, V.bl false, V.bl false], .bl true, 2, .bl true, rfl, rfl, SqL.of (s4 _ _ oN), rfl, rfl, rfl, rfl, fun m z hm hz => (by
    have e0 : m = 0 ∨ m = 1 := by omega
    rcases e0 with rfl | rfl <;>
      (rw [← Option.some.inj hz]; rfl)), R, _, _, _, rfl, rfl, SqL.of oR, atI_nat rfl, ?_⟩
  exact k _ (((s1.trans s2).trans s3).trans s4)
theorem suite3 {c : Addr} (T : ExO K CH CF CT CN CO CS c false false false true false) {D : Ends} {H1 : Hp} {v0 v1 v2 v3 v4 : Option V} (k : ∀ H', Same H1 H' → D.rt (.str "only") H') : wAs K (.ref CH) 4 (t_caught_suite K CF CT CN CO CS) (fun _ _ _ _ => False) D (.ref c) none [v0, v1, v2, v3, v4] H1 := by
  refine ⟨true, T.m, fun _ a ha => ?_, fun q => Bool.noConfusion q⟩
  refine ⟨_, rfl, c, rfl, rfl, T.x, .ref CF, .ref CF, false, rfl, fun u r => r, T.i0, _, rfl, c, rfl, rfl, T.x, .ref CT, .ref CT, false, rfl, fun u r => r, T.i1, _, rfl, c, rfl, rfl, T.x, .ref CN, .ref CN, false, rfl, fun u r => r, T.i2, by show 3 ≤ sizeLine; decide, fun L hL => ?_⟩
  have s1 := (Same.refl H1).new (o := .lst [V.bl false, V.bl false, V.bl false]) hL
  have oL : upd H1 L (.lst [V.bl false, V.bl false, V.bl false]) L = some (.lst [V.bl false, V.bl false, V.bl false]) := upd_same
  generalize upd H1 L (.lst [V.bl false, V.bl false, V.bl false]) = H2 at s1 oL ⊢
  refine ⟨_, rfl, _, rfl, c, rfl, rfl, T.x, .ref CO, .ref CO, true, rfl, fun u r => r, T.i3, _, rfl, c, rfl, rfl, T.x, .ref CS, .ref CS, false, rfl, fun u r => r, T.i4, by show 2 ≤ sizeLine; decide, fun M hM => ?_⟩
  have s2 := (Same.refl H2).new (o := .lst [V.bl true, V.bl false]) hM
  have oM : upd H2 M (.lst [V.bl true, V.bl false]) M = some (.lst [V.bl true, V.bl false]) := upd_same
  generalize upd H2 M (.lst [V.bl true, V.bl false]) = H3 at s2 oM ⊢
  refine ⟨L, M, _, _, rfl, rfl, s2 _ _ oL, oM, by show 5 ≤ sizeLine; decide, fun N hN => ?_⟩
  have s3 := (Same.refl H3).new (o := .lst ([V.bl false, V.bl false, V.bl false] ++ [V.bl true, V.bl false])) hN
  have oN : upd H3 N (.lst ([V.bl false, V.bl false, V.bl false] ++ [V.bl true, V.bl false])) N = some (.lst [V.bl false, V.bl false, V.bl false, V.bl true, V.bl false]) := upd_same
  generalize upd H3 N (.lst ([V.bl false, V.bl false, V.bl false] ++ [V.bl true, V.bl false])) = H4 at s3 oN ⊢
  refine ⟨_, rfl, c, rfl, rfl, T.x, .ty "ValueError", .type "ValueError", true, rfl, fun u r => r, T.iV, _, rfl, iteF ?_⟩
  refine ⟨_, rfl, .inl ⟨rfl, _, SqL.of oN⟩, N, _, .bl true, rfl, rfl, SqL.of oN, rfl, rfl, rfl, _, rfl, iteF ?_⟩
  refine ⟨by show 5 ≤ sizeLine; decide, fun R hR => ?_⟩
  have s4 := (Same.refl H4).new (o := .lst [V.str "forest", .str "thing", .str "none", .str "only", .str "same"]) hR
  have oR : upd H4 R (.lst [V.str "forest", .str "thing", .str "none", .str "only", .str "same"]) R = some (.lst [V.str "forest", .str "thing", .str "none", .str "only", .str "same"]) := upd_same
  generalize upd H4 R (.lst [V.str "forest", .str "thing", .str "none", .str "only", .str "same"]) = H5 at s4 oR ⊢
  refine ⟨_, rfl, .inl ⟨rfl, _, SqL.of (s4 _ _ oN)⟩, N, [V.bl false, V.bl false, V.bl false, V.bl true, V.bl false], .bl true, 3, .bl true, rfl, rfl, SqL.of (s4 _ _ oN), rfl, rfl, rfl, rfl, fun m z hm hz => (by
    have e0 : m = 0 ∨ m = 1 ∨ m = 2 := by omega
    rcases e0 with rfl | rfl | rfl <;>
      (rw [← Option.some.inj hz]; rfl)), R, _, _, _, rfl, rfl, SqL.of oR, atI_nat rfl, ?_⟩
  exact k _ (((s1.trans s2).trans s3).trans s4)
theorem suite4 {c : Addr} (T : ExO K CH CF CT CN CO CS c false false false false true) {D : Ends} {H1 : Hp} {v0 v1 v2 v3 v4 : Option V} (k : ∀ H', Same H1 H' → D.rt (.str "same") H') : wAs K (.ref CH) 4 (t_caught_suite K CF CT CN CO CS) (fun _ _ _ _ => False) D (.ref c) none [v0, v1, v2, v3, v4] H1 := by
  refine ⟨true, T.m, fun _ a ha => ?_, fun q => Bool.noConfusion q⟩
  refine ⟨_, rfl, c, rfl, rfl, T.x, .ref CF, .ref CF, false, rfl, fun u r => r, T.i0, _, rfl, c, rfl, rfl, T.x, .ref CT, .ref CT, false, rfl, fun u r => r, T.i1, _, rfl, c, rfl, rfl, T.x, .ref CN, .ref CN, false, rfl, fun u r => r, T.i2, by show 3 ≤ sizeLine; decide, fun L hL => ?_⟩
  have s1 := (Same.refl H1).new (o := .lst [V.bl false, V.bl false, V.bl false]) hL
  have oL : upd H1 L (.lst [V.bl false, V.bl false, V.bl false]) L = some (.lst [V.bl false, V.bl false, V.bl false]) := upd_same
  generalize upd H1 L (.lst [V.bl false, V.bl false, V.bl false]) = H2 at s1 oL ⊢
  refine ⟨_, rfl, _, rfl, c, rfl, rfl, T.x, .ref CO, .ref CO, false, rfl, fun u r => r, T.i3, _, rfl, c, rfl, rfl, T.x, .ref CS, .ref CS, true, rfl, fun u r => r, T.i4, by show 2 ≤ sizeLine; decide, fun M hM => ?_⟩
  have s2 := (Same.refl H2).new (o := .lst [V.bl false, V.bl true]) hM
  have oM : upd H2 M (.lst [V.bl false, V.bl true]) M = some (.lst [V.bl false, V.bl true]) := upd_same
  generalize upd H2 M (.lst [V.bl false, V.bl true]) = H3 at s2 oM ⊢
  refine ⟨L, M, _, _, rfl, rfl, s2 _ _ oL, oM, by show 5 ≤ sizeLine; decide, fun N hN => ?_⟩
  have s3 := (Same.refl H3).new (o := .lst ([V.bl false, V.bl false, V.bl false] ++ [V.bl false, V.bl true])) hN
  have oN : upd H3 N (.lst ([V.bl false, V.bl false, V.bl false] ++ [V.bl false, V.bl true])) N = some (.lst [V.bl false, V.bl false, V.bl false, V.bl false, V.bl true]) := upd_same
  generalize upd H3 N (.lst ([V.bl false, V.bl false, V.bl false] ++ [V.bl false, V.bl true])) = H4 at s3 oN ⊢
  refine ⟨_, rfl, c, rfl, rfl, T.x, .ty "ValueError", .type "ValueError", true, rfl, fun u r => r, T.iV, _, rfl, iteF ?_⟩
  refine ⟨_, rfl, .inl ⟨rfl, _, SqL.of oN⟩, N, _, .bl true, rfl, rfl, SqL.of oN, rfl, rfl, rfl, _, rfl, iteF ?_⟩
  refine ⟨by show 5 ≤ sizeLine; decide, fun R hR => ?_⟩
  have s4 := (Same.refl H4).new (o := .lst [V.str "forest", .str "thing", .str "none", .str "only", .str "same"]) hR
  have oR : upd H4 R (.lst [V.str "forest", .str "thing", .str "none", .str "only", .str "same"]) R = some (.lst [V.str "forest", .str "thing", .str "none", .str "only", .str "same"]) := upd_same
  generalize upd H4 R (.lst [V.str "forest", .str "thing", .str "none", .str "only", .str "same"]) = H5 at s4 oR ⊢
  refine ⟨_, rfl, .inl ⟨rfl, _, SqL.of (s4 _ _ oN)⟩, N, [V.bl false, V.bl false, V.bl false, V.bl false, V.bl true], .bl true, 4, .bl true, rfl, rfl, SqL.of (s4 _ _ oN), rfl, rfl, rfl, rfl, fun m z hm hz => (by
    have e0 : m = 0 ∨ m = 1 ∨ m = 2 ∨ m = 3 := by omega
    rcases e0 with rfl | rfl | rfl | rfl <;>
      (rw [← Option.some.inj hz]; rfl)), R, _, _, _, rfl, rfl, SqL.of oR, atI_nat rfl, ?_⟩
  exact k _ (((s1.trans s2).trans s3).trans s4)
abbrev st__law_caught : Stmt := topS 35
abbrev N__law_caught : List Str := ["way", "row", "before", "marks", "e"]
theorem sc__law_caught : FnScope N__law_caught ["way", "row"] (defScope st__law_caught) := ⟨rfl, rfl, rfl, by decide +kernel, rfl, by decide +kernel, by decide +kernel⟩
theorem ok__law_caught (D : Df K mg "_law_caught" st__law_caught ["way", "row"]) (B : Bl mg) (T : Gl5 K mg CH CF CT CN CO CS)
    (X0 : ExO K CH CF CT CN CO CS CF true false false false false) (X1 : ExO K CH CF CT CN CO CS CT false true false false false) (X2 : ExO K CH CF CT CN CO CS CN false false true false false)
    (X3 : ExO K CH CF CT CN CO CS CO false false false true false) (X4 : ExO K CH CF CT CN CO CS CS false false false false true)
    (K_law_called : Kn P w K mg base (L2.CX P w) 8 "_law_called" st__law_called ["way", "row"] (spCalled47 CF CT CO CS CN)) :
    KnQ P w K mg base 9 "_law_caught" st__law_caught ["way", "row"] spCaught47 := by
  refine D.okQ sc__law_caught (fun vs H Q E h => ?_) (fun f cdv A outer s H vs Q E hr hq h => ?_)
  · obtain ⟨way, r, xs, ds, due, rfl, _⟩ := h; rfl
  obtain ⟨way, r, xs, ds, due, rfl, hr0, nr, rp, sh, row, q⟩ := h
  refine ⟨_, pss_cons (ps_set (i := 2) sc__law_caught.nd rfl (Or.inl rfl) (by exact (pe_callB (call_repr hr hq) (by rfl) B.repr (by decide +kernel) (pa_cons (pv 1) pa_nil))))
    (pss_cons (ps_try_as (i := 4) (tb := t_caught_body CF CT CO CS CN) (ts := t_caught_suite K CF CT CN CO CS) (Wout := fun _ _ _ _ => False) rfl rfl sc__law_caught.nd rfl rfl ⟨rfl, by decide, Or.inl T.gH⟩ takes0
      (fun W pn xe tk _ => pss_one (ps_expr (by exact (pe_callFS K_law_called (hr.mono (by decide)) (fun σ => passAt tk σ) (by exact (pa_cons (pv 0) (pa_cons (pv 1) pa_nil)))))))
      (fun a oe cls d pn hz hf => pss_cons (ps_set (i := 3) sc__law_caught.nd rfl (Or.inl rfl) (by exact (pe_lst (pa_cons (pe_callB (call_isEG hz hf) (by rfl) B.isinstance (by decide +kernel) (pa_cons (pv 4) (pa_cons (pe_glob (v := .ref CF) (by rfl) T.gF rfl) pa_nil))) (pa_cons (pe_callB (call_isEG hz hf) (by rfl) B.isinstance (by decide +kernel) (pa_cons (pv 4) (pa_cons (pe_glob (v := .ref CT) (by rfl) T.gT rfl) pa_nil))) (pa_cons (pe_callB (call_isEG hz hf) (by rfl) B.isinstance (by decide +kernel) (pa_cons (pv 4) (pa_cons (pe_glob (v := .ref CN) (by rfl) T.gN rfl) pa_nil))) pa_nil))))))
        (pss_cons (ps_set (i := 3) sc__law_caught.nd rfl (Or.inl rfl) (by exact (pe_op op_cat (pv 3) (pe_lst (pa_cons (pe_callB (call_isEG hz hf) (by rfl) B.isinstance (by decide +kernel) (pa_cons (pv 4) (pa_cons (pe_glob (v := .ref CO) (by rfl) T.gO rfl) pa_nil))) (pa_cons (pe_callB (call_isEG hz hf) (by rfl) B.isinstance (by decide +kernel) (pa_cons (pv 4) (pa_cons (pe_glob (v := .ref CS) (by rfl) T.gS rfl) pa_nil))) pa_nil))))))
        (pss_cons (ps_if (by exact (PW.pt (pw_or (pt_not (pt_val (pe_callB (call_isEG hz hf) (by rfl) B.isinstance (by decide +kernel) (pa_cons (pv 4) (pa_cons (pe_bltn (v := .ty "ValueError") (u := .type "ValueError") (by rfl) T.bV (by decide +kernel) rfl) pa_nil))))) (pw_or1 (pt_cmpR op_ne (pe_bm PySem.F.plainAttrs_list PySem.F.slot_list_count PySem.F.type_list_count mt_lcountV (pv 3) (pa_cons pe_bl pa_nil)) pe_int (nomark _)))))) (pss_one (ps_ret pe_str)) pss_nil)
          (pss_one (ps_ret (by exact (pe_ix ix_list (pe_lst (pa_cons pe_str (pa_cons pe_str (pa_cons pe_str (pa_cons pe_str (pa_cons pe_str pa_nil)))))) (pe_bm PySem.F.plainAttrs_list PySem.F.slot_list_index PySem.F.type_list_index mt_index (pv 3) (pa_cons pe_bl pa_nil)) (fun _ _ => rfl)))))))))
    (pss_one (ps_ret (by exact (pe_ifExp (pt_cmpR op_eq (pe_callB (call_repr hr hq) (by rfl) B.repr (by decide +kernel) (pa_cons (pv 1) pa_nil)) (pv 2) (nomark _)) pe_str pe_str))))), ?_⟩
  refine ⟨_, rfl, true, _, _, rfl, .lst hr0 (fun _ => nr) rp, sh, ?_⟩
  refine ⟨_, rfl, _, rfl, way, r, xs, due, rfl, hr0, row, ⟨fun e H1 s1 => ?_, fun e H1 s1 => ?_, fun e H1 s1 => ?_, fun e H1 s1 => ?_, fun e => ⟨fun H1 s1 => ?_, fun H1 s1 => ?_⟩⟩⟩
  · exact suite0 X0 fun H' s' => by rw [← e]; exact q H' (s1.trans s')
  · exact suite1 X1 fun H' s' => by rw [← e]; exact q H' (s1.trans s')
  · exact suite3 X3 fun H' s' => by rw [← e]; exact q H' (s1.trans s')
  · exact suite4 X4 fun H' s' => by rw [← e]; exact q H' (s1.trans s')
  · exact suite2 X2 fun H' s' => by rw [← e]; exact q H' (s1.trans s')
  · refine ⟨_, rfl, true, _, _, rfl, .lst (s1 _ _ hr0) (fun _ => nr) (Rps.same s1 _ _ rp), sh, _, rfl, rfl, _, rfl, iteT' (decide_eq_true rfl) ?_⟩
    rw [← e]; exact q H1 s1
end

end My

namespace My
open PySem PySem.Spec PyProof.Rows L2
/-! ### rows of right and wrong values, and what is due -/
def kw (b : Bool) : Str := cond b "forest" "thing"
theorem kw_ne (b : Bool) : kw b ≠ "none" := by cases b <;> decide
structure It (H : Hp) (n : Nat) (b : Bool) (x : V) (g : Bool) : Prop where
  fo : b = true → FoV H x ∧ (IsF H x ↔ g = true)
  th : b = false → Vd H x ∧ isIdx (n : Int) x = g
  rp : ∃ d, Rp true H x d ∧ Md d
theorem It.same {H H' : Hp} {n : Nat} {b : Bool} {x : V} {g : Bool} (i : It H n b x g) (s : Same H H') : It H' n b x g :=
  ⟨fun e => ⟨(i.fo e).1.same s, by rw [isF_same (i.fo e).1.ask.vd s]; exact (i.fo e).2⟩, fun e => ⟨(i.th e).1.same s, (i.th e).2⟩, by
    obtain ⟨d, r, m⟩ := i.rp
    exact ⟨d, Rp.same s _ _ r, m⟩⟩
inductive Its (H : Hp) (n : Nat) : List Bool → List V → List Bool → Prop
  | nil : Its H n [] [] []
  | cons {b : Bool} {x : V} {g : Bool} {bs : List Bool} {xs : List V} {gs : List Bool} (h : It H n b x g) (r : Its H n bs xs gs) : Its H n (b :: bs) (x :: xs) (g :: gs)
theorem Its.same {H H' : Hp} {n : Nat} {bs : List Bool} {xs : List V} {gs : List Bool} (i : Its H n bs xs gs) (s : Same H H') : Its H' n bs xs gs := by
  induction i with
  | nil => exact .nil
  | cons h _ ih => exact .cons (h.same s) ih
theorem Its.snoc {H : Hp} {n : Nat} {bs : List Bool} {xs : List V} {gs : List Bool} {b : Bool} {x : V} {g : Bool} (i : Its H n bs xs gs) (h : It H n b x g) : Its H n (bs ++ [b]) (xs ++ [x]) (gs ++ [g]) := by
  induction i with
  | nil => exact .cons h .nil
  | cons h1 _ ih => exact .cons h1 ih
theorem Its.len {H : Hp} {n : Nat} {bs : List Bool} {xs : List V} {gs : List Bool} (i : Its H n bs xs gs) : bs.length = gs.length ∧ xs.length = gs.length := by
  induction i with
  | nil => exact ⟨rfl, rfl⟩
  | cons h _ ih => exact ⟨by rw [List.length_cons, List.length_cons, ih.1], by rw [List.length_cons, List.length_cons, ih.2]⟩
theorem Its.rps {H : Hp} {n : Nat} {bs : List Bool} {xs : List V} {gs : List Bool} (i : Its H n bs xs gs) : ∃ ds, Rps true H xs ds ∧ (∀ d ∈ ds, Md d) ∧ ds.length = xs.length := by
  induction i with
  | nil => exact ⟨[], .nil, fun d h => absurd h List.not_mem_nil, rfl⟩
  | cons h _ ih =>
    obtain ⟨ds, r, m, l⟩ := ih
    obtain ⟨d, r1, m1⟩ := h.rp
    refine ⟨d :: ds, .cons r1 r, fun y hy => ?_, by rw [List.length_cons, List.length_cons, l]⟩
    rcases List.mem_cons.mp hy with rfl | hy
    · exact m1
    · exact m y hy
def fw : List Bool → List Bool → Str
  | b :: bs, g :: gs => cond g (fw bs gs) (kw b)
  | _, _ => "none"
theorem fw_snoc : ∀ (bs gs : List Bool) (b g : Bool), bs.length = gs.length → fw (bs ++ [b]) (gs ++ [g]) = if fw bs gs = "none" then cond g ("none" : Str) (kw b) else fw bs gs
  | [], [], b, g, _ => (if_pos (c := fw [] [] = "none") rfl).symm
  | b0 :: bs, true :: gs, b, g, h => fw_snoc bs gs b g (Nat.succ.inj h)
  | b0 :: bs, false :: gs, b, g, h => (if_neg (kw_ne b0)).symm
  | [], g0 :: gs, b, g, h => by cases h
  | b0 :: bs, [], b, g, h => by cases h
theorem fw_none : ∀ (bs gs : List Bool), bs.length = gs.length → fw bs gs = "none" → ∀ g ∈ gs, g = true
  | [], [], _, _ => fun g h => by cases h
  | b0 :: bs, true :: gs, h, e => fun g hg => by
    rcases List.mem_cons.mp hg with rfl | hg
    · rfl
    · exact fw_none bs gs (Nat.succ.inj h) e g hg
  | b0 :: bs, false :: gs, h, e => absurd e (kw_ne b0)
  | [], g0 :: gs, h, _ => by cases h
  | b0 :: bs, [], h, _ => by cases h
def Hd (t : Addr) (xs : List V) (gs : List Bool) : Prop := ∀ x g xs' gs', xs = x :: xs' → gs = g :: gs' → g = true → x = .ref t
theorem Hd.snoc {t : Addr} {xs : List V} {gs : List Bool} {x : V} {g : Bool} (h : Hd t xs gs) (l : xs.length = gs.length) (h0 : xs = [] → g = true → x = .ref t) : Hd t (xs ++ [x]) (gs ++ [g]) := fun y k xs' gs' e1 e2 ek => by
  match xs, gs, l, h, h0 with
  | [], [], _, _, h0 =>
    cases e1; cases e2
    exact h0 rfl ek
  | x0 :: xs, g0 :: gs, _, h, _ =>
    cases e1; cases e2
    exact h _ _ _ _ rfl rfl ek
def ksn (w : Int) : List Bool := if w = 0 ∨ w = 5 then [true, true] else if w = 1 ∨ w = 6 then [true, false, true] else if w = 4 ∨ w = 8 then [true, false, false] else [true, false]
def d1 (w : Int) (n : Nat) (s : Str) : Str := if s = "none" ∧ (w = 3 ∨ w = 7) ∧ n = 1 then "only" else s
def d2 (w : Int) (xs : List V) (s : Str) : Str := if s = "none" ∧ (w = 4 ∨ w = 8) ∧ xs[1]? = xs[2]? then "same" else s
def dd (w : Int) (n : Nat) (xs : List V) (s : Str) : Str := d2 w xs (d1 w n s)
theorem dd_ne {w : Int} {n : Nat} {xs : List V} {s : Str} (h : s ≠ "none") : dd w n xs s = s := by
  have e : d1 w n s = s := if_neg fun z => h z.1
  unfold dd d2
  rw [e]; exact if_neg fun z => h z.1
theorem dd_none {w : Int} {n : Nat} {xs : List V} (h : ¬ (w = 3 ∨ w = 7)) (h2 : ¬ (w = 4 ∨ w = 8)) : dd w n xs "none" = "none" := by
  have e : d1 w n "none" = "none" := if_neg fun z => h z.2.1
  unfold dd d2
  rw [e]; exact if_neg fun z => h2 z.2.1
theorem dd_wi {w : Int} {n : Nat} {xs : List V} (h : w = 3 ∨ w = 7) : dd w n xs "none" = if n = 1 then ("only" : Str) else "none" := by
  by_cases c : n = 1
  · rw [if_pos c]
    have e : d1 w n "none" = "only" := if_pos ⟨rfl, h, c⟩
    unfold dd d2
    rw [e]; exact if_neg fun z => absurd z.1 (by decide)
  · rw [if_neg c]
    have e : d1 w n "none" = "none" := if_neg fun z => c z.2.2
    unfold dd d2
    rw [e]; exact if_neg fun z => by
      rcases h with h | h <;> rcases z.2.1 with k | k <;> omega
theorem dd_ah {w : Int} {n : Nat} {xs : List V} (h : w = 4 ∨ w = 8) : dd w n xs "none" = if xs[1]? = xs[2]? then ("same" : Str) else "none" := by
  have e : d1 w n "none" = "none" := if_neg fun z => by
    rcases h with h | h <;> rcases z.2.1 with k | k <;> omega
  unfold dd d2
  rw [e]
  by_cases c : xs[1]? = xs[2]?
  · rw [if_pos c]; exact if_pos ⟨rfl, h, c⟩
  · rw [if_neg c]; exact if_neg fun z => c z.2.2
theorem rowD_of {H : Hp} {n : Nat} {w : Int} {t : Addr} {hs : Hs} {xs : List V} {gs : List Bool} (h0 : 0 ≤ w) (h9 : w < 9) (I : Its H n (ksn w) xs gs) (ht : H t = some (.tup (hs.map hv))) (hn : hs.length = n) (hd : Hd t xs gs) :
    RowD H w xs (dd w n xs (fw (ksn w) gs)) := by
  have nf : ("forest" : Str) ≠ "none" := by decide
  have nt : ("thing" : Str) ≠ "none" := by decide
  have hlen : ∀ {x : V} {g : Bool} {xs' : List V} {gs' : List Bool}, xs = x :: xs' → gs = g :: gs' → (IsF H x ↔ g = true) → ∀ ms, IsH H x ms → g = true ∧ ms.length = n := fun {x g xs' gs'} e1 e2 i ms hm => by
    have eg := i.mp ⟨ms, hm⟩
    have ex := hd _ _ _ _ e1 e2 eg
    subst ex
    have z := hm.1
    rw [tupAt_tup ht] at z
    exact ⟨eg, by rw [← hv_inj (Option.some.inj z)]; exact hn⟩
  have hw : (w = 0 ∨ w = 5) ∨ (w = 1 ∨ w = 6) ∨ (w = 4 ∨ w = 8) ∨ (w = 2 ∨ w = 3 ∨ w = 7) := by omega
  rcases hw with hw | hw | hw | hw
  · have ek : ksn w = [true, true] := if_pos hw
    rw [ek] at I ⊢
    cases I with | @cons _ x g0 _ _ _ i0 I =>
    cases I with | @cons _ y g1 _ _ _ i1 I =>
    cases I
    obtain ⟨f0, j0⟩ := i0.fo rfl
    obtain ⟨f1, j1⟩ := i1.fo rfl
    refine .be hw f0 f1 (fun a => ?_) (fun a => ?_) (fun a b => ?_)
    · cases g0 with
      | true => exact absurd (j0.mpr rfl) a
      | false => exact dd_ne nf
    · cases g0 with
      | false => exact dd_ne nf
      | true =>
        cases g1 with
        | true => exact absurd (j1.mpr rfl) a
        | false => exact dd_ne nf
    · rw [j0.mp a, j1.mp b]
      exact dd_none (by omega) (by omega)
  · have ek : ksn w = [true, false, true] := by unfold ksn; rw [if_neg (by omega), if_pos hw]
    rw [ek] at I ⊢
    cases I with | @cons _ x g0 _ _ _ i0 I =>
    cases I with | @cons _ y g1 _ _ _ i1 I =>
    cases I with | @cons _ z g2 _ _ _ i2 I =>
    cases I
    obtain ⟨f0, j0⟩ := i0.fo rfl
    obtain ⟨v1, j1⟩ := i1.th rfl
    obtain ⟨f2, j2⟩ := i2.fo rfl
    have hl := hlen rfl rfl j0
    refine .gr hw f0 v1 f2 (fun a => ?_) (fun ms hm b => ?_) (fun ms hm b c => ?_) (fun ms hm b c => ?_)
    · cases g0 with
      | true => exact absurd (j0.mpr rfl) a
      | false => exact dd_ne nf
    · obtain ⟨e0, l⟩ := hl ms hm
      rw [l, j1] at b
      rw [e0, b]; exact dd_ne nt
    · obtain ⟨e0, l⟩ := hl ms hm
      rw [l, j1] at b
      cases g2 with
      | true => exact absurd (j2.mpr rfl) c
      | false => rw [e0, b]; exact dd_ne nf
    · obtain ⟨e0, l⟩ := hl ms hm
      rw [l, j1] at b
      rw [e0, b, j2.mp c]; exact dd_none (by omega) (by omega)
  · have ek : ksn w = [true, false, false] := by unfold ksn; rw [if_neg (by omega), if_neg (by omega), if_pos hw]
    rw [ek] at I ⊢
    cases I with | @cons _ x g0 _ _ _ i0 I =>
    cases I with | @cons _ y g1 _ _ _ i1 I =>
    cases I with | @cons _ z g2 _ _ _ i2 I =>
    cases I
    obtain ⟨f0, j0⟩ := i0.fo rfl
    obtain ⟨v1, j1⟩ := i1.th rfl
    obtain ⟨v2, j2⟩ := i2.th rfl
    have hl := hlen rfl rfl j0
    refine .ah hw f0 v1 v2 (fun a => ?_) (fun ms hm b => ?_) (fun ms hm b c => ?_) (fun ms hm u ey ez hu => ?_) (fun ms hm u v ey ez hu hv ne => ?_)
    · cases g0 with
      | true => exact absurd (j0.mpr rfl) a
      | false => exact dd_ne nf
    · obtain ⟨e0, l⟩ := hl ms hm
      rw [l, j1] at b
      rw [e0, b]; exact dd_ne nt
    · obtain ⟨e0, l⟩ := hl ms hm
      rw [l, j1] at b
      rw [l, j2] at c
      rw [e0, b, c]; exact dd_ne nt
    · obtain ⟨e0, l⟩ := hl ms hm
      rw [l] at hu
      rw [ey, isIdx_nat hu] at j1
      rw [ez, isIdx_nat hu] at j2
      rw [e0, ← j1, ← j2]
      refine (dd_ah hw).trans (if_pos ?_)
      rw [ey, ez]; rfl
    · obtain ⟨e0, l⟩ := hl ms hm
      rw [l] at hu hv
      rw [ey, isIdx_nat hu] at j1
      rw [ez, isIdx_nat hv] at j2
      rw [e0, ← j1, ← j2]
      refine (dd_ah hw).trans (if_neg ?_)
      rw [ey, ez]
      intro q
      have q2 : (u : Int) = (v : Int) := V.int.inj (Option.some.inj q)
      omega
  · have ek : ksn w = [true, false] := by unfold ksn; rw [if_neg (by omega), if_neg (by omega), if_neg (by omega)]
    rw [ek] at I ⊢
    cases I with | @cons _ x g0 _ _ _ i0 I =>
    cases I with | @cons _ y g1 _ _ _ i1 I =>
    cases I
    obtain ⟨f0, j0⟩ := i0.fo rfl
    obtain ⟨v1, j1⟩ := i1.th rfl
    have hl := hlen rfl rfl j0
    have a1 : ¬ IsF H x → dd w n [x, y] (fw [true, false] [g0, g1]) = "forest" := fun a => by
      cases g0 with
      | true => exact absurd (j0.mpr rfl) a
      | false => exact dd_ne nf
    have a2 : ∀ ms, IsH H x ms → isIdx (ms.length : Int) y = false → dd w n [x, y] (fw [true, false] [g0, g1]) = "thing" := fun ms hm b => by
      obtain ⟨e0, l⟩ := hl ms hm
      rw [l, j1] at b
      rw [e0, b]; exact dd_ne nt
    rcases hw with hw | hw
    · refine .pa hw f0 v1 a1 a2 (fun ms hm b => ?_)
      obtain ⟨e0, l⟩ := hl ms hm
      rw [l, j1] at b
      rw [e0, b]; exact dd_none (by omega) (by omega)
    · refine .wi hw f0 v1 a1 a2 (fun ms hm b c => ?_) (fun ms hm b c => ?_)
      · obtain ⟨e0, l⟩ := hl ms hm
        rw [l, j1] at b
        rw [e0, b]; exact (dd_wi hw).trans (if_pos (by omega))
      · obtain ⟨e0, l⟩ := hl ms hm
        rw [l, j1] at b
        rw [e0, b]; exact (dd_wi hw).trans (if_neg (by omega))

end My

namespace My
open PySem PySem.Spec PyProof.Rows L2
abbrev slR (wl : Addr) (way : Int) (t : Addr) (o : Nat) (M W KP R : Addr) (due : Str) (vk vg : Option V) : L2.St := [some (.ref wl), some (.int way), some (.ref t), some (.int (o : Int)), some (.ref M), some (.ref W), some (.ref KP), some (.ref R), some (.str due), vk, vg]
structure St47 (H H' : Hp) (wl t M KP R : Addr) (hs : Hs) (ws ks : List Bool) (xs : List V) (m : Nat) : Prop where
  kp : Keep wl H H'
  w : Well H' wl m
  ht : H' t = some (.tup (hs.map hv))
  hM : H' M = some (.lst (ws.map V.bl))
  hK : H' KP = some (.lst (ks.map fun b => V.str (kw b)))
  hR : H' R = some (.lst xs)
structure Ne47 (wl t M KP R : Addr) : Prop where
  tw : t ≠ wl
  mw : M ≠ wl
  kw : KP ≠ wl
  rw : R ≠ wl
  tr : t ≠ R
  mr : M ≠ R
  kr : KP ≠ R
theorem St47.draw {H H' H2 : Hp} {wl t M KP R : Addr} {hs : Hs} {ws ks : List Bool} {xs : List V} {m m2 : Nat} (S : St47 H H' wl t M KP R hs ws ks xs m) (N : Ne47 wl t M KP R) (k : Keep wl H' H2) (w : Well H2 wl m2) : St47 H H2 wl t M KP R hs ws ks xs m2 :=
  ⟨S.kp.trans k, w, k _ _ N.tw S.ht, k _ _ N.mw S.hM, k _ _ N.kw S.hK, k _ _ N.rw S.hR⟩
theorem St47.same {H H' H2 : Hp} {wl t M KP R : Addr} {hs : Hs} {ws ks : List Bool} {xs : List V} {m : Nat} (S : St47 H H' wl t M KP R hs ws ks xs m) (s : Same H' H2) : St47 H H2 wl t M KP R hs ws ks xs m :=
  ⟨S.kp.trans s.keep, S.w.same s, s _ _ S.ht, s _ _ S.hM, s _ _ S.hK, s _ _ S.hR⟩
theorem St47.mono {H H' : Hp} {wl t M KP R : Addr} {hs : Hs} {ws ks : List Bool} {xs : List V} {m m2 : Nat} (S : St47 H H' wl t M KP R hs ws ks xs m) (l : m ≤ m2) : St47 H H' wl t M KP R hs ws ks xs m2 := ⟨S.kp, S.w.mono l, S.ht, S.hM, S.hK, S.hR⟩
theorem St47.put {H H' : Hp} {wl t M KP R : Addr} {hs : Hs} {ws ks : List Bool} {xs ys : List V} {m : Nat} (S : St47 H H' wl t M KP R hs ws ks xs m) (N : Ne47 wl t M KP R) (hn : H R = none) : St47 H (upd H' R (.lst ys)) wl t M KP R hs ws ks ys m :=
  ⟨fun b o nb e => (upd_ne (ne_of_none e hn)).trans (S.kp b o nb e), by
    obtain ⟨a, b, c, e, r⟩ := S.w.ex
    exact ⟨a, b, c, (upd_ne N.rw.symm).trans e, r⟩, (upd_ne N.tr).trans S.ht, (upd_ne N.mr).trans S.hM, (upd_ne N.kr).trans S.hK, upd_same⟩
theorem Well.neT {H : Hp} {wl p : Addr} {n : Nat} (w : Well H wl n) {xs : List V} (h : H p = some (.tup xs)) : p ≠ wl := fun e => by
  obtain ⟨l, e2⟩ := w.here
  rw [e, e2] at h; cases h
def spRight47 : Sp := fun vs H Q _ => ∃ (wl : Addr) (wn : Nat), vs = [.ref wl, .int (wn : Int)] ∧ Well H wl 0 ∧ wn < 9 ∧ ∀ H', Keep wl H H' → Q (.bl true) H'
def gd (b : Bool) (t : Addr) (o : Int) : V := cond b (.ref t) (.int o)
theorem it_good {H : Hp} {n : Nat} {b : Bool} {u : Addr} {ms : Hs} {o : Int} (hu : b = true → H u = some (.tup (ms.map hv)) ∧ Fo ms ∧ ms.length ≤ 60) (o0 : 0 ≤ o) (o1 : o < (n : Int)) (n60 : n ≤ 60) : It H n b (gd b u o) true := by
  have p12 : (10 : Nat) ^ 12 = 1000000000000 := by decide
  cases b with
  | true =>
    obtain ⟨h, fo, l⟩ := hu rfl
    exact ⟨fun _ => ⟨foV_of h l, fun _ => rfl, fun _ => ⟨ms, tupAt_tup h, fo⟩⟩, fun e => (by cases e), ⟨_, .tup h (rps_hv ms), md_tuple (small_hD fo.inb l) (by rw [List.length_map]; exact l)⟩⟩
  | false =>
    refine ⟨fun e => (by cases e), fun _ => ⟨.int _, ?_⟩, ⟨_, .int _, (small_int (by omega)).md⟩⟩
    show (decide (0 ≤ o) && decide (o < (n : Int))) = true
    rw [Bool.and_eq_true, decide_eq_true_eq, decide_eq_true_eq]
    exact ⟨o0, o1⟩
section
variable {P : Program} {w : World} {K : PySem.W.Frag} {mg : Str → Option Value} {base : Heap}
abbrev st__law_right : Stmt := topS 36
abbrev N__law_right : List Str := ["well", "way", "plan", "one", "wrong", "words", "kinds", "row", "due", "k", "good"]
theorem sc__law_right : FnScope N__law_right ["well", "way"] (defScope st__law_right) := ⟨rfl, rfl, rfl, by decide +kernel, rfl, by decide +kernel, by decide +kernel⟩
theorem ok__law_right (D : Df K mg "_law_right" st__law_right ["well", "way"]) (B : Bl mg) (K_law_draw : Kn P w K mg base CX0 1 "_law_draw" st__law_draw ["well", "most"] spDraw)
    (K_law_forest : Kn P w K mg base CX0 3 "_law_forest" st__law_forest ["well", "most"] spLForest) (K_law_broken : Kn P w K mg base CX0 2 "_law_broken" st__law_broken ["well", "plan"] spBroken)
    (K_law_odd : Kn P w K mg base CX0 2 "_law_odd" st__law_odd ["well", "size"] spOdd) (K_law_caught : KnQ P w K mg base 9 "_law_caught" st__law_caught ["way", "row"] spCaught47) :
    KnQ P w K mg base 10 "_law_right" st__law_right ["well", "way"] spRight47 := by
  refine D.okQ sc__law_right (fun vs H Q E h => ?_) (fun f cdv A outer s H vs Q E hr hq h => ?_)
  · obtain ⟨wl, wn, rfl, _⟩ := h; rfl
  obtain ⟨wl, wn, rfl, w0, hw9, q⟩ := h
  refine ⟨_, ((pss_cons (ps_set (i := 2) sc__law_right.nd rfl (Or.inl rfl) (pe_callF K_law_forest (hr.mono (by decide)) pass0 (pa_cons (pv 0) (pa_cons (pe_ix ix_list (pe_lst (pa_cons pe_int (pa_cons pe_int (pa_cons pe_int pa_nil)))) (pe_callF K_law_draw (hr.mono (by decide)) pass0 (pa_cons (pv 0) (pa_cons pe_int pa_nil))) (fun _ _ => rfl)) pa_nil))))
      (pss_cons (ps_par (i := 3) (j := 4) (by rfl) sc__law_right.nd rfl rfl (by decide) rfl rfl (pa_cons (pe_callF K_law_draw (hr.mono (by decide)) pass0 (pa_cons (pv 0) (pa_cons (pe_callB call_len (by rfl) B.len (by decide +kernel) (pa_cons (pv 2) pa_nil)) pa_nil))) (pa_cons (pe_lc (own := [("k", 9)]) (g := gName 9) rfl sc__law_right.nd (pi_range1 (by rfl) B.range (pa_cons pe_int pa_nil)) (blkOk_by (N := N__law_right) (sc := defScope st__law_right) (own := [("k", 9)]) (by decide +kernel)) (fun _ _ _ _ _ => by (exact (pg_name (i := 9) sc__law_right.nd rfl (Or.inl rfl)))) (fun _ _ _ _ _ => by exact pts_nil) (fun _ _ _ _ _ => by exact (pe_cmpR op_eq (pe_callF K_law_draw (hr.mono (by decide)) pass0 (pa_cons (pv 0) (pa_cons pe_int pa_nil))) pe_int (nomark _)))) pa_nil)) (by rfl))
      (pss_cons (ps_set (i := 5) sc__law_right.nd rfl (Or.inl rfl) (pe_lst (pa_cons (pe_lst (pa_cons pe_str (pa_cons pe_str pa_nil))) (pa_cons (pe_lst (pa_cons pe_str (pa_cons pe_str (pa_cons pe_str pa_nil)))) (pa_cons (pe_lst (pa_cons pe_str (pa_cons pe_str pa_nil))) (pa_cons (pe_lst (pa_cons pe_str (pa_cons pe_str pa_nil))) pa_nil))))))
      (pss_cons (ps_set (i := 5) sc__law_right.nd rfl (Or.inl rfl) (pe_op op_cat (pv 5) (pe_lst (pa_cons (pe_lst (pa_cons pe_str (pa_cons pe_str (pa_cons pe_str pa_nil)))) (pa_cons (pe_ix ix_list (pv 5) pe_int (fun _ _ => rfl)) (pa_cons (pe_ix ix_list (pv 5) pe_int (fun _ _ => rfl)) (pa_cons (pe_ix ix_list (pv 5) pe_int (fun _ _ => rfl)) (pa_cons (pe_lst (pa_cons pe_str (pa_cons pe_str (pa_cons pe_str pa_nil)))) pa_nil))))))))
      (pss_cons (ps_set (i := 6) sc__law_right.nd rfl (Or.inl rfl) (pe_ix ix_list (pv 5) (pv 1) (fun _ _ => rfl)))
      (pss_cons (ps_par (i := 7) (j := 8) (by rfl) sc__law_right.nd rfl rfl (by decide) rfl rfl (pa_cons (pe_lstN pa_nil) (pa_cons pe_str pa_nil)) (by rfl))
      (pss_cons (ps_for PassesOwn.never rfl (pi_range1 (by rfl) B.range (pa_cons (pe_callB call_len (by rfl) B.len (by decide +kernel) (pa_cons (pv 6) pa_nil)) pa_nil)) (pg_name (i := 9) sc__law_right.nd rfl (Or.inl rfl)) (pss_cons (ps_set (i := 10) sc__law_right.nd rfl (Or.inl rfl) (pe_ix ix_list (pe_lst (pa_cons (pv 3) (pa_cons (pv 2) pa_nil))) (pe_callTy call_int1 (by rfl) B.int (by decide +kernel) (pa_cons (pe_cmpR op_eq (pe_ix ix_list (pv 6) (pv 9) (fun _ _ => rfl)) pe_str (nomark _)) pa_nil)) (fun _ _ => rfl)))
      (C8.pss_cut (ps_if (PW.pt (pw_and (pt_cmpR op_eq (pv 9) (pe_op op_sub (pe_callB call_len (by rfl) B.len (by decide +kernel) (pa_cons (pv 6) pa_nil)) pe_int) (nomark _)) (pw_and1 (pt_cmpR op_gt (pv 9) pe_int (nomark _))))) (pss_one (ps_set (i := 10) sc__law_right.nd rfl (Or.inl rfl) (pe_ix ix_list (pe_lst (pa_cons (pe_callF K_law_draw (hr.mono (by decide)) pass0 (pa_cons (pv 0) (pa_cons (pe_callB call_len (by rfl) B.len (by decide +kernel) (pa_cons (pv 2) pa_nil)) pa_nil))) (pa_cons (pe_callF K_law_forest (hr.mono (by decide)) pass0 (pa_cons (pv 0) (pa_cons pe_int pa_nil))) pa_nil))) (pe_callTy call_int1 (by rfl) B.int (by decide +kernel) (pa_cons (pe_cmpR op_eq (pe_ix ix_list (pv 6) (pv 9) (fun _ _ => rfl)) pe_str (nomark _)) pa_nil)) (fun _ _ => rfl)))) pss_nil)
      (C8.pss_cut (ps_if (pt_val (pe_ix ix_list (pv 4) (pv 9) (fun _ _ => rfl))) (pss_cons (ps_set (i := 10) sc__law_right.nd rfl (Or.inl rfl) (pe_ifExp (pt_cmpR op_eq (pe_ix ix_list (pv 6) (pv 9) (fun _ _ => rfl)) pe_str (nomark _)) (pe_callF K_law_broken (hr.mono (by decide)) pass0 (pa_cons (pv 0) (pa_cons (pv 2) pa_nil))) (pe_callF K_law_odd (hr.mono (by decide)) pass0 (pa_cons (pv 0) (pa_cons (pe_callB call_len (by rfl) B.len (by decide +kernel) (pa_cons (pv 2) pa_nil)) pa_nil)))))
      (pss_one (ps_set (i := 8) sc__law_right.nd rfl (Or.inl rfl) (pe_ifExp (pt_cmpR op_eq (pv 8) pe_str (nomark _)) (pe_ix ix_list (pv 6) (pv 9) (fun _ _ => rfl)) (pv 8))))) pss_nil)
      (pss_one (ps_expr (pe_bm PySem.F.plainAttrs_list PySem.F.slot_list_append PySem.F.type_list_append mt_append (pv 7) (pa_cons (pv 10) pa_nil))))))))
      (C8.pss_cut (ps_if (PW.pt (pw_and (pt_cmpR op_eq (pv 8) pe_str (nomark _)) (pw_and (pt_cmpR op_in_seq (pv 1) (pe_tup (pa_cons pe_int (pa_cons pe_int pa_nil))) (by rfl)) (pw_and1 (pt_cmpR op_eq (pe_callB call_len (by rfl) B.len (by decide +kernel) (pa_cons (pv 2) pa_nil)) pe_int (nomark _)))))) (pss_one (ps_set (i := 8) sc__law_right.nd rfl (Or.inl rfl) pe_str)) pss_nil)
      (C8.pss_cut (ps_if (PW.pt (pw_and (pt_cmpR op_eq (pv 8) pe_str (nomark _)) (pw_and (pt_cmpR op_in_seq (pv 1) (pe_tup (pa_cons pe_int (pa_cons pe_int pa_nil))) (by rfl)) (pw_and1 (pt_cmpR op_eq (pe_ix ix_list (pv 7) pe_int (fun _ _ => rfl)) (pe_ix ix_list (pv 7) pe_int (fun _ _ => rfl)) (nomark _)))))) (pss_one (ps_set (i := 8) sc__law_right.nd rfl (Or.inl rfl) pe_str)) pss_nil)
      (pss_one (ps_ret (pe_cmpR op_eq (pe_callQ (E := fun _ _ _ => False) K_law_caught (hr.mono (by decide)) hq (pa_cons (pv 1) (pa_cons (pv 7) pa_nil))) (pv 8) (nomark _)))))))))))))), ?_⟩
  have p50 : (2 : Nat) ^ 50 = 1125899906842624 := by decide
  have p60 : (2 : Nat) ^ 60 = 1152921504606846976 := by decide
  have p100 : (2 : Nat) ^ 100 = 1267650600228229401496703205376 := by decide +kernel
  -- plan
  refine ⟨_, rfl, by show 3 ≤ sizeLine; decide, fun p9 h9 => ?_⟩
  have s1 : Same H (upd H p9 (.lst [.int 9, .int 1, .int 2])) := (Same.refl H).new h9
  have o9 : upd H p9 (.lst [.int 9, .int 1, .int 2]) p9 = some (.lst [.int 9, .int 1, .int 2]) := upd_same
  have n9 : p9 ≠ wl := w0.ne h9
  generalize upd H p9 (.lst [.int 9, .int 1, .int 2]) = H1 at s1 o9 ⊢
  refine ⟨_, rfl, wl, 0, _, rfl, w0.same s1, by omega, by decide, by decide, fun d H2 d0 d1 k2 w2 => ?_⟩
  obtain ⟨v, hv1, hv2⟩ := pick (xs := [.int 9, .int 1, .int 2]) d0 d1
  obtain ⟨m, rfl, m1, m9⟩ : ∃ m : Int, v = .int m ∧ 1 ≤ m ∧ m ≤ 9 := by
    simp only [List.mem_cons, List.not_mem_nil, or_false] at hv1
    rcases hv1 with rfl | rfl | rfl
    · exact ⟨_, rfl, by decide, by decide⟩
    · exact ⟨_, rfl, by decide, by decide⟩
    · exact ⟨_, rfl, by decide, by decide⟩
  refine ⟨p9, _, _, _, rfl, rfl, SqL.of (k2 _ _ n9 o9), hv2, wl, 1, m, rfl, w2, by omega, m1, by omega, fun t hs H3 fo hl k3 w3 ht2 ht3 => ?_⟩
  have hlm : (hs.map hv).length = hs.length := List.length_map _
  have hne : 1 ≤ hs.length := by
    cases hs with
    | nil => exact absurd rfl fo.ne
    | cons _ _ => exact Nat.succ_le_succ (Nat.zero_le _)
  have hl9 : hs.length ≤ 9 := by omega
  have tw : t ≠ wl := w3.neT ht3
  have k03 : Keep wl H H3 := (s1.keep.trans k2).trans k3
  -- one, wrong
  refine ⟨_, rfl, _, rfl, _, _, rfl, .inr ⟨_, SqT.of ht3, rfl⟩, wl, _, _, rfl, w3, by omega, by rw [hlm]; omega, by rw [hlm]; omega, fun d2 H4 e0 e1 k4 w4 => ?_⟩
  rw [hlm] at e1
  obtain ⟨o, rfl⟩ : ∃ o : Nat, d2 = (o : Int) := ⟨d2.toNat, by omega⟩
  have ho : o < hs.length := by omega
  have ht4 := k4 _ _ tw ht3
  refine ⟨_, rfl, by decide, by decide, fun M hM => lc_it walk_range0 (fun j H' => ∃ gs : List Bool, Keep wl H4 H' ∧ Well H' wl (402 + j) ∧ H' M = some (.lst (gs.map V.bl)) ∧ gs.length = j) ⟨[], ((Same.refl H4).new hM).keep, w4.same ((Same.refl H4).new hM), upd_same, rfl⟩ (fun _ _ _ _ => trivial) ?_ ?_⟩
  · rintro j x Hd He hj ⟨gs, kd, wd, oG, lg⟩ ⟨rfl, rfl⟩
    have hj3 : j < 3 := hj
    have nMw : M ≠ wl := w4.ne hM
    refine ⟨rfl, _, rfl, wl, _, _, rfl, wd, by omega, by decide, by decide, fun d3 Hf _ _ kf wf => ⟨rfl, ?_⟩⟩
    refine ⟨_, kf _ _ nMw oG, by rw [List.length_map]; exact szl (by omega), gs ++ [decide (V.int d3 = V.int 0)], fun b u nb e => ?_, ?_, by rw [upd_same, List.map_append]; rfl, by rw [List.length_append, lg]; rfl⟩
    · exact (upd_ne (ne_of_none e hM)).trans (kf b u nb (kd b u nb e))
    · obtain ⟨x0, y0, z0, e0, r0⟩ := wf.ex
      exact ⟨x0, y0, z0, (upd_ne nMw.symm).trans e0, r0⟩
  rintro H5 ⟨ws, k5, w5, oM, lw⟩
  have lw3 : ws.length = 3 := lw
  have w5 : Well H5 wl 405 := w5
  have nM : M ≠ wl := w4.ne hM
  have ht5 := k5 _ _ tw ht4
  refine ⟨_, _, rfl, ?_⟩
  have q0 : Same H5 H5 := Same.refl H5
  refine ⟨by show 2 ≤ sizeLine; decide, fun p0 hp0 => ?_⟩
  have np0 : p0 ≠ wl := (w5.same q0).ne hp0
  have g1 : Same H5 (upd H5 p0 (.lst [.str "forest", .str "forest"])) := (Same.refl _).new hp0
  have op0 : upd H5 p0 (.lst [.str "forest", .str "forest"]) p0 = some (.lst [.str "forest", .str "forest"]) := upd_same
  generalize upd H5 p0 (.lst [.str "forest", .str "forest"]) = J1 at g1 op0 ⊢
  have q1 := q0.trans g1
  refine ⟨by show 3 ≤ sizeLine; decide, fun p1 hp1 => ?_⟩
  have np1 : p1 ≠ wl := (w5.same q1).ne hp1
  have g2 : Same J1 (upd J1 p1 (.lst [.str "forest", .str "thing", .str "forest"])) := (Same.refl _).new hp1
  have op1 : upd J1 p1 (.lst [.str "forest", .str "thing", .str "forest"]) p1 = some (.lst [.str "forest", .str "thing", .str "forest"]) := upd_same
  generalize upd J1 p1 (.lst [.str "forest", .str "thing", .str "forest"]) = J2 at g2 op1 ⊢
  have q2 := q1.trans g2
  refine ⟨by show 2 ≤ sizeLine; decide, fun p2 hp2 => ?_⟩
  have np2 : p2 ≠ wl := (w5.same q2).ne hp2
  have g3 : Same J2 (upd J2 p2 (.lst [.str "forest", .str "thing"])) := (Same.refl _).new hp2
  have op2 : upd J2 p2 (.lst [.str "forest", .str "thing"]) p2 = some (.lst [.str "forest", .str "thing"]) := upd_same
  generalize upd J2 p2 (.lst [.str "forest", .str "thing"]) = J3 at g3 op2 ⊢
  have q3 := q2.trans g3
  refine ⟨by show 2 ≤ sizeLine; decide, fun p3 hp3 => ?_⟩
  have np3 : p3 ≠ wl := (w5.same q3).ne hp3
  have g4 : Same J3 (upd J3 p3 (.lst [.str "forest", .str "thing"])) := (Same.refl _).new hp3
  have op3 : upd J3 p3 (.lst [.str "forest", .str "thing"]) p3 = some (.lst [.str "forest", .str "thing"]) := upd_same
  generalize upd J3 p3 (.lst [.str "forest", .str "thing"]) = J4 at g4 op3 ⊢
  have q4 := q3.trans g4
  refine ⟨by show 4 ≤ sizeLine; decide, fun W1 hW1 => ?_⟩
  have nW1 : W1 ≠ wl := (w5.same q4).ne hW1
  have g5 : Same J4 (upd J4 W1 (.lst [.ref p0, .ref p1, .ref p2, .ref p3])) := (Same.refl _).new hW1
  have oW1 : upd J4 W1 (.lst [.ref p0, .ref p1, .ref p2, .ref p3]) W1 = some (.lst [.ref p0, .ref p1, .ref p2, .ref p3]) := upd_same
  generalize upd J4 W1 (.lst [.ref p0, .ref p1, .ref p2, .ref p3]) = J5 at g5 oW1 ⊢
  have q5 := q4.trans g5
  refine ⟨_, rfl, ?_⟩
  refine ⟨by show 3 ≤ sizeLine; decide, fun p4 hp4 => ?_⟩
  have np4 : p4 ≠ wl := (w5.same q5).ne hp4
  have g6 : Same J5 (upd J5 p4 (.lst [.str "forest", .str "thing", .str "thing"])) := (Same.refl _).new hp4
  have op4 : upd J5 p4 (.lst [.str "forest", .str "thing", .str "thing"]) p4 = some (.lst [.str "forest", .str "thing", .str "thing"]) := upd_same
  generalize upd J5 p4 (.lst [.str "forest", .str "thing", .str "thing"]) = J6 at g6 op4 ⊢
  have q6 := q5.trans g6
  refine ⟨_, rfl, W1, _, _, _, rfl, rfl, SqL.of (g6 _ _ oW1), rfl, _, rfl, W1, _, _, _, rfl, rfl, SqL.of (g6 _ _ oW1), rfl, _, rfl, W1, _, _, _, rfl, rfl, SqL.of (g6 _ _ oW1), rfl, ?_⟩
  refine ⟨by show 3 ≤ sizeLine; decide, fun p5 hp5 => ?_⟩
  have np5 : p5 ≠ wl := (w5.same q6).ne hp5
  have g7 : Same J6 (upd J6 p5 (.lst [.str "forest", .str "thing", .str "thing"])) := (Same.refl _).new hp5
  have op5 : upd J6 p5 (.lst [.str "forest", .str "thing", .str "thing"]) p5 = some (.lst [.str "forest", .str "thing", .str "thing"]) := upd_same
  generalize upd J6 p5 (.lst [.str "forest", .str "thing", .str "thing"]) = J7 at g7 op5 ⊢
  have q7 := q6.trans g7
  refine ⟨by show 5 ≤ sizeLine; decide, fun W2 hW2 => ?_⟩
  have nW2 : W2 ≠ wl := (w5.same q7).ne hW2
  have g8 : Same J7 (upd J7 W2 (.lst [.ref p4, .ref p0, .ref p1, .ref p3, .ref p5])) := (Same.refl _).new hW2
  have oW2 : upd J7 W2 (.lst [.ref p4, .ref p0, .ref p1, .ref p3, .ref p5]) W2 = some (.lst [.ref p4, .ref p0, .ref p1, .ref p3, .ref p5]) := upd_same
  generalize upd J7 W2 (.lst [.ref p4, .ref p0, .ref p1, .ref p3, .ref p5]) = J8 at g8 oW2 ⊢
  have q8 := q7.trans g8
  refine ⟨W1, W2, _, _, rfl, rfl, (((g6.trans g7).trans g8) _ _ oW1), oW2, by show 9 ≤ sizeLine; decide, fun W3 hW3 => ?_⟩
  have nW3 : W3 ≠ wl := (w5.same q8).ne hW3
  have g9 : Same J8 (upd J8 W3 (.lst ([.ref p0, .ref p1, .ref p2, .ref p3] ++ [.ref p4, .ref p0, .ref p1, .ref p3, .ref p5]))) := (Same.refl _).new hW3
  have oW3 : upd J8 W3 (.lst ([.ref p0, .ref p1, .ref p2, .ref p3] ++ [.ref p4, .ref p0, .ref p1, .ref p3, .ref p5])) W3 = some (.lst ([.ref p0, .ref p1, .ref p2, .ref p3] ++ [.ref p4, .ref p0, .ref p1, .ref p3, .ref p5])) := upd_same
  generalize upd J8 W3 (.lst ([.ref p0, .ref p1, .ref p2, .ref p3] ++ [.ref p4, .ref p0, .ref p1, .ref p3, .ref p5])) = J9 at g9 oW3 ⊢
  have q9 := q8.trans g9
  have oA : J9 W3 = some (.lst [V.ref p0, V.ref p1, V.ref p2, V.ref p3, V.ref p4, V.ref p0, V.ref p1, V.ref p3, V.ref p5]) := oW3
  obtain ⟨KP, hk1, hk2, nK⟩ : ∃ KP : Addr, atI [V.ref p0, V.ref p1, V.ref p2, V.ref p3, V.ref p4, V.ref p0, V.ref p1, V.ref p3, V.ref p5] (wn : Int) = some (.ref KP) ∧ J9 KP = some (.lst ((ksn (wn : Int)).map fun b => V.str (kw b))) ∧ KP ≠ wl := by
    have c : wn = 0 ∨ wn = 1 ∨ wn = 2 ∨ wn = 3 ∨ wn = 4 ∨ wn = 5 ∨ wn = 6 ∨ wn = 7 ∨ wn = 8 := by omega
    rcases c with rfl | rfl | rfl | rfl | rfl | rfl | rfl | rfl | rfl
    · exact ⟨p0, rfl, ((((((((g2.trans g3).trans g4).trans g5).trans g6).trans g7).trans g8).trans g9) _ _ op0), np0⟩
    · exact ⟨p1, rfl, (((((((g3.trans g4).trans g5).trans g6).trans g7).trans g8).trans g9) _ _ op1), np1⟩
    · exact ⟨p2, rfl, ((((((g4.trans g5).trans g6).trans g7).trans g8).trans g9) _ _ op2), np2⟩
    · exact ⟨p3, rfl, (((((g5.trans g6).trans g7).trans g8).trans g9) _ _ op3), np3⟩
    · exact ⟨p4, rfl, (((g7.trans g8).trans g9) _ _ op4), np4⟩
    · exact ⟨p0, rfl, ((((((((g2.trans g3).trans g4).trans g5).trans g6).trans g7).trans g8).trans g9) _ _ op0), np0⟩
    · exact ⟨p1, rfl, (((((((g3.trans g4).trans g5).trans g6).trans g7).trans g8).trans g9) _ _ op1), np1⟩
    · exact ⟨p3, rfl, (((((g5.trans g6).trans g7).trans g8).trans g9) _ _ op3), np3⟩
    · exact ⟨p5, rfl, ((g8.trans g9) _ _ op5), np5⟩
  refine ⟨_, rfl, _, rfl, W3, _, _, _, rfl, rfl, SqL.of oA, hk1, ?_⟩
  have wq := w5.same q9
  have kq : Keep wl H J9 := ((k03.trans k4).trans k5).trans q9.keep
  have htq := q9 _ _ ht5
  have oMq := q9 _ _ oM
  clear hk1
  generalize J9 = H6 at *
  -- row, due
  refine ⟨by show 0 ≤ sizeLine; decide, fun R hR mR => ⟨_, _, rfl, ?_⟩⟩
  have nR : R ≠ wl := wq.ne hR
  have sR : Same H6 (upd H6 R (.lst [])) := (Same.refl H6).new hR
  have hRn : H R = none := by
    cases e : H R with
    | none => rfl
    | some u =>
      have z := kq R u nR e
      rw [hR] at z; cases z
  have hl60 : hs.length ≤ 60 := by omega
  have lk : (ksn (wn : Int)).length ≤ 3 := by
    unfold ksn
    split
    · decide
    · split
      · decide
      · split <;> decide
  have kz : (ksn (wn : Int))[0]? = some true := by
    unfold ksn
    split
    · rfl
    · split
      · rfl
      · split <;> rfl
  have N47 : Ne47 wl t M KP R := ⟨tw, nM, nK, nR, ne_of_none htq hR, ne_of_none oMq hR, ne_of_none hk2 hR⟩
  have S6 : St47 H (upd H6 R (.lst [])) wl t M KP R hs ws (ksn (wn : Int)) [] 405 := ⟨kq.trans sR.keep, wq.same sR, sR _ _ htq, sR _ _ oMq, sR _ _ hk2, upd_same⟩
  generalize upd H6 R (.lst []) = H7 at S6 ⊢
  generalize ek : ksn (wn : Int) = ks at S6 lk kz
  let P0 : Addr → Bool := fun a => decide (a = wl) || decide (a = R)
  have pw : P0 wl = true := by show (decide (wl = wl) || _) = true; rw [decide_eq_true rfl]; rfl
  have pR : P0 R = true := by show (_ || decide (R = R)) = true; rw [decide_eq_true rfl, Bool.or_true]
  have p0 : ∀ a, a ≠ wl → a ≠ R → P0 a = false := fun a h1 h2 => by show (decide (a = wl) || decide (a = R)) = false; rw [decide_eq_false h1, decide_eq_false h2]; rfl
  have pt : P0 t = false := p0 t tw N47.tr
  have pn : ∀ {H' : Hp} {xs : List V} {m : Nat}, St47 H H' wl t M KP R hs ws ks xs m → ∀ a, H' a = none → P0 a = false := fun {H' xs m} S a ha => p0 a (S.w.ne ha) (ne_of_none S.hR ha).symm
  generalize P0 = PP at *
  have lkm : (ks.map fun b => V.str (kw b)).length = ks.length := List.length_map _
  refine ⟨_, rfl, _, _, rfl, .inl ⟨_, SqL.of S6.hK, rfl⟩, _, rfl, by omega, by omega, for_it walk_range0 (fun i σ H' => ∃ (xs : List V) (gs : List Bool) (vk vg : Option V), σ = slR wl (wn : Int) t o M W3 KP R (fw (ks.take i) gs) vk vg ∧ St47 H H' wl t M KP R hs ws ks xs (405 + 402 * i) ∧ Its (Off PP H') hs.length (ks.take i) xs gs ∧ Hd t xs gs)
    ⟨[], [], _, _, rfl, S6, .nil, fun x g xs' gs' e => (by cases e)⟩ (fun _ _ _ _ _ => trivial) ?_ ?_⟩
  · rintro i x σ G6 G7 hi ⟨xs, gs, vk, vg, rfl, S, I, hd⟩ ⟨rfl, rfl⟩
    have hi' : i < ks.length := by omega
    obtain ⟨b, hb⟩ : ∃ b, ks[i]? = some b := ⟨_, List.getElem?_eq_getElem hi'⟩
    have hkb : atI (ks.map fun b => V.str (kw b)) (i : Int) = some (V.str (kw b)) := atI_nat (by rw [List.getElem?_map, hb]; rfl)
    obtain ⟨l1, l2⟩ := I.len
    have lt : (ks.take i).length = i := by rw [List.length_take]; omega
    have et : ks.take (i + 1) = ks.take i ++ [b] := by rw [List.take_add_one, hb]; rfl
    -- good
    refine ⟨_, rfl, _, rfl, by show 2 ≤ sizeLine; decide, fun A1 hA1 => ?_⟩
    have s8 : Same G7 (upd G7 A1 (.lst [.int (o : Int), .ref t])) := (Same.refl _).new hA1
    have oA1 : upd G7 A1 (.lst [.int (o : Int), .ref t]) A1 = some (.lst [.int (o : Int), .ref t]) := upd_same
    generalize upd G7 A1 (.lst [.int (o : Int), .ref t]) = G8 at s8 oA1 ⊢
    have S8 := S.same s8
    have O8 : Same (Off PP G7) (Off PP G8) := Off.keep s8.keep pw
    refine ⟨_, rfl, _, rfl, KP, _, _, _, rfl, rfl, SqL.of S8.hK, hkb, rfl, .inr ⟨_, rfl, A1, _, _, gd b t (o : Int), rfl, rfl, SqL.of oA1, (by cases b <;> rfl), ?_⟩⟩
    have ig : It (Off PP G8) hs.length b (gd b t (o : Int)) true := it_good (ms := hs) (fun _ => ⟨Off.at pt S8.ht, fo, hl60⟩) (by omega) (by omega) hl60
    refine ⟨fun σ' H' => ∃ good, σ' = slR wl (wn : Int) t o M W3 KP R (fw (ks.take i) gs) (some (.int (i : Int))) (some good) ∧ St47 H H' wl t M KP R hs ws ks xs (405 + 402 * i + 401) ∧ Same (Off PP G7) (Off PP H') ∧ It (Off PP H') hs.length b good true ∧ (i = 0 → b = true → good = .ref t), ?_, ?_⟩
    · have stay : ∃ good, slR wl (wn : Int) t o M W3 KP R (fw (ks.take i) gs) (some (.int (i : Int))) (some (gd b t (o : Int))) = slR wl (wn : Int) t o M W3 KP R (fw (ks.take i) gs) (some (.int (i : Int))) (some good) ∧ St47 H G8 wl t M KP R hs ws ks xs (405 + 402 * i + 401) ∧ Same (Off PP G7) (Off PP G8) ∧ It (Off PP G8) hs.length b good true ∧ (i = 0 → b = true → good = .ref t) :=
        ⟨_, rfl, S8.mono (by omega), O8, ig, fun _ e => by rw [e]; rfl⟩
      refine ⟨_, rfl, _, rfl, _, _, rfl, .inl ⟨_, SqL.of S8.hK, rfl⟩, _, _, rfl, rfl, rfl, _, rfl, ite2 (fun c1 => ?_) (fun c1 => stay)⟩
      refine ⟨_, rfl, _, _, rfl, rfl, _, rfl, ite2 (fun c2 => ?_) (fun c2 => stay)⟩
      have ci : (0 : Int) < (i : Int) := of_decide_eq_true c2
      refine ⟨_, rfl, _, rfl, _, _, rfl, .inr ⟨_, SqT.of S8.ht, rfl⟩, wl, _, _, rfl, S8.w, by omega, by rw [hlm]; omega, by rw [hlm]; omega, fun d9 G9 d90 d91 k9 w9 => ?_⟩
      rw [hlm] at d91
      have S9 := S8.draw N47 k9 w9
      refine ⟨_, rfl, wl, _, 9, rfl, w9, by omega, by decide, by decide, fun u ms G10 fm lm k10 w10 hu9 hu10 => ?_⟩
      have S10 := S9.draw N47 k10 w10
      refine ⟨by show 2 ≤ sizeLine; decide, fun A2 hA2 => ?_⟩
      have s11 : Same G10 (upd G10 A2 (.lst [.int d9, .ref u])) := (Same.refl _).new hA2
      have oA2 : upd G10 A2 (.lst [.int d9, .ref u]) A2 = some (.lst [.int d9, .ref u]) := upd_same
      generalize upd G10 A2 (.lst [.int d9, .ref u]) = G11 at s11 oA2 ⊢
      have S11 := S10.same s11
      refine ⟨_, rfl, _, rfl, KP, _, _, _, rfl, rfl, SqL.of S11.hK, hkb, rfl, .inr ⟨_, rfl, A2, _, _, gd b u d9, rfl, rfl, SqL.of oA2, (by cases b <;> rfl), ?_⟩⟩
      exact ⟨_, rfl, S11.mono (by omega), O8.trans (Off.keep ((k9.trans k10).trans s11.keep) pw), it_good (ms := ms) (fun _ => ⟨Off.at (pn S9 u hu9) (s11 _ _ hu10), fm, by omega⟩) d90 d91 hl60, fun e => absurd e (by omega)⟩
    rintro σ' G12 ⟨good, rfl, S12, O12, ig12, h0⟩
    -- if wrong[k]
    obtain ⟨wb, hwb⟩ : ∃ wb, ws[i]? = some wb := ⟨_, List.getElem?_eq_getElem (by omega)⟩
    have hwa : atI (ws.map V.bl) (i : Int) = some (V.bl wb) := atI_nat (by rw [List.getElem?_map, hwb]; rfl)
    refine ⟨fun σ' H' => ∃ (good : V) (g : Bool), σ' = slR wl (wn : Int) t o M W3 KP R (fw (ks.take (i + 1)) (gs ++ [g])) (some (.int (i : Int))) (some good) ∧ St47 H H' wl t M KP R hs ws ks xs (405 + 402 * i + 402) ∧ Same (Off PP G7) (Off PP H') ∧ It (Off PP H') hs.length b good g ∧ (i = 0 → b = true → g = true → good = .ref t), ?_, ?_⟩
    · refine ⟨_, rfl, _, rfl, M, _, _, _, rfl, rfl, SqL.of S12.hM, hwa, _, rfl, ?_⟩
      have fs := fw_snoc (ks.take i) gs b
      cases wb with
      | false =>
        have e : fw (ks.take (i + 1)) (gs ++ [true]) = fw (ks.take i) gs := by
          rw [et, fs true l1]
          split
          · rename_i z; exact z.symm
          · rfl
        exact iteF ⟨good, true, by rw [e], S12.mono (by omega), O12, ig12, fun a b _ => h0 a b⟩
      | true =>
        refine iteT ?_
        refine ⟨_, rfl, _, rfl, KP, _, _, _, rfl, rfl, SqL.of S12.hK, hkb, rfl, _, rfl, ?_⟩
        have e : fw (ks.take (i + 1)) (gs ++ [false]) = if fw (ks.take i) gs = "none" then kw b else fw (ks.take i) gs := by rw [et, fs false l1]; rfl
        cases b with
        | true =>
          refine iteT ⟨_, rfl, _, rfl, wl, t, _, hs, PP, rfl, S12.w, by omega, S12.ht, fo.inb, by omega, pw, pt, pn S12, fun bad G13 k13 w13 bv => ?_⟩
          have S13 := (S12.draw N47 k13 w13).mono (show _ ≤ 405 + 402 * i + 402 by omega)
          have O13 := O12.trans (Off.keep k13 pw)
          have ib : It (Off PP G13) hs.length true bad false := ⟨fun _ => ⟨bv.fov, fun z => absurd z bv.no, fun z => by cases z⟩, fun z => (by cases z), bv.rp⟩
          refine ⟨_, rfl, rfl, _, rfl, ite2 (fun c => ?_) (fun c => ?_)⟩
          · have c' : fw (ks.take i) gs = "none" := V.str.inj (of_decide_eq_true c)
            refine ⟨_, rfl, _, rfl, KP, _, _, _, rfl, rfl, SqL.of S13.hK, hkb, bad, false, ?_, S13, O13, ib, fun _ _ z => (by cases z)⟩
            rw [e, if_pos c']; rfl
          · have c' : ¬ fw (ks.take i) gs = "none" := fun z => c (by rw [z]; exact decide_eq_true rfl)
            refine ⟨_, rfl, bad, false, ?_, S13, O13, ib, fun _ _ z => (by cases z)⟩
            rw [e, if_neg c']; rfl
        | false =>
          refine iteF ⟨_, rfl, _, rfl, _, _, rfl, .inr ⟨_, SqT.of S12.ht, rfl⟩, wl, hs.length, _, PP, by rw [hlm]; rfl, S12.w, by omega, hl60, pw, pn S12, fun bad G13 k13 w13 bv => ?_⟩
          have S13 := (S12.draw N47 k13 w13).mono (show _ ≤ 405 + 402 * i + 402 by omega)
          have O13 := O12.trans (Off.keep k13 pw)
          have ib : It (Off PP G13) hs.length false bad false := ⟨fun z => (by cases z), fun _ => ⟨bv.vd, bv.no⟩, bv.rp⟩
          refine ⟨_, rfl, rfl, _, rfl, ite2 (fun c => ?_) (fun c => ?_)⟩
          · have c' : fw (ks.take i) gs = "none" := V.str.inj (of_decide_eq_true c)
            refine ⟨_, rfl, _, rfl, KP, _, _, _, rfl, rfl, SqL.of S13.hK, hkb, bad, false, ?_, S13, O13, ib, fun _ _ z => (by cases z)⟩
            rw [e, if_pos c']; rfl
          · have c' : ¬ fw (ks.take i) gs = "none" := fun z => c (by rw [z]; exact decide_eq_true rfl)
            refine ⟨_, rfl, bad, false, ?_, S13, O13, ib, fun _ _ z => (by cases z)⟩
            rw [e, if_neg c']; rfl
    rintro σ' G14 ⟨good, g, rfl, S14, O14, i14, h0⟩
    -- row.append(good)
    refine ⟨_, rfl, .inl ⟨rfl, _, SqL.of S14.hR⟩, _, rfl, R, _, _, rfl, rfl, S14.hR, szl (by omega), ?_⟩
    refine ⟨xs ++ [good], gs ++ [g], _, _, rfl, (S14.put N47 hRn).mono (by omega), ?_, hd.snoc l2 (fun ex eg => ?_)⟩
    · rw [et]
      exact ((I.same O14).snoc i14).same (Off.upd pR)
    · have i0 : i = 0 := by
        rw [ex] at l2
        have z : (0 : Nat) = gs.length := l2
        omega
      subst i0
      rw [kz] at hb
      exact h0 rfl (Option.some.inj hb).symm eg
  rintro σ G9 ⟨xs, gs, vk, vg, rfl, S, I, hd⟩
  rw [Int.toNat_natCast, lkm, List.take_length] at I
  rw [Int.toNat_natCast, lkm] at S
  have et : ks.take ((ks.map fun b => V.str (kw b)).length : Int).toNat = ks := by rw [Int.toNat_natCast, lkm, List.take_length]
  rw [et]
  obtain ⟨l1, l2⟩ := I.len
  generalize ed : fw ks gs = due
  -- only
  refine ⟨fun σ' H' => σ' = slR wl (wn : Int) t o M W3 KP R (My.d1 (wn : Int) hs.length due) vk vg ∧ Same G9 H', ?_, ?_⟩
  · have stay : ¬ (due = "none" ∧ ((wn : Int) = 3 ∨ (wn : Int) = 7) ∧ hs.length = 1) → slR wl (wn : Int) t o M W3 KP R due vk vg = slR wl (wn : Int) t o M W3 KP R (My.d1 (wn : Int) hs.length due) vk vg := fun c => by rw [show My.d1 (wn : Int) hs.length due = due from if_neg c]
    refine ⟨_, rfl, rfl, _, rfl, ite2 (fun c => ?_) (fun c => ⟨stay fun z => c (by rw [z.1]; exact decide_eq_true rfl), Same.refl _⟩)⟩
    have c' : due = "none" := V.str.inj (of_decide_eq_true c)
    refine ⟨_, rfl, by show 2 ≤ sizeLine; decide, fun p hp => ?_⟩
    have s10 := (Same.refl G9).new (o := .tup [.int 3, .int 7]) hp
    have op : upd G9 p (.tup [.int 3, .int 7]) p = some (.tup (nv [3, 7])) := upd_same
    generalize upd G9 p (.tup [.int 3, .int 7]) = G10 at s10 op ⊢
    refine ⟨p, _, rfl, .inr (SqT.of op), rfl, flat_nv _, decide (wn ∈ [3, 7]), congrArg V.bl (inV_nv _ _), ite2 (fun c2 => ?_) (fun c2 => ⟨stay fun z => c2 (decide_eq_true ?_), s10⟩)⟩
    · have c2' : wn = 3 ∨ wn = 7 := by simpa using of_decide_eq_true c2
      refine ⟨_, rfl, _, _, rfl, .inr ⟨_, SqT.of (s10 _ _ S.ht), rfl⟩, rfl, _, rfl, ite2 (fun c3 => ?_) (fun c3 => ⟨stay fun z => c3 (decide_eq_true (by rw [hlm, z.2.2]; rfl)), s10⟩)⟩
      have c3' : hs.length = 1 := by
        have z := V.int.inj (of_decide_eq_true c3)
        rw [hlm] at z; omega
      exact ⟨by rw [show My.d1 (wn : Int) hs.length due = "only" from if_pos ⟨c', by omega, c3'⟩]; rfl, s10⟩
    · have z2 := z.2.1
      have z3 : wn = 3 ∨ wn = 7 := by omega
      simpa using z3
  rintro _ G11 ⟨rfl, s11⟩
  -- same
  refine ⟨fun σ' H' => σ' = slR wl (wn : Int) t o M W3 KP R (dd (wn : Int) hs.length xs due) vk vg ∧ Same G9 H', ?_, ?_⟩
  · have stay : ¬ (My.d1 (wn : Int) hs.length due = "none" ∧ ((wn : Int) = 4 ∨ (wn : Int) = 8) ∧ xs[1]? = xs[2]?) → slR wl (wn : Int) t o M W3 KP R (My.d1 (wn : Int) hs.length due) vk vg = slR wl (wn : Int) t o M W3 KP R (dd (wn : Int) hs.length xs due) vk vg := fun c => by rw [show dd (wn : Int) hs.length xs due = My.d1 (wn : Int) hs.length due from if_neg c]
    refine ⟨_, rfl, rfl, _, rfl, ite2 (fun c => ?_) (fun c => ⟨stay fun z => c (by rw [z.1]; exact decide_eq_true rfl), s11⟩)⟩
    have c' : My.d1 (wn : Int) hs.length due = "none" := V.str.inj (of_decide_eq_true c)
    refine ⟨_, rfl, by show 2 ≤ sizeLine; decide, fun p hp => ?_⟩
    have s10 := s11.new (o := .tup [.int 4, .int 8]) hp
    have op : upd G11 p (.tup [.int 4, .int 8]) p = some (.tup (nv [4, 8])) := upd_same
    generalize upd G11 p (.tup [.int 4, .int 8]) = G12 at s10 op ⊢
    refine ⟨p, _, rfl, .inr (SqT.of op), rfl, flat_nv _, decide (wn ∈ [4, 8]), congrArg V.bl (inV_nv _ _), ite2 (fun c2 => ?_) (fun c2 => ⟨stay fun z => c2 (decide_eq_true ?_), s10⟩)⟩
    · have c2' : wn = 4 ∨ wn = 8 := by simpa using of_decide_eq_true c2
      have dn : due = "none" := by
        by_cases k : due = "none" ∧ ((wn : Int) = 3 ∨ (wn : Int) = 7) ∧ hs.length = 1
        · exact k.1
        · rw [show My.d1 (wn : Int) hs.length due = due from if_neg k] at c'; exact c'
      have all := fw_none ks gs l1 (ed.trans dn)
      have eks : ks = [true, false, false] := by
        rw [← ek]; unfold ksn
        rw [if_neg (by omega), if_neg (by omega), if_pos (by omega)]
      obtain ⟨x0, y1, y2, ex, u1, rfl, u2, rfl⟩ : ∃ x0 y1 y2, xs = [x0, y1, y2] ∧ ∃ u1 : Nat, y1 = V.int (u1 : Int) ∧ ∃ u2 : Nat, y2 = V.int (u2 : Int) := by
        rw [eks] at I
        cases I with | @cons _ x g0 _ _ _ i0 I =>
        cases I with | @cons _ y g1 _ _ _ i1 I =>
        cases I with | @cons _ z g2 _ _ _ i2 I =>
        cases I
        obtain ⟨a1, e1, _⟩ := isIdx_true ((i1.th rfl).2.trans (all g1 (by simp)))
        obtain ⟨a2, e2, _⟩ := isIdx_true ((i2.th rfl).2.trans (all g2 (by simp)))
        exact ⟨_, _, _, rfl, a1, e1, a2, e2⟩
      have hR12 := s10 _ _ S.hR
      rw [ex] at hR12
      refine ⟨_, rfl, R, _, _, _, rfl, rfl, SqL.of hR12, rfl, _, rfl, R, _, _, _, rfl, rfl, SqL.of hR12, rfl, rfl, _, rfl, ite2 (fun c3 => ?_) (fun c3 => ⟨stay fun z => c3 (decide_eq_true ?_), s10⟩)⟩
      · have e3 : xs[1]? = xs[2]? := by
          rw [ex]
          exact congrArg some (of_decide_eq_true c3)
        exact ⟨by rw [show dd (wn : Int) hs.length xs due = "same" from if_pos ⟨c', by omega, e3⟩]; rfl, s10⟩
      · have z2 := z.2.2
        rw [ex] at z2
        exact Option.some.inj z2
    · have z2 := z.2.1
      have z3 : wn = 4 ∨ wn = 8 := by omega
      simpa using z3
  rintro _ G13 ⟨rfl, s13⟩
  have I9 := I.same Off.same
  obtain ⟨ds, rp, md, ld⟩ := I9.rps
  have I13 := I9.same s13
  subst ed
  rw [← ek] at I13 ⊢
  refine ⟨_, rfl, _, rfl, (wn : Int), R, xs, ds, _, rfl, s13 _ _ S.hR, mR, Rps.same s13 _ _ rp, shows_row md (by omega), rowD_of (by omega) (by omega) I13 (s13 _ _ S.ht) rfl hd, fun H' s' => ⟨_, rfl, rfl, ?_⟩⟩
  rw [decide_eq_true rfl]
  exact q H' ((S.kp.trans s13.keep).trans s'.keep)
end

end My

namespace My
open PySem PySem.Spec PyProof.Rows L2
section
variable {P : Program} {w : World} {K : PySem.W.Frag} {mg : Str → Option Value} {base : Heap}
abbrev st_law : Stmt := topS 37
abbrev N_law : List Str := ["script", "at"]
theorem sc_law : FnScope N_law ["script"] (defScope st_law) := ⟨rfl, rfl, rfl, by decide +kernel, rfl, by decide +kernel, by decide +kernel⟩
theorem ok_law {f : Addr} {fd : FuncData} (F : Fun K "law" "law" st_law f fd) (B : Bl mg) (K_law_well : Kn P w K mg base CX0 1 "_law_well" st__law_well ["script", "at"] (spWell K))
    (K_law_right : KnQ P w K mg base 10 "_law_right" st__law_right ["well", "way"] spRight47) :
    Qui P w K mg base 11 f fd ["script"] (spLaw K) := by
  refine F.quiet sc_law (fun vs H Q E h => ?_) (fun cdv A outer s H vs Q E hr hq h => ?_)
  · obtain ⟨a, ns, rfl, _⟩ := h; rfl
  obtain ⟨a, ns, rfl, hS, hns, q⟩ := h
  refine ⟨_, ((pss_cons (ps_for PassesOwn.never rfl (pi_range1 (by rfl) B.range (pa_cons (pe_callB (call_max2 rfl) (by rfl) B.max (by decide +kernel) (pa_cons pe_int (pa_cons (pe_callB (call_min2 rfl) (by rfl) B.min (by decide +kernel) (pa_cons pe_int (pa_cons (pe_callB call_len (by rfl) B.len (by decide +kernel) (pa_cons (pv 0) pa_nil)) pa_nil))) pa_nil))) pa_nil)) (pg_name (i := 1) sc_law.nd rfl (Or.inl rfl)) (pss_one (ps_if (pt_not (pt_val (pe_callQ (E := fun _ _ _ => False) K_law_right (hr.mono (by decide)) hq (pa_cons (pe_callF K_law_well (hr.mono (by decide)) pass0 (pa_cons (pv 0) (pa_cons (pv 1) pa_nil))) (pa_cons (pe_op op_mod (pe_callTy call_int1 (by rfl) B.int (by decide +kernel) (pa_cons (pv 1) pa_nil)) pe_int) pa_nil))))) (pss_one (ps_ret pe_bl)) pss_nil)))
      (pss_one (ps_ret pe_bl)))), ?_⟩
  have hlen : (ns.map V.int).length = ns.length := List.length_map _
  refine ⟨_, rfl, _, _, rfl, .inl ⟨_, hS, rfl⟩, _, _, rfl, _, _, rfl, _, rfl, by split <;> omega, by split <;> (try split) <;> omega, for_it walk_range0 (fun i σ H' => (∃ v1, σ = [some (.ref a), v1]) ∧ Same H H')
    ⟨⟨none, rfl⟩, Same.refl H⟩ (fun _ _ _ _ _ => trivial) ?_ ?_⟩
  · rintro i x σ H0 H1 hi ⟨⟨v1, rfl⟩, s1⟩ ⟨rfl, rfl⟩
    have hi64 : i < 64 := by split at hi <;> (try split at hi) <;> omega
    clear hi
    refine ⟨_, rfl, _, rfl, a, ns, i, rfl, s1.seq hS, hi64, fun wl H2 s2 hwl w2 => ?_⟩
    have e : (i : Int) % 9 = ((i % 9 : Nat) : Int) := by omega
    refine ⟨_, rfl, .inl ⟨_, rfl, _, _, rfl, rfl, by show (0 : Int) < 9; decide, wl, i % 9, by rw [← e]; rfl, w2, by omega, fun H' k => ⟨_, rfl, iteF ⟨⟨_, rfl⟩, thenK (s1.trans s2) (s1.free hwl) k⟩⟩⟩⟩
  · rintro σ H1 ⟨⟨v1, rfl⟩, s1⟩
    exact q H1
end

end My

namespace My
open PySem PySem.Spec PyProof.Rows L2
theorem all_mk {l : PySem.W.OpenLaw} {w : World} {K : PySem.W.Frag} {h : Heap} {mg : Str → Option Value} {fa f0 f1 f2 f3 f4 f5 f6 f7 f8 f9 f10 f11 f12 f13 f14 f15 f16 f17 f18 f19 f20 f21 f22 f23 f24 f25 f26 C0 C1 C2 C3 C4 CB : Addr} (X : K.In h) (G : h.Ns mainGlobals mg) (hfa : mg "law" = some (.ref fa))
    {od0 an0 od1 an1 od2 an2 od3 an3 od4 an4 od5 an5 od6 an6 od7 an7 od8 an8 od9 an9 od10 an10 od11 an11 od12 an12 od13 an13 od14 an14 od15 an15 od16 an16 od17 an17 od18 an18 od19 an19 od20 an20 od21 an21 od22 an22 od23 an23 od24 an24 od25 an25 od26 an26 : Option Addr} {sl0 sl1 sl2 sl3 sl4 sl5 sl6 sl7 sl8 sl9 sl10 sl11 sl12 sl13 sl14 sl15 sl16 sl17 sl18 sl19 sl20 sl21 sl22 sl23 sl24 sl25 sl26 : Array (Option Value)} {oc0 kV0 dc0 pm0 cd0 ct0 oc1 kV1 dc1 pm1 cd1 ct1 oc2 kV2 dc2 pm2 cd2 ct2 oc3 kV3 dc3 pm3 cd3 ct3 oc4 kV4 dc4 pm4 cd4 ct4 oc5 kV5 dc5 pm5 cd5 ct5 oc6 kV6 dc6 pm6 cd6 ct6 oc7 kV7 dc7 pm7 cd7 ct7 oc8 kV8 dc8 pm8 cd8 ct8 oc9 kV9 dc9 pm9 cd9 ct9 oc10 kV10 dc10 pm10 cd10 ct10 oc11 kV11 dc11 pm11 cd11 ct11 oc12 kV12 dc12 pm12 cd12 ct12 oc13 kV13 dc13 pm13 cd13 ct13 oc14 kV14 dc14 pm14 cd14 ct14 oc15 kV15 dc15 pm15 cd15 ct15 oc16 kV16 dc16 pm16 cd16 ct16 oc17 kV17 dc17 pm17 cd17 ct17 oc18 kV18 dc18 pm18 cd18 ct18 oc19 kV19 dc19 pm19 cd19 ct19 oc20 kV20 dc20 pm20 cd20 ct20 oc21 kV21 dc21 pm21 cd21 ct21 oc22 kV22 dc22 pm22 cd22 ct22 oc23 kV23 dc23 pm23 cd23 ct23 oc24 kV24 dc24 pm24 cd24 ct24 oc25 kV25 dc25 pm25 cd25 ct25 oc26 kV26 dc26 pm26 cd26 ct26 : Value}
    (a0 : PySem.W.nsIn K mainGlobals "is_integer" = some (some (.ref f0)))
    (l0 : K.lookup f0 = some ⟨oc0, od0, .func (PySem.W.fnOf "is_integer" "is_integer" (defArgs st_is_integer) (defBody st_is_integer) (defScope st_is_integer) .none kV0 dc0 pm0 an0 cd0 ct0), sl0⟩)
    (c0 : PySem.W.codeIn K cd0 "is_integer" = true)
    (k0 : PySem.W.keepIn K (.ref f0) = true)
    (a1 : PySem.W.nsIn K mainGlobals "is_between" = some (some (.ref f1)))
    (l1 : K.lookup f1 = some ⟨oc1, od1, .func (PySem.W.fnOf "is_between" "is_between" (defArgs st_is_between) (defBody st_is_between) (defScope st_is_between) .none kV1 dc1 pm1 an1 cd1 ct1), sl1⟩)
    (c1 : PySem.W.codeIn K cd1 "is_between" = true)
    (k1 : PySem.W.keepIn K (.ref f1) = true)
    (a2 : PySem.W.nsIn K mainGlobals "is_index" = some (some (.ref f2)))
    (l2 : K.lookup f2 = some ⟨oc2, od2, .func (PySem.W.fnOf "is_index" "is_index" (defArgs st_is_index) (defBody st_is_index) (defScope st_is_index) .none kV2 dc2 pm2 an2 cd2 ct2), sl2⟩)
    (c2 : PySem.W.codeIn K cd2 "is_index" = true)
    (k2 : PySem.W.keepIn K (.ref f2) = true)
    (a3 : PySem.W.nsIn K mainGlobals "is_forest" = some (some (.ref f3)))
    (l3 : K.lookup f3 = some ⟨oc3, od3, .func (PySem.W.fnOf "is_forest" "is_forest" (defArgs st_is_forest) (defBody st_is_forest) (defScope st_is_forest) .none kV3 dc3 pm3 an3 cd3 ct3), sl3⟩)
    (c3 : PySem.W.codeIn K cd3 "is_forest" = true)
    (k3 : PySem.W.keepIn K (.ref f3) = true)
    (a4 : PySem.W.nsIn K mainGlobals "check_forest" = some (some (.ref f4)))
    (l4 : K.lookup f4 = some ⟨oc4, od4, .func (PySem.W.fnOf "check_forest" "check_forest" (defArgs st_check_forest) (defBody st_check_forest) (defScope st_check_forest) .none kV4 dc4 pm4 an4 cd4 ct4), sl4⟩)
    (c4 : PySem.W.codeIn K cd4 "check_forest" = true)
    (k4 : PySem.W.keepIn K (.ref f4) = true)
    (a5 : PySem.W.nsIn K mainGlobals "check_thing" = some (some (.ref f5)))
    (l5 : K.lookup f5 = some ⟨oc5, od5, .func (PySem.W.fnOf "check_thing" "check_thing" (defArgs st_check_thing) (defBody st_check_thing) (defScope st_check_thing) .none kV5 dc5 pm5 an5 cd5 ct5), sl5⟩)
    (c5 : PySem.W.codeIn K cd5 "check_thing" = true)
    (k5 : PySem.W.keepIn K (.ref f5) = true)
    (a6 : PySem.W.nsIn K mainGlobals "_without_holder" = some (some (.ref f6)))
    (l6 : K.lookup f6 = some ⟨oc6, od6, .func (PySem.W.fnOf "_without_holder" "_without_holder" (defArgs st__without_holder) (defBody st__without_holder) (defScope st__without_holder) .none kV6 dc6 pm6 an6 cd6 ct6), sl6⟩)
    (c6 : PySem.W.codeIn K cd6 "_without_holder" = true)
    (k6 : PySem.W.keepIn K (.ref f6) = true)
    (a7 : PySem.W.nsIn K mainGlobals "_held_lists" = some (some (.ref f7)))
    (l7 : K.lookup f7 = some ⟨oc7, od7, .func (PySem.W.fnOf "_held_lists" "_held_lists" (defArgs st__held_lists) (defBody st__held_lists) (defScope st__held_lists) .none kV7 dc7 pm7 an7 cd7 ct7), sl7⟩)
    (c7 : PySem.W.codeIn K cd7 "_held_lists" = true)
    (k7 : PySem.W.keepIn K (.ref f7) = true)
    (a8 : PySem.W.nsIn K mainGlobals "_walk_through" = some (some (.ref f8)))
    (l8 : K.lookup f8 = some ⟨oc8, od8, .func (PySem.W.fnOf "_walk_through" "_walk_through" (defArgs st__walk_through) (defBody st__walk_through) (defScope st__walk_through) .none kV8 dc8 pm8 an8 cd8 ct8), sl8⟩)
    (c8 : PySem.W.codeIn K cd8 "_walk_through" = true)
    (k8 : PySem.W.keepIn K (.ref f8) = true)
    (a9 : PySem.W.nsIn K mainGlobals "above" = some (some (.ref f9)))
    (l9 : K.lookup f9 = some ⟨oc9, od9, .func (PySem.W.fnOf "above" "above" (defArgs st_above) (defBody st_above) (defScope st_above) .none kV9 dc9 pm9 an9 cd9 ct9), sl9⟩)
    (c9 : PySem.W.codeIn K cd9 "above" = true)
    (k9 : PySem.W.keepIn K (.ref f9) = true)
    (a10 : PySem.W.nsIn K mainGlobals "below" = some (some (.ref f10)))
    (l10 : K.lookup f10 = some ⟨oc10, od10, .func (PySem.W.fnOf "below" "below" (defArgs st_below) (defBody st_below) (defScope st_below) .none kV10 dc10 pm10 an10 cd10 ct10), sl10⟩)
    (c10 : PySem.W.codeIn K cd10 "below" = true)
    (k10 : PySem.W.keepIn K (.ref f10) = true)
    (a11 : PySem.W.nsIn K mainGlobals "forest_among" = some (some (.ref f11)))
    (l11 : K.lookup f11 = some ⟨oc11, od11, .func (PySem.W.fnOf "forest_among" "forest_among" (defArgs st_forest_among) (defBody st_forest_among) (defScope st_forest_among) .none kV11 dc11 pm11 an11 cd11 ct11), sl11⟩)
    (c11 : PySem.W.codeIn K cd11 "forest_among" = true)
    (k11 : PySem.W.keepIn K (.ref f11) = true)
    (a12 : PySem.W.nsIn K mainGlobals "_behind" = some (some (.ref f12)))
    (l12 : K.lookup f12 = some ⟨oc12, od12, .func (PySem.W.fnOf "_behind" "_behind" (defArgs st__behind) (defBody st__behind) (defScope st__behind) .none kV12 dc12 pm12 an12 cd12 ct12), sl12⟩)
    (c12 : PySem.W.codeIn K cd12 "_behind" = true)
    (k12 : PySem.W.keepIn K (.ref f12) = true)
    (a13 : PySem.W.nsIn K mainGlobals "beside" = some (some (.ref f13)))
    (l13 : K.lookup f13 = some ⟨oc13, od13, .func (PySem.W.fnOf "beside" "beside" (defArgs st_beside) (defBody st_beside) (defScope st_beside) .none kV13 dc13 pm13 an13 cd13 ct13), sl13⟩)
    (c13 : PySem.W.codeIn K cd13 "beside" = true)
    (k13 : PySem.W.keepIn K (.ref f13) = true)
    (a14 : PySem.W.nsIn K mainGlobals "grafted" = some (some (.ref f14)))
    (l14 : K.lookup f14 = some ⟨oc14, od14, .func (PySem.W.fnOf "grafted" "grafted" (defArgs st_grafted) (defBody st_grafted) (defScope st_grafted) .none kV14 dc14 pm14 an14 cd14 ct14), sl14⟩)
    (c14 : PySem.W.codeIn K cd14 "grafted" = true)
    (k14 : PySem.W.keepIn K (.ref f14) = true)
    (a15 : PySem.W.nsIn K mainGlobals "part" = some (some (.ref f15)))
    (l15 : K.lookup f15 = some ⟨oc15, od15, .func (PySem.W.fnOf "part" "part" (defArgs st_part) (defBody st_part) (defScope st_part) .none kV15 dc15 pm15 an15 cd15 ct15), sl15⟩)
    (c15 : PySem.W.codeIn K cd15 "part" = true)
    (k15 : PySem.W.keepIn K (.ref f15) = true)
    (a16 : PySem.W.nsIn K mainGlobals "without" = some (some (.ref f16)))
    (l16 : K.lookup f16 = some ⟨oc16, od16, .func (PySem.W.fnOf "without" "without" (defArgs st_without) (defBody st_without) (defScope st_without) .none kV16 dc16 pm16 an16 cd16 ct16), sl16⟩)
    (c16 : PySem.W.codeIn K cd16 "without" = true)
    (k16 : PySem.W.keepIn K (.ref f16) = true)
    (a17 : PySem.W.nsIn K mainGlobals "told_ahead" = some (some (.ref f17)))
    (l17 : K.lookup f17 = some ⟨oc17, od17, .func (PySem.W.fnOf "told_ahead" "told_ahead" (defArgs st_told_ahead) (defBody st_told_ahead) (defScope st_told_ahead) .none kV17 dc17 pm17 an17 cd17 ct17), sl17⟩)
    (c17 : PySem.W.codeIn K cd17 "told_ahead" = true)
    (k17 : PySem.W.keepIn K (.ref f17) = true)
    (a18 : PySem.W.nsIn K mainGlobals "_law_well" = some (some (.ref f18)))
    (l18 : K.lookup f18 = some ⟨oc18, od18, .func (PySem.W.fnOf "_law_well" "_law_well" (defArgs st__law_well) (defBody st__law_well) (defScope st__law_well) .none kV18 dc18 pm18 an18 cd18 ct18), sl18⟩)
    (c18 : PySem.W.codeIn K cd18 "_law_well" = true)
    (k18 : PySem.W.keepIn K (.ref f18) = true)
    (a19 : PySem.W.nsIn K mainGlobals "_law_draw" = some (some (.ref f19)))
    (l19 : K.lookup f19 = some ⟨oc19, od19, .func (PySem.W.fnOf "_law_draw" "_law_draw" (defArgs st__law_draw) (defBody st__law_draw) (defScope st__law_draw) .none kV19 dc19 pm19 an19 cd19 ct19), sl19⟩)
    (c19 : PySem.W.codeIn K cd19 "_law_draw" = true)
    (k19 : PySem.W.keepIn K (.ref f19) = true)
    (a20 : PySem.W.nsIn K mainGlobals "_law_forest" = some (some (.ref f20)))
    (l20 : K.lookup f20 = some ⟨oc20, od20, .func (PySem.W.fnOf "_law_forest" "_law_forest" (defArgs st__law_forest) (defBody st__law_forest) (defScope st__law_forest) .none kV20 dc20 pm20 an20 cd20 ct20), sl20⟩)
    (c20 : PySem.W.codeIn K cd20 "_law_forest" = true)
    (k20 : PySem.W.keepIn K (.ref f20) = true)
    (a21 : PySem.W.nsIn K mainGlobals "_law_broken" = some (some (.ref f21)))
    (l21 : K.lookup f21 = some ⟨oc21, od21, .func (PySem.W.fnOf "_law_broken" "_law_broken" (defArgs st__law_broken) (defBody st__law_broken) (defScope st__law_broken) .none kV21 dc21 pm21 an21 cd21 ct21), sl21⟩)
    (c21 : PySem.W.codeIn K cd21 "_law_broken" = true)
    (k21 : PySem.W.keepIn K (.ref f21) = true)
    (a22 : PySem.W.nsIn K mainGlobals "_law_odd" = some (some (.ref f22)))
    (l22 : K.lookup f22 = some ⟨oc22, od22, .func (PySem.W.fnOf "_law_odd" "_law_odd" (defArgs st__law_odd) (defBody st__law_odd) (defScope st__law_odd) .none kV22 dc22 pm22 an22 cd22 ct22), sl22⟩)
    (c22 : PySem.W.codeIn K cd22 "_law_odd" = true)
    (k22 : PySem.W.keepIn K (.ref f22) = true)
    (a23 : PySem.W.nsIn K mainGlobals "_law_called" = some (some (.ref f23)))
    (l23 : K.lookup f23 = some ⟨oc23, od23, .func (PySem.W.fnOf "_law_called" "_law_called" (defArgs st__law_called) (defBody st__law_called) (defScope st__law_called) .none kV23 dc23 pm23 an23 cd23 ct23), sl23⟩)
    (c23 : PySem.W.codeIn K cd23 "_law_called" = true)
    (k23 : PySem.W.keepIn K (.ref f23) = true)
    (a24 : PySem.W.nsIn K mainGlobals "_law_caught" = some (some (.ref f24)))
    (l24 : K.lookup f24 = some ⟨oc24, od24, .func (PySem.W.fnOf "_law_caught" "_law_caught" (defArgs st__law_caught) (defBody st__law_caught) (defScope st__law_caught) .none kV24 dc24 pm24 an24 cd24 ct24), sl24⟩)
    (c24 : PySem.W.codeIn K cd24 "_law_caught" = true)
    (k24 : PySem.W.keepIn K (.ref f24) = true)
    (a25 : PySem.W.nsIn K mainGlobals "_law_right" = some (some (.ref f25)))
    (l25 : K.lookup f25 = some ⟨oc25, od25, .func (PySem.W.fnOf "_law_right" "_law_right" (defArgs st__law_right) (defBody st__law_right) (defScope st__law_right) .none kV25 dc25 pm25 an25 cd25 ct25), sl25⟩)
    (c25 : PySem.W.codeIn K cd25 "_law_right" = true)
    (k25 : PySem.W.keepIn K (.ref f25) = true)
    (a26 : PySem.W.nsIn K mainGlobals "law" = some (some (.ref f26)))
    (l26 : K.lookup f26 = some ⟨oc26, od26, .func (PySem.W.fnOf "law" "law" (defArgs st_law) (defBody st_law) (defScope st_law) .none kV26 dc26 pm26 an26 cd26 ct26), sl26⟩)
    (c26 : PySem.W.codeIn K cd26 "law" = true)
    (k26 : PySem.W.keepIn K (.ref f26) = true)
    (z_isinstance : PySem.W.nsIn K mainGlobals "isinstance" = some none)
    (z_int : PySem.W.nsIn K mainGlobals "int" = some none)
    (z_bool : PySem.W.nsIn K mainGlobals "bool" = some none)
    (z_tuple : PySem.W.nsIn K mainGlobals "tuple" = some none)
    (z_len : PySem.W.nsIn K mainGlobals "len" = some none)
    (z_all : PySem.W.nsIn K mainGlobals "all" = some none)
    (z_enumerate : PySem.W.nsIn K mainGlobals "enumerate" = some none)
    (z_reversed : PySem.W.nsIn K mainGlobals "reversed" = some none)
    (z_sorted : PySem.W.nsIn K mainGlobals "sorted" = some none)
    (z_max : PySem.W.nsIn K mainGlobals "max" = some none)
    (z_min : PySem.W.nsIn K mainGlobals "min" = some none)
    (z_abs : PySem.W.nsIn K mainGlobals "abs" = some none)
    (z_range : PySem.W.nsIn K mainGlobals "range" = some none)
    (z_list : PySem.W.nsIn K mainGlobals "list" = some none)
    (z_repr : PySem.W.nsIn K mainGlobals "repr" = some none)
    (z_sum : PySem.W.nsIn K mainGlobals "sum" = some none)
    (z_any : PySem.W.nsIn K mainGlobals "any" = some none)
    (z_zip : PySem.W.nsIn K mainGlobals "zip" = some none)
    (z_str : PySem.W.nsIn K mainGlobals "str" = some none)
    (z_set : PySem.W.nsIn K mainGlobals "set" = some none)
    (z_dict : PySem.W.nsIn K mainGlobals "dict" = some none)
    (z_ValueError : PySem.W.nsIn K mainGlobals "ValueError" = some none)
    (g_0 : PySem.W.nsIn K mainGlobals "InvalidForest" = some (some (.ref C0)))
    (x_0 : PySem.W.excIn K C0 [.type "ValueError", .type "Exception", .type "BaseException", .type "object"] "ValueError.__new__" = true)
    (k_0 : PySem.W.keepIn K (.ref C0) = true)
    (b_0 : PySem.W.subIn K (.ref C0) (.type "BaseException") = some true)
    (t_0 : PySem.W.typeIn K (.ref C0) = some (.type "type"))
    (ga_0 : PySem.W.findIn K (.ref C0) "__getattribute__" = some (some (.builtin "BaseException.__getattribute__")))
    (gt_0 : PySem.W.findIn K (.ref C0) "__getattr__" = some none)
    (hd_0 : PySem.W.hasDictIn K C0 = true)
    (hc_0 : PySem.W.findIn K (.ref C0) "__class__" = some (some (.builtin "object.__class__")))
    (hm_0 : PySem.W.mroIn K C0 (.type "object") = some true)
    (v_0 : PySem.W.kitOne K (.ref C0) (.type "ValueError") = some true)
    (y_0_0 : PySem.W.kitOne K (.ref C0) (.ref C0) = some true)
    (y_0_1 : PySem.W.kitOne K (.ref C0) (.ref C1) = some false)
    (y_0_2 : PySem.W.kitOne K (.ref C0) (.ref C2) = some false)
    (y_0_3 : PySem.W.kitOne K (.ref C0) (.ref C3) = some false)
    (y_0_4 : PySem.W.kitOne K (.ref C0) (.ref C4) = some false)
    (s_0 : PySem.W.subIn K (.ref C0) (.ref CB) = some true)
    (g_1 : PySem.W.nsIn K mainGlobals "InvalidThing" = some (some (.ref C1)))
    (x_1 : PySem.W.excIn K C1 [.type "ValueError", .type "Exception", .type "BaseException", .type "object"] "ValueError.__new__" = true)
    (k_1 : PySem.W.keepIn K (.ref C1) = true)
    (b_1 : PySem.W.subIn K (.ref C1) (.type "BaseException") = some true)
    (t_1 : PySem.W.typeIn K (.ref C1) = some (.type "type"))
    (ga_1 : PySem.W.findIn K (.ref C1) "__getattribute__" = some (some (.builtin "BaseException.__getattribute__")))
    (gt_1 : PySem.W.findIn K (.ref C1) "__getattr__" = some none)
    (hd_1 : PySem.W.hasDictIn K C1 = true)
    (hc_1 : PySem.W.findIn K (.ref C1) "__class__" = some (some (.builtin "object.__class__")))
    (hm_1 : PySem.W.mroIn K C1 (.type "object") = some true)
    (v_1 : PySem.W.kitOne K (.ref C1) (.type "ValueError") = some true)
    (y_1_0 : PySem.W.kitOne K (.ref C1) (.ref C0) = some false)
    (y_1_1 : PySem.W.kitOne K (.ref C1) (.ref C1) = some true)
    (y_1_2 : PySem.W.kitOne K (.ref C1) (.ref C2) = some false)
    (y_1_3 : PySem.W.kitOne K (.ref C1) (.ref C3) = some false)
    (y_1_4 : PySem.W.kitOne K (.ref C1) (.ref C4) = some false)
    (s_1 : PySem.W.subIn K (.ref C1) (.ref CB) = some true)
    (g_2 : PySem.W.nsIn K mainGlobals "NoForest" = some (some (.ref C2)))
    (x_2 : PySem.W.excIn K C2 [.type "ValueError", .type "Exception", .type "BaseException", .type "object"] "ValueError.__new__" = true)
    (k_2 : PySem.W.keepIn K (.ref C2) = true)
    (b_2 : PySem.W.subIn K (.ref C2) (.type "BaseException") = some true)
    (t_2 : PySem.W.typeIn K (.ref C2) = some (.type "type"))
    (ga_2 : PySem.W.findIn K (.ref C2) "__getattribute__" = some (some (.builtin "BaseException.__getattribute__")))
    (gt_2 : PySem.W.findIn K (.ref C2) "__getattr__" = some none)
    (hd_2 : PySem.W.hasDictIn K C2 = true)
    (hc_2 : PySem.W.findIn K (.ref C2) "__class__" = some (some (.builtin "object.__class__")))
    (hm_2 : PySem.W.mroIn K C2 (.type "object") = some true)
    (v_2 : PySem.W.kitOne K (.ref C2) (.type "ValueError") = some true)
    (y_2_0 : PySem.W.kitOne K (.ref C2) (.ref C0) = some false)
    (y_2_1 : PySem.W.kitOne K (.ref C2) (.ref C1) = some false)
    (y_2_2 : PySem.W.kitOne K (.ref C2) (.ref C2) = some true)
    (y_2_3 : PySem.W.kitOne K (.ref C2) (.ref C3) = some false)
    (y_2_4 : PySem.W.kitOne K (.ref C2) (.ref C4) = some false)
    (s_2 : PySem.W.subIn K (.ref C2) (.ref CB) = some true)
    (g_3 : PySem.W.nsIn K mainGlobals "OnlyThing" = some (some (.ref C3)))
    (x_3 : PySem.W.excIn K C3 [.type "ValueError", .type "Exception", .type "BaseException", .type "object"] "ValueError.__new__" = true)
    (k_3 : PySem.W.keepIn K (.ref C3) = true)
    (b_3 : PySem.W.subIn K (.ref C3) (.type "BaseException") = some true)
    (t_3 : PySem.W.typeIn K (.ref C3) = some (.type "type"))
    (ga_3 : PySem.W.findIn K (.ref C3) "__getattribute__" = some (some (.builtin "BaseException.__getattribute__")))
    (gt_3 : PySem.W.findIn K (.ref C3) "__getattr__" = some none)
    (hd_3 : PySem.W.hasDictIn K C3 = true)
    (hc_3 : PySem.W.findIn K (.ref C3) "__class__" = some (some (.builtin "object.__class__")))
    (hm_3 : PySem.W.mroIn K C3 (.type "object") = some true)
    (v_3 : PySem.W.kitOne K (.ref C3) (.type "ValueError") = some true)
    (y_3_0 : PySem.W.kitOne K (.ref C3) (.ref C0) = some false)
    (y_3_1 : PySem.W.kitOne K (.ref C3) (.ref C1) = some false)
    (y_3_2 : PySem.W.kitOne K (.ref C3) (.ref C2) = some false)
    (y_3_3 : PySem.W.kitOne K (.ref C3) (.ref C3) = some true)
    (y_3_4 : PySem.W.kitOne K (.ref C3) (.ref C4) = some false)
    (s_3 : PySem.W.subIn K (.ref C3) (.ref CB) = some true)
    (g_4 : PySem.W.nsIn K mainGlobals "SameThing" = some (some (.ref C4)))
    (x_4 : PySem.W.excIn K C4 [.type "ValueError", .type "Exception", .type "BaseException", .type "object"] "ValueError.__new__" = true)
    (k_4 : PySem.W.keepIn K (.ref C4) = true)
    (b_4 : PySem.W.subIn K (.ref C4) (.type "BaseException") = some true)
    (t_4 : PySem.W.typeIn K (.ref C4) = some (.type "type"))
    (ga_4 : PySem.W.findIn K (.ref C4) "__getattribute__" = some (some (.builtin "BaseException.__getattribute__")))
    (gt_4 : PySem.W.findIn K (.ref C4) "__getattr__" = some none)
    (hd_4 : PySem.W.hasDictIn K C4 = true)
    (hc_4 : PySem.W.findIn K (.ref C4) "__class__" = some (some (.builtin "object.__class__")))
    (hm_4 : PySem.W.mroIn K C4 (.type "object") = some true)
    (v_4 : PySem.W.kitOne K (.ref C4) (.type "ValueError") = some true)
    (y_4_0 : PySem.W.kitOne K (.ref C4) (.ref C0) = some false)
    (y_4_1 : PySem.W.kitOne K (.ref C4) (.ref C1) = some false)
    (y_4_2 : PySem.W.kitOne K (.ref C4) (.ref C2) = some false)
    (y_4_3 : PySem.W.kitOne K (.ref C4) (.ref C3) = some false)
    (y_4_4 : PySem.W.kitOne K (.ref C4) (.ref C4) = some true)
    (s_4 : PySem.W.subIn K (.ref C4) (.ref CB) = some true)
    (sn : PySem.W.specialIn K (.builtin "object.__class__") "__get__" = some (some (.builtin "getset_descriptor.__get__")))
    (st : PySem.W.takesIn K (.builtin "object.__class__") = some true)
    (gB : PySem.W.nsIn K mainGlobals "HolderError" = some (some (.ref CB)))
    (bB : PySem.W.subIn K (.ref CB) (.type "BaseException") = some true)
    (hB : PySem.W.hasDictIn K CB = true)
    (tB : PySem.W.typeIn K (.ref CB) = some (.type "type")) :
    ∃ fd : FuncData, (∀ (s : Shared) (v : Value), BindsTo s fd ⟨[v], []⟩ [("script", v)]) ∧ ∀ base : Heap, K.In base → base.Ns mainGlobals mg → Qui l.prog w K mg base 11 fa fd ["script"] (spLaw K) := by
  have e := hfa.symm.trans (PySem.W.mg_of X G a26)
  cases e
  have D_is_integer : Df K mg "is_integer" st_is_integer ["value"] := Df.mk' l0 c0 k0 (PySem.W.mg_of X G a0) fun _ _ _ _ _ _ us hl => match us, hl with | [_], _ => rfl
  have D_is_between : Df K mg "is_between" st_is_between ["value", "least", "greatest"] := Df.mk' l1 c1 k1 (PySem.W.mg_of X G a1) fun _ _ _ _ _ _ us hl => match us, hl with | [_, _, _], _ => rfl
  have D_is_index : Df K mg "is_index" st_is_index ["value", "many"] := Df.mk' l2 c2 k2 (PySem.W.mg_of X G a2) fun _ _ _ _ _ _ us hl => match us, hl with | [_, _], _ => rfl
  have D_is_forest : Df K mg "is_forest" st_is_forest ["value"] := Df.mk' l3 c3 k3 (PySem.W.mg_of X G a3) fun _ _ _ _ _ _ us hl => match us, hl with | [_], _ => rfl
  have D_check_forest : Df K mg "check_forest" st_check_forest ["forest"] := Df.mk' l4 c4 k4 (PySem.W.mg_of X G a4) fun _ _ _ _ _ _ us hl => match us, hl with | [_], _ => rfl
  have D_check_thing : Df K mg "check_thing" st_check_thing ["forest", "thing"] := Df.mk' l5 c5 k5 (PySem.W.mg_of X G a5) fun _ _ _ _ _ _ us hl => match us, hl with | [_, _], _ => rfl
  have D__without_holder : Df K mg "_without_holder" st__without_holder ["forest"] := Df.mk' l6 c6 k6 (PySem.W.mg_of X G a6) fun _ _ _ _ _ _ us hl => match us, hl with | [_], _ => rfl
  have D__held_lists : Df K mg "_held_lists" st__held_lists ["forest"] := Df.mk' l7 c7 k7 (PySem.W.mg_of X G a7) fun _ _ _ _ _ _ us hl => match us, hl with | [_], _ => rfl
  have D__walk_through : Df K mg "_walk_through" st__walk_through ["held", "starts"] := Df.mk' l8 c8 k8 (PySem.W.mg_of X G a8) fun _ _ _ _ _ _ us hl => match us, hl with | [_, _], _ => rfl
  have D_above : Df K mg "above" st_above ["forest", "thing"] := Df.mk' l9 c9 k9 (PySem.W.mg_of X G a9) fun _ _ _ _ _ _ us hl => match us, hl with | [_, _], _ => rfl
  have D_below : Df K mg "below" st_below ["forest", "thing"] := Df.mk' l10 c10 k10 (PySem.W.mg_of X G a10) fun _ _ _ _ _ _ us hl => match us, hl with | [_, _], _ => rfl
  have D_forest_among : Df K mg "forest_among" st_forest_among ["forest", "things"] := Df.mk' l11 c11 k11 (PySem.W.mg_of X G a11) fun _ _ _ _ _ _ us hl => match us, hl with | [_, _], _ => rfl
  have D__behind : Df K mg "_behind" st__behind ["forest", "many", "top"] := Df.mk' l12 c12 k12 (PySem.W.mg_of X G a12) fun _ _ _ _ _ _ us hl => match us, hl with | [_, _, _], _ => rfl
  have D_beside : Df K mg "beside" st_beside ["forest", "other"] := Df.mk' l13 c13 k13 (PySem.W.mg_of X G a13) fun _ _ _ _ _ _ us hl => match us, hl with | [_, _], _ => rfl
  have D_grafted : Df K mg "grafted" st_grafted ["forest", "thing", "other"] := Df.mk' l14 c14 k14 (PySem.W.mg_of X G a14) fun _ _ _ _ _ _ us hl => match us, hl with | [_, _, _], _ => rfl
  have D_part : Df K mg "part" st_part ["forest", "thing"] := Df.mk' l15 c15 k15 (PySem.W.mg_of X G a15) fun _ _ _ _ _ _ us hl => match us, hl with | [_, _], _ => rfl
  have D_without : Df K mg "without" st_without ["forest", "thing"] := Df.mk' l16 c16 k16 (PySem.W.mg_of X G a16) fun _ _ _ _ _ _ us hl => match us, hl with | [_, _], _ => rfl
  have D_told_ahead : Df K mg "told_ahead" st_told_ahead ["forest", "thing", "other"] := Df.mk' l17 c17 k17 (PySem.W.mg_of X G a17) fun _ _ _ _ _ _ us hl => match us, hl with | [_, _, _], _ => rfl
  have D__law_well : Df K mg "_law_well" st__law_well ["script", "at"] := Df.mk' l18 c18 k18 (PySem.W.mg_of X G a18) fun _ _ _ _ _ _ us hl => match us, hl with | [_, _], _ => rfl
  have D__law_draw : Df K mg "_law_draw" st__law_draw ["well", "most"] := Df.mk' l19 c19 k19 (PySem.W.mg_of X G a19) fun _ _ _ _ _ _ us hl => match us, hl with | [_, _], _ => rfl
  have D__law_forest : Df K mg "_law_forest" st__law_forest ["well", "most"] := Df.mk' l20 c20 k20 (PySem.W.mg_of X G a20) fun _ _ _ _ _ _ us hl => match us, hl with | [_, _], _ => rfl
  have D__law_broken : Df K mg "_law_broken" st__law_broken ["well", "plan"] := Df.mk' l21 c21 k21 (PySem.W.mg_of X G a21) fun _ _ _ _ _ _ us hl => match us, hl with | [_, _], _ => rfl
  have D__law_odd : Df K mg "_law_odd" st__law_odd ["well", "size"] := Df.mk' l22 c22 k22 (PySem.W.mg_of X G a22) fun _ _ _ _ _ _ us hl => match us, hl with | [_, _], _ => rfl
  have D__law_called : Df K mg "_law_called" st__law_called ["way", "row"] := Df.mk' l23 c23 k23 (PySem.W.mg_of X G a23) fun _ _ _ _ _ _ us hl => match us, hl with | [_, _], _ => rfl
  have D__law_caught : Df K mg "_law_caught" st__law_caught ["way", "row"] := Df.mk' l24 c24 k24 (PySem.W.mg_of X G a24) fun _ _ _ _ _ _ us hl => match us, hl with | [_, _], _ => rfl
  have D__law_right : Df K mg "_law_right" st__law_right ["well", "way"] := Df.mk' l25 c25 k25 (PySem.W.mg_of X G a25) fun _ _ _ _ _ _ us hl => match us, hl with | [_, _], _ => rfl
  have B : Bl mg := ⟨PySem.W.mg_none_of X G z_isinstance, PySem.W.mg_none_of X G z_int, PySem.W.mg_none_of X G z_bool, PySem.W.mg_none_of X G z_tuple, PySem.W.mg_none_of X G z_len, PySem.W.mg_none_of X G z_all, PySem.W.mg_none_of X G z_enumerate, PySem.W.mg_none_of X G z_reversed, PySem.W.mg_none_of X G z_sorted, PySem.W.mg_none_of X G z_max, PySem.W.mg_none_of X G z_min, PySem.W.mg_none_of X G z_abs, PySem.W.mg_none_of X G z_range, PySem.W.mg_none_of X G z_list, PySem.W.mg_none_of X G z_repr, PySem.W.mg_none_of X G z_sum, PySem.W.mg_none_of X G z_any, PySem.W.mg_none_of X G z_zip, PySem.W.mg_none_of X G z_str, PySem.W.mg_none_of X G z_set, PySem.W.mg_none_of X G z_dict⟩
  have E_InvalidForest : Ex1 K mg "InvalidForest" C0 := ⟨x_0, PySem.W.mg_of X G g_0, k_0, b_0, t_0⟩
  have X_InvalidForest : ExcC K C0 := ⟨ga_0, gt_0, b_0, hd_0, hc_0, sn, st, hm_0⟩
  have M_InvalidForest : PySem.W.exmOne K (.ref C0) (.ref CB) = some true := PySem.W.exm_ref bB hB tB s_0
  have E_InvalidThing : Ex1 K mg "InvalidThing" C1 := ⟨x_1, PySem.W.mg_of X G g_1, k_1, b_1, t_1⟩
  have X_InvalidThing : ExcC K C1 := ⟨ga_1, gt_1, b_1, hd_1, hc_1, sn, st, hm_1⟩
  have M_InvalidThing : PySem.W.exmOne K (.ref C1) (.ref CB) = some true := PySem.W.exm_ref bB hB tB s_1
  have E_NoForest : Ex1 K mg "NoForest" C2 := ⟨x_2, PySem.W.mg_of X G g_2, k_2, b_2, t_2⟩
  have X_NoForest : ExcC K C2 := ⟨ga_2, gt_2, b_2, hd_2, hc_2, sn, st, hm_2⟩
  have M_NoForest : PySem.W.exmOne K (.ref C2) (.ref CB) = some true := PySem.W.exm_ref bB hB tB s_2
  have E_OnlyThing : Ex1 K mg "OnlyThing" C3 := ⟨x_3, PySem.W.mg_of X G g_3, k_3, b_3, t_3⟩
  have X_OnlyThing : ExcC K C3 := ⟨ga_3, gt_3, b_3, hd_3, hc_3, sn, st, hm_3⟩
  have M_OnlyThing : PySem.W.exmOne K (.ref C3) (.ref CB) = some true := PySem.W.exm_ref bB hB tB s_3
  have E_SameThing : Ex1 K mg "SameThing" C4 := ⟨x_4, PySem.W.mg_of X G g_4, k_4, b_4, t_4⟩
  have X_SameThing : ExcC K C4 := ⟨ga_4, gt_4, b_4, hd_4, hc_4, sn, st, hm_4⟩
  have M_SameThing : PySem.W.exmOne K (.ref C4) (.ref CB) = some true := PySem.W.exm_ref bB hB tB s_4
  refine ⟨PySem.W.fnOf "law" "law" (defArgs st_law) (defBody st_law) (defScope st_law) .none kV26 dc26 pm26 an26 cd26 ct26, fun s v => .of_eq rfl, fun base _ _ => ?_⟩
  have T5 : Gl5 K mg CB C0 C1 C2 C3 C4 := ⟨PySem.W.mg_of X G gB, E_InvalidForest.g, E_InvalidThing.g, E_NoForest.g, E_OnlyThing.g, E_SameThing.g, PySem.W.mg_none_of X G z_ValueError⟩
  have X0 : ExO K CB C0 C1 C2 C3 C4 C0 true false false false false := ⟨X_InvalidForest, M_InvalidForest, y_0_0, y_0_1, y_0_2, y_0_3, y_0_4, v_0⟩
  have X1 : ExO K CB C0 C1 C2 C3 C4 C1 false true false false false := ⟨X_InvalidThing, M_InvalidThing, y_1_0, y_1_1, y_1_2, y_1_3, y_1_4, v_1⟩
  have X2 : ExO K CB C0 C1 C2 C3 C4 C2 false false true false false := ⟨X_NoForest, M_NoForest, y_2_0, y_2_1, y_2_2, y_2_3, y_2_4, v_2⟩
  have X3 : ExO K CB C0 C1 C2 C3 C4 C3 false false false true false := ⟨X_OnlyThing, M_OnlyThing, y_3_0, y_3_1, y_3_2, y_3_3, y_3_4, v_3⟩
  have X4 : ExO K CB C0 C1 C2 C3 C4 C4 false false false false true := ⟨X_SameThing, M_SameThing, y_4_0, y_4_1, y_4_2, y_4_3, y_4_4, v_4⟩
  have Kis_integer := ok_is_integer (P := l.prog) (w := w) (base := base) D_is_integer B
  have Kis_between := ok_is_between D_is_between B Kis_integer
  have Kis_index := ok_is_index D_is_index B Kis_between
  have Kwo := ok__without_holder (P := l.prog) (w := w) (base := base) D__without_holder B
  have Khl := ok__held_lists (P := l.prog) (w := w) (base := base) D__held_lists B
  have Kwt := ok__walk_through (P := l.prog) (w := w) (base := base) D__walk_through B
  have Kis_forest := ok_is_forest D_is_forest B Kis_index Kwo Khl Kwt
  have Kcf := ok_check_forest D_check_forest B E_InvalidForest Kis_forest
  have Kct := ok_check_thing D_check_thing B E_InvalidThing Kis_index
  have Kabove := ok_above D_above B Kcf Kct
  have Kbelow := ok_below D_below B Kcf Kct Khl Kwt
  have Kamong := ok_forest_among (P := l.prog) (w := w) (base := base) D_forest_among B
  have Kbehind := ok__behind (P := l.prog) (w := w) (base := base) D__behind B
  have Kbeside := ok_beside D_beside B Kcf Kbehind
  have Kgrafted := ok_grafted D_grafted B Kcf Kct Kbehind
  have Kpart := ok_part D_part B Kamong Kbelow
  have Kwithout := ok_without D_without B E_OnlyThing Kcf Kct Kamong
  have Ktold_ahead := ok_told_ahead D_told_ahead B E_SameThing E_NoForest Kabove
  have Kdraw := ok__law_draw (P := l.prog) (w := w) (base := base) D__law_draw B
  have Kwell := ok__law_well (P := l.prog) (w := w) (base := base) D__law_well B
  have Kforest := ok__law_forest D__law_forest B Kdraw
  have Kbroken := ok__law_broken D__law_broken B Kdraw
  have Kodd := ok__law_odd D__law_odd B Kdraw
  have Kcalled := ok__law_called D__law_called B Kbeside Kgrafted Kpart Kwithout Ktold_ahead
  have Kcaught := ok__law_caught D__law_caught B T5 X0 X1 X2 X3 X4 Kcalled
  have Kright := ok__law_right D__law_right B Kdraw Kforest Kbroken Kodd Kcaught
  exact ok_law (fun_mk (st := st_law) l26 c26 k26) B Kwell Kright
theorem walkL {l : PySem.W.OpenLaw} {q : Program} {loose : List Str} {XP : (Str → Option Value) → Heap → Prop} {YP : World → Heap → Prop} {d : DefRec} {K : Params → PySem.W.Frag} (hn : l.most = some 63) (hdf : d.params.defaults = []) (hY : ∀ (w : World) (h : Heap), YP w h → (K w.params).In h)
    (F : ∀ (w : World) (mg : Str → Option Value) (fa : Addr) (h : Heap), (K w.params).In h → h.Ns mainGlobals mg → mg d.name = some (.ref fa) → ∃ fd : FuncData, (∀ (s : Shared) (u : Value), BindsTo s fd ⟨[u], []⟩ [("script", u)]) ∧ ∀ base : Heap, (K w.params).In base → base.Ns mainGlobals mg → Qui l.prog w (K w.params) mg base 11 fa fd ["script"] (spLaw (K w.params))) :
    PySem.W.WalkO q loose XP YP l.row.toRowW d [] (fun f vs => PySem.call f vs) :=
  L2.walk_ofQ (n := 63) (k := 11) (x := "script") (sp := fun w => spLaw (K w.params)) hn (by decide) hdf ⟨rfl, by decide, by decide⟩ hY F fun _ _ a ns hl _ hS => ⟨a, ns, rfl, hS, hl, fun _ => rfl⟩
end My
open PySem PySem.W PyProof.Rows
set_option maxRecDepth 100000 in
set_option maxHeartbeats 0 in
theorem PySem.Challenge.cw_heldbehind_k47_errors_of_changes_holds : PySem.Challenge.rw_heldbehind_k47_errors_of_changes.Holds := by
  w_on; o_law; k_head; (case hw => w_witness2)
  k_fill
  refine My.walkL (l := PySem.Challenge.rw_heldbehind_k47_errors_of_changes) rfl rfl (fun w h Y => PySem.W.kIn_of Y) ?F
  case F =>
    intro w mg fa h KX G hmg
    refine' My.all_mk KX G hmg ?a0 ?l0 ?c0 ?k0 ?a1 ?l1 ?c1 ?k1 ?a2 ?l2 ?c2 ?k2 ?a3 ?l3 ?c3 ?k3 ?a4 ?l4 ?c4 ?k4 ?a5 ?l5 ?c5 ?k5 ?a6 ?l6 ?c6 ?k6 ?a7 ?l7 ?c7 ?k7 ?a8 ?l8 ?c8 ?k8 ?a9 ?l9 ?c9 ?k9 ?a10 ?l10 ?c10 ?k10 ?a11 ?l11 ?c11 ?k11 ?a12 ?l12 ?c12 ?k12 ?a13 ?l13 ?c13 ?k13 ?a14 ?l14 ?c14 ?k14 ?a15 ?l15 ?c15 ?k15 ?a16 ?l16 ?c16 ?k16 ?a17 ?l17 ?c17 ?k17 ?a18 ?l18 ?c18 ?k18 ?a19 ?l19 ?c19 ?k19 ?a20 ?l20 ?c20 ?k20 ?a21 ?l21 ?c21 ?k21 ?a22 ?l22 ?c22 ?k22 ?a23 ?l23 ?c23 ?k23 ?a24 ?l24 ?c24 ?k24 ?a25 ?l25 ?c25 ?k25 ?a26 ?l26 ?c26 ?k26 ?z_isinstance ?z_int ?z_bool ?z_tuple ?z_len ?z_all ?z_enumerate ?z_reversed ?z_sorted ?z_max ?z_min ?z_abs ?z_range ?z_list ?z_repr ?z_sum ?z_any ?z_zip ?z_str ?z_set ?z_dict ?z_ValueError ?g_0 ?x_0 ?k_0 ?b_0 ?t_0 ?ga_0 ?gt_0 ?hd_0 ?hc_0 ?hm_0 ?v_0 ?y_0_0 ?y_0_1 ?y_0_2 ?y_0_3 ?y_0_4 ?s_0 ?g_1 ?x_1 ?k_1 ?b_1 ?t_1 ?ga_1 ?gt_1 ?hd_1 ?hc_1 ?hm_1 ?v_1 ?y_1_0 ?y_1_1 ?y_1_2 ?y_1_3 ?y_1_4 ?s_1 ?g_2 ?x_2 ?k_2 ?b_2 ?t_2 ?ga_2 ?gt_2 ?hd_2 ?hc_2 ?hm_2 ?v_2 ?y_2_0 ?y_2_1 ?y_2_2 ?y_2_3 ?y_2_4 ?s_2 ?g_3 ?x_3 ?k_3 ?b_3 ?t_3 ?ga_3 ?gt_3 ?hd_3 ?hc_3 ?hm_3 ?v_3 ?y_3_0 ?y_3_1 ?y_3_2 ?y_3_3 ?y_3_4 ?s_3 ?g_4 ?x_4 ?k_4 ?b_4 ?t_4 ?ga_4 ?gt_4 ?hd_4 ?hc_4 ?hm_4 ?v_4 ?y_4_0 ?y_4_1 ?y_4_2 ?y_4_3 ?y_4_4 ?s_4 ?sn ?st ?gB ?bB ?hB ?tB
    (case a0 => first | k_is | rfl)
    (case a1 => first | k_is | rfl)
    (case a2 => first | k_is | rfl)
    (case a3 => first | k_is | rfl)
    (case a4 => first | k_is | rfl)
    (case a5 => first | k_is | rfl)
    (case a6 => first | k_is | rfl)
    (case a7 => first | k_is | rfl)
    (case a8 => first | k_is | rfl)
    (case a9 => first | k_is | rfl)
    (case a10 => first | k_is | rfl)
    (case a11 => first | k_is | rfl)
    (case a12 => first | k_is | rfl)
    (case a13 => first | k_is | rfl)
    (case a14 => first | k_is | rfl)
    (case a15 => first | k_is | rfl)
    (case a16 => first | k_is | rfl)
    (case a17 => first | k_is | rfl)
    (case a18 => first | k_is | rfl)
    (case a19 => first | k_is | rfl)
    (case a20 => first | k_is | rfl)
    (case a21 => first | k_is | rfl)
    (case a22 => first | k_is | rfl)
    (case a23 => first | k_is | rfl)
    (case a24 => first | k_is | rfl)
    (case a25 => first | k_is | rfl)
    (case a26 => first | k_is | rfl)
    (case g_0 => first | k_is | rfl)
    (case g_1 => first | k_is | rfl)
    (case g_2 => first | k_is | rfl)
    (case g_3 => first | k_is | rfl)
    (case g_4 => first | k_is | rfl)
    (case gB => first | k_is | rfl)
    (case l0 => first | k_is | rfl)
    (case c0 => first | k_is | rfl)
    (case k0 => first | k_is | rfl)
    (case l1 => first | k_is | rfl)
    (case c1 => first | k_is | rfl)
    (case k1 => first | k_is | rfl)
    (case l2 => first | k_is | rfl)
    (case c2 => first | k_is | rfl)
    (case k2 => first | k_is | rfl)
    (case l3 => first | k_is | rfl)
    (case c3 => first | k_is | rfl)
    (case k3 => first | k_is | rfl)
    (case l4 => first | k_is | rfl)
    (case c4 => first | k_is | rfl)
    (case k4 => first | k_is | rfl)
    (case l5 => first | k_is | rfl)
    (case c5 => first | k_is | rfl)
    (case k5 => first | k_is | rfl)
    (case l6 => first | k_is | rfl)
    (case c6 => first | k_is | rfl)
    (case k6 => first | k_is | rfl)
    (case l7 => first | k_is | rfl)
    (case c7 => first | k_is | rfl)
    (case k7 => first | k_is | rfl)
    (case l8 => first | k_is | rfl)
    (case c8 => first | k_is | rfl)
    (case k8 => first | k_is | rfl)
    (case l9 => first | k_is | rfl)
    (case c9 => first | k_is | rfl)
    (case k9 => first | k_is | rfl)
    (case l10 => first | k_is | rfl)
    (case c10 => first | k_is | rfl)
    (case k10 => first | k_is | rfl)
    (case l11 => first | k_is | rfl)
    (case c11 => first | k_is | rfl)
    (case k11 => first | k_is | rfl)
    (case l12 => first | k_is | rfl)
    (case c12 => first | k_is | rfl)
    (case k12 => first | k_is | rfl)
    (case l13 => first | k_is | rfl)
    (case c13 => first | k_is | rfl)
    (case k13 => first | k_is | rfl)
    (case l14 => first | k_is | rfl)
    (case c14 => first | k_is | rfl)
    (case k14 => first | k_is | rfl)
    (case l15 => first | k_is | rfl)
    (case c15 => first | k_is | rfl)
    (case k15 => first | k_is | rfl)
    (case l16 => first | k_is | rfl)
    (case c16 => first | k_is | rfl)
    (case k16 => first | k_is | rfl)
    (case l17 => first | k_is | rfl)
    (case c17 => first | k_is | rfl)
    (case k17 => first | k_is | rfl)
    (case l18 => first | k_is | rfl)
    (case c18 => first | k_is | rfl)
    (case k18 => first | k_is | rfl)
    (case l19 => first | k_is | rfl)
    (case c19 => first | k_is | rfl)
    (case k19 => first | k_is | rfl)
    (case l20 => first | k_is | rfl)
    (case c20 => first | k_is | rfl)
    (case k20 => first | k_is | rfl)
    (case l21 => first | k_is | rfl)
    (case c21 => first | k_is | rfl)
    (case k21 => first | k_is | rfl)
    (case l22 => first | k_is | rfl)
    (case c22 => first | k_is | rfl)
    (case k22 => first | k_is | rfl)
    (case l23 => first | k_is | rfl)
    (case c23 => first | k_is | rfl)
    (case k23 => first | k_is | rfl)
    (case l24 => first | k_is | rfl)
    (case c24 => first | k_is | rfl)
    (case k24 => first | k_is | rfl)
    (case l25 => first | k_is | rfl)
    (case c25 => first | k_is | rfl)
    (case k25 => first | k_is | rfl)
    (case l26 => first | k_is | rfl)
    (case c26 => first | k_is | rfl)
    (case k26 => first | k_is | rfl)
    (case z_isinstance => first | k_is | rfl)
    (case z_int => first | k_is | rfl)
    (case z_bool => first | k_is | rfl)
    (case z_tuple => first | k_is | rfl)
    (case z_len => first | k_is | rfl)
    (case z_all => first | k_is | rfl)
    (case z_enumerate => first | k_is | rfl)
    (case z_reversed => first | k_is | rfl)
    (case z_sorted => first | k_is | rfl)
    (case z_max => first | k_is | rfl)
    (case z_min => first | k_is | rfl)
    (case z_abs => first | k_is | rfl)
    (case z_range => first | k_is | rfl)
    (case z_list => first | k_is | rfl)
    (case z_repr => first | k_is | rfl)
    (case z_sum => first | k_is | rfl)
    (case z_any => first | k_is | rfl)
    (case z_zip => first | k_is | rfl)
    (case z_str => first | k_is | rfl)
    (case z_set => first | k_is | rfl)
    (case z_dict => first | k_is | rfl)
    (case z_ValueError => first | k_is | rfl)
    (case x_0 => first | k_exc | rfl)
    (case k_0 => first | k_is | rfl)
    (case b_0 => first | k_is | rfl)
    (case t_0 => first | k_is | rfl)
    (case ga_0 => first | k_is | rfl)
    (case gt_0 => first | k_is | rfl)
    (case hd_0 => first | k_is | rfl)
    (case hc_0 => first | k_is | rfl)
    (case hm_0 => first | k_is | rfl)
    (case v_0 => first | k_is | rfl)
    (case y_0_0 => first | k_is | rfl)
    (case y_0_1 => first | k_is | rfl)
    (case y_0_2 => first | k_is | rfl)
    (case y_0_3 => first | k_is | rfl)
    (case y_0_4 => first | k_is | rfl)
    (case s_0 => first | k_is | rfl)
    (case x_1 => first | k_exc | rfl)
    (case k_1 => first | k_is | rfl)
    (case b_1 => first | k_is | rfl)
    (case t_1 => first | k_is | rfl)
    (case ga_1 => first | k_is | rfl)
    (case gt_1 => first | k_is | rfl)
    (case hd_1 => first | k_is | rfl)
    (case hc_1 => first | k_is | rfl)
    (case hm_1 => first | k_is | rfl)
    (case v_1 => first | k_is | rfl)
    (case y_1_0 => first | k_is | rfl)
    (case y_1_1 => first | k_is | rfl)
    (case y_1_2 => first | k_is | rfl)
    (case y_1_3 => first | k_is | rfl)
    (case y_1_4 => first | k_is | rfl)
    (case s_1 => first | k_is | rfl)
    (case x_2 => first | k_exc | rfl)
    (case k_2 => first | k_is | rfl)
    (case b_2 => first | k_is | rfl)
    (case t_2 => first | k_is | rfl)
    (case ga_2 => first | k_is | rfl)
    (case gt_2 => first | k_is | rfl)
    (case hd_2 => first | k_is | rfl)
    (case hc_2 => first | k_is | rfl)
    (case hm_2 => first | k_is | rfl)
    (case v_2 => first | k_is | rfl)
    (case y_2_0 => first | k_is | rfl)
    (case y_2_1 => first | k_is | rfl)
    (case y_2_2 => first | k_is | rfl)
    (case y_2_3 => first | k_is | rfl)
    (case y_2_4 => first | k_is | rfl)
    (case s_2 => first | k_is | rfl)
    (case x_3 => first | k_exc | rfl)
    (case k_3 => first | k_is | rfl)
    (case b_3 => first | k_is | rfl)
    (case t_3 => first | k_is | rfl)
    (case ga_3 => first | k_is | rfl)
    (case gt_3 => first | k_is | rfl)
    (case hd_3 => first | k_is | rfl)
    (case hc_3 => first | k_is | rfl)
    (case hm_3 => first | k_is | rfl)
    (case v_3 => first | k_is | rfl)
    (case y_3_0 => first | k_is | rfl)
    (case y_3_1 => first | k_is | rfl)
    (case y_3_2 => first | k_is | rfl)
    (case y_3_3 => first | k_is | rfl)
    (case y_3_4 => first | k_is | rfl)
    (case s_3 => first | k_is | rfl)
    (case x_4 => first | k_exc | rfl)
    (case k_4 => first | k_is | rfl)
    (case b_4 => first | k_is | rfl)
    (case t_4 => first | k_is | rfl)
    (case ga_4 => first | k_is | rfl)
    (case gt_4 => first | k_is | rfl)
    (case hd_4 => first | k_is | rfl)
    (case hc_4 => first | k_is | rfl)
    (case hm_4 => first | k_is | rfl)
    (case v_4 => first | k_is | rfl)
    (case y_4_0 => first | k_is | rfl)
    (case y_4_1 => first | k_is | rfl)
    (case y_4_2 => first | k_is | rfl)
    (case y_4_3 => first | k_is | rfl)
    (case y_4_4 => first | k_is | rfl)
    (case s_4 => first | k_is | rfl)
    (case sn => first | k_is | rfl)
    (case st => first | k_is | rfl)
    (case bB => first | k_is | rfl)
    (case hB => first | k_is | rfl)
    (case tB => first | k_is | rfl)
