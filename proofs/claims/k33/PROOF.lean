import PyProof.Rows.All
import Wide.All
import OpenK.AllK
import Wide.FinOn
import KE.GoesMore
import KE.GoesEnum
import HandS.Base
import HandS.Call
import HandS.List
import HandS.Comp
import HandS.Dict
import HandS.Iter
import HandS.Walk
import HandS.Exc
import HandS.ExcOwn
import Flt.Len
import HandS.ForMost
import HandS.ForExc
import HandS.Wide
import HandS.IsInst
import HandS.ExcIs
import HandS.Conv
import HandS.TupAny
import HandS.SetFor
import HandS.Style
import HandS.CallSlots
import HandS.Codes
import PyProof.ReprBulk
import PyProof.ReprRoads
import HandS.Gcd
import HandS.Zip
import HandS.TupMul
import KE.KMathGC
import HandS.SortInts
import HandS.DictComp
import KE.KDictCopyH
import PySem.Challenge.RW_heldbehind_k33_forests_put_together_and
set_option Elab.async false
set_option linter.all false
set_option maxRecDepth 100000
set_option maxHeartbeats 4000000
/-! Z0: rules of my own beside the hand layer: enumerate over a tuple, powers of great ints, an own error without arguments, list.count of flat items. -/
namespace L2
open PySem PySem.Spec PyProof.Rows
/-! ### enumerate(tuple) -/
theorem zen_new (t : Addr) (items : Array Value) :
    Meets (Builtin.«enumerate.__new__» ⟨[.type "enumerate", .ref t], []⟩) (fun _ R s => s.heap.IsTuple t items ∧
      R (.ok (.ret (.ref (s.heap.push { cls := .type "tuple_iterator", data := .fields #[.ref t, .int 0 0] }).objs.size)))
        { s with heap := (s.heap.push { cls := .type "tuple_iterator", data := .fields #[.ref t, .int 0 0] }).push { cls := .type "enumerate", data := .fields #[.none, .bool false, .ref s.heap.objs.size, rawInt 0, .none, .none] } }) :=
  .of_wp fun prog w A R s hs => by
    obtain ⟨hp, g, d, tk, os⟩ := s; obtain ⟨ht, hs⟩ := hs
    have hsb := sub_enumerate
    have q1 : ∀ {A' : Around} {E : Value → Shared → Prop} {Q : Value → Shared → Prop}, Q (.ref hp.objs.size) ⟨hp.push { cls := .type "tuple_iterator", data := .fields #[.ref t, .int 0 0] }, g, d, tk, os⟩ → wpAny (model prog w) A' (pyIter (.ref t)) Q E ⟨hp, g, d, tk, os⟩ :=
      fun q => wpAny_pyIter_tuple (s := ⟨hp, g, d, tk, os⟩) ht q
    wp_walk using q1
    refine wpAny_stack_any fun st => wpAny_pure ?_
    split
    · rename_i c _ _ _ _ _
      cases hce : (c == Value.type "enumerate")
      · wp_walk using q1
        exact ⟨_, rfl, hs⟩
      · wp_walk using q1
        exact ⟨_, rfl, hs⟩
    · wp_walk using q1
      exact ⟨_, rfl, hs⟩
section
variable {prog : Program} {w : World} {A : Around} {E : Value → Shared → Prop} {s : Shared}
theorem zen_call {t : Addr} {items : Array Value} {Q : Value → Shared → Prop} (ht : s.heap.IsTuple t items)
    (h : ∀ h', IsEnum h' (s.heap.objs.size + 1) s.heap.objs.size 0 .none → h'.IsTupleIter s.heap.objs.size t 0 →
      (∀ b o, s.heap.get? b = some o → h'.get? b = some o) → Q (.ref (s.heap.objs.size + 1)) { s with heap := h' }) :
    wpAny (model prog w) A (call (.type "enumerate") [.ref t]) Q E s := by
  refine callType_new F.called_enumerate (by decide) (F.typeCall_enumerate_1 _) (F.newCall_enumerate_1 _) (fun obj => F.args_object_init_2 obj _) F.entry_enumerate_new (zen_new t items) ⟨ht, ?_⟩
  have hz : (s.heap.push { cls := .type "tuple_iterator", data := .fields #[.ref t, .int 0 0] }).objs.size = s.heap.objs.size + 1 := Heap.size_push ..
  show _ ∧ _
  rw [hz]
  have he := Heap.get?_push_size (s.heap.push { cls := .type "tuple_iterator", data := .fields #[.ref t, .int 0 0] }) (o := { cls := .type "enumerate", data := .fields #[.none, .bool false, .ref s.heap.objs.size, rawInt 0, .none, .none] }) rfl
  rw [hz] at he
  refine ⟨⟨_, he, rfl⟩, h _ he ⟨_, Heap.get?_push_of_some _ (Heap.get?_push_size _ rfl), rfl, rfl⟩ fun b o e => Heap.get?_push_of_some _ (Heap.get?_push_of_some _ e)⟩
end
/-- the tuple at a as it stands at each turn, each item in a new pair -/
def IteT (K : PySem.W.Frag) (a : Addr) : It :=
  ⟨fun i H => ∃ (xs : List V) (x : V), SqT K H a xs ∧ xs[i]? = some x, fun i H v H' => ∃ T x, v = .ref T ∧ H T = none ∧ H' = upd H T (.tup [.int (i : Nat), x]) ∧ ∀ ys, SqT K H a ys → ys[i]? = some x, fun i H => ∃ xs : List V, SqT K H a xs ∧ xs.length = i⟩
theorem zen_turn {P : Program} {w : World} {K : PySem.W.Frag} {elts : List Expr} {kk : Nat} {tpos : Pos} (a e it : Addr) :
    Turn P w K (.Tuple elts kk tpos) (IteT K a) [e, it] e (fun i h => (∃ old, IsEnum h e it ((i : Nat) : Int) old) ∧ h.IsTupleIter it a i ∧ e ≠ it) where
  mem := by simp
  obj := fun i h st b hb => by
    obtain ⟨⟨old, he⟩, ⟨o, ho, hc, hd⟩, _⟩ := st
    have e' : b = e ∨ b = it := by simpa using hb
    rcases e' with z | z
    · exact ⟨_, by rw [z]; exact he, fun v q => by cases q⟩
    · exact ⟨o, by rw [z]; exact ho, fun v q => by rw [hd] at q; cases q⟩
  keep := fun i h h' st k => let ⟨⟨old, he⟩, hi, hne⟩ := st; ⟨⟨old, k e (by simp) _ he⟩, hi.at fun o q => k it (by simp) o q, hne⟩
  item := by
    intro X hP hw hK hc i pins s σ H E I hf st hg
    subst hP hw hK
    obtain ⟨⟨old, he⟩, hit, hne⟩ := st
    obtain ⟨xs, x, hq, hx⟩ := hg
    obtain ⟨its, rv, p, hz⟩ := I.tuple hq
    obtain ⟨u, hu, ru⟩ := rv.get hx
    have hel : e < s.heap.objs.size := Heap.lt_size he
    have hil : it < s.heap.objs.size := by obtain ⟨_, q, _⟩ := hit; exact Heap.lt_size q
    have hai : a ≠ it := by
      intro z
      obtain ⟨o1, q1, c1, _⟩ := p
      obtain ⟨o2, q2, c2, _⟩ := hit
      rw [z, q2] at q1
      cases q1
      rw [c2] at c1
      exact absurd c1 (by decide)
    have hae : a ≠ e := by
      intro z
      obtain ⟨o1, q1, c1, _⟩ := p
      rw [z] at q1
      have q3 := he.symm.trans q1
      cases q3
      have c2 : ("enumerate" : String) = "tuple" := Value.type.inj c1
      exact absurd c2 (by decide)
    have hlt : i < its.toArray.size := by
      have := (List.getElem?_eq_some_iff.mp hu).1
      simpa using this
    have D := Draws.tuple (prog := X.prog) (w := X.w) (A := X.A.in1) (I.ok.hd hc) it a hai its.toArray
    refine wpAny_pyNext_enum_itemD D he ⟨hit, p⟩ hlt hne (by simp [hne, Ne.symm hae]) fun y h' tk hy ho hst hT hsz hk => ?_
    have ey : y = u := by
      have q4 : its[i]? = some y := by simpa using hy
      rw [hu] at q4
      exact (Option.some.inj q4).symm
    subst ey
    refine ⟨_, rfl, wpAny_letOwnedTupleGo_enum (s := { s with heap := h', toks := tk + 1 }) ho fun h'' he' sb => ?_⟩
    have hT2 : h''.get? s.heap.objs.size = some { cls := .type "tuple", data := .seq #[.int i tk, y] } := (sb.2 _ (Nat.ne_of_gt hel)).trans hT
    have new : ObjOk X.prog X.w (upd H s.heap.objs.size (.tup [.int (i : Nat), x])) h'' s.heap.objs.size (.tup [.int (i : Nat), x]) :=
      ⟨by show 2 ≤ sizeLine; decide, [.int i tk, y], .cons ⟨_, rfl⟩ (.cons ru .nil), ⟨_, hT2, rfl, _, rfl⟩⟩
    have I1 : Inv X pins σ (upd H s.heap.objs.size (.tup [.int (i : Nat), x])) { s with heap := h'', toks := tk + 1 } :=
      I.turnedNew (ch := [e, it]) (fun b ob hb q => (sb.2 b (fun z => hb (by simp [z]))).trans (hk b ob (fun z => hb (by simp [z])) (fun z => hb (by simp [z])) q)) hf (Nat.le_refl _) new
    refine ⟨.ref s.heap.objs.size, _, I1, rfl, ⟨_, x, rfl, I.hok.fresh (Nat.le_refl _), rfl, fun ys hy => by rw [I.tuple_inj hy hq]; exact hx⟩, ⟨⟨y, ?_⟩, hst.1.at fun o q => (sb.2 it (Ne.symm hne)).trans q, hne⟩, fun b hb => ?_⟩
    · have e1 : ((i + 1 : Nat) : Int) = (i : Int) + 1 := by omega
      rw [e1]; exact he'
    · have hb' : b < s.heap.objs.size := by
        rcases (by simpa using hb : b = e ∨ b = it) with z | z
        · rw [z]; exact hel
        · rw [z]; exact hil
      rw [upd_ne (Nat.ne_of_lt hb')]; exact (hf b hb).1
  done := by
    intro X hP hw hK hc i pins s σ H E I hf st hg
    subst hP hw hK
    obtain ⟨⟨old, he⟩, hit, hne⟩ := st
    obtain ⟨xs, hq, hx⟩ := hg
    obtain ⟨its, rv, p, hz⟩ := I.tuple hq
    obtain ⟨f0, f1, f2, f3, f4, f5⟩ := hf it (by simp)
    have hl := rv.length
    have hai : a ≠ it := by
      intro z
      obtain ⟨o1, q1, c1, _⟩ := p
      obtain ⟨o2, q2, c2, _⟩ := hit
      rw [z, q2] at q1; cases q1
      rw [c2] at c1
      exact absurd c1 (by decide)
    have hn : its.toArray.size = i := by simp only [List.size_toArray]; omega
    have D := Draws.tuple (prog := X.prog) (w := X.w) (A := X.A.in1) (I.ok.hd hc) it a hai its.toArray
    rw [hn] at D
    exact wpAny_pyNext_enum_endD D he ⟨hit, p⟩ fun h' eb => ⟨rfl, I.turned (t' := s.toks) (fun b o hb q => eb b o hb q) f0 f1 f3 f4 f5⟩
  self := fun A i s Q E st h => let ⟨⟨_, he⟩, _⟩ := st; wpAny_pyIter_enum he h
def iEnumT (K : PySem.W.Frag) (ta : TA) : TI := fun σ H R => ta σ H fun vs H1 => ∃ a xs, vs = [.ref a] ∧ SqT K H1 a xs ∧ R (IteT K a) H1
theorem pi_enumT {X : Cx} {e : Expr} {ta : TA} {p pos tpos : Pos} {elts : List Expr} {kk : Nat} (hg : Gl X "enumerate") (hm : X.mg "enumerate" = none) (ha : PA X [e] ta) (hs : starEach [e] X.env = [(false, eval e X.env)] := by rfl) :
    PI X (.Tuple elts kk tpos) (.Call (.Name "enumerate" p) [e] [] pos) (iEnumT X.K ta) := by
  refine ⟨fun pins s σ H R I h => Call_ (ld_blt I hg hm boot_enumerate (PyProof.Rows.callWith_type1 (thn (ha.run pos pins s σ H _ I h) fun us s1 ⟨vs, H1, I1, r1, q1⟩ => ?_) hs rfl))⟩
  obtain ⟨a, xs, ex, hq, q⟩ := q1
  subst ex
  cases r1 with
  | cons r rr =>
    cases rr; cases r
    obtain ⟨its, rv, p', hz⟩ := I1.tuple hq
    refine zen_call p' fun h' he hit hk => wpAny_pyIter_enum he ?_
    have I2 : Inv X pins σ H1 { s1 with heap := h' } := I1.kept (t' := s1.toks) hk
    refine ⟨s1.heap.objs.size + 1, [s1.heap.objs.size + 1, s1.heap.objs.size], _, _, H1, rfl, I2, zen_turn a (s1.heap.objs.size + 1) s1.heap.objs.size, ⟨⟨.none, he⟩, hit, Nat.succ_ne_self _⟩, fun b hb => ?_, q⟩
    have hle : s1.heap.objs.size ≤ b := by
      rcases (by simpa using hb : b = s1.heap.objs.size + 1 ∨ b = s1.heap.objs.size) with z | z
      · rw [z]; exact Nat.le_add_right _ _
      · rw [z]; exact Nat.le_refl _
    exact I1.fpOk hle (I1.hok.fresh hle)
theorem walk_enumT {K : PySem.W.Frag} {a : Addr} {xs : List V} : Walk (IteT K a) xs.length (fun H => SqT K H a xs) (YPair (fun i => some (.int (i : Nat))) (fun i => xs[i]?)) := by
  refine ⟨fun i _ hi q => ⟨xs, xs[i], q, by simp [hi]⟩, fun _ q => ⟨xs, q, rfl⟩, fun i H v H' _ q ⟨T, x, h1, h2, h3, h4⟩ => ⟨T, .int (i : Nat), x, h1, h2, h3, rfl, h4 xs q⟩⟩
/-! ### powers -/
def CPowW (i j : Int) : Prop := 0 ≤ j ∧ (Builtin.Int.intBits i : Int) * j ≤ 2 ^ 27
theorem op_powW {X : Cx} : OpR X (binaryOp .Pow) (rI CPowW fun i j => .int (i ^ j.toNat)) := opI fun _ _ _ _ _ _ _ hc q => pow_int hc.1 hc.2 q
theorem cpow3 {i : Int} {b : Nat} (h : i.natAbs < 2 ^ b) (hb : 0 < b) (h9 : b ≤ 9000) : CPowW i 3 := by
  refine ⟨by decide, ?_⟩
  have z : Builtin.Int.intBits i ≤ b := by
    unfold Builtin.Int.intBits
    have y := PySem.Flt.log2_lt_of hb h
    split <;> omega
  have e : (2 : Int) ^ 27 = 134217728 := by decide
  rw [e]; omega
/-! ### an own error without arguments -/
theorem pmk_own0 {X : Cx} {C : Addr} {bmB : List Value} {B newId initId : String} {x : Str} {p pos : Pos} (F : ExcBaseFacts B newId initId bmB) (q : PySem.W.excIn X.K C bmB newId = true) (gC : X.mg x = some (.ref C)) (kC : PySem.W.keepIn X.K (.ref C) = true) (r : Raises X (.ref C)) (hg : Gl X x)
    (hdb : (x == ("__debug__" : Str)) = false := by decide) : PMk X (.Call (.Name x p) [] [] pos) (fun _ H Q => Q (.ref C) none H) := by
  intro pins s σ H Q I h
  refine wpAny_Call_Name_kw (ld_glob I hg gC ?_ hdb)
  refine PySem.W.callWith_K0 I.kIn kC ?_
  obtain ⟨bm, N, nm, qn, bs, hdct, sn, sub, ab, col, dd, k0, k1, k2, k3, k5, mN, hC, hN, hni, T⟩ := exc_obj I.kIn q
  exact wpAny_call_exc_subT F T hC hN hni (fun h' e hm => mk_of I hm r h (I.hok.gone hm.new)) (Nat.zero_le _)
/-! ### list.count of flat items -/
def cntV (y : V) (xs : List V) : Nat := xs.countP fun z => eqV z y
theorem count_eqU {x : V} : ∀ {xs : List V} {us : List Value}, Vals xs us → xs.all flatV = true → us.countP (eqU x) = cntV x xs
  | _, _, .nil, _ => rfl
  | y :: xs, u :: us, .cons r t, f => by
    rw [List.all_cons, Bool.and_eq_true] at f
    unfold cntV
    rw [List.countP_cons, List.countP_cons, eqU_of r f.1, count_eqU t f.2]; rfl
def rCntV (K : PySem.W.Frag) : V → List V → Hp → VK → Prop := fun x xs H Q => ∃ (a : Addr) (ys : List V) (y : V), x = .ref a ∧ xs = [y] ∧ SqL K H a ys ∧ flatV y = true ∧ ys.all flatV = true ∧ Q (.int (cntV y ys : Nat)) H
theorem mt_lcountV {X : Cx} : MtR X "list.count" (rCntV X.K) := by
  intro pins s σ H x xs v us Q I rx rxs h
  obtain ⟨a, ys, y, rfl, rfl, hs, fy, fys, q⟩ := h
  cases rx
  obtain ⟨u, rfl, ru⟩ := rxs.one
  obtain ⟨its, rv, ⟨⟨cls, dd, data, sl⟩, n, ho, hc, hdn, hd⟩, hlen⟩ := I.list hs
  simp only at hc hd
  subst hc hd
  refine call_meets PySem.F.slot_list_count ⟨_, ho, rfl⟩ PySem.F.entry_list_count (PySem.F.args_list_count_2 _ _) (SeqAt.list_countAt a its.toArray n dd sl u (eqU y)) ⟨ho, fun z hz => mem_eqAt ru fy rv fys z (by simpa using hz), ?_⟩
  exact ⟨.int (cntV y ys : Nat), H, I.tok _, ⟨s.toks, by rw [← count_eqU rv fys]⟩, q⟩
end L2

namespace L2
open PySem PySem.Spec PyProof.Rows
/-! ### a def of the text with its name, and one that keeps its promise -/
structure Df (K : PySem.W.Frag) (mg : Str → Option Value) (x : Str) (st : Stmt) (ps : List Str) : Prop where
  ex : ∃ (f : Addr) (fd : FuncData), Fun K x x st f fd ∧ mg x = some (.ref f) ∧ Binds K fd ps [] ∧
    ∃ (kV doc pm : Value) (an : Option Addr) (cdv ct : Value), fd = PySem.W.fnOf x x (defArgs st) (defBody st) (defScope st) .none kV doc pm an cdv ct
structure Kn (P : Program) (w : World) (K : PySem.W.Frag) (mg : Str → Option Value) (base : Heap) (CX : CXT) (k : Nat) (x : Str) (st : Stmt) (ps : List Str) (sp : Sp) : Prop where
  ex : ∃ (f : Addr) (fd : FuncData), FnOk P w K mg base CX k f fd ps sp ∧ mg x = some (.ref f) ∧ PySem.W.keepIn K (.ref f) = true ∧ Binds K fd ps [] ∧
    ∃ (kV doc pm : Value) (an : Option Addr) (cdv ct : Value), fd = PySem.W.fnOf x x (defArgs st) (defBody st) (defScope st) .none kV doc pm an cdv ct
section
variable {P : Program} {w : World} {K : PySem.W.Frag} {mg : Str → Option Value} {base : Heap} {x : Str} {st : Stmt} {ps N : List Str} {k : Nat} {sp : Sp}
theorem Df.mk' {f : Addr} {oc : Value} {od an : Option Addr} {osl : Array (Option Value)} {kV doc pm cdv ct : Value} (l : K.lookup f = some ⟨oc, od, .func (PySem.W.fnOf x x (defArgs st) (defBody st) (defScope st) .none kV doc pm an cdv ct), osl⟩)
    (c : PySem.W.codeIn K cdv x = true) (kp : PySem.W.keepIn K (.ref f) = true) (g : mg x = some (.ref f))
    (h : ∀ (kV doc pm : Value) (an : Option Addr) (cdv ct : Value) (us : List Value), us.length = ps.length → bindArgs (PySem.W.fnOf x x (defArgs st) (defBody st) (defScope st) .none kV doc pm an cdv ct) ⟨us, []⟩ = pure (ps.zip us)) : Df K mg x st ps :=
  ⟨f, _, fun_mk l c kp, g, (fun_mk l c kp).binds h, _, _, _, _, _, _, rfl⟩
theorem Df.ok (D : Df K mg x st ps) (S : FnScope N ps (defScope st)) (len : ∀ vs H Q E, sp vs H Q E → vs.length = ps.length)
    (hb : ∀ (f : Addr) (cdv : Value) (A : Around) (outer : List Env) (s : Shared) (H : Hp) (vs : List V) (Q : VK) (E : XK), Room k (A.deeper (envOfC x (defScope st) s.heap.objs.size f cdv)) → sp vs H Q E →
      ∃ t, PSs (cxOf CX0 P w K mg base N x (defScope st) f cdv A outer s H E).nox (defBody st) t ∧ t { nx := fun _ H' => Q .non H', rt := Q } (start N vs) H) : Kn P w K mg base CX0 (k + 1) x st ps sp := by
  obtain ⟨f, fd, F, g, b, e⟩ := D.ex
  exact ⟨f, fd, F.ok S len fun cdv A outer s H vs Q E hr h => hb f cdv A outer s H vs Q E hr h, g, F.kp, b, e⟩
theorem Df.okX (D : Df K mg x st ps) (S : FnScope N ps (defScope st)) (len : ∀ vs H Q E, sp vs H Q E → vs.length = ps.length)
    (hb : ∀ (f : Addr) (cdv : Value) (A : Around) (outer : List Env) (s : Shared) (H : Hp) (vs : List V) (Q : VK) (E : XK), Room k (A.deeper (envOfC x (defScope st) s.heap.objs.size f cdv)) → sp vs H Q E →
      ∃ t, PSs (cxOf (L2.CX P w) P w K mg base N x (defScope st) f cdv A outer s H E) (defBody st) t ∧ t { nx := fun _ H' => Q .non H', rt := Q } (start N vs) H) : Kn P w K mg base (L2.CX P w) (k + 1) x st ps sp := by
  obtain ⟨f, fd, F, g, b, e⟩ := D.ex
  exact ⟨f, fd, F.okX S len fun cdv A outer s H vs Q E hr h => hb f cdv A outer s H vs Q E hr h, g, F.kp, b, e⟩
end
section
variable {X : Cx} {CX : CXT} {k : Nat} {x : Str} {st : Stmt} {ps ks : List Str} {sp : Sp} {E : XK} {p pos : Pos} {e : Expr} {es : List Expr} {kws : List Keyword} {t tk : TA}
theorem pe_callF (h : Kn X.prog X.w X.K X.mg X.base CX k x st ps sp) (hr : Room k X.A) (hx : Passes CX X E) (ha : PA X (e :: es) t) (hg : Gl X x := by rfl)
    (hdb : (x == ("__debug__" : Str)) = false := by decide) (he : starEach (e :: es) X.env = (false, eval e X.env) :: starEach es X.env := by rfl) (hpl : (backTo pos (starEach es X.env)).any (·.1) = false := by rfl) :
    PE X (.Call (.Name x p) (e :: es) [] pos) (tCall sp [] E t) := by
  obtain ⟨f, fd, F, g, kp, b, _⟩ := h.ex
  exact pe_call F hr hg g kp b .nil hx ha hdb he hpl
theorem pe_callF0 (h : Kn X.prog X.w X.K X.mg X.base CX k x st ps sp) (hr : Room k X.A) (hx : Passes CX X E) (hg : Gl X x := by rfl) (hdb : (x == ("__debug__" : Str)) = false := by decide) : PE X (.Call (.Name x p) [] [] pos) (tCall sp [] E tNil) := by
  obtain ⟨f, fd, F, g, kp, b, _⟩ := h.ex
  exact pe_call0 F hr hg g kp b .nil hx hdb
theorem pe_callFS {E : St → XK} (h : Kn X.prog X.w X.K X.mg X.base CX k x st ps sp) (hr : Room k X.A) (hx : ∀ σ, PassesAt CX X σ (E σ)) (ha : PA X (e :: es) t) (hg : Gl X x := by rfl)
    (hdb : (x == ("__debug__" : Str)) = false := by decide) (he : starEach (e :: es) X.env = (false, eval e X.env) :: starEach es X.env := by rfl) (hpl : (backTo pos (starEach es X.env)).any (·.1) = false := by rfl) :
    PE X (.Call (.Name x p) (e :: es) [] pos) (tCallS sp E t) := by
  obtain ⟨f, fd, F, g, kp, b, _⟩ := h.ex
  exact pe_callS F hr hg g kp b hx ha hdb he hpl
/-- how keywords bind, whatever the def's loose parts are -/
def KwB (x : Str) (st : Stmt) (ps ks : List Str) (g : List Value → List Value → List Value) (gV : List V → List V → List V) : Prop :=
  (∀ (kV doc pm : Value) (an : Option Addr) (cdv ct : Value) (us ws : List Value), (g us ws).length = ps.length →
    bindArgs (PySem.W.fnOf x x (defArgs st) (defBody st) (defScope st) .none kV doc pm an cdv ct) ⟨us, ks.zip ws⟩ = pure (ps.zip (g us ws))) ∧
  ∀ {vs : List V} {us : List Value} {zs : List V} {ws : List Value}, Vals vs us → Vals zs ws → Vals (gV vs zs) (g us ws)
variable {g : List Value → List Value → List Value} {gV : List V → List V → List V}
theorem pe_callFK (h : Kn X.prog X.w X.K X.mg X.base CX k x st ps sp) (hr : Room k X.A) (hb : KwB x st ps ks g gV) (hx : Passes CX X E) (ha : PA X (e :: es) t) (hkw : PK X kws tk) (hg : Gl X x := by rfl)
    (hall : (backToKw pos (keywordEach kws X.env)).all (·.1.isSome) = true := by rfl) (hks : (backToKw pos (keywordEach kws X.env)).filterMap (·.1) = ks := by rfl)
    (hdb : (x == ("__debug__" : Str)) = false := by decide) (he : starEach (e :: es) X.env = (false, eval e X.env) :: starEach es X.env := by rfl)
    (hpl : ((backTo pos (starEach (e :: es) X.env)).any (·.1) || (backToKw pos (keywordEach kws X.env)).any (·.1.isNone)) = false := by rfl) :
    PE X (.Call (.Name x p) (e :: es) kws pos) (tCallK sp gV E t tk) := by
  obtain ⟨f, fd, F, gm, kp, b, kV, doc, pm, an, cdv, ct, rfl⟩ := h.ex
  exact pe_callK F hr hg gm kp ⟨fun s us ws _ hl => .of_eq (hb.1 kV doc pm an cdv ct us ws hl), hb.2⟩ hx ha hkw hall hks hdb he hpl
/-- f(k = v, ..), no positional -/
theorem pe_callFK0 (h : Kn X.prog X.w X.K X.mg X.base CX k x st ps sp) (hr : Room k X.A) (hb : KwB x st ps ks g gV) (hx : Passes CX X E) (hkw : PK X kws tk) (hg : Gl X x := by rfl)
    (hall : (backToKw pos (keywordEach kws X.env)).all (·.1.isSome) = true := by rfl) (hks : (backToKw pos (keywordEach kws X.env)).filterMap (·.1) = ks := by rfl)
    (hdb : (x == ("__debug__" : Str)) = false := by decide)
    (hpl : ((backTo pos (starEach [] X.env)).any (·.1) || (backToKw pos (keywordEach kws X.env)).any (·.1.isNone)) = false := by rfl) :
    PE X (.Call (.Name x p) [] kws pos) (tCallK sp gV E tNil tk) := by
  obtain ⟨f, fd, F, gm, kp, b, kV, doc, pm, an, cdv, ct, rfl⟩ := h.ex
  have hbb : KBinds X.K (PySem.W.fnOf x x (defArgs st) (defBody st) (defScope st) .none kV doc pm an cdv ct) ps ks g gV := ⟨fun s us ws _ hl => .of_eq (hb.1 kV doc pm an cdv ct us ws hl), hb.2⟩
  refine ⟨fun pins s σ H Q I hq => wpAny_Call_Name_kw (ld_glob I hg gm ?_ hdb)⟩
  refine PySem.W.callWith_KW0 (h₀ := X.base) I.ok.mod.kin kp hall (thn (hkw.run pos pins s σ H _ I hq) fun ws s2 ⟨zs, H2, I2, rz, q2⟩ => ⟨I2.kIn, ?_⟩) hpl
  rw [hks]
  exact run_fnk F hr hbb hx I2 .nil rz q2
end
/-! ### rules whose reading names K outright (for a comprehension's block) -/
def rLenK (K : PySem.W.Frag) : List V → Hp → VK → Prop := fun xs H Q => ∃ x n, xs = [x] ∧ LenV K x H n ∧ Q (.int n) H
theorem call_lenK {X : Cx} (K : PySem.W.Frag) (e : X.K = K := by rfl) : CallR X (.builtin "len") (rLenK K) := by subst e; exact call_len
theorem call_isiK1 {X : Cx} (K : PySem.W.Frag) (e : X.K = K := by rfl) : CallR X (.builtin "isinstance") (rIsi K) := by subst e; exact call_isi
theorem ix_listK {X : Cx} (K : PySem.W.Frag) (e : X.K = K := by rfl) : IxR X (rIxL K) := by subst e; exact ix_list
theorem ix_tupK {X : Cx} (K : PySem.W.Frag) (e : X.K = K := by rfl) : IxR X (rIxT K) := by subst e; exact ix_tup
theorem op_in_seqK {X : Cx} (K : PySem.W.Frag) (e : X.K = K := by rfl) : OpR X (compareOp .In) (rIn K false) := by subst e; exact op_in_seq
theorem op_notIn_seqK {X : Cx} (K : PySem.W.Frag) (e : X.K = K := by rfl) : OpR X (compareOp .NotIn) (rIn K true) := by subst e; exact op_notIn_seq
theorem op_eqDK {X : Cx} (K : PySem.W.Frag) (hu : X.A.units + 64 < cLine) (e : X.K = K := by rfl) : OpR X (compareOp .Eq) (rEqD K) := by subst e; exact op_eqD hu
theorem op_neDK {X : Cx} (K : PySem.W.Frag) (hu : X.A.units + 64 < cLine) (e : X.K = K := by rfl) : OpR X (compareOp .NotEq) (rNeD K) := by subst e; exact op_neD hu
/-! ### heaps -/
theorem Same.upd {H H' : Hp} {p : Addr} {o : HO} (s : Same H H') (h : H p = none) : Same H (upd H' p o) := fun b u e => by
  rw [upd_ne (ne_of_none e h)]; exact s b u e
theorem Same.new {H H' : Hp} {p : Addr} {o : HO} (s : Same H H') (h : H' p = none) : Same H (L2.upd H' p o) := s.upd (s.free h)
theorem Same.tseq {K : PySem.W.Frag} {H H' : Hp} {a : Addr} {xs : List V} (e : Same H H') (h : SqT K H a xs) : SqT K H' a xs := by
  rcases h with (h | ⟨o, h⟩) | h
  · exact .inl (.inl (e _ _ h))
  · exact .inl (.inr ⟨o, e _ _ h⟩)
  · exact .inr h
/-- all but what stands at a is as it was -/
def Keep (a : Addr) (H H' : Hp) : Prop := ∀ b o, b ≠ a → H b = some o → H' b = some o
theorem Keep.refl (a : Addr) (H : Hp) : Keep a H H := fun _ _ _ h => h
theorem Keep.trans {a : Addr} {H H1 H2 : Hp} (x : Keep a H H1) (y : Keep a H1 H2) : Keep a H H2 := fun b o hb h => y b o hb (x b o hb h)
theorem Same.keep {a : Addr} {H H' : Hp} (s : Same H H') : Keep a H H' := fun b o _ h => s b o h
theorem Keep.upd (a : Addr) (H : Hp) (o : HO) : Keep a H (upd H a o) := fun b u hb h => by rw [upd_ne hb]; exact h
theorem Keep.new {a p : Addr} {H H' : Hp} {o : HO} (x : Keep a H H') (h : H' p = none) : Keep a H (L2.upd H' p o) := fun b u hb e => by
  have q := x b u hb e
  rw [upd_ne (ne_of_none q h)]; exact q
end L2

/-! Z2: promises of defs that are called where no repr is under way; repr; a tuple held against (). -/
namespace L2
open PySem PySem.Spec PyProof.Rows
/-! ### promises that hold where no repr is under way -/
structure Qui (P : Program) (w : World) (K : PySem.W.Frag) (mg : Str → Option Value) (base : Heap) (k : Nat) (f : Addr) (fd : FuncData) (ps : List Str) (sp : Sp) : Prop where
  many : ∀ vs H Q E, sp vs H Q E → vs.length = ps.length
  go : ∀ (A : Around) (outer : List Env) (s : Shared) (H : Hp) (args : Args) (us : List Value) (vs : List V) (Q : VK) (E : XK), Room k A → A.guards = some [] → Env0 P w K mg base A outer s H → BindsTo s fd args (ps.zip us) →
    Vals vs us → sp vs H Q E → codeAny (model P w) A (.call (.ref f) args) (CR CX0 outer P w H s Q E) s
structure KnQ (P : Program) (w : World) (K : PySem.W.Frag) (mg : Str → Option Value) (base : Heap) (k : Nat) (x : Str) (st : Stmt) (ps : List Str) (sp : Sp) : Prop where
  ex : ∃ (f : Addr) (fd : FuncData), Qui P w K mg base k f fd ps sp ∧ mg x = some (.ref f) ∧ PySem.W.keepIn K (.ref f) = true ∧ Binds K fd ps []
theorem fin_flow {X : Cx} {outer : List Env} {P : Program} {w : World} {H : Hp} {s s' : Shared} {Q : VK} {E : XK} {fl : Flow} (hp : X.prog = P) (hw : X.w = w) (h0 : X.s_0 = s) (hH : X.H_0 = H) (hf : X.fs = frs outer) (he : X.ex = []) :
    SP X [] { nx := fun _ H' => Q .non H', rt := Q } fl s' → CR CX0 outer P w H s Q E (.ok (.ret (match fl with | .ret v => v | _ => .none))) s' := by
  intro h
  subst hp hw h0 hH
  have last : ∀ {σ : St} {H' : Hp} {v : V} {u : Value}, Inv X [] σ H' s' → RelV v u → Q v H' → CE outer X.prog X.w X.H_0 X.s_0 Q u s' := by
    intro σ H' v u I r q
    have b := I.base
    rw [hf, he] at b
    exact ⟨v, H', I.os, I.bare, b, I.hok, r, q⟩
  match fl, h with
  | .ret u, ⟨_, _, _, I, r, q⟩ => exact last I r q
  | .next, ⟨_, _, I, q⟩ => exact last (v := .non) (u := .none) I rfl q
  | .brk, ⟨_, _, _, q⟩ => exact q.elim
  | .cont, ⟨_, _, _, q⟩ => exact q.elim
section
variable {P : Program} {w : World} {K : PySem.W.Frag} {mg : Str → Option Value} {base : Heap} {x : Str} {st : Stmt} {ps N : List Str} {k : Nat} {sp : Sp}
theorem Fun.quiet {f : Addr} {fd : FuncData} (F : Fun K x x st f fd) (S : FnScope N ps (defScope st)) (many : ∀ vs H Q E, sp vs H Q E → vs.length = ps.length)
    (hb : ∀ (cdv : Value) (A : Around) (outer : List Env) (s : Shared) (H : Hp) (vs : List V) (Q : VK) (E : XK), Room k (A.deeper (envOfC x (defScope st) s.heap.objs.size f cdv)) → A.guards = some [] → sp vs H Q E →
      ∃ t, PSs (cxOf CX0 P w K mg base N x (defScope st) f cdv A outer s H E).nox (defBody st) t ∧ t { nx := fun _ H' => Q .non H', rt := Q } (start N vs) H) : Qui P w K mg base (k + 1) f fd ps sp := by
  refine ⟨many, ?_⟩
  obtain ⟨oc, od, kV, doc, pm, an, cdv, ct, osl, rfl, found, code⟩ := F.ex
  intro A outer s H args us vs Q E room quiet here binds vals promise
  have old : ∀ b o, base.get? b = some o → s.heap.get? b = some o := fun b o e => (here.bs b o e).1
  have kin := here.mod.kin.keeps old
  refine codeAny_call_function room.depth (kin _ _ found) rfl S.co S.gen rfl (PySem.W.codeRec_of kin code) (binds _ _ _ _ (wpAny_newFunctionEnv_cells S.kind ?_ ?_))
  · rintro ⟨n, v⟩ hy
    exact (S.par n (List.of_mem_zip hy).1).imp id fun z => ⟨z, PySem.W.cellsFrom_some _ _ _ (.inl z)⟩
  · rintro _ rfl s1 called
    obtain ⟨t, ht, h0⟩ := hb cdv A outer s H vs Q E (room.deeper _) quiet promise
    have I := inv_start (CX := CX0) (E := E) S room.hd here (many _ _ _ _ promise) vals called
    refine ⟨(here.mod.nolimit.keeps old).keeps called.toInCall.keep, codeAny_func ?_⟩
    exact wpAny_mono (ht.nox.run [] s1 _ H _ I h0) (fun _ _ h => fin_flow (X := cxOf CX0 P w K mg base N x (defScope st) f cdv A outer s H E) (outer := outer) (E := E) rfl rfl rfl rfl rfl rfl h) fun _ _ h => h
theorem Df.okQ (D : Df K mg x st ps) (S : FnScope N ps (defScope st)) (many : ∀ vs H Q E, sp vs H Q E → vs.length = ps.length)
    (hb : ∀ (f : Addr) (cdv : Value) (A : Around) (outer : List Env) (s : Shared) (H : Hp) (vs : List V) (Q : VK) (E : XK), Room k (A.deeper (envOfC x (defScope st) s.heap.objs.size f cdv)) → A.guards = some [] → sp vs H Q E →
      ∃ t, PSs (cxOf CX0 P w K mg base N x (defScope st) f cdv A outer s H E).nox (defBody st) t ∧ t { nx := fun _ H' => Q .non H', rt := Q } (start N vs) H) : KnQ P w K mg base (k + 1) x st ps sp := by
  obtain ⟨f, fd, F, g, b, e⟩ := D.ex
  exact ⟨f, fd, F.quiet S many fun cdv A outer s H vs Q E => hb f cdv A outer s H vs Q E, g, F.kp, b⟩
end
section
variable {X : Cx} {k : Nat} {x : Str} {st : Stmt} {ps : List Str} {sp : Sp} {E : XK} {p pos : Pos} {e : Expr} {es : List Expr} {t : TA}
theorem pe_callQ (h : KnQ X.prog X.w X.K X.mg X.base k x st ps sp) (hr : Room k X.A) (hq : X.A.guards = some []) (ha : PA X (e :: es) t) (hg : Gl X x := by rfl)
    (hdb : (x == ("__debug__" : Str)) = false := by decide) (he : starEach (e :: es) X.env = (false, eval e X.env) :: starEach es X.env := by rfl) (hpl : (backTo pos (starEach es X.env)).any (·.1) = false := by rfl) :
    PE X (.Call (.Name x p) (e :: es) [] pos) (tCall sp [] E t) := by
  obtain ⟨f, fd, F, gm, kp, b⟩ := h.ex
  constructor
  intro pins s σ H Q I h
  refine wpAny_Call_Name_kw (ld_glob I hg gm (PySem.W.callWith_K (h₀ := X.base) I.ok.mod.kin kp (thn (ha.run pos pins s σ H _ I h) ?_) he hpl) hdb)
  rintro us s1 ⟨vs, H1, J, r, q⟩
  rw [List.append_nil] at q
  refine ⟨J.kIn, wpAny_call (codeAny_mono (F.go X.A X.stack s1 H1 ⟨us, []⟩ us vs Q E hr hq J.env0 ?_ r q) ?_)⟩
  · have z := b s1 us J.kIn (by rw [List.append_nil, ← r.length]; exact F.many _ _ _ _ q)
    rw [List.append_nil] at z; exact z
  · rintro (e | fl) s' z
    · exact z.elim
    · match fl, z with
      | .ret u, z => exact J.after z
      | .next, z => exact z.elim
      | .brk, z => exact z.elim
      | .cont, z => exact z.elim
end
/-! ### a law whose def is such a one -/
/-- the heap in which just the script may be tracked -/
theorem script_hp {P : Program} {w : World} {K : PySem.W.Frag} {s : Shared} {a : Addr} {vs : List Value} {ns : List Int} (kin : K.In s.heap) (ha : s.heap.get? a = some { cls := .type "list", data := .seq vs.toArray }) (hi : IntsAre vs ns) (hl : ns.length ≤ sizeLine) :
    ∃ H : Hp, Only H ∧ SqL K H a (ns.map V.int) ∧ HOk P w H s.heap ∧ (∀ b o, H b = some o → b = a ∧ K.lookup a = none ∧ o = .frz { cls := .type "list", data := .seq vs.toArray } (.lst (ns.map V.int))) := by
  have r := vals_ints hi
  rcases hk : K.lookup a with _ | o
  · have off : ∀ b o, (if b = a then some (HO.frz { cls := .type "list", data := .seq vs.toArray } (.lst (ns.map V.int))) else none) = some o → b = a ∧ o = .frz { cls := .type "list", data := .seq vs.toArray } (.lst (ns.map V.int)) := fun b o z => by
      split at z
      · exact ⟨by assumption, (Option.some.inj z).symm⟩
      · cases z
    refine ⟨fun b => if b = a then some (.frz { cls := .type "list", data := .seq vs.toArray } (.lst (ns.map V.int))) else none, fun b => ?_, .inl (.inr ⟨_, if_pos rfl⟩), fun b o z => ?_, fun b o z => ⟨(off b o z).1, rfl, (off b o z).2⟩⟩
    · by_cases c : b = a
      · exact .inr ⟨_, _, if_pos c⟩
      · exact .inl (if_neg c)
    · obtain ⟨rfl, rfl⟩ := off b o z
      exact ⟨ha, by rw [List.length_map]; exact hl, vs, _, r, ha⟩
  · have z := ha.symm.trans (kin a o hk)
    cases z
    exact ⟨fun _ => none, fun _ => .inl rfl, .inr ⟨_, vs.toArray, _, hk, rfl, rfl, rfl, by rw [List.size_toArray, hi.length]; exact hl, by simpa using r⟩, fun _ _ z => (by cases z), fun _ _ z => (by cases z)⟩
theorem law_callQ {P : Program} {w : World} {K : PySem.W.Frag} {mg mb : Str → Option Value} {k : Nat} {fa a : Addr} {fd : FuncData} {x : Str} {sp : Sp} {s : Shared} {vs : List Value} {ns : List Int}
    (kin : K.In s.heap) (glob : s.heap.Ns mainGlobals mg) (blt : s.heap.Ns builtinsNs mb) (boot : ∀ x : Str, x ≠ "__name__" → mb x = bootBuiltins x) (lim : s.heap.NoLimit) (gens : s.gens = #[])
    (ha : s.heap.get? a = some { cls := .type "list", data := .seq vs.toArray }) (hi : IntsAre vs ns) (hl : ns.length ≤ sizeLine) (hr : Room k callerA)
    (F : ∀ base : Heap, K.In base → base.Ns mainGlobals mg → Qui P w K mg base k fa fd [x] sp) (bind : ∀ (s : Shared) (u : Value), BindsTo s fd ⟨[u], []⟩ [(x, u)])
    (hsp : ∀ H : Hp, Only H → SqL K H a (ns.map V.int) → sp [.ref a] H (fun v _ => v = .bl true) fun _ _ _ => False) :
    codeAny (model P w) callerA (.call (.ref fa) ⟨[.ref a], []⟩) (fun r s' => r = .ok (.ret (.bool true)) ∧ OldK s.heap s'.heap ∧ s'.os = s.os ∧ AllBare s'.gens) s := by
  obtain ⟨H, only, script, held, alone⟩ := script_hp (P := P) (w := w) kin ha hi hl
  -- what is not the script's object lies in the base
  have low : ∀ {b : Addr} {o : Obj}, s.heap.get? b = some o → (∀ xs n, o.data ≠ .seq xs n ∨ K.lookup b ≠ none) → (hidT s.heap H).get? b = some o := fun {b o} e d => by
    refine hidT_get e ?_
    rcases z : H b with _ | u
    · rfl
    · obtain ⟨rfl, n, _⟩ := alone b u z
      rw [ha] at e
      cases e
      rcases d vs.toArray 0 with y | y
      · exact absurd rfl y
      · exact absurd n y
  have spaces : ∀ {b : Addr} {m : Str → Option Value}, s.heap.Ns b m → (hidT s.heap H).Ns b m := fun ⟨o, es, ep, e, d, z⟩ => ⟨o, es, ep, low e fun xs n => .inl (by rw [d]; intro q; cases q), d, z⟩
  have kinB : K.In (hidT s.heap H) := fun b o e => low (kin b o e) fun xs n => .inr (by intro q; rw [e] at q; cases q)
  have room : Env0 P w K mg (hidT s.heap H) callerA [] s H :=
    ⟨rfl, ⟨kinB, spaces glob, ⟨mb, spaces blt, boot⟩, lim.imp fun mc z => ⟨spaces z.1, z.2⟩⟩, fun _ _ => of_hidT, Nat.le_of_eq (hidT_size _ _), trivial, fun b z => absurd (show b ∈ ([] : List Addr) from z) List.not_mem_nil, held, .of_eq gens⟩
  refine codeAny_mono ((F _ kinB (spaces glob)).go callerA [] s H ⟨[.ref a], []⟩ [.ref a] [.ref a] _ _ hr rfl room (bind s (.ref a)) (.cons rfl .nil) (hsp H only script)) ?_
  rintro (e | fl) s' z
  · exact z.elim
  match fl, z with
  | .next, z => exact z.elim
  | .brk, z => exact z.elim
  | .cont, z => exact z.elim
  | .ret u, ⟨v, H', os, bare, un, held', r, q⟩ =>
    cases (show v = V.bl true from q)
    cases (show u = Value.bool true from r)
    refine ⟨rfl, OldK.of_keep fun b o e => ?_, os, bare⟩
    rcases y : H b with _ | u
    · exact un.keep b o e y (fun z => absurd (show b ∈ ([] : List Addr) from z) List.not_mem_nil) (fun z => absurd (show b ∈ ([] : List Addr) from z) List.not_mem_nil)
    · obtain ⟨rfl, _, rfl⟩ := alone b u y
      have h1 := (held b _ y).1
      have h2 := (held' b _ (un.frzs b _ _ y)).1
      rw [e] at h1
      cases h1
      exact h2
theorem walk_ofQ {l : PySem.W.OpenLaw} {n k : Nat} {q : Program} {loose : List Str} {XP : (Str → Option Value) → Heap → Prop} {YP : World → Heap → Prop} {d : DefRec} {K : Params → PySem.W.Frag} {sp : World → Sp} {x : Str}
    (hn : l.most = some n) (hn2 : n ≤ sizeLine) (hdf : d.params.defaults = []) (hr : Room k callerA) (kin : ∀ (w : World) (h : Heap), YP w h → (K w.params).In h)
    (F : ∀ (w : World) (mg : Str → Option Value) (fa : Addr) (h : Heap), (K w.params).In h → h.Ns mainGlobals mg → mg d.name = some (.ref fa) →
      ∃ fd : FuncData, (∀ (s : Shared) (u : Value), BindsTo s fd ⟨[u], []⟩ [(x, u)]) ∧ ∀ base : Heap, (K w.params).In base → base.Ns mainGlobals mg → Qui l.prog w (K w.params) mg base k fa fd [x] (sp w))
    (hsp : ∀ (w : World) (H : Hp) (a : Addr) (ns : List Int), ns.length ≤ n → Only H → SqL (K w.params) H a (ns.map V.int) → sp w [.ref a] H (fun v _ => v = .bl true) fun _ _ _ => False) :
    PySem.W.WalkO q loose XP YP l.row.toRowW d [] (fun f vs => PySem.call f vs) := by
  refine Att.attach_call hn hdf ?_
  intro w _ s₁ mg mb fa o pm cd doc a vs ns G Y _ _ _ named script whole many bare
  obtain ⟨fd, binds, holds⟩ := F w mg fa _ (kin w _ Y) G.T.g named
  exact law_callQ (kin w _ Y) G.T.g G.T.b G.T.builtins G.T.nolimit bare script whole (Nat.le_trans many hn2) hr holds binds fun H only z => hsp w H a ns many only z
/-! ### repr -/
mutual
/-- what a value reads as; with dicts (all empty) no list may be the interpreter's own -/
inductive Rp (z : Bool) (H : Hp) : V → PyData → Prop
  | non : Rp z H .non .none
  | bl (b : Bool) : Rp z H (.bl b) (.bool b)
  | int (i : Int) : Rp z H (.int i) (.int i)
  | str (x : Str) : Rp z H (.str x) (.str x)
  | lst {a : Addr} {xs : List V} {ds : List PyData} (h : H a = some (.lst xs)) (n : z = true → a ≠ sysModules) (r : Rps z H xs ds) : Rp z H (.ref a) (.list ds)
  | tup {a : Addr} {xs : List V} {ds : List PyData} (h : H a = some (.tup xs)) (r : Rps z H xs ds) : Rp z H (.ref a) (.tuple ds)
  | dct {a : Addr} (y : z = true) (h : H a = some (.dK [])) : Rp z H (.ref a) (.dict [])
inductive Rps (z : Bool) (H : Hp) : List V → List PyData → Prop
  | nil : Rps z H [] []
  | cons {x : V} {xs : List V} {d : PyData} {ds : List PyData} (h : Rp z H x d) (r : Rps z H xs ds) : Rps z H (x :: xs) (d :: ds)
end
section
variable {X : Cx} {pins : List (Addr × Obj)} {σ : St} {H : Hp} {s : Shared} {z : Bool}
mutual
theorem Rp.reads (I : Inv X pins σ H s) : ∀ (d : PyData) (v : V) (u : Value), Rp z H v d → RelV v u → ∃ as, Reads s.heap u d as ∧ (z = true → sysModules ∉ as) ∧ (z = false → d.hasDict = false)
  | .none, _, _, h, r => by
    cases h; cases r
    exact ⟨_, Reads.none, fun _ => List.not_mem_nil, fun _ => rfl⟩
  | .bool b, _, _, h, r => by
    cases h; cases r
    exact ⟨_, Reads.bool b, fun _ => List.not_mem_nil, fun _ => rfl⟩
  | .int i, _, _, h, r => by
    cases h
    obtain ⟨t, rfl⟩ := r
    exact ⟨_, Reads.int i t, fun _ => List.not_mem_nil, fun _ => rfl⟩
  | .str x, _, _, h, r => by
    cases h
    obtain ⟨t, rfl⟩ := r
    exact ⟨_, Reads.str x t, fun _ => List.not_mem_nil, fun _ => rfl⟩
  | .list ds, _, _, h, r => by
    cases h with
    | lst hs n ha =>
      cases r
      obtain ⟨its, rv, ⟨o, m, ho, hc, _, hd⟩, _⟩ := I.list (SqL.of hs)
      obtain ⟨as, hr, h1, h2⟩ := Rps.reads I ds _ its ha rv
      refine ⟨_, Reads.list ho hc hd hr, fun y q => ?_, fun y => ?_⟩
      · rcases List.mem_cons.mp q with q | q
        · exact n y q.symm
        · exact h1 y q
      · rw [PyData.hasDict]; exact h2 y
  | .tuple ds, _, _, h, r => by
    cases h with
    | tup hs ha =>
      cases r
      obtain ⟨its, rv, ⟨o, ho, hc, m, hd⟩, _⟩ := I.tuple (SqT.of hs)
      obtain ⟨as, hr, h1, h2⟩ := Rps.reads I ds _ its ha rv
      exact ⟨_, Reads.tuple ho hc hd hr, h1, fun y => by rw [PyData.hasDict]; exact h2 y⟩
  | .dict kvs, _, _, h, r => by
    cases h with
    | dct y hs =>
      cases r
      obtain ⟨_, hd, vs, kv, o, es, ep, ho, hx, hdt, _, hp, _⟩ := dk_of I.hok hs
      cases kv
      have e0 : es.toList = [] := List.eq_nil_of_length_eq_zero hp.length
      refine ⟨_, Reads.dict (kvs := []) ho hx.1 hdt (by rw [e0]; exact .nil) (by rw [e0]; exact .nil), fun _ q => ?_, fun q => by rw [y] at q; cases q⟩
      rcases List.mem_cons.mp q with q | q
      · exact absurd q.symm (beq_eq_false_iff_ne.mp hd)
      · exact absurd q List.not_mem_nil
theorem Rps.reads (I : Inv X pins σ H s) : ∀ (ds : List PyData) (vs : List V) (us : List Value), Rps z H vs ds → Vals vs us → ∃ as, ReadsAll s.heap us ds as ∧ (z = true → sysModules ∉ as) ∧ (z = false → PyData.hasDictAll ds = false)
  | [], _, _, h, r => by
    cases h; cases r
    exact ⟨_, ReadsAll.nil, fun _ => List.not_mem_nil, fun _ => rfl⟩
  | d :: ds, _, _, h, r => by
    cases h with
    | cons g1 g2 =>
      cases r with
      | cons r1 r2 =>
        obtain ⟨as, q1, a1, a2⟩ := Rp.reads I d _ _ g1 r1
        obtain ⟨bs, q2, b1, b2⟩ := Rps.reads I ds _ _ g2 r2
        refine ⟨_, ReadsAll.cons q1 q2, fun y q => ?_, fun y => ?_⟩
        · rcases List.mem_append.mp q with q | q
          · exact a1 y q
          · exact b1 y q
        · rw [PyData.hasDictAll, a2 y, b2 y]; rfl
end
end
/-- texts that can be told -/
structure Shows (d : PyData) : Prop where
  ok : d.showable = true
  fit : d.shown.length ≤ sizeLine
  deep : d.depth ≤ 60
def rRepr : List V → Hp → VK → Prop := fun xs H Q => ∃ (z : Bool) (x : V) (d : PyData), xs = [x] ∧ Rp z H x d ∧ Shows d ∧ Q (.str d.shown) H
theorem call_repr {X : Cx} {k : Nat} (hr : Room k X.A) (hq : X.A.guards = some []) : CallR X (.builtin "repr") rRepr := by
  intro pins s σ H xs us Q I r h
  obtain ⟨z, x, d, rfl, hp, hs, q⟩ := h
  obtain ⟨u, rfl, rx⟩ := r.one
  have un : X.A.units + (d.depth + 1) < cLine := by
    have h1 := hr.un
    have h2 := hs.deep
    omega
  have refs : ∀ (a : Addr), x = .ref a → wpAny (model X.prog X.w) X.A (call (.builtin "repr") [u]) (EP X pins σ Q) X.xe s := fun a ex => by
    subst ex
    cases rx
    obtain ⟨as, hr, n1, n2⟩ := Rp.reads I d _ _ hp rfl
    refine repr_of_reads' hr hs.ok (fun y => n1 ?_) hq un (fun _ _ e => e) (fun h' t tk keep => ⟨.str d.shown, H, I.kept keep, ⟨t, rfl⟩, q⟩) hs.fit
    rcases z with _ | _
    · rw [n2 rfl] at y; cases y
    · rfl
  cases hp with
  | non => cases rx; exact PySem.P.repr_of_none ⟨.str _, H, I.tok _, ⟨_, rfl⟩, q⟩
  | bl b => cases rx; exact PySem.P.repr_of_bool ⟨.str _, H, I.tok _, ⟨_, rfl⟩, q⟩
  | int i =>
    obtain ⟨t, rfl⟩ := rx
    exact PySem.P.repr_of_int (of_decide_eq_true hs.ok) ⟨.str _, H, I.tok _, ⟨_, rfl⟩, q⟩
  | str y =>
    obtain ⟨t, rfl⟩ := rx
    exact PySem.P.repr_of_str ⟨.str _, H, I.tok _, ⟨_, rfl⟩, q⟩ hs.fit
  | lst _ _ _ => exact refs _ rfl
  | tup _ _ => exact refs _ rfl
  | dct _ _ => exact refs _ rfl
/-! ### == and != of a tuple and () -/
def rEqNil (K : PySem.W.Frag) (ne : Bool) : R2 := fun x y H Q => ∃ a b xs, x = .ref a ∧ y = .ref b ∧ SqT K H a xs ∧ SqT K H b [] ∧ Q (.bl (xor ne (decide (xs = [])))) H
theorem op_eqNil {X : Cx} (hu : X.A.units < cLine) : OpR X (compareOp .Eq) (rEqNil X.K false) := by
  intro pins s σ H x y v u Q I rx ry h
  obtain ⟨a, b, xs, rfl, rfl, ha, hb, q⟩ := h
  cases rx; cases ry
  obtain ⟨its, r, ⟨o, ho, hc, n, hd⟩, _⟩ := I.tuple ha
  obtain ⟨jts, r2, ⟨o2, ho2, hc2, n2, hd2⟩, _⟩ := I.tuple hb
  cases r2
  refine SeqAt.eq_tupleAt (e := fun _ => true) ⟨o, ho, hc, n, hd⟩ ⟨o2, ho2, hc2, n2, hd2⟩ hu (fun j h1 h2 => absurd h2 (Nat.not_lt_zero j)) ?_
  refine ⟨.bl _, H, I, rfl, ?_⟩
  have e : ((List.range (min its.toArray.size ([] : List Value).toArray.size)).all (fun _ => true) && its.toArray.size == ([] : List Value).toArray.size) = (xor false (decide (xs = []))) := by
    cases r with
    | nil => rfl
    | cons _ _ => simp
  rw [e]; exact q
theorem op_neNil {X : Cx} (hu : X.A.units < cLine) : OpR X (compareOp .NotEq) (rEqNil X.K true) := by
  intro pins s σ H x y v u Q I rx ry h
  obtain ⟨a, b, xs, rfl, rfl, ha, hb, q⟩ := h
  cases rx; cases ry
  obtain ⟨its, r, ⟨o, ho, hc, n, hd⟩, _⟩ := I.tuple ha
  obtain ⟨jts, r2, ⟨o2, ho2, hc2, n2, hd2⟩, _⟩ := I.tuple hb
  cases r2
  refine SeqAt.RcNeAt.tuples (e := fun _ => true) ⟨o, ho, hc, n, hd⟩ ⟨o2, ho2, hc2, n2, hd2⟩ hu (fun j h1 h2 => absurd h2 (Nat.not_lt_zero j)) _ _ _ _ ?_
  refine ⟨.bl _, H, I, rfl, ?_⟩
  have e : (!((List.range (min its.toArray.size ([] : List Value).toArray.size)).all (fun _ => true) && its.toArray.size == ([] : List Value).toArray.size)) = (xor true (decide (xs = []))) := by
    cases r with
    | nil => rfl
    | cons _ _ => simp
  rw [e]; exact q
/-- a display of a list, its place told to be none of the interpreter's own -/
def tLstN (t : TA) : TE := fun σ H Q => t σ H fun xs H1 => xs.length ≤ sizeLine ∧ ∀ l, H1 l = none → l ≠ sysModules → Q (.ref l) (upd H1 l (.lst xs))
theorem pe_lstN {X : Cx} {es : List Expr} {pos : Pos} {t : TA} (h : PA X es t) : PE X (.List es pos) (tLstN t) := by
  constructor
  intro pins s σ H Q I hq
  refine wpAny_List_spliced (thn (h.run pos pins s σ H _ I hq) ?_)
  rintro us s1 ⟨xs, H1, J, r, z, q⟩
  refine ⟨r.length ▸ z, .ref s1.heap.objs.size, _, J.laid (o := .lst xs) (t' := s1.toks) (fun _ _ => Heap.get?_push_of_some _) (Nat.le_refl _) ⟨z, us, 0, r, Heap.get?_push_size _ rfl⟩, rfl, q _ (J.hok.fresh (Nat.le_refl _)) (Nat.ne_of_gt J.big)⟩
theorem lt64 {k : Nat} {A : Around} (hr : Room k A) : A.units < cLine := by
  have h := hr.un
  omega
end L2

/-! Z3: math.factorial. -/
namespace L2
open PySem PySem.Spec PyProof.Rows
def fct : Nat → Nat
  | 0 => 1
  | n + 1 => fct n * (n + 1)
theorem fct_same : ∀ n : Nat, Builtin.Math.factorialNat n = fct n
  | 0 => rfl
  | n + 1 => by rw [PySem.W.mc_fac_succ, fct_same n, fct]
theorem cr_factorial {X : Cx} : CallR X (.builtin "math.factorial") (fun vs H Q => ∃ a : Nat, vs = [.int (a : Int)] ∧ a ≤ 20000 ∧ Q (.int ((fct a : Nat) : Int)) H) := by
  intro pins s σ H vs us Q I r h
  obtain ⟨a, rfl, h2, q⟩ := h
  obtain ⟨u, rfl, t, rfl⟩ := r.one
  refine PySem.W.mc_factorial (by omega) (by omega) fun _ => ?_
  rw [Int.toNat_natCast, fct_same]
  exact ⟨.int _, H, I.tok _, ⟨_, rfl⟩, q⟩
theorem fct_pos : ∀ n : Nat, 1 ≤ fct n
  | 0 => Nat.le_refl 1
  | n + 1 => by rw [fct]; exact Nat.mul_pos (fct_pos n) (Nat.succ_pos n)
theorem fct_mono {m n : Nat} (h : m ≤ n) : fct m ≤ fct n := by
  induction h with
  | refl => exact Nat.le_refl _
  | step _ ih => rw [fct]; exact Nat.le_trans ih (Nat.le_mul_of_pos_right _ (Nat.succ_pos _))
theorem fct_small {n : Nat} (h : n ≤ 60) : fct n < 2 ^ 300 := Nat.lt_of_le_of_lt (fct_mono h) (by decide +kernel)
end L2

/-! Z4: list(enumerate(a list)): a new list of new pairs. -/
namespace PySem.F
theorem en_len : typeLookup (.type "enumerate") "__len__" = pure none := by rw [typeLookup_type, builtinLookup_eq_fast]; kernel_rfl
theorem en_hint : typeLookup (.type "enumerate") "__length_hint__" = pure none := by rw [typeLookup_type, builtinLookup_eq_fast]; kernel_rfl
end PySem.F
namespace L2
open PySem PySem.Spec PyProof.Rows
open Sem (wp)
/-- an enumerate object, whatever pair it may have handed out -/
abbrev EnO (h : Heap) (e it : Addr) (g : Value) (b : Bool) (i : Int) (z : Value) : Prop :=
  h.get? e = some ({ cls := .type "enumerate", dict := none, data := .fields #[g, .bool b, .ref it, rawInt i, .none, z], slots := #[] } : Obj)
/-- it is new, or its pair is still there -/
def EnG (h : Heap) (e it : Addr) (g : Value) (b : Bool) : Prop := (g = .none ∧ b = false) ∨ ∃ (a : Addr) (o : Obj), g = rawInt a ∧ h.get? a = some o ∧ a ≠ e ∧ a ≠ it ∧ o.cls = .type "tuple"
structure EnSt (e it l : Addr) (items : Array Value) (i : Nat) (h : Heap) : Prop where
  en : ∃ g b z, EnO h e it g b ((i : Nat) : Int) z ∧ EnG h e it g b
  sit : h.IsListIter it l i
  sli : h.IsList l items
  ne : e ≠ it
theorem EnSt.put {e it l S : Addr} {items : Array Value} {i : Nat} {h h' : Heap} {oS : Obj} (s : EnSt e it l items i h) (hS : h.get? S = some oS) (cS : oS.cls = .type "list") (nl : l ≠ S) (k : ∀ b o, b ≠ S → h.get? b = some o → h'.get? b = some o) : EnSt e it l items i h' := by
  obtain ⟨⟨g, b, z, he, hg⟩, hi, hl, ne⟩ := s
  have other : ∀ {a : Addr} {o : Obj} {c : String}, h.get? a = some o → o.cls = .type c → c ≠ "list" → a ≠ S := fun {a o c} x y n q => by
    rw [q, hS] at x
    cases x
    exact n (Value.type.inj (y.symm.trans cS))
  obtain ⟨o2, ho2, hc2, _⟩ := id hi
  have n1 : e ≠ S := other he rfl (by decide)
  have n2 : it ≠ S := other ho2 hc2 (by decide)
  refine ⟨⟨g, b, z, k _ _ n1 he, ?_⟩, hi.at fun o x => k _ _ n2 x, hl.at fun o x => k _ _ nl x, ne⟩
  rcases hg with hg | ⟨a, o, h1, h2, h3, h4, h5⟩
  · exact .inl hg
  · exact .inr ⟨a, o, h1, k _ _ (other h2 h5 (by decide)) h2, h3, h4, h5⟩
section
variable {prog : Program} {w : World} {A : Around} {E : Value → Shared → Prop} {s : Shared}
theorem alive_wp {M : Model} {a : Addr} {Q : Option Obj → Shared → Prop} (h : Q (s.heap.get? a) s) : wpAny M A (Sem.loadIfAlive a .pure) Q E s := fun _ _ _ => h
/-- the next pair -/
theorem en_step {e it l : Addr} {i : Nat} {items : Array Value} {x : Value} {Q : Value → Shared → Prop} (st : EnSt e it l items i s.heap) (hx : items[i]? = some x)
    (hQ : ∀ h', EnSt e it l items (i + 1) h' → h'.get? s.heap.objs.size = some { cls := .type "tuple", data := .seq #[.int i s.toks, x] } → h'.objs.size = s.heap.objs.size + 1 →
      (∀ b o, b ≠ e → b ≠ it → s.heap.get? b = some o → h'.get? b = some o) → Q (.ref s.heap.objs.size) { s with heap := h', toks := s.toks + 1 }) :
    wpAny (model prog w) A (Builtin.«enumerate.__next__» ⟨[.ref e], []⟩) (fun fin s' => ∃ v, fin = .done (.ret v) ∧ Q v s') E s := by
  obtain ⟨hp, g0, d, tk, os⟩ := s
  obtain ⟨⟨g, b, z, he, hg⟩, hit, hl, hne⟩ := st
  replace he : EnO hp e it g b ((i : Nat) : Int) z := he
  show wpAny (model prog w) A (field (.ref e) 2 >>= _) _ E _
  refine wpAny_bind (wpAny_field he rfl (i := 2) (x := .ref it) rfl ?_)
  refine wpAny_bind (wpAny_nextOf_list_item hit hl hx fun h1 hit1 sb1 => ?_)
  replace sb1 : Heap.SameBut it hp h1 := sb1
  have e1 : EnO h1 e it g b ((i : Nat) : Int) z := (sb1.2 e hne).trans he
  show wpAny (model prog w) A (field (.ref e) 3 >>= _) _ E ⟨h1, g0, d, tk, os⟩
  refine wpAny_bind (wpAny_field e1 rfl (i := 3) (x := rawInt i) rfl ?_)
  show wpAny (model prog w) A (field (.ref e) 4 >>= _) _ E ⟨h1, g0, d, tk, os⟩
  refine wpAny_bind (wpAny_field e1 rfl (i := 4) (x := .none) rfl ?_)
  show wpAny (model prog w) A (mkInt i >>= _) _ E ⟨h1, g0, d, tk, os⟩
  refine wpAny_bind (wpAny_mkInt ?_)
  show wpAny (model prog w) A (setField (.ref e) 3 (rawInt ((i : Int) + 1)) >>= _) _ E ⟨h1, g0, d, tk + 1, os⟩
  refine wpAny_bind (wpAny_setField_rec e1 (by simp) fun h2 e2 sb2 => ?_)
  replace sb2 : Heap.SameBut e h1 h2 := sb2
  replace e2 : EnO h2 e it g b ((i : Int) + 1) z := e2
  show wpAny (model prog w) A (setField (.ref e) 4 .none >>= _) _ E ⟨h2, g0, d, tk + 1, os⟩
  refine wpAny_bind (wpAny_setField_rec e2 (by simp) fun h3 e3 sb3 => ?_)
  replace sb3 : Heap.SameBut e h2 h3 := sb3
  replace e3 : EnO h3 e it g b ((i : Int) + 1) z := e3
  show wpAny (model prog w) A (newTuple [.int i tk, x] >>= _) _ E ⟨h3, g0, d, tk + 1, os⟩
  refine wpAny_bind (wpAny_newTuple ?_)
  have e4 : EnO (h3.push { cls := .type "tuple", data := .seq #[.int i tk, x] }) e it g b ((i : Int) + 1) z := Heap.get?_push_of_some _ e3
  have sz3 : h3.objs.size = hp.objs.size := by rw [sb3.1, sb2.1, sb1.1]
  have lt_e : e < hp.objs.size := Heap.lt_size he
  have t4 : (h3.push { cls := .type "tuple", data := .seq #[.int i tk, x] }).get? hp.objs.size = some { cls := .type "tuple", data := .seq #[.int i tk, x] } := by rw [← sz3]; exact Heap.get?_push_size _ rfl
  have sz4 : (h3.push { cls := .type "tuple", data := .seq #[.int i tk, x] }).objs.size = hp.objs.size + 1 := by rw [Heap.size_push, sz3]
  have k4 : ∀ b o, b ≠ e → b ≠ it → hp.get? b = some o → (h3.push { cls := .type "tuple", data := .seq #[.int i tk, x] }).get? b = some o := fun b o n1 n2 y =>
    Heap.get?_push_of_some _ (sb3.extBut b o n1 (sb2.extBut b o n1 (sb1.extBut b o n2 y)))
  have it4 : (h3.push { cls := .type "tuple", data := .seq #[.int i tk, x] }).IsListIter it l (i + 1) := by
    obtain ⟨o, ho, r⟩ := (hit1.extBut sb2.extBut (Ne.symm hne)).extBut sb3.extBut (Ne.symm hne)
    exact ⟨o, Heap.get?_push_of_some _ ho, r⟩
  have nle : l ≠ e := fun q => by
    obtain ⟨o, ho, hc, _⟩ := id hl
    rw [q] at ho
    have y := he.symm.trans ho
    cases y
    have c2 : ("enumerate" : String) = "list" := Value.type.inj hc
    exact absurd c2 (by decide)
  have nli : l ≠ it := fun q => by
    obtain ⟨o, ho, hc, _⟩ := id hl
    obtain ⟨o2, ho2, hc2, _⟩ := id hit
    rw [q, ho2] at ho
    cases ho
    have c2 : ("list_iterator" : String) = "list" := Value.type.inj (hc2.symm.trans hc)
    exact absurd c2 (by decide)
  have l4 : (h3.push { cls := .type "tuple", data := .seq #[.int i tk, x] }).IsList l items := hl.at fun o y => k4 l o nle nli y
  rw [sz3]
  generalize h3.push { cls := .type "tuple", data := .seq #[.int i tk, x] } = h4 at e4 t4 sz4 k4 it4 l4 ⊢
  clear e3 sb3 e2 sb2 e1 sb1 hit1 sz3
  have tie : ((i + 1 : Nat) : Int) = (i : Int) + 1 := by omega
  show wpAny (model prog w) A (Builtin.SmallTypes.ownedTupleIsFree (.ref e) >>= _) _ E ⟨h4, g0, d, tk + 1, os⟩
  refine wpAny_bind ?_
  unfold Builtin.SmallTypes.ownedTupleIsFree
  rcases hg with ⟨rfl, rfl⟩ | ⟨a, o, rfl, ha, na1, na2, na3⟩
  · refine wpAny_bind (wpAny_field e4 rfl (i := 0) (x := .none) rfl (wpAny_pure ?_))
    simp only [if_true]
    refine wpAny_bind (wpAny_rule (wpAny_bind (wpAny_field e4 rfl (i := 5) (x := z) rfl ?_)))
    refine wpAny_bind (wpAny_setField_rec e4 (by simp) fun h5 e5 sb5 => ?_)
    replace sb5 : Heap.SameBut e h4 h5 := sb5
    replace e5 : EnO h5 e it .none false ((i : Int) + 1) x := e5
    show wpAny (model prog w) A (Builtin.SmallTypes.ownedTupleHandOut (.ref e) (.ref hp.objs.size) >>= _) _ E ⟨h5, g0, d, tk + 1, os⟩
    refine wpAny_bind ?_
    unfold Builtin.SmallTypes.ownedTupleHandOut
    refine wpAny_bind (wpAny_setField_rec e5 (by simp) fun h6 e6 sb6 => ?_)
    replace sb6 : Heap.SameBut e h5 h6 := sb6
    replace e6 : EnO h6 e it (rawInt hp.objs.size) false ((i : Int) + 1) x := e6
    refine wpAny_setField_rec e6 (by simp) fun h7 e7 sb7 => ?_
    replace sb7 : Heap.SameBut e h6 h7 := sb7
    replace e7 : EnO h7 e it (rawInt hp.objs.size) false ((i : Int) + 1) x := e7
    have kk : ∀ b o, b ≠ e → h4.get? b = some o → h7.get? b = some o := fun b o n y => sb7.extBut b o n (sb6.extBut b o n (sb5.extBut b o n y))
    have t7 := kk _ _ (Nat.ne_of_gt lt_e) t4
    refine wpAny_bind (wpAny_letGo (wpAny_pure ⟨_, rfl, hQ h7 ⟨⟨_, _, _, by rw [tie]; exact e7, .inr ⟨_, _, rfl, t7, Nat.ne_of_gt lt_e, ?_, rfl⟩⟩, it4.at fun o y => kk _ _ (Ne.symm hne) y, l4.at fun o y => kk _ _ nle y, hne⟩ t7 (by rw [sb7.1, sb6.1, sb5.1, sz4]) fun b o n1 n2 y => kk b o n1 (k4 b o n1 n2 y)⟩))
    obtain ⟨o2, ho2, _⟩ := hit
    exact Nat.ne_of_gt (Heap.lt_size ho2)
  · have a4 := k4 a o na1 na2 ha
    refine wpAny_bind (wpAny_field e4 rfl (i := 0) (x := rawInt a) rfl ?_)
    show wpAny (model prog w) A (Sem.loadIfAlive a .pure >>= _) _ E ⟨h4, g0, d, tk + 1, os⟩
    refine wpAny_bind (alive_wp ?_)
    show wpAny (model prog w) A (if (h4.get? a).isNone = true then _ else _) _ E ⟨h4, g0, d, tk + 1, os⟩
    rw [a4]
    show wpAny (model prog w) A (field (.ref e) 1 >>= _) _ E ⟨h4, g0, d, tk + 1, os⟩
    refine wpAny_bind (wpAny_field e4 rfl (i := 1) (x := .bool b) rfl ?_)
    have fin : ∀ (h5 : Heap) (b' : Bool), EnO h5 e it (rawInt a) b' ((i : Int) + 1) z → (∀ b o, b ≠ e → h4.get? b = some o → h5.get? b = some o) → h5.objs.size = h4.objs.size → Q (.ref hp.objs.size) ⟨h5, g0, d, tk + 1, os⟩ := fun h5 b' e5 kk sz5 =>
      hQ h5 ⟨⟨_, _, _, by rw [tie]; exact e5, .inr ⟨a, o, rfl, kk _ _ na1 a4, na1, na2, na3⟩⟩, it4.at fun o y => kk _ _ (Ne.symm hne) y, l4.at fun o y => kk _ _ nle y, hne⟩ (kk _ _ (Nat.ne_of_gt lt_e) t4) (sz5.trans sz4) fun b o n1 n2 y => kk b o n1 (k4 b o n1 n2 y)
    cases b with
    | true => exact wpAny_pure (wpAny_pure ⟨_, rfl, fin h4 true e4 (fun _ _ _ y => y) rfl⟩)
    | false =>
      show wpAny (model prog w) A (setField (.ref e) 1 (.bool true) >>= _) _ E ⟨h4, g0, d, tk + 1, os⟩
      refine wpAny_bind (wpAny_setField_rec e4 (by simp) fun h5 e5 sb5 => ?_)
      exact wpAny_pure (wpAny_pure ⟨_, rfl, fin h5 true e5 (fun b o n y => sb5.extBut b o n y) sb5.1⟩)
theorem en_next {e it l : Addr} {i : Nat} {items : Array Value} {x : Value} {Q : Option Value → Shared → Prop} (st : EnSt e it l items i s.heap) (hx : items[i]? = some x)
    (hQ : ∀ h', EnSt e it l items (i + 1) h' → h'.get? s.heap.objs.size = some { cls := .type "tuple", data := .seq #[.int i s.toks, x] } → h'.objs.size = s.heap.objs.size + 1 →
      (∀ b o, b ≠ e → b ≠ it → s.heap.get? b = some o → h'.get? b = some o) → Q (some (.ref s.heap.objs.size)) { s with heap := h', toks := s.toks + 1 }) :
    wpAny (model prog w) A (pyNext (.ref e)) Q E s := by
  obtain ⟨g, b, z, he, _⟩ := st.en
  have ty : s.TypeIs (.ref e) "enumerate" := ⟨_, he, rfl⟩
  unfold pyNext
  exact wpAny_bind (wpAny_attempt (wpAny_callSpecial?_slot (name := Str.ofString "__next__") ty F.slot_enumerate_next (wpAny_call_entry F.slot_enumerate_next ty F.entry_enumerate_next (en_step st hx fun h' a b c d => wpAny_pure (hQ h' a b c d)) (F.args_enumerate_next_1 _))))
theorem en_end {e it l : Addr} {items : Array Value} {Q : Option Value → Shared → Prop} (hh : A.handled = none) (st : EnSt e it l items items.size s.heap) (hQ : ∀ h', Heap.ExtBut it s.heap h' → Q none { s with heap := h' }) : wpAny (model prog w) A (pyNext (.ref e)) Q E s := by
  obtain ⟨⟨g, b, z, he, _⟩, hit, hl, _⟩ := st
  have ty : s.TypeIs (.ref e) "enumerate" := ⟨_, he, rfl⟩
  unfold pyNext
  refine wpAny_bind (wpAny_attempt (wpAny_callSpecial?_slot (name := Str.ofString "__next__") ty F.slot_enumerate_next (wpAny_call_entry F.slot_enumerate_next ty F.entry_enumerate_next ?_ (F.args_enumerate_next_1 _))))
  show wpAny _ _ (field (.ref e) 2 >>= _) _ _ s
  refine wpAny_bind (wpAny_field he rfl (i := 2) (x := .ref it) rfl ?_)
  refine wpAny_bind (wpAny_nextOf_list_end hh hit hl (by simp) fun h' y he' hy => ?_)
  obtain ⟨o, ho, hc⟩ := hy
  exact wpAny_bind (wpAny_isInstance (T := "StopIteration") (b := true) ⟨o, ho, hc⟩ isSubtype_stop (wpAny_pure (hQ _ he')))
/-- the pairs gathered so far -/
structure AccEn (items acc : Array Value) (i : Nat) (h : Heap) (n0 : Nat) : Prop where
  sz : acc.size = i
  at_ : ∀ j : Nat, j < i → ∃ (p : Addr) (tk : Nat) (x : Value), acc[j]? = some (.ref p) ∧ items[j]? = some x ∧ n0 ≤ p ∧ h.get? p = some { cls := .type "tuple", data := .seq #[.int j tk, x] }
theorem AccEn.to {items acc : Array Value} {i n0 : Nat} {h h' : Heap} (a : AccEn items acc i h n0) (k : ∀ b o, n0 ≤ b → h.get? b = some o → h'.get? b = some o) : AccEn items acc i h' n0 := ⟨a.sz, fun j hj => by
  obtain ⟨p, tk, x, h1, h2, h3, h4⟩ := a.at_ j hj
  exact ⟨p, tk, x, h1, h2, h3, k _ _ h3 h4⟩⟩
theorem AccEn.push {items acc : Array Value} {i n0 : Nat} {h : Heap} {p : Addr} {tk : Nat} {x : Value} (a : AccEn items acc i h n0) (hx : items[i]? = some x) (hp : n0 ≤ p) (ht : h.get? p = some { cls := .type "tuple", data := .seq #[.int i tk, x] }) : AccEn items (acc.push (.ref p)) (i + 1) h n0 := ⟨by rw [Array.size_push, a.sz], fun j hj => by
  by_cases c : j < i
  · obtain ⟨p', tk', x', h1, h2, h3, h4⟩ := a.at_ j c
    exact ⟨p', tk', x', by rw [Array.getElem?_push_lt (by rw [a.sz]; exact c), ← Array.getElem?_eq_getElem]; exact h1, h2, h3, h4⟩
  · have e : j = i := by omega
    subst e
    exact ⟨p, tk, x, by rw [← a.sz, Array.getElem?_push_size], hx, hp, ht⟩⟩
theorem en_loop {e it l S : Addr} {items : Array Value} {R : Result → Shared → Prop} {n0 : Nat} (hh : A.handled = none) (hn : items.size ≤ sizeLine) (res : Value) (hSl : S < n0) (hel : e < n0) (hil : it < n0) (nS : S ≠ e ∧ S ≠ it ∧ l ≠ S) :
    ∀ (k i : Nat) (s : Shared) (acc : Array Value) (c : Nat), items.size - i = k → i ≤ items.size → EnSt e it l items i s.heap → n0 ≤ s.heap.objs.size → s.heap.get? S = some { cls := .type "list", dict := none, data := .seq acc c, slots := #[] } → AccEn items acc i s.heap n0 →
    (∀ h' tk acc' c', (∀ b o, b ≠ e → b ≠ it → b ≠ S → s.heap.get? b = some o → h'.get? b = some o) → h'.get? S = some { cls := .type "list", dict := none, data := .seq acc' c', slots := #[] } → AccEn items acc' items.size h' n0 → R (.ok (.ret res)) { s with heap := h', toks := tk }) →
    codeAny (model prog w) A (.builtin "list.extend.loop" ⟨[.ref S, .ref e, res], []⟩) R s := by
  intro k
  induction k with
  | zero =>
    intro i s acc c hk hi st hz hS ha hR
    have ei : i = items.size := by omega
    subst ei
    refine codeAny_builtin F.entry_extend_loop ?_
    rw [Around.under_plainId F.plain_extend_loop _]
    show wpAny _ A.in1 (pyNext (.ref e) >>= _) _ _ s
    refine wpAny_bind (en_end hh st fun h' x => wpAny_pure ?_)
    exact hR h' s.toks acc c (fun b o _ n2 _ y => x b o n2 y) (x _ _ nS.2.1 hS) (ha.to fun b o n y => x b o (Nat.ne_of_gt (Nat.lt_of_lt_of_le hil n)) y)
  | succ k ih =>
    intro i s acc c hk hi st hz hS ha hR
    have lt : i < items.size := by omega
    refine codeAny_builtin F.entry_extend_loop ?_
    rw [Around.under_plainId F.plain_extend_loop _]
    show wpAny _ A.in1 (pyNext (.ref e) >>= _) _ _ s
    obtain ⟨x, hx⟩ : ∃ x, items[i]? = some x := ⟨items[i], by simp [lt]⟩
    refine wpAny_bind (en_next st hx fun h1 st1 t1 sz1 k1 => ?_)
    have hS1 := k1 S _ nS.1 nS.2.1 hS
    show wpAny _ A.in1 (updateSeq S (·.push (.ref s.heap.objs.size)) >>= _) _ _ _
    refine wpAny_bind ?_
    refine wpAny_updateSeq hS1 rfl (wpAny_pure ⟨plainId_quiet F.plain_extend_loop _, ih (i + 1) _ (acc.push (.ref s.heap.objs.size)) _ (by omega) lt ?_ ?_ (Heap.get?_update_self _ hS1 rfl) ?_ fun h' tk acc' c' kk hS' ha' => ?_⟩) (by rw [ha.sz]; omega) (by show (acc.push (.ref s.heap.objs.size)).size ≤ sizeLine + 1; rw [Array.size_push, ha.sz]; omega)
    · exact st1.put hS1 rfl nS.2.2 fun b o n y => (Heap.get?_update_other _ _ (Ne.symm n)).trans y
    · show n0 ≤ (h1.update S _).objs.size
      rw [Heap.size_update, sz1]; omega
    · refine ((ha.to fun b o n y => ?_).push hx hz t1).to fun b o n y => (Heap.get?_update_other _ _ (Nat.ne_of_lt (Nat.lt_of_lt_of_le hSl n))).trans y
      exact k1 b o (Nat.ne_of_gt (Nat.lt_of_lt_of_le hel n)) (Nat.ne_of_gt (Nat.lt_of_lt_of_le hil n)) y
    · exact hR h' tk acc' c' (fun b o n1 n2 n3 y => kk b o n1 n2 n3 ((Heap.get?_update_other _ _ (Ne.symm n3)).trans (k1 b o n1 n2 y))) hS' ha'
theorem en_extend {e it l S : Addr} {items : Array Value} {R : Result → Shared → Prop} (hh : A.handled = none) (hn : items.size ≤ sizeLine) (res : Value) (c : Nat) (he : IsEnum s.heap e it 0 .none) (st : EnSt e it l items 0 s.heap) (hS : s.heap.get? S = some { cls := .type "list", data := .seq #[] c }) (nl : l ≠ S)
    (hR : ∀ h' tk acc' c', (∀ b o, b ≠ e → b ≠ it → b ≠ S → s.heap.get? b = some o → h'.get? b = some o) → h'.get? S = some { cls := .type "list", dict := none, data := .seq acc' c', slots := #[] } → AccEn items acc' items.size h' s.heap.objs.size → R (.ok (.ret res)) { s with heap := h', toks := tk }) :
    wpAny (model prog w) A.in1 (Builtin.List.listExtendWith (.ref S) (.ref e) res) (fun fin s' => match fin with | .done f => R (.ok f) s' | .again c' => c'.quiet = true ∧ codeAny (model prog w) A c' R s') (fun e s' => R (.error e) s') s := by
  have ty : s.TypeIs (.ref e) "enumerate" := ⟨_, he, rfl⟩
  obtain ⟨oi, hoi, hci, _⟩ := id st.sit
  have nS : S ≠ e ∧ S ≠ it ∧ l ≠ S := by
    refine ⟨fun q => ?_, fun q => ?_, nl⟩
    · have y := he.symm.trans (q ▸ hS)
      exact absurd (Value.type.inj (congrArg Obj.cls (Option.some.inj y))) (by decide)
    · rw [q, hoi] at hS
      cases hS
      have c2 : ("list" : String) = "list_iterator" := Value.type.inj hci
      exact absurd c2 (by decide)
  unfold Builtin.List.listExtendWith
  refine wpAny_bind (wpAny_typeOf ty ?_)
  have d1 : Builtin.List.listSameRef (.ref S) (.ref e) = false := by simp [Builtin.List.listSameRef, nS.1]
  have d2 : (Value.type "enumerate" == Value.type "list") = false := by decide
  have d3 : (Value.type "enumerate" == Value.type "tuple") = false := by decide
  simp only [d1, d2, d3, Bool.or_false, Bool.false_eq_true, if_false]
  refine wpAny_bind (wpAny_pyIter_enum he (wpAny_bind (wpAny_holding ?_)))
  unfold Builtin.List.listLengthHint
  refine wpAny_bind (wpAny_specialOf ty F.en_len ?_)
  show wpAny _ A.in1 (specialOf (Value.ref e) (Str.ofString "__length_hint__") >>= _) _ _ s
  refine wpAny_bind (wpAny_specialOf ty F.en_hint (wpAny_pure ?_))
  show wpAny _ A.in1 (rule "list.extend.makes-room" >>= fun _ => Builtin.List.listTouch (.ref S) >>= fun _ => again (.builtin "list.extend.loop" ⟨[.ref S, .ref e, res], []⟩)) _ _ s
  refine wpAny_bind (wpAny_rule (wpAny_bind ?_))
  show wpAny _ A.in1 (updateSeq S (·.push .none) >>= fun _ => updateSeq S (·.pop)) _ _ s
  refine wpAny_bind (wpAny_updateSeq hS rfl ?_)
  have h2 := Heap.get?_update_self (Obj.mapSeq (·.push Value.none)) hS rfl
  refine wpAny_updateSeq (hz := by seq_fits) h2 rfl ?_
  have h3 := Heap.get?_update_self (Obj.mapSeq (·.pop)) h2 rfl
  have ot : ∀ b o, b ≠ S → s.heap.get? b = some o → ((s.heap.update S (Obj.mapSeq (·.push Value.none))).update S (Obj.mapSeq (·.pop))).get? b = some o := fun b o n y =>
    (Heap.get?_update_other _ _ (Ne.symm n)).trans ((Heap.get?_update_other _ _ (Ne.symm n)).trans y)
  have hz : ((s.heap.update S (Obj.mapSeq (·.push Value.none))).update S (Obj.mapSeq (·.pop))).objs.size = s.heap.objs.size := by rw [Heap.size_update, Heap.size_update]
  refine wpAny_pure ⟨plainId_quiet F.plain_extend_loop _, en_loop (n0 := s.heap.objs.size) hh hn res (Heap.lt_size hS) (Heap.lt_size he) (Heap.lt_size hoi) nS items.size 0 _ #[] _ rfl (Nat.zero_le _) (st.put hS rfl nl ot) (Nat.le_of_eq hz.symm) h3 ⟨rfl, fun j hj => absurd hj (Nat.not_lt_zero j)⟩ fun h' tk acc' c' kk hS' ha => ?_⟩
  exact hR h' tk acc' c' (fun b o n1 n2 n3 y => kk b o n1 n2 n3 (ot b o n3 y)) hS' ha
theorem en_init {e it l S : Addr} {items : Array Value} {R : Result → Shared → Prop} (hh : A.handled = none) (hn : items.size ≤ sizeLine) (he : IsEnum s.heap e it 0 .none) (st : EnSt e it l items 0 s.heap) (hS : s.heap.get? S = some { cls := .type "list", data := .seq #[] }) (nl : l ≠ S)
    (hR : ∀ h' tk acc' c', (∀ b o, b ≠ e → b ≠ it → b ≠ S → s.heap.get? b = some o → h'.get? b = some o) → h'.get? S = some { cls := .type "list", dict := none, data := .seq acc' c', slots := #[] } → AccEn items acc' items.size h' s.heap.objs.size → R (.ok (.ret .none)) { s with heap := h', toks := tk }) :
    wpAny (model prog w) A.in1 (Builtin.«list.__init__» ⟨[.ref S, .ref e], []⟩) (fun fin s' => match fin with | .done f => R (.ok f) s' | .again c' => c'.quiet = true ∧ codeAny (model prog w) A c' R s') (fun e s' => R (.error e) s') s := by
  show wpAny _ A.in1 (do let old ← Builtin.List.listItems (.ref S); Builtin.List.listUpdate (.ref S) (fun _ => #[]); letGo old.toList.reverse; Builtin.List.listExtendWith (.ref S) (.ref e) .none) _ _ s
  refine wpAny_bind ?_
  unfold Builtin.List.listItems
  refine wpAny_bind (wpAny_seqItems hS rfl (wpAny_pure ?_))
  show wpAny _ A.in1 (updateSeq S (fun _ => #[]) >>= fun _ => letGo (#[] : Array Value).toList.reverse >>= fun _ => Builtin.List.listExtendWith (.ref S) (.ref e) .none) _ _ s
  refine wpAny_bind (wpAny_updateSeq hS rfl (wpAny_bind (wpAny_letGo ?_)))
  have h2 := Heap.get?_update_self (Obj.mapSeq (fun _ => (#[] : Array Value))) hS rfl
  have ot : ∀ b o, b ≠ S → s.heap.get? b = some o → (s.heap.update S (Obj.mapSeq (fun _ => (#[] : Array Value)))).get? b = some o := fun b o n y => (Heap.get?_update_other _ _ (Ne.symm n)).trans y
  have st2 := st.put hS rfl nl ot
  have ne : e ≠ S := fun q => by
    have y := he.symm.trans (q ▸ hS)
    exact absurd (Value.type.inj (congrArg Obj.cls (Option.some.inj y))) (by decide)
  refine en_extend hh hn .none _ (ot e _ ne he) st2 h2 nl fun h' tk acc' c' kk hS' ha => hR h' tk acc' c' (fun b o n1 n2 n3 y => kk b o n1 n2 n3 (ot b o n3 y)) hS' ?_
  have ez : (s.heap.update S (Obj.mapSeq fun _ => (#[] : Array Value))).objs.size = s.heap.objs.size := Heap.size_update ..
  have ha2 : AccEn items acc' items.size h' (s.heap.update S (Obj.mapSeq fun _ => (#[] : Array Value))).objs.size := ha
  rw [ez] at ha2; exact ha2
theorem call_listEn {e it l : Addr} {items : Array Value} {Q : Value → Shared → Prop} (hh : A.handled = none) (hn : items.size ≤ sizeLine) (he : IsEnum s.heap e it 0 .none) (st : EnSt e it l items 0 s.heap)
    (hQ : ∀ h' tk acc' c', (∀ b o, b ≠ e → b ≠ it → s.heap.get? b = some o → h'.get? b = some o) → h'.get? s.heap.objs.size = some { cls := .type "list", dict := none, data := .seq acc' c', slots := #[] } → AccEn items acc' items.size h' (s.heap.objs.size + 1) → Q (.ref s.heap.objs.size) { s with heap := h', toks := tk }) :
    wpAny (model prog w) A (call (.type "list") [.ref e]) Q E s := by
  refine callType_codes (Q₁ := fun obj s1 => obj = .ref s.heap.objs.size ∧ s1 = { s with heap := s.heap.push { cls := .type "list", data := .seq #[] } }) F.called_list (F.typeCall_list_1 _) F.entry_list_init (code_list_new _ ⟨rfl, rfl⟩) fun obj s1 h1 => ?_
  obtain ⟨rfl, rfl⟩ := h1
  have hS : (s.heap.push { cls := .type "list", data := .seq #[] }).get? s.heap.objs.size = some { cls := .type "list", data := .seq #[] } := Heap.get?_push_size _ rfl
  have hk : ∀ b o, s.heap.get? b = some o → (s.heap.push { cls := .type "list", data := .seq #[] }).get? b = some o := fun b o y => Heap.get?_push_of_some _ y
  have st2 : EnSt e it l items 0 (s.heap.push { cls := .type "list", data := .seq #[] }) := by
    obtain ⟨⟨g, b, z, h1, hg⟩, hi, hl, ne⟩ := st
    refine ⟨⟨g, b, z, hk _ _ h1, ?_⟩, hi.at fun o y => hk _ _ y, hl.at fun o y => hk _ _ y, ne⟩
    rcases hg with hg | ⟨a, o, x1, x2, x3, x4, x5⟩
    · exact .inl hg
    · exact .inr ⟨a, o, x1, hk _ _ x2, x3, x4, x5⟩
  have nl : l ≠ s.heap.objs.size := by
    obtain ⟨o, ho, _⟩ := st.sli
    exact Nat.ne_of_lt (Heap.lt_size ho)
  refine ⟨⟨_, hS, rfl⟩, F.args_list_init_2 _ _, en_init (A := A.in1) hh hn (hk _ _ he) st2 hS nl fun h' tk acc' c' kk hS' ha => ⟨rfl, ?_⟩⟩
  have ez : (s.heap.push { cls := .type "list", data := .seq #[] }).objs.size = s.heap.objs.size + 1 := Heap.size_push ..
  have ha2 : AccEn items acc' items.size h' (s.heap.push { cls := .type "list", data := .seq #[] }).objs.size := ha
  rw [ez] at ha2
  exact hQ h' tk acc' c' (fun b o n1 n2 y => kk b o n1 n2 (Nat.ne_of_lt (Heap.lt_size y)) (hk _ _ y)) hS' ha2
end
/-! ### several new objects at once -/
section
variable {P : Program} {w : World} {fs ex : List Addr} {H H' : Hp} {h h' : Heap}
structure Many (H H' : Hp) (h : Heap) : Prop where
  old : ∀ b, b < h.objs.size → H' b = H b
theorem Many.ext (m : Many H H' h) (x : HOk P w H h) : Same H H' := fun b o e => by rw [m.old b (x.lt e)]; exact e
theorem Many.hok (m : Many H H' h) (x : HOk P w H h) (k : ∀ b u, h.get? b = some u → h'.get? b = some u) (new : ∀ b o, h.objs.size ≤ b → H' b = some o → ObjOk P w H' h' b o) : HOk P w H' h' := fun b u e => by
  by_cases c : b < h.objs.size
  · rw [m.old b c] at e
    exact (x b u e).stay (fun c v _ q => k c v q) (fun c q => m.ext x _ _ q) fun c xs q => m.ext x _ _ q
  · exact new b u (Nat.le_of_not_lt c) e
theorem Many.un (m : Many H H' h) (x : HOk P w H h) (k : ∀ b u, h.get? b = some u → h'.get? b = some u) : Un fs ex H H' h h' where
  keep := fun b u q _ _ _ => k b u q
  slot := fun b u q _ _ _ => ⟨u.slots, k b u q⟩
  free := fun b u q n _ => by rw [m.old b (Heap.lt_size q)]; exact n
  there := fun b u q _ => ⟨u, k b u q⟩
  tups := fun b xs q => m.ext x _ _ q
  frzs := fun b u xs q => m.ext x _ _ q
  tbls := fun b ps q => ⟨#[], by rw [m.ext x _ _ q]; simp⟩
end
open Classical in
/-- the heap with a new list at D of new pairs at ts -/
noncomputable def enH (H : Hp) (n : Nat) (D : Addr) (ts : List Addr) (f : Nat → V) : Hp := fun b =>
  if b < n then H b else if b = D then some (.lst (ts.map V.ref)) else if q : ∃ j : Nat, ts[j]? = some b then some (.tup [.int ((Classical.choose q : Nat) : Int), f (Classical.choose q)]) else none
theorem enrefs_of : ∀ vs : List Value, (∀ v ∈ vs, ∃ p, v = .ref p) → ∃ ts : List Addr, vs = ts.map Value.ref
  | [], _ => ⟨[], rfl⟩
  | v :: vs, h => by
    obtain ⟨p, rfl⟩ := h v List.mem_cons_self
    obtain ⟨ts, e⟩ := enrefs_of vs fun u hu => h u (List.mem_cons_of_mem _ hu)
    exact ⟨p :: ts, by rw [e]; rfl⟩
theorem envals_refs : ∀ ts : List Addr, Vals (ts.map V.ref) (ts.map Value.ref)
  | [] => .nil
  | p :: ts => .cons rfl (envals_refs ts)
theorem enH_at {H : Hp} {n : Nat} {D : Addr} {ts : List Addr} {f : Nat → V} {j : Nat} {b : Addr} (e : ts[j]? = some b) (hb : n ≤ b) (hD : b ≠ D) (one : ∀ i, ts[i]? = some b → i = j) : enH H n D ts f b = some (.tup [.int ((j : Nat) : Int), f j]) := by
  unfold enH
  rw [if_neg (Nat.not_lt.mpr hb), if_neg hD, dif_pos ⟨j, e⟩]
  have z := one _ (Classical.choose_spec (⟨j, e⟩ : ∃ j : Nat, ts[j]? = some b))
  rw [z]
def tLstEn (K : PySem.W.Frag) (ta : TA) : TE := fun σ H Q => ta σ H fun vs H1 => ∃ a xs, vs = [.ref a] ∧ SqL K H1 a xs ∧ ∀ (D : Addr) (ts : List Addr) (H' : Hp), Same H1 H' → H1 D = none → H' D = some (.lst (ts.map V.ref)) → ts.length = xs.length →
  (∀ (i : Nat) (p : Addr) (x : V), ts[i]? = some p → xs[i]? = some x → H' p = some (.tup [.int ((i : Nat) : Int), x])) → Q (.ref D) H'
theorem pe_listEn {X : Cx} {e : Expr} {ta : TA} {p p2 pos pos2 : Pos} (hc : X.calm = true) (hg : Gl X "list") (hm : X.mg "list" = none) (hg2 : Gl X "enumerate") (hm2 : X.mg "enumerate" = none) (ha : PA X [e] ta) (hs : starEach [e] X.env = [(false, eval e X.env)] := by rfl)
    (na : starEach [.Call (.Name "enumerate" p2) [e] [] pos2] X.env = (false, eval (.Call (.Name "enumerate" p2) [e] [] pos2) X.env) :: starEach [] X.env := by rfl) : PE X (.Call (.Name "list" p) [.Call (.Name "enumerate" p2) [e] [] pos2] [] pos) (tLstEn X.K ta) := by
  refine ⟨fun pins s σ H Q I h => ?_⟩
  refine Call_ (ld_blt I hg hm boot_list (PyProof.Rows.callWith_type1 (args_cons ?_ na) na))
  refine Call_ (ld_blt I hg2 hm2 boot_enumerate (PyProof.Rows.callWith_type1 (thn (ha.run pos2 pins s σ H _ I h) fun us s1 ⟨vs, H1, I1, r1, q1⟩ => ?_) hs rfl))
  obtain ⟨a, xs, ex, hq, q⟩ := q1
  subst ex
  cases r1 with
  | cons r rr =>
    cases rr
    cases r
    obtain ⟨its, rv, p', hz⟩ := I1.list hq
    refine call_enumerate_list p'.isList fun h1 he hit hsz hk => args_nil ?_
    have hl1 : h1.IsList a its.toArray := p'.isList.at fun o y => hk _ _ y
    have st : EnSt (s1.heap.objs.size + 1) s1.heap.objs.size a its.toArray 0 h1 := ⟨⟨_, _, _, he, .inl ⟨rfl, rfl⟩⟩, hit, hl1, Nat.succ_ne_self _⟩
    refine call_listEn (s := { s1 with heap := h1 }) (I1.ok.hd hc) (by rw [List.size_toArray, ← rv.length]; exact hz) he st fun h' tk acc' c' kk hD ha' => ?_
    have lx := rv.length
    have n1 : h1.objs.size = s1.heap.objs.size + 1 + 1 := by rw [hsz]
    obtain ⟨ts, ets⟩ := enrefs_of acc'.toList fun v hv => by
      obtain ⟨j, hj⟩ := List.getElem?_of_mem hv
      have lt := (List.getElem?_eq_some_iff.mp hj).1
      rw [Array.length_toList, ha'.sz] at lt
      obtain ⟨p, tk, x, y1, _⟩ := ha'.at_ j lt
      rw [Array.getElem?_toList, y1] at hj
      exact ⟨p, (Option.some.inj hj).symm⟩
    have lts : ts.length = its.length := by
      have z := congrArg List.length ets
      rw [Array.length_toList, ha'.sz, List.length_map, List.size_toArray] at z
      exact z.symm
    -- what stands at each pair's address
    have at_ : ∀ (j : Nat) (b : Addr), ts[j]? = some b → ∃ (tk : Nat) (x : Value), its[j]? = some x ∧ h1.objs.size + 1 ≤ b ∧ h'.get? b = some { cls := .type "tuple", data := .seq #[.int j tk, x] } := fun j b e => by
      have lt := (List.getElem?_eq_some_iff.mp e).1
      obtain ⟨p, tk, x, y1, y2, y3, y4⟩ := ha'.at_ j (by rw [List.size_toArray]; omega)
      have z : acc'.toList[j]? = some (.ref b) := by rw [ets, List.getElem?_map, e]; rfl
      rw [Array.getElem?_toList, y1] at z
      cases z
      exact ⟨tk, x, by simpa using y2, y3, y4⟩
    have one : ∀ (i j : Nat) (b : Addr), ts[i]? = some b → ts[j]? = some b → i = j := fun i j b e1 e2 => by
      obtain ⟨_, _, _, _, g1⟩ := at_ i b e1
      obtain ⟨_, _, _, _, g2⟩ := at_ j b e2
      rw [g1] at g2
      injection g2 with g2
      injection g2 with _ _ g2
      injection g2 with g2
      have g3 := congrArg (fun a => a[0]?) g2
      simp at g3
      omega
    have old : ∀ b u, s1.heap.get? b = some u → h'.get? b = some u := fun b u y => kk b u (Nat.ne_of_lt (Nat.lt_succ_of_lt (Heap.lt_size y))) (Nat.ne_of_lt (Heap.lt_size y)) (hk _ _ y)
    have m : Many H1 (enH H1 s1.heap.objs.size h1.objs.size ts fun j => xs.getD j .non) s1.heap := ⟨fun b hb => if_pos hb⟩
    have nD : ∀ (j : Nat) (b : Addr), ts[j]? = some b → b ≠ h1.objs.size ∧ s1.heap.objs.size ≤ b := fun j b e => by
      obtain ⟨_, _, _, g, _⟩ := at_ j b e
      exact ⟨Nat.ne_of_gt g, Nat.le_trans (by omega) (Nat.le_of_succ_le g)⟩
    have pair : ∀ (j : Nat) (b : Addr) (x : V), ts[j]? = some b → xs[j]? = some x → enH H1 s1.heap.objs.size h1.objs.size ts (fun j => xs.getD j .non) b = some (.tup [.int ((j : Nat) : Int), x]) := fun j b x e ex => by
      have z := enH_at (H := H1) (D := h1.objs.size) (f := fun j => xs.getD j .non) e (nD j b e).2 (nD j b e).1 fun i e1 => one i j b e1 e
      have y : xs.getD j .non = x := by rw [List.getD_eq_getElem?_getD, ex]; rfl
      rw [z, y]
    have dl : enH H1 s1.heap.objs.size h1.objs.size ts (fun j => xs.getD j .non) h1.objs.size = some (.lst (ts.map V.ref)) := by
      have n2 : ¬ (h1.objs.size : Nat) < s1.heap.objs.size := by omega
      unfold enH
      rw [if_neg n2, if_pos rfl]
    have hok := m.hok (h' := h') I1.hok old fun b o hb e => by
      unfold enH at e
      rw [if_neg (Nat.not_lt.mpr hb)] at e
      by_cases c : b = h1.objs.size
      · rw [if_pos c] at e
        cases e
        subst c
        refine ⟨by rw [List.length_map, lts, ← lx]; exact hz, acc'.toList, c', by rw [ets]; exact envals_refs ts, ?_⟩
        rw [Array.toArray_toList]; exact hD
      · rw [if_neg c] at e
        by_cases q : ∃ j : Nat, ts[j]? = some b
        · rw [dif_pos q] at e
          cases e
          have sp := Classical.choose_spec q
          obtain ⟨tk, x, g1, _, g2⟩ := at_ _ b sp
          have lt := (List.getElem?_eq_some_iff.mp sp).1
          obtain ⟨v, hv⟩ : ∃ v, xs[Classical.choose q]? = some v := ⟨_, List.getElem?_eq_getElem (by omega)⟩
          obtain ⟨u, hu, ru⟩ := rv.get hv
          rw [g1] at hu
          cases hu
          have y : xs.getD (Classical.choose q) .non = v := by rw [List.getD_eq_getElem?_getD, hv]; rfl
          dsimp only
          rw [y]
          exact ⟨by show 2 ≤ sizeLine; decide, [.int _ tk, x], .cons ⟨_, rfl⟩ (.cons ru .nil), ⟨_, g2, rfl, _, rfl⟩⟩
        · rw [dif_neg q] at e; cases e
    refine ⟨.ref h1.objs.size, _, I1.un (t' := tk) (m.un I1.hok old) hok, rfl, q _ ts _ (m.ext I1.hok) (I1.hok.fresh (by omega)) dl (lts.trans lx.symm) pair⟩
end L2

/-! Z5: sorted(a tuple of whole numbers), list.extend(a tuple). -/
namespace L2
open PySem PySem.Spec PyProof.Rows SrtO
section
variable {prog : Program} {w : World} {A : Around} {E : Value → Shared → Prop} {s : Shared}
/-- what is gathered from a tuple -/
theorem gather_tup {t : Addr} {vs : List Value} {G : List Value → Shared → Prop} (ht : IsTup s.heap t vs.toArray) (hz : vs.length ≤ sizeLine)
    (hG : G vs { s with heap := (s.heap.push (seqObj "list" #[] 0)).update s.heap.objs.size (Obj.mapSeq (· ++ vs.toArray)) }) : wpAny (model prog w) A (collect (.ref t)) G E s := by
  obtain ⟨o, ho, hc, n, hd⟩ := ht
  have op : (s.heap.push (seqObj "list" #[] 0)).get? t = some o := Heap.get?_push_of_some _ ho
  have on : (s.heap.push (seqObj "list" #[] 0)).get? s.heap.objs.size = some (seqObj "list" #[] 0) := Heap.get?_push_size _ rfl
  have ze : (#[] ++ vs.toArray : Array Value).size ≤ sizeLine + 1 := by rw [Array.size_append, List.size_toArray]; exact Nat.le_succ_of_le (by simpa using hz)
  unfold collect
  refine wpAny_bind (wpAny_runValue (codeAny_builtin entry_proto_collect' (wpAny_bind (wpAny_newList (wpAny_pure ⟨Code.quiet_builtin _ (by decide +kernel), codeAny_builtin entry_list_iadd' ?_⟩)))))
  show wpAny _ _ (Builtin.List.listExtendWith (.ref s.heap.objs.size) (.ref t) (.ref s.heap.objs.size)) _ _ ⟨s.heap.push (seqObj "list" #[] 0), _, _, _, _⟩
  unfold Builtin.List.listExtendWith
  refine wpAny_bind (wpAny_typeOf (T := "tuple") ⟨o, op, hc⟩ ?_)
  have et : (Value.type "tuple" == Value.type "tuple") = true := rfl
  rw [if_pos (by rw [et]; simp)]
  refine wpAny_bind (listItems_at op hd (wpAny_bind (listItems_at (xs := #[]) (n := 0) on rfl ?_)))
  rw [if_neg (by simp)]
  refine wpAny_bind (listUpdate_at (xs := #[]) (n := 0) on rfl (wpAny_pure ?_) (Nat.zero_le _) ze)
  show wpAny _ _ (load s.heap.objs.size >>= _) _ _ ⟨(s.heap.push (seqObj "list" #[] 0)).update s.heap.objs.size (Obj.mapSeq (· ++ vs.toArray)), _, _, _, _⟩
  refine wpAny_bind (wpAny_load (get?_update_seq on _) ?_)
  show wpAny _ _ (pure (#[] ++ vs.toArray : Array Value).toList) _ _ _
  have ev : (#[] ++ vs.toArray : Array Value).toList = vs := by simp
  rw [ev]
  exact wpAny_pure hG
/-- sorted(a tuple) -/
theorem sorted_tup {t : Addr} {vs : List Value} {lt : Value → Value → Bool} {G : Value → Shared → Prop} (O : Swo lt) (ht : IsTup s.heap t vs.toArray) (hz : vs.length ≤ sizeLine)
    (hS : 2 ≤ vs.length → ∀ (g : Heap) (a : Addr), SortableO prog w A.in1.in1 { s with heap := g } a vs lt)
    (hG : ∀ out : List Value, Srtd lt out → Stb lt out vs → G (.ref (s.heap.objs.size + 1)) { s with heap := sortedAll s.heap vs out.toArray }) : wpAny (model prog w) A (call (.builtin "sorted") [.ref t]) G E s := by
  refine Calls.call_function_entry kind_sorted plain_sorted entry_sorted (args_sorted1 _) ?_
  unfold Builtin.«sorted»
  refine wpAny_bind (m := checkCount "sorted" 1 1 _) (wpAny_pure (wpAny_bind (gather_tup ht hz (wpAny_bind (wpAny_newList ?_ hz)))))
  have sz : ((s.heap.push (seqObj "list" #[] 0)).update s.heap.objs.size (Obj.mapSeq (· ++ vs.toArray))).objs.size = s.heap.objs.size + 1 := by rw [Heap.size_update, size_push']
  have at1 : (((s.heap.push (seqObj "list" #[] 0)).update s.heap.objs.size (Obj.mapSeq (· ++ vs.toArray))).push (seqObj "list" vs.toArray 0)).get? (s.heap.objs.size + 1) = some (seqObj "list" vs.toArray 0) := sz ▸ Heap.get?_push_size _ rfl
  show wpAny _ _ _ _ _ ⟨((s.heap.push (seqObj "list" #[] 0)).update s.heap.objs.size (Obj.mapSeq (· ++ vs.toArray))).push (seqObj "list" vs.toArray 0), _, _, _, _⟩
  rw [sz]
  refine wpAny_bind (wpAny_holding (wpAny_call_entry slot_list_sort ⟨_, at1, rfl⟩ entry_list_sort (list_sort_ord O at1 hz (fun h2 => hS h2 _ _) fun out k1 k2 => ⟨_, rfl, wpAny_pure ⟨_, rfl, hG out k1 k2⟩⟩) (args_list_sort _)))
end
/-- sorted(t), t a tuple of whole numbers -/
def rSortedTup (K : PySem.W.Frag) : List V → Hp → VK → Prop := fun vs H Q => ∃ (a : Addr) (ns : List Int), vs = [V.ref a] ∧ SqT K H a (ns.map V.int) ∧
  ∀ (ms : List Int) (p : Addr), ms.Perm ns → ms.Pairwise (· ≤ ·) → H p = none → Q (.ref p) (upd H p (.lst (ms.map V.int)))
/-- xs.extend(t), t a tuple -/
def rExtendT (K : PySem.W.Frag) : V → List V → Hp → VK → Prop := fun x vs H Q => ∃ l b xs zs, x = .ref l ∧ vs = [.ref b] ∧ H l = some (.lst xs) ∧ SqT K H b zs ∧ xs.length + zs.length ≤ sizeLine ∧ Q .non (upd H l (.lst (xs ++ zs)))
section
variable {X : Cx}
theorem cr_sortedTup : CallR X (.builtin "sorted") (rSortedTup X.K) := by
  intro pins s σ H vs us Q I r h
  obtain ⟨a, ns, rfl, hs, q⟩ := h
  obtain ⟨its, rv, pl, hz⟩ := I.tuple hs
  rw [Vals.ref1 r]
  have hi := rv.ints
  rw [rv.length] at hz
  refine sorted_tup swo_int pl hz (fun h2 g a' => ints_sortable hi h2) fun out k1 k2 => ?_
  obtain ⟨j1, j2, j3⟩ := ints_out hi k1 k2
  obtain ⟨e, he⟩ := sortedAll_at s.heap its out.toArray
  have hl : ((out.map iv).map V.int).length ≤ sizeLine := by
    have z := j2.length_eq
    have y := rv.length
    rw [List.length_map] at y ⊢
    omega
  exact ⟨.ref _, _, I.laid (t' := s.toks) (o := .lst ((out.map iv).map V.int)) (fun _ _ => sortedAll_old) (Nat.le_succ _) ⟨hl, out, e, vals_of_ints j1, he⟩, rfl, q _ _ j2 j3 (I.hok.fresh (Nat.le_succ _))⟩
theorem mt_extendT : MtM X "list.extend" (rExtendT X.K) := by
  intro pins s σ H x vs v us Q I rx rv h
  obtain ⟨l, b, xs, zs, rfl, rfl, hH, hB, hz, q⟩ := h
  cases rx
  obtain ⟨u, rfl, ru⟩ := rv.one
  cases ru
  obtain ⟨z, its, n, r, hl, e⟩ := I.lstM hH
  obtain ⟨its2, r2, pl, z2⟩ := I.tuple hB
  obtain ⟨o, ho, hc, n2, hd⟩ := pl
  have l2 := r2.length
  have zs2 : its.toArray.size + its2.toArray.size ≤ sizeLine := by rw [List.size_toArray, List.size_toArray]; omega
  refine wpAny_call_entry F.slot_list_extend ⟨_, e, rfl⟩ F.entry_list_extend ?_ (F.args_list_extend_2 _ _)
  show wpAny _ _ (Builtin.List.listExtendWith (.ref l) (.ref b) .none) _ _ s
  unfold Builtin.List.listExtendWith
  refine wpAny_bind (wpAny_typeOf (T := "tuple") ⟨o, ho, hc⟩ ?_)
  have et : (Value.type "tuple" == Value.type "tuple") = true := rfl
  rw [if_pos (by rw [et]; simp)]
  refine wpAny_bind (listItems_at ho hd (wpAny_bind (listItems_at e rfl ?_)))
  rw [if_neg (by rw [notLongL zs2, Bool.and_false]; exact Bool.false_ne_true)]
  refine wpAny_bind (listUpdate_at e rfl (wpAny_pure ?_) (by omega) (by rw [Array.size_append]; omega))
  refine ⟨_, rfl, .non, _, I.lset (its' := its ++ its2) hH e (by simp) (r.append r2) ?_, rfl, q⟩
  rw [List.length_append]
  omega
end
theorem pi_tupK {X : Cx} (K : PySem.W.Frag) {tg l : Expr} {tl : TE} (hl : PE X l tl) (e : X.K = K := by rfl) : PI X tg l (iTup K tl) := by subst e; exact pi_tup hl
theorem pi_listK {X : Cx} (K : PySem.W.Frag) {tg l : Expr} {tl : TE} (hl : PE X l tl) (e : X.K = K := by rfl) : PI X tg l (iList K tl) := by subst e; exact pi_list hl
end L2

/-! Z6: d.get(y), y None or a whole number or a text, over a dict whose keys are numbers and texts. -/
namespace L2
open PySem PySem.Spec PyProof.Rows
section
variable {X : Cx}
theorem leaf_keys {P : Program} {w : World} {es : Array DictEntry} (h : KeysOf (mixKind P w) es) : KeysOf (leafKind P w) es := fun e he => by
  obtain ⟨k, k1, k2⟩ := h e he
  rcases keyIs_shape k1 with ⟨i, t, rfl, ek⟩ | ⟨x, t, rfl, ek⟩
  · refine ⟨.num i, ?_, k2⟩
    rw [ek]
    exact decide_eq_true rfl
  · refine ⟨.text x, ?_, k2⟩
    rw [ek]
    exact keyIs_str x t
theorem no_none {P : Program} {w : World} {es : Array DictEntry} (h : KeysOf (mixKind P w) es) : findBy (leafKind P w).is es .none = none := by
  unfold findBy
  have z : es.find? (fun e => (leafKind P w).is .none e.key) = none := by
    rw [Array.find?_eq_none]
    intro e he
    obtain ⟨k, k1, _⟩ := h e he
    rcases keyIs_shape k1 with ⟨i, t, _, ek⟩ | ⟨x, t, _, ek⟩
    · rw [ek]; exact Bool.false_ne_true
    · rw [ek]; exact Bool.false_ne_true
  rw [z]; rfl
theorem get_non {pins : List (Addr × Obj)} {σ : St} {H : Hp} {s : Shared} {A : Around} {E : Value → Shared → Prop} {a : Addr} {kvs : List (Key × V)} {Q : Value → Shared → Prop} (I : Inv X pins σ H s) (e : Rd H a (.dK kvs)) (h : ∀ s', Inv X pins σ H s' → Q .none s') :
    wpAny (model X.prog X.w) A (call (.builtin "dict.get") [.ref a, .none]) Q E s := by
  obtain ⟨z, hd, vs, rel, dd⟩ := dk_rd I.hok e
  obtain ⟨o, es, ep, h1, h2, h3, h4, _⟩ := id dd
  have m : s.heap.MapOf (leafKind X.prog X.w) a (findBy (leafKind X.prog X.w).is es) := ⟨o, es, ep, h1, h2, h3, leaf_keys h4, fun _ => rfl⟩
  refine call_meetsIn PySem.F.slot_dict_get dd.typeIs PySem.F.entry_dict_get (PySem.F.args_dict_get_2 _ _) (meets_dict_get (leafKind X.prog X.w) (k := .none) (key := .none) a rfl hd) ⟨_, m, ?_⟩
  rw [no_none h4]
  exact h _ (I.tok _)
/-- d.get(y): a number's or a text's place, or None -/
def tDGetO (td ty : TE) : TE := fun σ H Q => td σ H fun x H1 => ∃ a, x = .ref a ∧ IsD H1 a ∧ ty σ H1 fun y H2 => (y = .non ∧ (∃ kvs, H2 a = some (.dK kvs)) ∧ Q .non H2) ∨ ∃ o, DGet H2 a y o ∧ Q (o.getD .non) H2
theorem pe_dgetO {o e : Expr} {apos cpos : Pos} {td ty : TE} (hu : X.A.units + 1 < cLine) (ho : PE X o td) (he : PE X e ty) (m : M1 X o "get" apos e cpos) : PE X (.Call (.Attribute o "get" apos) [e] [] cpos) (tDGetO td ty) := by
  refine ⟨fun pins s σ H Q I h => ?_⟩
  refine wpAny_Call_method m.base m.few m.line PySem.F.plainAttrs_dict PySem.F.slot_dict_get PySem.F.type_dict_get (thn (ho.run pins s σ H _ I h) fun u s1 ⟨x, H1, I1, rx, a, ex, d, q1⟩ => ?_)
  subst ex
  cases (show u = Value.ref a from rx)
  obtain ⟨g1, g2, _⟩ := isD_at I1 d
  refine ⟨g1, g2, ?_⟩
  rw [m.trees]
  refine Calls.callWith_builtin rfl (Calls.evalArgs_plain (Calls.spliced_cons (thn (he.run pins s1 σ H1 _ I1 q1) fun iv s2 ⟨y, H2, I2, ry, alt⟩ => Calls.spliced_nil ?_)))
  rcases alt with ⟨rfl, ⟨kvs, ek⟩, q2⟩ | ⟨ov, g, q2⟩
  · cases (show iv = Value.none from ry)
    exact get_non I2 (.inl ek) fun s3 I3 => ⟨.non, H2, I3, rfl, q2⟩
  · exact d_get1 hu I2 g ry fun w' s3 I3 rw' => ⟨_, H2, I3, rw', q2⟩
/-- a walk that one of two rules tells -/
theorem pi_or {tg it : Expr} {a b : TI} (h : PI X tg it a) (h2 : PI X tg it b) : PI X tg it (fun σ H R => a σ H R ∨ b σ H R) := ⟨fun pins s σ H R I q => q.elim (h.run pins s σ H R I) (h2.run pins s σ H R I)⟩
/-- a value that one of two rules tells -/
theorem pe_or2 {e : Expr} {a b : TE} (h : PE X e a) (h2 : PE X e b) : PE X e (fun σ H Q => a σ H Q ∨ b σ H Q) := ⟨fun pins s σ H Q I q => q.elim (h.run pins s σ H Q I) (h2.run pins s σ H Q I)⟩
end
end L2

namespace My
open PySem PySem.Spec PyProof.Rows L2
/-! ### the row's text, the built-ins, the errors' classes -/
abbrev topS (i : Nat) : Stmt := PySem.Challenge.pw_heldbehind_k33_forests_put_together_and.main.body.getD i (.Pass ⟨0, 0, 0, 0⟩)
structure Bl (mg : Str → Option Value) : Prop where
  isinstance : mg "isinstance" = none
  int : mg "int" = none
  bool : mg "bool" = none
  tuple : mg "tuple" = none
  len : mg "len" = none
  all : mg "all" = none
  enumerate : mg "enumerate" = none
  reversed : mg "reversed" = none
  sorted : mg "sorted" = none
  max : mg "max" = none
  min : mg "min" = none
  abs : mg "abs" = none
  range : mg "range" = none
  list : mg "list" = none
  repr : mg "repr" = none
  sum : mg "sum" = none
  any : mg "any" = none
  zip : mg "zip" = none
  str : mg "str" = none
  set : mg "set" = none
  dict : mg "dict" = none
structure Ex1 (K : PySem.W.Frag) (mg : Str → Option Value) (nm : Str) (C : Addr) : Prop where
  x : PySem.W.excIn K C [.type "ValueError", .type "Exception", .type "BaseException", .type "object"] "ValueError.__new__" = true
  g : mg nm = some (.ref C)
  k : PySem.W.keepIn K (.ref C) = true
  b : PySem.W.subIn K (.ref C) (.type "BaseException") = some true
  t : PySem.W.typeIn K (.ref C) = some (.type "type")
theorem passX {X : Cx} {E : XK} (tk : Takes X (fun cls d _ H => E cls d H)) : Passes (L2.CX X.prog X.w) X E := passes_call tk (fun _ _ _ _ h => h)
/-! ### what a value is -/
def tupAt (H : Hp) : V → Option (List V)
  | .ref a => match H a with
    | some (.tup xs) => some xs
    | _ => none
  | _ => none
def isInt : V → Bool
  | .int _ => true
  | _ => false
def isBl : V → Bool
  | .bl _ => true
  | _ => false
def isIdx (n : Int) : V → Bool
  | .int i => decide (0 ≤ i) && decide (i < n)
  | _ => false
inductive Vd (H : Hp) : V → Prop where
  | non : Vd H .non
  | bl (b : Bool) : Vd H (.bl b)
  | int (i : Int) : Vd H (.int i)
  | str (z : Str) : Vd H (.str z)
  | lst {a : Addr} {xs : List V} (h : H a = some (.lst xs)) : Vd H (.ref a)
  | tup {a : Addr} {xs : List V} (h : H a = some (.tup xs)) : Vd H (.ref a)
  | dK {a : Addr} {kvs : List (Key × V)} (h : H a = some (.dK kvs)) : Vd H (.ref a)
theorem Vd.same {H H' : Hp} {x : V} (v : Vd H x) (s : Same H H') : Vd H' x := by
  cases v with
  | non => exact .non
  | bl b => exact .bl b
  | int i => exact .int i
  | str z => exact .str z
  | lst h => exact .lst (s _ _ h)
  | tup h => exact .tup (s _ _ h)
  | dK h => exact .dK (s _ _ h)
theorem tupAt_tup {H : Hp} {a : Addr} {xs : List V} (h : H a = some (.tup xs)) : tupAt H (.ref a) = some xs := by simp only [tupAt, h]
theorem tupAt_lst {H : Hp} {a : Addr} {xs : List V} (h : H a = some (.lst xs)) : tupAt H (.ref a) = none := by simp only [tupAt, h]
theorem tupAt_dK {H : Hp} {a : Addr} {xs : List (Key × V)} (h : H a = some (.dK xs)) : tupAt H (.ref a) = none := by simp only [tupAt, h]
theorem Vd.ty {K : PySem.W.Frag} {H : Hp} {x : V} (v : Vd H x) : ∃ t : String, TyX K H x (.type t) ∧ kitB t "int" = some (isInt x || isBl x) ∧ kitB t "bool" = some (isBl x) ∧ kitB t "tuple" = some (tupAt H x).isSome := by
  cases v with
  | non => exact ⟨_, .base .non, (by decide +kernel : kitB "NoneType" "int" = some false), (by decide +kernel : kitB "NoneType" "bool" = some false), (by decide +kernel : kitB "NoneType" "tuple" = some false)⟩
  | bl b => exact ⟨_, .base (.bl b), (by decide +kernel : kitB "bool" "int" = some true), (by decide +kernel : kitB "bool" "bool" = some true), (by decide +kernel : kitB "bool" "tuple" = some false)⟩
  | int i => exact ⟨_, .base (.int i), (by decide +kernel : kitB "int" "int" = some true), (by decide +kernel : kitB "int" "bool" = some false), (by decide +kernel : kitB "int" "tuple" = some false)⟩
  | str z => exact ⟨_, .base (.str z), (by decide +kernel : kitB "str" "int" = some false), (by decide +kernel : kitB "str" "bool" = some false), (by decide +kernel : kitB "str" "tuple" = some false)⟩
  | lst h => exact ⟨_, .base (.lst h), (by decide +kernel : kitB "list" "int" = some false), (by decide +kernel : kitB "list" "bool" = some false), by rw [tupAt_lst h]; exact (by decide +kernel : kitB "list" "tuple" = some false)⟩
  | tup h => exact ⟨_, .base (.tup h), (by decide +kernel : kitB "tuple" "int" = some false), (by decide +kernel : kitB "tuple" "bool" = some false), by rw [tupAt_tup h]; exact (by decide +kernel : kitB "tuple" "tuple" = some true)⟩
  | dK h => exact ⟨_, .base (.dK h), (by decide +kernel : kitB "dict" "int" = some false), (by decide +kernel : kitB "dict" "bool" = some false), by rw [tupAt_dK h]; exact (by decide +kernel : kitB "dict" "tuple" = some false)⟩
/-! ### heldbehind.integers -/
def spIsInteger : Sp := fun vs H Q _ => ∃ x : V, vs = [x] ∧ Vd H x ∧ Q (.bl (isInt x)) H
def isBtw (n m : Int) : V → Bool
  | .int i => decide (n ≤ i) && decide (i ≤ m)
  | _ => false
theorem isBtw_idx (n : Int) (x : V) : isBtw 0 (n - 1) x = isIdx n x := by
  cases x with
  | int i =>
    show (decide (0 ≤ i) && decide (i ≤ n - 1)) = (decide (0 ≤ i) && decide (i < n))
    rw [show decide (i ≤ n - 1) = decide (i < n) from decide_eq_decide.mpr (by omega)]
  | _ => rfl
def spIsBetween : Sp := fun vs H Q _ => ∃ (x : V) (n m : Int), vs = [x, .int n, .int m] ∧ Vd H x ∧ Q (.bl (isBtw n m x)) H
def spIsIndex : Sp := fun vs H Q _ => ∃ (x : V) (n : Int), vs = [x, .int n] ∧ Vd H x ∧ Q (.bl (isIdx n x)) H
section
variable {P : Program} {w : World} {K : PySem.W.Frag} {mg : Str → Option Value} {base : Heap}
abbrev st_is_integer : Stmt := topS 6
abbrev N_is_integer : List Str := ["value"]
theorem sc_is_integer : FnScope N_is_integer ["value"] (defScope st_is_integer) := ⟨rfl, rfl, rfl, by decide +kernel, rfl, by decide +kernel, by decide +kernel⟩
theorem ok_is_integer (D : Df K mg "is_integer" st_is_integer ["value"]) (B : Bl mg) : Kn P w K mg base CX0 1 "is_integer" st_is_integer ["value"] spIsInteger := by
  refine D.ok sc_is_integer (fun vs H Q E h => ?_) (fun f cdv A outer s H vs Q E hr h => ?_)
  · obtain ⟨x, rfl, _⟩ := h; rfl
  obtain ⟨x, rfl, v, q⟩ := h
  refine ⟨_, ((pss_one (ps_ret (pe_and (pe_callB call_isi (by rfl) B.isinstance (by decide +kernel) (pa_cons (pv 0) (pa_cons (pe_bltn (v := .ty "int") (u := .type "int") (by rfl) B.int (by decide +kernel) rfl) pa_nil))) (pe_one (pe_not (pe_callB call_isi (by rfl) B.isinstance (by decide +kernel) (pa_cons (pv 0) (pa_cons (pe_bltn (v := .ty "bool") (u := .type "bool") (by rfl) B.bool (by decide +kernel) rfl) pa_nil))))))))), ?_⟩
  obtain ⟨t, ty, k1, k2, _⟩ := v.ty (K := K)
  refine ⟨_, rfl, _, _, _, _, _, rfl, .ty _, ty, kit_ty k1, _, rfl, ?_⟩
  cases e1 : isInt x with
  | true =>
    have e2 : isBl x = false := by cases x <;> first | rfl | cases e1
    rw [e2] at k2 ⊢
    refine iteT ⟨_, rfl, _, _, _, _, _, rfl, .ty _, ty, kit_ty k2, _, rfl, ?_⟩
    rw [e1] at q; exact q
  | false =>
    rw [e1] at q
    cases e2 : isBl x with
    | false => exact iteF q
    | true =>
      rw [e2] at k2
      exact iteT ⟨_, rfl, _, _, _, _, _, rfl, .ty _, ty, kit_ty k2, _, rfl, q⟩
abbrev st_is_between : Stmt := topS 7
abbrev N_is_between : List Str := ["value", "least", "greatest"]
theorem sc_is_between : FnScope N_is_between ["value", "least", "greatest"] (defScope st_is_between) := ⟨rfl, rfl, rfl, by decide +kernel, rfl, by decide +kernel, by decide +kernel⟩
theorem ok_is_between (D : Df K mg "is_between" st_is_between ["value", "least", "greatest"]) (B : Bl mg) (Kis_integer : Kn P w K mg base CX0 1 "is_integer" st_is_integer ["value"] spIsInteger) :
    Kn P w K mg base CX0 2 "is_between" st_is_between ["value", "least", "greatest"] spIsBetween := by
  refine D.ok sc_is_between (fun vs H Q E h => ?_) (fun f cdv A outer s H vs Q E hr h => ?_)
  · obtain ⟨x, n, m, rfl, _⟩ := h; rfl
  obtain ⟨x, n, m, rfl, v, q⟩ := h
  refine ⟨_, ((pss_one (ps_ret (pe_and (pe_callF Kis_integer (hr.mono (by decide)) pass0 (pa_cons (pv 0) pa_nil)) (pe_one (pe_chain op_le op_le (pv 1) (pv 0) (pv 2))))))), ?_⟩
  refine ⟨_, rfl, _, rfl, v, _, rfl, ?_⟩
  cases x with
  | int i =>
    refine iteT ⟨_, rfl, _, rfl, _, _, rfl, rfl, _, rfl, ?_⟩
    have q' : Q (.bl (decide (n ≤ i) && decide (i ≤ m))) H := q
    refine ite2 (fun c => ?_) (fun c => ?_)
    · rw [c, Bool.true_and] at q'
      exact ⟨_, rfl, _, _, rfl, rfl, q'⟩
    · rw [Bool.eq_false_iff.mpr c, Bool.false_and] at q'
      exact q'
  | _ => exact iteF q
abbrev st_is_index : Stmt := topS 8
abbrev N_is_index : List Str := ["value", "many"]
theorem sc_is_index : FnScope N_is_index ["value", "many"] (defScope st_is_index) := ⟨rfl, rfl, rfl, by decide +kernel, rfl, by decide +kernel, by decide +kernel⟩
theorem ok_is_index (D : Df K mg "is_index" st_is_index ["value", "many"]) (B : Bl mg) (Kis_between : Kn P w K mg base CX0 2 "is_between" st_is_between ["value", "least", "greatest"] spIsBetween) :
    Kn P w K mg base CX0 3 "is_index" st_is_index ["value", "many"] spIsIndex := by
  refine D.ok sc_is_index (fun vs H Q E h => ?_) (fun f cdv A outer s H vs Q E hr h => ?_)
  · obtain ⟨x, n, rfl, _⟩ := h; rfl
  obtain ⟨x, n, rfl, v, q⟩ := h
  refine ⟨_, ((pss_one (ps_ret (pe_callF Kis_between (hr.mono (by decide)) pass0 (pa_cons (pv 0) (pa_cons pe_int (pa_cons (pe_op op_sub (pv 1) pe_int) pa_nil))))))), ?_⟩
  refine ⟨_, rfl, _, rfl, _, _, rfl, rfl, x, 0, n - 1, rfl, v, ?_⟩
  rw [isBtw_idx]
  exact q
end

end My

namespace My
open PySem PySem.Spec PyProof.Rows L2
/-! ### forests as lists of holders -/
def hv : Option Nat → V
  | none => .non
  | some u => .int (u : Int)
abbrev Hs := List (Option Nat)
def nv (l : List Nat) : List V := l.map fun v : Nat => V.int (v : Int)
def kidsTo (hs : Hs) (u i : Nat) : List Nat := (List.range i).filter fun v => decide (hs[v]? = some (some u))
def rootsTo (hs : Hs) (i : Nat) : List Nat := (List.range i).filter fun v => decide (hs[v]? = some none)
def kids (hs : Hs) (u : Nat) : List Nat := kidsTo hs u hs.length
def roots (hs : Hs) : List Nat := rootsTo hs hs.length
theorem kidsTo_succ (hs : Hs) (u i : Nat) : kidsTo hs u (i + 1) = kidsTo hs u i ++ (if hs[i]? = some (some u) then [i] else []) := by
  unfold kidsTo
  rw [List.range_succ, List.filter_append]
  by_cases h : hs[i]? = some (some u) <;> simp [h]
theorem rootsTo_succ (hs : Hs) (i : Nat) : rootsTo hs (i + 1) = rootsTo hs i ++ (if hs[i]? = some none then [i] else []) := by
  unfold rootsTo
  rw [List.range_succ, List.filter_append]
  by_cases h : hs[i]? = some none <;> simp [h]
theorem mem_kids {hs : Hs} {u v : Nat} : v ∈ kids hs u ↔ hs[v]? = some (some u) := by
  unfold kids kidsTo
  rw [List.mem_filter, List.mem_range, decide_eq_true_eq]
  exact ⟨fun h => h.2, fun h => ⟨(List.getElem?_eq_some_iff.mp h).1, h⟩⟩
theorem mem_roots {hs : Hs} {v : Nat} : v ∈ roots hs ↔ hs[v]? = some none := by
  unfold roots rootsTo
  rw [List.mem_filter, List.mem_range, decide_eq_true_eq]
  exact ⟨fun h => h.2, fun h => ⟨(List.getElem?_eq_some_iff.mp h).1, h⟩⟩
theorem nodup_kids (hs : Hs) (u : Nat) : (kids hs u).Nodup := List.nodup_range.filter _
theorem nodup_roots (hs : Hs) : (roots hs).Nodup := List.nodup_range.filter _
theorem kidsTo_len (hs : Hs) (u i : Nat) : (kidsTo hs u i).length ≤ i := by
  have h := List.length_filter_le (fun v => decide (hs[v]? = some (some u))) (List.range i)
  rw [List.length_range] at h; exact h
theorem rootsTo_len (hs : Hs) (i : Nat) : (rootsTo hs i).length ≤ i := by
  have h := List.length_filter_le (fun v => decide (hs[v]? = some none)) (List.range i)
  rw [List.length_range] at h; exact h
theorem nv_append (a b : List Nat) : nv (a ++ b) = nv a ++ nv b := List.map_append
theorem nv_length (a : List Nat) : (nv a).length = a.length := List.length_map _
theorem nv_get {a : List Nat} {i v : Nat} (h : a[i]? = some v) : (nv a)[i]? = some (.int (v : Int)) := by
  unfold nv; rw [List.getElem?_map, h]; rfl
theorem hv_get {hs : Hs} {i : Nat} {x : V} (h : (hs.map hv)[i]? = some x) : ∃ o, hs[i]? = some o ∧ x = hv o := by
  rw [List.getElem?_map] at h
  cases e : hs[i]? with
  | none => rw [e] at h; cases h
  | some o => rw [e] at h; exact ⟨o, rfl, (Option.some.inj h).symm⟩
theorem hv_at {hs : Hs} {i : Nat} {o : Option Nat} (h : hs[i]? = some o) : (hs.map hv)[i]? = some (hv o) := by rw [List.getElem?_map, h]; rfl
theorem szl {n : Nat} (h : n ≤ 1000) : n < sizeLine := small1000 h
/-! ### heldbehind.forests: the private lists -/
def spWithout (K : PySem.W.Frag) : Sp := fun vs H Q _ => ∃ (a : Addr) (hs : Hs), vs = [.ref a] ∧ SqT K H a (hs.map hv) ∧ hs.length ≤ 1000 ∧
  ∀ p H', Same H H' → H p = none → H' p = some (.lst (nv (roots hs))) → Q (.ref p) H'
section
variable {P : Program} {w : World} {K : PySem.W.Frag} {mg : Str → Option Value} {base : Heap}
abbrev st__without_holder : Stmt := topS 15
abbrev N__without_holder : List Str := ["forest", "thing", "holder"]
theorem sc__without_holder : FnScope N__without_holder ["forest"] (defScope st__without_holder) := ⟨rfl, rfl, rfl, by decide +kernel, rfl, by decide +kernel, by decide +kernel⟩
theorem ok__without_holder (D : Df K mg "_without_holder" st__without_holder ["forest"]) (B : Bl mg) : Kn P w K mg base CX0 1 "_without_holder" st__without_holder ["forest"] (spWithout K) := by
  refine D.ok sc__without_holder (fun vs H Q E h => ?_) (fun f cdv A outer s H vs Q E hr h => ?_)
  · obtain ⟨a, hs, rfl, _⟩ := h; rfl
  obtain ⟨a, hs, rfl, hS, hn, q⟩ := h
  refine ⟨_, ((pss_one (ps_ret (pe_lc (own := [("thing", 1), ("holder", 2)]) (g := gTup K 2 (gCons (gName 1) (gCons (gName 2) gNil))) rfl sc__without_holder.nd (pi_enumT (by rfl) B.enumerate (pa_cons (pv 0) pa_nil)) (blkOk_by (N := N__without_holder) (sc := defScope st__without_holder) (own := [("thing", 1), ("holder", 2)]) (by decide +kernel)) (fun _ _ _ _ _ => by (refine pg_tup (n := 2) ?hc ?h ?hn ?hst; (case hc => rfl); (case hn => rfl); (case hst => rfl); case h => (refine pgs_cons ?g1 ?g2; (case g1 => exact (pg_name (i := 1) sc__without_holder.nd rfl (Or.inl rfl))); case g2 => (refine pgs_cons ?g1 ?g2; (case g1 => exact (pg_name (i := 2) sc__without_holder.nd rfl (Or.inl rfl))); case g2 => (exact pgs_nil))))) (fun _ _ _ _ _ => by exact (pts_one (pt_cmpR op_isN (pv 2) pe_non (nomark _)))) (fun _ _ _ _ _ => by exact (pv 1)))))), ?_⟩
  refine ⟨_, rfl, a, _, rfl, hS, fun D hD => lc_it (walk_enumT (xs := hs.map hv)) (fun i H' => Same H H' ∧ H' D = some (.lst (nv (rootsTo hs i)))) ⟨(Same.refl H).new hD, upd_same⟩ (fun i H' _ p => p.1.tseq hS) ?_ ?_⟩
  · rintro i x H1 H2 hi ⟨s1, hD1⟩ ⟨T, x1, x2, rfl, hT, rfl, e1, e2⟩
    have e1' := Option.some.inj e1; subst e1'
    obtain ⟨o, ho, rfl⟩ := hv_get e2
    have hDT : D ≠ T := ne_of_none hD1 hT
    refine ⟨T, _, rfl, SqT.of upd_same, rfl, _, _, rfl, _, _, rfl, rfl, rfl, _, rfl, rfl, _, rfl, ?_⟩
    have s2 : Same H (upd H1 T (.tup [.int (i : Int), hv o])) := s1.new hT
    have hi' : (rootsTo hs i).length ≤ i := rootsTo_len hs i
    have hil : i < hs.length := (List.getElem?_eq_some_iff.mp ho).1
    have hD2 : upd H1 T (.tup [.int (i : Int), hv o]) D = some (.lst (nv (rootsTo hs i))) := by rw [upd_ne hDT]; exact hD1
    refine ite2 (fun c => ?_) (fun c => ?_)
    · have eo : o = none := by
        cases o with
        | none => rfl
        | some u => exact absurd (of_decide_eq_true c) (by intro z; cases z)
      refine ⟨_, rfl, _, hD2, by rw [nv_length]; exact szl (by omega), s2.upd hD, ?_⟩
      rw [upd_same, rootsTo_succ, ho, eo, if_pos rfl, nv_append]; rfl
    · have eo : ¬ some o = some none := by intro z; cases z; exact c rfl
      refine ⟨s2, ?_⟩
      rw [hD2, rootsTo_succ, ho, if_neg eo, List.append_nil]
  · rintro H1 ⟨s1, hD1⟩
    refine q D H1 s1 hD ?_
    rw [hD1, List.length_map]; rfl
end

end My

namespace My
open PySem PySem.Spec PyProof.Rows L2
def InB (hs : Hs) : Prop := ∀ v u : Nat, hs[v]? = some (some u) → u < hs.length
structure HeldTo (H : Hp) (p : Addr) (as : List Addr) (hs : Hs) (i : Nat) : Prop where
  lst : H p = some (.lst (as.map V.ref))
  len : as.length = hs.length
  nd : as.Nodup
  at_ : ∀ (j : Nat) (c : Addr), as[j]? = some c → H c = some (.lst (nv (kidsTo hs j i)))
abbrev HeldAt (H : Hp) (p : Addr) (as : List Addr) (hs : Hs) : Prop := HeldTo H p as hs hs.length
theorem HeldTo.same {H H' : Hp} {p : Addr} {as : List Addr} {hs : Hs} {i : Nat} (h : HeldTo H p as hs i) (s : Same H H') : HeldTo H' p as hs i :=
  ⟨s _ _ h.lst, h.len, h.nd, fun j c e => s _ _ (h.at_ j c e)⟩
theorem nodup_at {as : List Addr} (nd : as.Nodup) {i j : Nat} {c : Addr} (h1 : as[i]? = some c) (h2 : as[j]? = some c) : i = j := by
  obtain ⟨l1, e1⟩ := List.getElem?_eq_some_iff.mp h1
  obtain ⟨l2, e2⟩ := List.getElem?_eq_some_iff.mp h2
  exact (List.getElem_inj nd).mp (e1.trans e2.symm)
/-- nothing is held by a thing beyond the turns: the turn of a thing without a holder -/
theorem HeldTo.skip {H : Hp} {p : Addr} {as : List Addr} {hs : Hs} {i : Nat} (h : HeldTo H p as hs i) (e : hs[i]? = some none) : HeldTo H p as hs (i + 1) :=
  ⟨h.lst, h.len, h.nd, fun j c q => by
    have z : ¬ hs[i]? = some (some j) := by rw [e]; intro w; cases w
    rw [kidsTo_succ, if_neg z, List.append_nil]; exact h.at_ j c q⟩
theorem HeldTo.put {H : Hp} {p c : Addr} {as : List Addr} {hs : Hs} {i u : Nat} (h : HeldTo H p as hs i) (e : hs[i]? = some (some u)) (hc : as[u]? = some c) :
    HeldTo (upd H c (.lst (nv (kidsTo hs u i) ++ [.int (i : Int)]))) p as hs (i + 1) := by
  have hcl := h.at_ u c hc
  have hpc : p ≠ c := by
    intro z
    have q := h.lst
    rw [z, hcl] at q
    have q2 := HO.lst.inj (Option.some.inj q)
    have hl : as ≠ [] := by intro w; rw [w] at hc; cases hc
    cases as with
    | nil => exact hl rfl
    | cons a0 r =>
      cases hk : kidsTo hs u i with
      | nil => rw [hk] at q2; cases q2
      | cons k0 kr => rw [hk] at q2; cases q2
  refine ⟨by rw [upd_ne hpc]; exact h.lst, h.len, h.nd, fun j c' q => ?_⟩
  by_cases hj : j = u
  · subst hj
    have ec : c' = c := Option.some.inj (q.symm.trans hc)
    subst ec
    rw [upd_same, kidsTo_succ, if_pos e, nv_append]; rfl
  · have ec : c' ≠ c := fun z => hj (nodup_at h.nd q (by rw [z]; exact hc))
    have z : ¬ hs[i]? = some (some j) := by rw [e]; intro w; cases w; exact hj rfl
    rw [upd_ne ec, kidsTo_succ, if_neg z, List.append_nil]; exact h.at_ j c' q
def spHeld (K : PySem.W.Frag) : Sp := fun vs H Q _ => ∃ (a : Addr) (hs : Hs), vs = [.ref a] ∧ SqT K H a (hs.map hv) ∧ hs.length ≤ 1000 ∧ InB hs ∧
  ∀ p as H', Same H H' → H p = none → (∀ c ∈ as, H c = none) → HeldAt H' p as hs → Q (.ref p) H'
section
variable {P : Program} {w : World} {K : PySem.W.Frag} {mg : Str → Option Value} {base : Heap}
abbrev st__held_lists : Stmt := topS 16
abbrev N__held_lists : List Str := ["forest", "held", "thing", "holder", "_"]
theorem sc__held_lists : FnScope N__held_lists ["forest"] (defScope st__held_lists) := ⟨rfl, rfl, rfl, by decide +kernel, rfl, by decide +kernel, by decide +kernel⟩
theorem ok__held_lists (D : Df K mg "_held_lists" st__held_lists ["forest"]) (B : Bl mg) : Kn P w K mg base CX0 1 "_held_lists" st__held_lists ["forest"] (spHeld K) := by
  refine D.ok sc__held_lists (fun vs H Q E h => ?_) (fun f cdv A outer s H vs Q E hr h => ?_)
  · obtain ⟨a, hs, rfl, _⟩ := h; rfl
  obtain ⟨a, hs, rfl, hS, hn, hin, q⟩ := h
  refine ⟨_, ((pss_cons (ps_setLc (i := 1) (own := [("_", 4)]) (g := gName 4) rfl sc__held_lists.nd rfl rfl (sw_true rfl rfl rfl (by decide +kernel)) (pi_tup (pv 0)) (blkOk_by (N := N__held_lists) (sc := defScope st__held_lists) (own := [("_", 4)]) (by decide +kernel)) (fun _ _ _ _ _ => by (exact (pg_name (i := 4) sc__held_lists.nd rfl (Or.inl rfl)))) (fun _ _ _ _ _ => by exact pts_nil) (fun _ _ _ _ _ => by exact (pe_lst pa_nil)))
      (pss_cons (ps_for PassesOwn.never rfl (pi_enumT (by rfl) B.enumerate (pa_cons (pv 0) pa_nil)) (pg_tup rfl (pgs_cons (pg_name (i := 2) sc__held_lists.nd rfl (Or.inl rfl)) (pgs_cons (pg_name (i := 3) sc__held_lists.nd rfl (Or.inl rfl)) pgs_nil))) (pss_one (ps_if (pt_cmpR op_notN (pv 3) pe_non (nomark _)) (pss_one (ps_expr (pe_bm PySem.F.plainAttrs_list PySem.F.slot_list_append PySem.F.type_list_append mt_append (pe_ix ix_list (pv 1) (pv 3) (fun _ _ => rfl)) (pa_cons (pv 2) pa_nil)))) pss_nil)))
      (pss_one (ps_ret (pv 1)))))), ?_⟩
  refine ⟨_, rfl, a, rfl, ⟨_, hS⟩, fun D hD => lc_it (walk_tup (xs := hs.map hv)) (fun i H' => Same H H' ∧ ∃ as : List Addr, as.length = i ∧ as.Nodup ∧ H' D = some (.lst (as.map V.ref)) ∧ ∀ c ∈ as, H' c = some (.lst []) ∧ H c = none ∧ c ≠ D)
    ⟨(Same.refl H).new hD, [], rfl, List.nodup_nil, upd_same, fun c hc => by cases hc⟩ (fun i H' _ p => p.1.tseq hS) ?_ ?_⟩
  · rintro i x H1 H2 hi ⟨s1, as, hlen, nd, hD1, hcs⟩ ⟨rfl, e1⟩
    rw [List.length_map] at hi
    refine ⟨rfl, ⟨by show 0 ≤ sizeLine; decide, fun p hp => ?_⟩⟩
    have hDp : D ≠ p := ne_of_none hD1 hp
    have hpn : H p = none := s1.free hp
    refine ⟨_, by rw [upd_ne hDp]; exact hD1, by rw [List.length_map]; exact szl (by omega), (s1.upd hpn).upd hD, as ++ [p], ?_, ?_, ?_, ?_⟩
    · rw [List.length_append, hlen]; rfl
    · refine List.nodup_append.mpr ⟨nd, by simp, fun x hx y hy => ?_⟩
      have ey : y = p := by simpa using hy
      rw [ey]
      exact ne_of_none (hcs x hx).1 hp
    · rw [upd_same, List.map_append]; rfl
    · intro c hc
      rcases List.mem_append.mp hc with hc | hc
      · obtain ⟨c1, c2, c3⟩ := hcs c hc
        exact ⟨by rw [upd_ne c3, upd_ne (ne_of_none c1 hp)]; exact c1, c2, c3⟩
      · have ec : c = p := by simpa using hc
        rw [ec]
        exact ⟨by rw [upd_ne hDp.symm, upd_same], hpn, hDp.symm⟩
  · rintro H1 ⟨s1, as, hlen, nd, hD1, hcs⟩
    rw [List.length_map] at hlen
    have h0 : HeldTo H1 D as hs 0 := ⟨hD1, hlen, nd, fun j c e => (hcs c (List.mem_of_getElem? e)).1⟩
    refine ⟨_, rfl, a, _, rfl, s1.tseq hS, for_it (walk_enumT (xs := hs.map hv)) (fun i σ H' => ∃ v2 v3, σ = [some (.ref a), some (.ref D), v2, v3, none] ∧ Same H H' ∧ HeldTo H' D as hs i)
      ⟨none, none, rfl, s1, h0⟩ (fun i σ H' _ p => by obtain ⟨_, _, _, p, _⟩ := p; exact p.tseq hS) ?_ ?_⟩
    · rintro i x σ H2 H3 hi ⟨v2, v3, rfl, s2, hh⟩ ⟨T, x1, x2, rfl, hT, rfl, e1, e2⟩
      have e1' := Option.some.inj e1; subst e1'
      obtain ⟨o, ho, rfl⟩ := hv_get e2
      have s3 : Same H2 (upd H2 T (.tup [.int (i : Int), hv o])) := (Same.refl _).new hT
      have hh3 := hh.same s3
      refine ⟨T, _, rfl, SqT.of upd_same, rfl, _, _, rfl, _, _, rfl, rfl, _, rfl, rfl, _, rfl, ?_⟩
      cases o with
      | none => exact iteF ⟨_, _, rfl, s2.trans s3, hh3.skip ho⟩
      | some u =>
        have hu := hin i u ho
        have hil : i < hs.length := (List.getElem?_eq_some_iff.mp ho).1
        obtain ⟨c, hc⟩ : ∃ c, as[u]? = some c := ⟨as[u]'(by rw [hlen]; exact hu), List.getElem?_eq_getElem _⟩
        have hc2 : (as.map V.ref)[u]? = some (.ref c) := by rw [List.getElem?_map, hc]; rfl
        have hcl := hh3.at_ u c hc
        have hk := kidsTo_len hs u i
        refine iteT ⟨_, rfl, _, rfl, D, _, _, _, rfl, rfl, SqL.of hh3.lst, atI_nat hc2, .inl ⟨rfl, _, SqL.of hcl⟩, _, rfl, c, _, _, rfl, rfl, hcl, by rw [nv_length]; exact szl (by omega), ?_⟩
        exact ⟨_, _, rfl, (s2.trans s3).upd (hcs c (List.mem_of_getElem? hc)).2.1, hh3.put ho hc⟩
    · rintro σ H2 ⟨v2, v3, rfl, s2, hh⟩
      rw [List.length_map] at hh
      exact ⟨_, rfl, q D as H2 s2 hD (fun c hc => (hcs c hc).2.1) hh⟩
end

end My

namespace My
open PySem PySem.Spec PyProof.Rows L2
theorem nodup_len : ∀ (n : Nat) (l : List Nat), l.Nodup → (∀ v ∈ l, v < n) → l.length ≤ n
  | 0, l, _, h => by
    cases l with
    | nil => exact Nat.le_refl _
    | cons a r => exact absurd (h a List.mem_cons_self) (Nat.not_lt_zero _)
  | n + 1, l, nd, h => by
    by_cases hm : n ∈ l
    · have h1 : (l.erase n).Nodup := nd.erase n
      have h2 : ∀ v ∈ l.erase n, v < n := fun v hv => by
        have h3 := h v (List.mem_of_mem_erase hv)
        have h4 : v ≠ n := fun e => by
          rw [e] at hv
          exact (List.Nodup.not_mem_erase nd) hv
        omega
      have ih := nodup_len n _ h1 h2
      have hl := List.length_erase_of_mem hm
      have hp := List.length_pos_of_mem hm
      omega
    · have ih := nodup_len n l nd fun v hv => by
        have h3 := h v hv
        have h4 : v ≠ n := fun e => hm (e ▸ hv)
        omega
      omega
/-- how far a walk has come: found, and what is waiting (its last one next) -/
structure WT (hs : Hs) (st : List Nat) (Rn : Nat → Prop) (found wait : List Nat) : Prop where
  nd : (found ++ wait).Nodup
  ok : ∀ v ∈ found ++ wait, v < hs.length ∧ Rn v ∧ (v ∈ st ∨ ∃ u ∈ found, hs[v]? = some (some u))
  sm : ∀ v ∈ st, v ∈ found ++ wait
  cl : ∀ v u : Nat, hs[v]? = some (some u) → u ∈ found → v ∈ found ++ wait
  od : ∀ i v : Nat, found[i]? = some v → v ∈ st ∨ ∃ j u : Nat, j < i ∧ found[j]? = some u ∧ hs[v]? = some (some u)
  pr : ∀ pre : Nat → List Nat, (∀ v, Rn v → pre v = v :: (kids hs v).flatMap pre) → found ++ wait.reverse.flatMap pre = st.flatMap pre
structure Starts (hs : Hs) (st : List Nat) (Rn : Nat → Prop) : Prop where
  nd : st.Nodup
  ok : ∀ s ∈ st, s < hs.length ∧ Rn s
  down : ∀ v u : Nat, hs[v]? = some (some u) → Rn u → Rn v
  no : ∀ s ∈ st, ∀ u : Nat, hs[s]? = some (some u) → ¬ Rn u
theorem WT.start {hs : Hs} {st : List Nat} {Rn : Nat → Prop} (S : Starts hs st Rn) : WT hs st Rn [] st.reverse where
  nd := by rw [List.nil_append]; exact (List.reverse_perm st).nodup_iff.mpr S.nd
  ok := fun v hv => by
    rw [List.nil_append, List.mem_reverse] at hv
    exact ⟨(S.ok v hv).1, (S.ok v hv).2, .inl hv⟩
  sm := fun v hv => by rw [List.nil_append, List.mem_reverse]; exact hv
  cl := fun v u _ hu => by cases hu
  od := fun i v e => by cases e
  pr := fun pre _ => by rw [List.nil_append, List.reverse_reverse]
theorem WT.step {hs : Hs} {st : List Nat} {Rn : Nat → Prop} {found w : List Nat} {t : Nat} (S : Starts hs st Rn) (h : WT hs st Rn found (w ++ [t])) : WT hs st Rn (found ++ [t]) (w ++ (kids hs t).reverse) := by
  have ht : t ∈ found ++ (w ++ [t]) := by simp
  have htf : t ∉ found := fun z => by
    have q := h.nd
    rw [List.nodup_append] at q
    exact q.2.2 t z t (by simp) rfl
  have hRt := (h.ok t ht).2.1
  have hno : ∀ v ∈ found ++ (w ++ [t]), hs[v]? ≠ some (some t) := fun v hv e => by
    rcases (h.ok v hv).2.2 with z | ⟨u, hu, z⟩
    · exact S.no v z t e hRt
    · rw [e] at z
      cases z
      exact htf hu
  have mem : ∀ v, v ∈ (found ++ [t]) ++ (w ++ (kids hs t).reverse) ↔ v ∈ found ++ (w ++ [t]) ∨ v ∈ kids hs t := fun v => by
    simp only [List.mem_append, List.mem_singleton, List.mem_reverse]
    constructor
    · rintro ((a | a) | (a | a))
      · exact .inl (.inl a)
      · exact .inl (.inr (.inr a))
      · exact .inl (.inr (.inl a))
      · exact .inr a
    · rintro ((a | (a | a)) | a)
      · exact .inl (.inl a)
      · exact .inr (.inl a)
      · exact .inl (.inr a)
      · exact .inr (.inr a)
  refine ⟨?_, fun v hv => ?_, fun v hv => (mem v).mpr (.inl (h.sm v hv)), fun v u e hu => ?_, fun i v e => ?_, fun pre hp => ?_⟩
  · have p : ((found ++ [t]) ++ (w ++ (kids hs t).reverse)).Perm ((found ++ (w ++ [t])) ++ kids hs t) := by
      have p1 : ((found ++ [t]) ++ w).Perm (found ++ (w ++ [t])) := by
        rw [List.append_assoc]
        exact List.Perm.append_left found List.perm_append_comm
      rw [← List.append_assoc]
      exact p1.append (List.reverse_perm _)
    refine p.nodup_iff.mpr (List.nodup_append.mpr ⟨h.nd, nodup_kids hs t, fun x hx y hy e => ?_⟩)
    subst e
    exact hno x hx (mem_kids.mp hy)
  · rcases (mem v).mp hv with z | z
    · obtain ⟨a, b, c⟩ := h.ok v z
      refine ⟨a, b, ?_⟩
      rcases c with c | ⟨u, hu, e⟩
      · exact .inl c
      · exact .inr ⟨u, List.mem_append_left _ hu, e⟩
    · have e := mem_kids.mp z
      exact ⟨(List.getElem?_eq_some_iff.mp e).1, S.down v t e hRt, .inr ⟨t, by simp, e⟩⟩
  · rcases List.mem_append.mp hu with z | z
    · exact (mem v).mpr (.inl (h.cl v u e z))
    · have eu : u = t := by simpa using z
      rw [eu] at e
      exact (mem v).mpr (.inr (mem_kids.mpr e))
  · by_cases hi : i < found.length
    · rw [List.getElem?_append_left hi] at e
      rcases h.od i v e with z | ⟨j, u, hj, e1, e2⟩
      · exact .inl z
      · exact .inr ⟨j, u, hj, by rw [List.getElem?_append_left (by omega)]; exact e1, e2⟩
    · have hi2 : found.length ≤ i := by omega
      rw [List.getElem?_append_right hi2] at e
      have hz : i - found.length = 0 := by
        cases hk : i - found.length with
        | zero => rfl
        | succ k => rw [hk] at e; cases e
      rw [hz] at e
      have ev : t = v := Option.some.inj e
      subst ev
      rcases (h.ok t ht).2.2 with z | ⟨u, hu, e2⟩
      · exact .inl z
      · obtain ⟨j, ej⟩ := List.getElem?_of_mem hu
        have hj := (List.getElem?_eq_some_iff.mp ej).1
        exact .inr ⟨j, u, by omega, by rw [List.getElem?_append_left hj]; exact ej, e2⟩
  · have q := h.pr pre hp
    rw [← q, List.reverse_append, List.reverse_append, List.reverse_reverse]
    show _ = found ++ (t :: w.reverse).flatMap pre
    rw [List.flatMap_cons, hp t hRt, List.flatMap_append]
    simp
theorem WT.room {hs : Hs} {st : List Nat} {Rn : Nat → Prop} {found w : List Nat} {t : Nat} (h : WT hs st Rn found (w ++ [t])) : found.length < hs.length ∧ (w.length + 1) ≤ hs.length := by
  have q := nodup_len hs.length _ h.nd fun v hv => (h.ok v hv).1
  rw [List.length_append, List.length_append] at q
  have e : [t].length = 1 := rfl
  omega
theorem WT.lens {hs : Hs} {st : List Nat} {Rn : Nat → Prop} {found wait : List Nat} (h : WT hs st Rn found wait) : found.length + wait.length ≤ hs.length := by
  have q := nodup_len hs.length _ h.nd fun v hv => (h.ok v hv).1
  rw [List.length_append] at q
  exact q
def spWalkT (K : PySem.W.Frag) : Sp := fun vs H Q _ => ∃ (p q : Addr) (as : List Addr) (hs : Hs) (st : List Nat) (Rn : Nat → Prop), vs = [.ref p, .ref q] ∧ HeldAt H p as hs ∧ SqL K H q (nv st) ∧ hs.length ≤ 1000 ∧ Starts hs st Rn ∧
  ∀ r l H', Same H H' → H r = none → H' r = some (.lst (nv l)) → WT hs st Rn l [] → Q (.ref r) H'
theorem snoc_of {α : Type} {l : List α} (h : 0 < l.length) : ∃ w t, l = w ++ [t] := by
  have hne : l ≠ [] := by
    intro e; subst e; exact absurd h (Nat.lt_irrefl 0)
  refine ⟨l.dropLast, l.getLast hne, ?_⟩
  exact (List.dropLast_concat_getLast _).symm
section
variable {P : Program} {w : World} {K : PySem.W.Frag} {mg : Str → Option Value} {base : Heap}
abbrev st__walk_through : Stmt := topS 17
abbrev N__walk_through : List Str := ["held", "starts", "found", "waiting", "thing"]
theorem sc__walk_through : FnScope N__walk_through ["held", "starts"] (defScope st__walk_through) := ⟨rfl, rfl, rfl, by decide +kernel, rfl, by decide +kernel, by decide +kernel⟩
theorem ok__walk_through (D : Df K mg "_walk_through" st__walk_through ["held", "starts"]) (B : Bl mg) : Kn P w K mg base CX0 1 "_walk_through" st__walk_through ["held", "starts"] (spWalkT K) := by
  refine D.ok sc__walk_through (fun vs H Q E h => ?_) (fun f cdv A outer s H vs Q E hr h => ?_)
  · obtain ⟨p, q, as, hs, st, Rn, rfl, _⟩ := h; rfl
  obtain ⟨p, q, as, hs, st, Rn, rfl, hA, hq, hn, S, k⟩ := h
  refine ⟨_, ((pss_cons (ps_set (i := 2) sc__walk_through.nd rfl (Or.inl rfl) (pe_lst pa_nil))
      (pss_cons (ps_set (i := 3) sc__walk_through.nd rfl (Or.inl rfl) (pe_revL (pv 1)))
      (pss_cons (ps_while PassesOwn.never (pt_cmpR op_gt (pe_callB call_len (by rfl) B.len (by decide +kernel) (pa_cons (pv 3) pa_nil)) pe_int (nomark _)) (pss_cons (ps_set (i := 4) sc__walk_through.nd rfl (Or.inl rfl) (pe_bm0 PySem.F.plainAttrs_list PySem.F.slot_list_pop PySem.F.type_list_pop mt_pop (pv 3)))
      (pss_cons (ps_expr (pe_bm PySem.F.plainAttrs_list PySem.F.slot_list_append PySem.F.type_list_append mt_append (pv 2) (pa_cons (pv 4) pa_nil)))
      (pss_one (ps_expr (pe_bm PySem.F.plainAttrs_list PySem.F.slot_list_extend PySem.F.type_list_extend mt_extend (pv 3) (pa_cons (pe_revL (pe_ix ix_list (pv 0) (pv 4) (fun _ _ => rfl))) pa_nil)))))))
      (pss_one (ps_ret (pv 2))))))), ?_⟩
  refine ⟨by show 0 ≤ sizeLine; decide, fun F hF => ?_⟩
  have s1 : Same H (upd H F (.lst [])) := (Same.refl H).new hF
  refine ⟨_, rfl, q, _, rfl, s1.seq hq, fun W hW => ?_⟩
  have hFW : F ≠ W := ne_of_none upd_same hW
  have hWn : H W = none := s1.free hW
  refine ⟨fun m σ H' => ∃ found wait v4, σ = [some (.ref p), some (.ref q), some (.ref F), some (.ref W), v4] ∧ Same H H' ∧ H' F = some (.lst (nv found)) ∧ H' W = some (.lst (nv wait)) ∧ WT hs st Rn found wait ∧ m = hs.length - found.length,
    ⟨_, [], st.reverse, none, rfl, s1.upd hWn, by rw [upd_ne hFW, upd_same]; rfl, ?_, WT.start S, rfl⟩, ?_⟩
  · rw [upd_same]
    unfold nv
    rw [List.map_reverse]
  · rintro m σ H' ⟨found, wait, v4, rfl, s2, hF2, hW2, hwt, rfl⟩
    refine ⟨_, rfl, _, _, rfl, .inl ⟨_, SqL.of hW2, rfl⟩, _, _, rfl, rfl, _, rfl, ?_⟩
    refine ite2 (fun c => ?_) (fun c => ?_)
    · have hpos : 0 < wait.length := by
        have c' := of_decide_eq_true c
        rw [nv_length] at c'
        omega
      obtain ⟨w', t, rfl⟩ := snoc_of hpos
      have hroom := hwt.room
      have hlens := (hwt.step S).lens
      rw [List.length_append, List.length_append, List.length_reverse] at hlens
      have h1 : [t].length = 1 := rfl
      refine ⟨fun σ' H' => ∃ m', m' < hs.length - found.length ∧ ∃ found wait v4, σ' = [some (.ref p), some (.ref q), some (.ref F), some (.ref W), v4] ∧ Same H H' ∧ H' F = some (.lst (nv found)) ∧ H' W = some (.lst (nv wait)) ∧ WT hs st Rn found wait ∧ m' = hs.length - found.length, fun _ _ h => h, ?_⟩
      -- thing = waiting.pop()
      refine ⟨_, rfl, .inl ⟨rfl, _, SqL.of hW2⟩, W, _, .int (t : Int), rfl, rfl, hW2, ?_, ?_⟩
      · rw [nv_append, List.length_append]
        show (nv w' ++ [V.int (t : Int)])[(nv w').length + 1 - 1]? = _
        simp
      have hW3 : upd H' W (.lst (nv (w' ++ [t])).dropLast) W = some (.lst (nv w')) := by
        rw [upd_same, nv_append]
        show some (HO.lst (nv w' ++ [V.int (t : Int)]).dropLast) = _
        rw [List.dropLast_concat]
      have hF3 : upd H' W (.lst (nv (w' ++ [t])).dropLast) F = some (.lst (nv found)) := by rw [upd_ne hFW]; exact hF2
      have s3 : Same H (upd H' W (.lst (nv (w' ++ [t])).dropLast)) := s2.upd hWn
      generalize upd H' W (.lst (nv (w' ++ [t])).dropLast) = H3 at hW3 hF3 s3 ⊢
      -- found.append(thing)
      refine ⟨_, rfl, .inl ⟨rfl, _, SqL.of hF3⟩, _, rfl, F, _, _, rfl, rfl, hF3, by rw [nv_length]; exact szl (by omega), ?_⟩
      have hF4 : upd H3 F (.lst (nv found ++ [V.int (t : Int)])) F = some (.lst (nv (found ++ [t]))) := by rw [upd_same, nv_append]; rfl
      have hW4 : upd H3 F (.lst (nv found ++ [V.int (t : Int)])) W = some (.lst (nv w')) := by rw [upd_ne hFW.symm]; exact hW3
      have s4 : Same H (upd H3 F (.lst (nv found ++ [V.int (t : Int)]))) := s3.upd hF
      generalize upd H3 F (.lst (nv found ++ [V.int (t : Int)])) = H4 at hF4 hW4 s4 ⊢
      -- waiting.extend(held[thing][::-1])
      have hA4 := hA.same s4
      have htl : t < hs.length := (hwt.ok t (by simp)).1
      obtain ⟨c2, hc2⟩ : ∃ c2, as[t]? = some c2 := ⟨as[t]'(by rw [hA.len]; exact htl), List.getElem?_eq_getElem _⟩
      have hc3 : (as.map V.ref)[t]? = some (.ref c2) := by rw [List.getElem?_map, hc2]; rfl
      refine ⟨_, rfl, .inl ⟨rfl, _, SqL.of hW4⟩, _, rfl, _, rfl, p, _, _, _, rfl, rfl, SqL.of hA4.lst, atI_nat hc3, c2, _, rfl, SqL.of (hA4.at_ t c2 hc2), fun R hR => ?_⟩
      have hWR : W ≠ R := ne_of_none hW4 hR
      have hFR : F ≠ R := ne_of_none hF4 hR
      refine ⟨W, R, _, _, rfl, rfl, by rw [upd_ne hWR]; exact hW4, upd_same, ?_, ?_⟩
      · rw [List.length_reverse, nv_length, nv_length]
        exact Nat.le_of_lt (szl (by show w'.length + (kids hs t).length ≤ 1000; omega))
      · refine ⟨_, ?_, found ++ [t], w' ++ (kids hs t).reverse, _, rfl, (s4.upd (s4.free hR)).upd hWn, by rw [upd_ne hFW, upd_ne hFR]; exact hF4, ?_, hwt.step S, rfl⟩
        · rw [List.length_append, h1]; omega
        · rw [upd_same, nv_append]
          congr 2
          unfold nv
          rw [List.map_reverse]; rfl
    · have hz : wait = [] := by
        cases wait with
        | nil => rfl
        | cons a r =>
          refine absurd (decide_eq_true ?_) c
          rw [nv_length, List.length_cons]; omega
      subst hz
      exact ⟨_, rfl, k F found H' s2 hF hF2 hwt⟩
end

end My

namespace My
open PySem PySem.Spec PyProof.Rows L2
inductive Rch (hs : Hs) : Nat → Prop where
  | root {v : Nat} (h : hs[v]? = some none) : Rch hs v
  | step {v u : Nat} (h : hs[v]? = some (some u)) (r : Rch hs u) : Rch hs v
/-- a forest as a list of holders -/
structure Fo (hs : Hs) : Prop where
  ne : hs ≠ []
  inb : InB hs
  all : ∀ v : Nat, v < hs.length → Rch hs v
theorem starts_roots (hs : Hs) : Starts hs (roots hs) (Rch hs) where
  nd := nodup_roots hs
  ok := fun s h => ⟨(List.getElem?_eq_some_iff.mp (mem_roots.mp h)).1, .root (mem_roots.mp h)⟩
  down := fun _ _ e r => .step e r
  no := fun s h u e => by rw [mem_roots.mp h] at e; cases e
theorem WT.all_found {hs : Hs} {l : List Nat} {Rn : Nat → Prop} (h : WT hs (roots hs) Rn l []) {v : Nat} (r : Rch hs v) : v ∈ l := by
  have z : ∀ w, w ∈ l ++ [] → w ∈ l := fun w q => by rw [List.append_nil] at q; exact q
  induction r with
  | root e => exact z _ (h.sm _ (mem_roots.mpr e))
  | step e _ ih => exact z _ (h.cl _ _ e ih)
theorem mem_of_full : ∀ (n : Nat) (l : List Nat), l.Nodup → (∀ v ∈ l, v < n) → l.length = n → ∀ v, v < n → v ∈ l := fun n l nd h e v hv => by
  refine Classical.byContradiction fun hm => ?_
  have q := nodup_len n (v :: l) (List.nodup_cons.mpr ⟨hm, nd⟩) fun w hw => by
    rcases List.mem_cons.mp hw with rfl | hw
    · exact hv
    · exact h w hw
  rw [List.length_cons] at q
  omega
theorem nodup_sub : ∀ (a l : List Nat), a.Nodup → (∀ v ∈ a, v ∈ l) → a.length ≤ l.length
  | [], l, _, _ => Nat.zero_le _
  | x :: r, l, nd, h => by
    have hx := h x List.mem_cons_self
    have ih := nodup_sub r (l.erase x) (List.nodup_cons.mp nd).2 fun v hv => by
      have hne : v ≠ x := fun e => (List.nodup_cons.mp nd).1 (e ▸ hv)
      exact (List.mem_erase_of_ne hne).mpr (h v (List.mem_cons_of_mem _ hv))
    have hl := List.length_erase_of_mem hx
    have hp := List.length_pos_of_mem hx
    rw [List.length_cons]
    omega
def holdOk (n : Int) : V → Bool
  | .non => true
  | x => isIdx n x
def toHold : V → Option Nat
  | .int i => some i.toNat
  | _ => none
theorem holds_of {n : Nat} : ∀ (xs : List V), (xs.all fun y => holdOk (n : Int) y) = true → xs = (xs.map toHold).map hv ∧ ∀ v u : Nat, (xs.map toHold)[v]? = some (some u) → u < n
  | [], _ => ⟨rfl, fun v u h => by simp at h⟩
  | x :: xs, h => by
    rw [List.all_cons, Bool.and_eq_true] at h
    obtain ⟨e, z⟩ := holds_of xs h.2
    have hx : x = hv (toHold x) ∧ ∀ u, toHold x = some u → u < n := by
      cases x with
      | non => exact ⟨rfl, fun u w => by cases w⟩
      | int i =>
        have c : (decide (0 ≤ i) && decide (i < (n : Int))) = true := h.1
        rw [Bool.and_eq_true, decide_eq_true_eq, decide_eq_true_eq] at c
        refine ⟨?_, fun u w => ?_⟩
        · show V.int i = V.int ((i.toNat : Nat) : Int)
          congr 1; omega
        · have w' := Option.some.inj w
          omega
      | _ => exact absurd (show false = true from h.1) Bool.false_ne_true
    refine ⟨?_, fun v u w => ?_⟩
    · rw [List.map_cons, List.map_cons, ← e, ← hx.1]
    · cases v with
      | zero => exact hx.2 u (Option.some.inj w)
      | succ v => exact z v u w
theorem holdOk_hv {hs : Hs} (h : InB hs) : ((hs.map hv).all fun y => holdOk (hs.length : Int) y) = true := by
  rw [List.all_eq_true]
  intro y hy
  obtain ⟨o, ho, rfl⟩ := List.mem_map.mp hy
  cases o with
  | none => rfl
  | some u =>
    obtain ⟨v, hv'⟩ := List.getElem?_of_mem ho
    have q := h v u hv'
    show (decide (0 ≤ (u : Int)) && decide ((u : Int) < (hs.length : Int))) = true
    rw [Bool.and_eq_true, decide_eq_true_eq, decide_eq_true_eq]
    omega
theorem hv_inj : ∀ {a b : Hs}, a.map hv = b.map hv → a = b
  | [], [], _ => rfl
  | [], _ :: _, h => by cases h
  | _ :: _, [], h => by cases h
  | x :: a, y :: b, h => by
    rw [List.map_cons, List.map_cons] at h
    injection h with h1 h2
    have e := hv_inj h2
    have e1 : x = y := by
      cases x with
      | none => cases y with
        | none => rfl
        | some u => cases h1
      | some v => cases y with
        | none => cases h1
        | some u =>
          have q := V.int.inj h1
          congr 1; omega
    rw [e, e1]
def IsF (H : Hp) (x : V) : Prop := ∃ hs : Hs, tupAt H x = some (hs.map hv) ∧ Fo hs
/-- what is_forest may be asked: a value whose tuple's items are told too -/
structure Askd (H : Hp) (x : V) : Prop where
  vd : Vd H x
  items : ∀ xs, tupAt H x = some xs → xs.length ≤ 1000 ∧ ∀ y ∈ xs, Vd H y
theorem tupAt_ref {H : Hp} {x : V} {xs : List V} (h : tupAt H x = some xs) : ∃ a, x = .ref a ∧ H a = some (.tup xs) := by
  cases x with
  | ref a =>
    refine ⟨a, rfl, ?_⟩
    cases e : H a with
    | none => simp only [tupAt, e] at h; cases h
    | some o =>
      cases o with
      | tup ys => simp only [tupAt, e] at h; rw [Option.some.inj h]
      | _ => simp only [tupAt, e] at h; cases h
  | _ => cases h
def spIsForest : Sp := fun vs H Q _ => ∃ x : V, vs = [x] ∧ Askd H x ∧ ∀ b H', Same H H' → (b = true ↔ IsF H x) → Q (.bl b) H'
section
variable {P : Program} {w : World} {K : PySem.W.Frag} {mg : Str → Option Value} {base : Heap}
abbrev st_is_forest : Stmt := topS 10
abbrev N_is_forest : List Str := ["value", "holder"]
theorem sc_is_forest : FnScope N_is_forest ["value"] (defScope st_is_forest) := ⟨rfl, rfl, rfl, by decide +kernel, rfl, by decide +kernel, by decide +kernel⟩
theorem ok_is_forest (D : Df K mg "is_forest" st_is_forest ["value"]) (B : Bl mg) (Kis_index : Kn P w K mg base CX0 3 "is_index" st_is_index ["value", "many"] spIsIndex)
    (K_without_holder : Kn P w K mg base CX0 1 "_without_holder" st__without_holder ["forest"] (spWithout K)) (K_held_lists : Kn P w K mg base CX0 1 "_held_lists" st__held_lists ["forest"] (spHeld K))
    (K_walk_through : Kn P w K mg base CX0 1 "_walk_through" st__walk_through ["held", "starts"] (spWalkT K)) : Kn P w K mg base CX0 4 "is_forest" st_is_forest ["value"] spIsForest := by
  refine D.ok sc_is_forest (fun vs H Q E h => ?_) (fun f cdv A outer s H vs Q E hr h => ?_)
  · obtain ⟨x, rfl, _⟩ := h; rfl
  obtain ⟨x, rfl, ask, q⟩ := h
  refine ⟨_, ((pss_cons (ps_if (PW.pt (pw_or (pt_not (pt_val (pe_callB call_isi (by rfl) B.isinstance (by decide +kernel) (pa_cons (pv 0) (pa_cons (pe_bltn (v := .ty "tuple") (u := .type "tuple") (by rfl) B.tuple (by decide +kernel) rfl) pa_nil))))) (pw_or1 (pt_cmpR op_eq (pe_callB call_len (by rfl) B.len (by decide +kernel) (pa_cons (pv 0) pa_nil)) pe_int (nomark _))))) (pss_one (ps_ret pe_bl)) pss_nil)
      (pss_cons (ps_if (pt_not (pt_val (pe_callB (cr_all rfl) (by rfl) B.all (by decide +kernel) (pa_cons (pe_lc (own := [("holder", 1)]) (g := gName 1) rfl sc_is_forest.nd (pi_tup (pv 0)) (blkOk_by (N := N_is_forest) (sc := defScope st_is_forest) (own := [("holder", 1)]) (by decide +kernel)) (fun _ _ _ _ _ => by (exact (pg_name (i := 1) sc_is_forest.nd rfl (Or.inl rfl)))) (fun _ _ _ _ _ => by exact pts_nil) (fun _ _ _ _ _ => by exact (pe_or (pe_cmpR op_isN (pv 1) pe_non (nomark _)) (pe_one (pe_callF Kis_index (hr.mono (by decide)) pass0 (pa_cons (pv 1) (pa_cons (pe_callB (call_lenK K) (by rfl) B.len (by decide +kernel) (pa_cons (pv 0) pa_nil)) pa_nil))))))) pa_nil)))) (pss_one (ps_ret pe_bl)) pss_nil)
      (pss_one (ps_ret (pe_cmpR op_eq (pe_callB call_len (by rfl) B.len (by decide +kernel) (pa_cons (pe_callF K_walk_through (hr.mono (by decide)) pass0 (pa_cons (pe_callF K_held_lists (hr.mono (by decide)) pass0 (pa_cons (pv 0) pa_nil)) (pa_cons (pe_callF K_without_holder (hr.mono (by decide)) pass0 (pa_cons (pv 0) pa_nil)) pa_nil))) pa_nil)) (pe_callB call_len (by rfl) B.len (by decide +kernel) (pa_cons (pv 0) pa_nil)) (nomark _))))))), ?_⟩
  obtain ⟨t, ty, _, _, k3⟩ := ask.vd.ty (K := K)
  refine ⟨_, rfl, _, _, _, _, _, rfl, .ty _, ty, kit_ty k3, _, rfl, ?_⟩
  have no : (¬ IsF H x) → ∀ H', Same H H' → Q (.bl false) H' := fun hn H' s' => q false H' s' ⟨fun z => absurd z Bool.false_ne_true, fun z => absurd z hn⟩
  cases e : tupAt H x with
  | none =>
    refine iteT (iteT ?_)
    exact no (fun ⟨hs, z, _⟩ => by rw [e] at z; cases z) H (Same.refl H)
  | some xs =>
    obtain ⟨a, rfl, ha⟩ := tupAt_ref e
    obtain ⟨hlen, hvd⟩ := ask.items xs e
    refine iteF ⟨_, rfl, _, _, rfl, .inr ⟨_, SqT.of ha, rfl⟩, rfl, _, rfl, ?_⟩
    refine ite2 (fun c => ?_) (fun c => ?_)
    · refine no (fun ⟨hs, z, fo⟩ => ?_) H (Same.refl H)
      rw [e] at z
      have z' := Option.some.inj z
      have c' := of_decide_eq_true c
      have c2 := V.int.inj c'
      rw [z', List.length_map] at c2
      exact fo.ne (List.eq_nil_of_length_eq_zero (by omega))
    · -- all([..])
      refine ⟨_, rfl, a, rfl, ⟨_, SqT.of ha⟩, fun L hL => lc_it (walk_tup (xs := xs)) (fun i H' => Same H H' ∧ H' L = some (.lst ((xs.take i).map fun y => V.bl (holdOk (xs.length : Int) y))))
        ⟨(Same.refl H).new hL, upd_same⟩ (fun i H' _ p => p.1.tseq (SqT.of ha)) ?_ ?_⟩
      · rintro i y H1 H2 hi ⟨s1, hL1⟩ ⟨rfl, e1⟩
        have hvy := (hvd y (List.mem_of_getElem? e1)).same s1
        have fin : ∃ acc, H2 L = some (.lst acc) ∧ acc.length < sizeLine ∧ (Same H (upd H2 L (.lst (acc ++ [V.bl (holdOk (xs.length : Int) y)]))) ∧ upd H2 L (.lst (acc ++ [V.bl (holdOk (xs.length : Int) y)])) L = some (.lst ((xs.take (i + 1)).map fun y => V.bl (holdOk (xs.length : Int) y)))) := by
          refine ⟨_, hL1, ?_, s1.upd hL, ?_⟩
          · rw [List.length_map, List.length_take]; exact szl (by omega)
          · rw [upd_same, List.take_add_one, e1]
            show _ = some (HO.lst (((xs.take i) ++ [y]).map _))
            rw [List.map_append]; rfl
        refine ⟨rfl, _, rfl, rfl, _, rfl, ?_⟩
        cases y with
        | non => exact iteT fin
        | _ =>
          refine iteF ⟨_, rfl, _, rfl, _, _, rfl, .inr ⟨_, s1.tseq (SqT.of ha), rfl⟩, _, _, rfl, hvy, ?_⟩
          exact fin
      · rintro H1 ⟨s1, hL1⟩
        rw [List.take_length] at hL1
        refine ⟨L, (xs.map fun y => holdOk (xs.length : Int) y), rfl, SqL.of (by rw [hL1, List.map_map]; rfl), _, rfl, ?_⟩
        have eall : (xs.map fun y => holdOk (xs.length : Int) y).all id = xs.all fun y => holdOk (xs.length : Int) y := by rw [List.all_map]; rfl
        rw [eall]
        cases ea : xs.all fun y => holdOk (xs.length : Int) y with
        | false =>
          refine iteT (no (fun ⟨hs, z, fo⟩ => ?_) H1 s1)
          rw [e] at z
          have z' := Option.some.inj z
          have w := holdOk_hv fo.inb
          rw [z', List.length_map, w] at ea
          cases ea
        | true =>
          refine iteF ?_
          obtain ⟨ex, hb⟩ := holds_of xs ea
          have hlh : (xs.map toHold).length = xs.length := List.length_map _
          rw [← hlh] at hb
          have hS1 : SqT K H1 a ((xs.map toHold).map hv) := by rw [← ex]; exact s1.tseq (SqT.of ha)
          generalize hhs : xs.map toHold = hs at ex hb hlh hS1
          have e' : tupAt H (.ref a) = some (hs.map hv) := by rw [e, ex]
          -- len(_walk_through(..)) == len(value)
          refine ⟨_, rfl, a, hs, rfl, hS1, by omega, hb, fun p as H2 s2 hp hpc hA => ?_⟩
          refine ⟨_, rfl, a, hs, rfl, s2.tseq hS1, by omega, fun p2 H3 s3 hp2 hr2 => ?_⟩
          refine ⟨p, p2, as, hs, roots hs, Rch hs, rfl, hA.same s3, SqL.of hr2, by omega, starts_roots hs, fun r l H4 s4 hr4 hl4 hwt => ?_⟩
          refine ⟨_, _, rfl, .inl ⟨_, SqL.of hl4, rfl⟩, _, rfl, _, _, rfl, .inr ⟨_, s4.tseq (s3.tseq (s2.tseq hS1)), rfl⟩, rfl, ?_⟩
          refine q _ _ (((s1.trans s2).trans s3).trans s4) ⟨fun z => ?_, fun z => ?_⟩
          · have z2 := V.int.inj (of_decide_eq_true z)
            rw [nv_length, List.length_map] at z2
            have c3 : ¬ V.int (xs.length : Int) = V.int 0 := fun w => c (decide_eq_true w)
            refine ⟨hs, e', ?_, hb, fun v hv' => ?_⟩
            · intro w
              rw [w] at hlh
              exact c3 (by rw [← hlh]; rfl)
            · have hl2 : l.length = hs.length := by omega
              have nd2 := hwt.nd
              rw [List.append_nil] at nd2
              have hlt : ∀ w ∈ l, w < hs.length := fun w hw => (hwt.ok w (by rw [List.append_nil]; exact hw)).1
              have hm := mem_of_full hs.length l nd2 hlt hl2 v hv'
              exact (hwt.ok v (by rw [List.append_nil]; exact hm)).2.1
          · obtain ⟨hs', z1, fo⟩ := z
            rw [e'] at z1
            have eh := hv_inj (Option.some.inj z1)
            subst eh
            refine decide_eq_true ?_
            rw [nv_length, List.length_map]
            have h1 := hwt.lens
            rw [List.length_nil] at h1
            have h2 : hs.length ≤ l.length := by
              have q2 := nodup_sub (List.range hs.length) l List.nodup_range fun v hv' => hwt.all_found (fo.all v (List.mem_range.mp hv'))
              rw [List.length_range] at q2; exact q2
            have h3 : l.length = hs.length := by omega
            rw [h3]
end

end My

namespace My
open PySem PySem.Spec PyProof.Rows L2
/-! ### the law's well of numbers -/
structure Well (H : Hp) (wl : Addr) (n : Nat) : Prop where
  ex : ∃ a b c : Int, H wl = some (.lst [.int a, .int b, .int c]) ∧ 0 ≤ a ∧ 0 ≤ b ∧ b.natAbs < 2 ^ 200 ∧ 0 ≤ c ∧ c ≤ (n : Int)
theorem Well.mono {H : Hp} {wl : Addr} {n m : Nat} (h : Well H wl n) (l : n ≤ m) : Well H wl m := by
  obtain ⟨a, b, c, e, h1, h2, h3, h4, h5⟩ := h.ex
  exact ⟨a, b, c, e, h1, h2, h3, h4, by omega⟩
theorem Well.same {H H' : Hp} {wl : Addr} {n : Nat} (h : Well H wl n) (s : Same H H') : Well H' wl n := by
  obtain ⟨a, b, c, e, r⟩ := h.ex
  exact ⟨a, b, c, s _ _ e, r⟩
theorem Well.here {H : Hp} {wl : Addr} {n : Nat} (h : Well H wl n) : ∃ l, H wl = some (.lst l) := by
  obtain ⟨a, b, c, e, r⟩ := h.ex
  exact ⟨_, e⟩
def spWell (K : PySem.W.Frag) : Sp := fun vs H Q _ => ∃ (a : Addr) (ns : List Int) (i : Nat), vs = [.ref a, .int (i : Int)] ∧ SqL K H a (ns.map V.int) ∧ i < 64 ∧ ∀ p H', Same H H' → H p = none → Well H' p 0 → Q (.ref p) H'
def spDraw : Sp := fun vs H Q _ => ∃ (wl : Addr) (n : Nat) (m : Int), vs = [.ref wl, .int m] ∧ Well H wl n ∧ n < 2 ^ 60 ∧ 1 ≤ m ∧ m.natAbs < 2 ^ 100 ∧ ∀ d H', 0 ≤ d → d < m → Keep wl H H' → Well H' wl (n + 1) → Q (.int d) H'
theorem mul_small {i j : Int} (h : -(2 ^ 64) < i ∧ i < 2 ^ 64) : CMul i j := .inl h
theorem mod_abs {x m : Int} {b : Nat} (h0 : 0 < m) (h : m.natAbs < 2 ^ b) : (x % m).natAbs < 2 ^ b := by
  have h1 := Int.emod_nonneg x (show m ≠ 0 by omega)
  have h2 := Int.emod_lt_of_pos x h0
  omega
theorem cpow10 {k : Int} (h0 : 0 ≤ k) (h : k ≤ 1000) : CPowW 10 k := by
  refine ⟨h0, ?_⟩
  have e : (Builtin.Int.intBits 10 : Int) = 4 := by decide
  have e2 : (2 : Int) ^ 27 = 134217728 := by decide
  rw [e, e2]; omega
section
variable {P : Program} {w : World} {K : PySem.W.Frag} {mg : Str → Option Value} {base : Heap}
abbrev st__law_draw : Stmt := topS 26
abbrev N__law_draw : List Str := ["well", "most", "digit", "blend"]
theorem sc__law_draw : FnScope N__law_draw ["well", "most"] (defScope st__law_draw) := ⟨rfl, rfl, rfl, by decide +kernel, rfl, by decide +kernel, by decide +kernel⟩
theorem ok__law_draw (D : Df K mg "_law_draw" st__law_draw ["well", "most"]) (B : Bl mg) : Kn P w K mg base CX0 1 "_law_draw" st__law_draw ["well", "most"] spDraw := by
  refine D.ok sc__law_draw (fun vs H Q E h => ?_) (fun f cdv A outer s H vs Q E hr h => ?_)
  · obtain ⟨wl, n, m, rfl, _⟩ := h; rfl
  obtain ⟨wl, n, m, rfl, hw, hn, h1, hm, q⟩ := h
  refine ⟨_, ((pss_cons (ps_if (pt_cmpR op_gt (pe_ix ix_list (pv 0) pe_int (fun _ _ => rfl)) pe_int (nomark _)) (pss_cons (ps_set (i := 2) sc__law_draw.nd rfl (Or.inl rfl) (pe_op op_mod (pe_callTy call_int1 (by rfl) B.int (by decide +kernel) (pa_cons (pe_ix ix_list (pv 0) pe_int (fun _ _ => rfl)) pa_nil)) (pv 1)))
      (pss_cons (ps_asg (pe_op op_fdivW (pe_ix ix_list (pv 0) pe_int (fun _ _ => rfl)) (pv 1)) (pg_sub (pv 0) pe_int set_list))
      (pss_one (ps_ret (pv 2))))) pss_nil)
      (pss_cons (ps_asg (pe_op op_add (pe_ix ix_list (pv 0) pe_int (fun _ _ => rfl)) pe_int) (pg_sub (pv 0) pe_int set_list))
      (pss_cons (ps_set (i := 3) sc__law_draw.nd rfl (Or.inl rfl) (pe_op op_mod (pe_op op_powW (pe_callTy call_int1 (by rfl) B.int (by decide +kernel) (pa_cons (pe_op op_add (pe_ix ix_list (pv 0) pe_int (fun _ _ => rfl)) (pe_op op_mul pe_int (pe_ix ix_list (pv 0) pe_int (fun _ _ => rfl)))) pa_nil)) pe_int) (pe_op op_add (pe_op op_powW pe_int pe_int) pe_int)))
      (pss_cons (ps_set (i := 3) sc__law_draw.nd rfl (Or.inl rfl) (pe_op op_mod (pe_op op_powW (pe_callTy call_int1 (by rfl) B.int (by decide +kernel) (pa_cons (pe_op op_add (pv 3) (pe_op op_mul pe_int (pe_ix ix_list (pv 0) pe_int (fun _ _ => rfl)))) pa_nil)) pe_int) (pe_op op_add (pe_op op_powW pe_int pe_int) pe_int)))
      (pss_one (ps_ret (pe_op op_mod (pe_callTy call_int1 (by rfl) B.int (by decide +kernel) (pa_cons (pe_op op_fdivW (pv 3) pe_int) pa_nil)) (pv 1))))))))), ?_⟩
  obtain ⟨a, b, c, e, ha, hb, hb2, hc, hc2⟩ := hw.ex
  have g0 : ∀ {H' : Hp} {x y z : V}, H' wl = some (.lst [x, y, z]) → SqL K H' wl [x, y, z] := fun h => SqL.of h
  -- if well[0] > 0
  refine ⟨_, rfl, wl, _, _, _, rfl, rfl, g0 e, rfl, _, _, rfl, rfl, _, rfl, ?_⟩
  refine ite2 (fun c1 => ?_) (fun c1 => ?_)
  · -- digit = int(well[0]) % most; well[0] = well[0] // most; return digit
    refine ⟨_, rfl, wl, _, _, _, rfl, rfl, g0 e, rfl, .inl ⟨_, rfl, _, rfl, _, _, rfl, rfl, by show (0 : Int) < m; omega, ?_⟩⟩
    refine ⟨_, rfl, wl, _, _, _, rfl, rfl, g0 e, rfl, _, rfl, _, _, rfl, rfl, wide_div (by omega) hm (by decide) (by decide), ?_⟩
    refine ⟨_, rfl, wl, _, _, 0, rfl, rfl, e, rfl, ?_⟩
    refine ⟨_, rfl, q _ _ (Int.emod_nonneg a (by omega)) (Int.emod_lt_of_pos a (by omega)) (Keep.upd _ _ _) ⟨a / m, b, c, upd_same, Int.ediv_nonneg ha (by omega), hb, hb2, hc, by omega⟩⟩
  · -- well[2] = well[2] + 1
    refine ⟨_, rfl, wl, _, _, _, rfl, rfl, g0 e, rfl, _, _, rfl, rfl, ?_⟩
    refine ⟨_, rfl, wl, _, _, 2, rfl, rfl, e, rfl, ?_⟩
    have e2 : upd H wl (.lst (([V.int a, V.int b, V.int c]).set 2 (V.int (c + 1)))) wl = some (.lst [V.int a, V.int b, V.int (c + 1)]) := upd_same
    have k2 : Keep wl H (upd H wl (.lst (([V.int a, V.int b, V.int c]).set 2 (V.int (c + 1))))) := Keep.upd _ _ _
    have w2 : Well (upd H wl (.lst (([V.int a, V.int b, V.int c]).set 2 (V.int (c + 1))))) wl (n + 1) := ⟨a, b, c + 1, e2, ha, hb, hb2, by omega, by omega⟩
    generalize upd H wl (.lst (([V.int a, V.int b, V.int c]).set 2 (V.int (c + 1)))) = H2 at e2 k2 w2 ⊢
    have p60 : (2 : Nat) ^ 60 = 1152921504606846976 := by decide
    have p64 : (2 : Int) ^ 64 = 18446744073709551616 := by decide
    have p200 : (2 : Nat) ^ 200 = 1606938044258990275541962092341162602522202993782792835301376 := by decide +kernel
    have p201 : (2 : Nat) ^ 201 = 3213876088517980551083924184682325205044405987565585670602752 := by decide +kernel
    have b1 : (b + 715827883 * (c + 1)).natAbs < 2 ^ 201 := by omega
    have m1 : (10 : Int) ^ (41 : Int).toNat + 109 = 100000000000000000000000000000000000000109 := by decide +kernel
    have m2 : (10 : Int) ^ (39 : Int).toNat + 3 = 1000000000000000000000000000000000000003 := by decide +kernel
    -- blend = int(well[1] + 715827883 * well[2]) ** 3 % (10 ** 41 + 109)
    refine ⟨_, rfl, wl, _, _, _, rfl, rfl, g0 e2, rfl, _, rfl, wl, _, _, _, rfl, rfl, g0 e2, rfl, _, _, rfl, rfl, mul_small ⟨by rw [p64]; decide, by rw [p64]; decide⟩, _, _, rfl, rfl, .inl ⟨_, rfl, _, _, rfl, rfl, cpow3 b1 (by decide) (by decide),
      _, _, rfl, rfl, cpow10 (by decide) (by decide), _, _, rfl, rfl, _, _, rfl, rfl, by rw [m1]; show (0 : Int) < 100000000000000000000000000000000000000109; decide, ?_⟩⟩
    rw [m1]
    have b2 : ∀ x : Int, 0 ≤ x → x < 100000000000000000000000000000000000000109 → (x + 198491317 * (c + 1)).natAbs < 2 ^ 201 := fun x h h' => by omega
    have b3 : ∀ z : Int, (z % 100000000000000000000000000000000000000109 + 198491317 * (c + 1)).natAbs < 2 ^ 201 := fun z => b2 _ (Int.emod_nonneg _ (by decide)) (Int.emod_lt_of_pos _ (by decide))
    -- blend = int(blend + 198491317 * well[2]) ** 3 % (10 ** 39 + 3)
    refine ⟨_, rfl, _, rfl, wl, _, _, _, rfl, rfl, g0 e2, rfl, _, _, rfl, rfl, mul_small ⟨by rw [p64]; decide, by rw [p64]; decide⟩, _, _, rfl, rfl, .inl ⟨_, rfl, _, _, rfl, rfl, cpow3 (b3 _) (by decide) (by decide),
      _, _, rfl, rfl, cpow10 (by decide) (by decide), _, _, rfl, rfl, _, _, rfl, rfl, by rw [m2]; show (0 : Int) < 1000000000000000000000000000000000000003; decide, ?_⟩⟩
    rw [m2]
    -- return int(blend // 1048576) % most
    refine ⟨_, rfl, _, _, rfl, rfl, ⟨by decide, by decide +kernel⟩, .inl ⟨_, rfl, _, rfl, _, _, rfl, rfl, by omega, ?_⟩⟩
    exact q _ _ (Int.emod_nonneg _ (by omega)) (Int.emod_lt_of_pos _ (by omega)) k2 w2
abbrev st__law_well : Stmt := topS 25
abbrev N__law_well : List Str := ["script", "at", "cell"]
theorem sc__law_well : FnScope N__law_well ["script", "at"] (defScope st__law_well) := ⟨rfl, rfl, rfl, by decide +kernel, rfl, by decide +kernel, by decide +kernel⟩
theorem ok__law_well (D : Df K mg "_law_well" st__law_well ["script", "at"]) (B : Bl mg) : Kn P w K mg base CX0 1 "_law_well" st__law_well ["script", "at"] (spWell K) := by
  refine D.ok sc__law_well (fun vs H Q E h => ?_) (fun f cdv A outer s H vs Q E hr h => ?_)
  · obtain ⟨a, ns, i, rfl, _⟩ := h; rfl
  obtain ⟨a, ns, i, rfl, hS, hi, q⟩ := h
  refine ⟨_, ((pss_cons (ps_set (i := 2) sc__law_well.nd rfl (Or.inl rfl) (pe_ifExp (pt_cmpR op_lt (pv 1) (pe_callB call_len (by rfl) B.len (by decide +kernel) (pa_cons (pv 0) pa_nil)) (nomark _)) (pe_ix ix_list (pv 0) (pv 1) (fun _ _ => rfl)) pe_int))
      (pss_one (ps_ret (pe_lst (pa_cons (pe_callB (call_max2 rfl) (by rfl) B.max (by decide +kernel) (pa_cons pe_int (pa_cons (pe_op op_sub (pe_callB call_abs (by rfl) B.abs (by decide +kernel) (pa_cons (pv 2) pa_nil)) (pe_op op_powW pe_int pe_int)) pa_nil))) (pa_cons (pe_op op_add (pe_op op_add (pe_op op_mul (pe_op op_mod (pe_callTy call_int1 (by rfl) B.int (by decide +kernel) (pa_cons (pv 2) pa_nil)) (pe_op op_add (pe_op op_powW pe_int pe_int) pe_int)) pe_int) (pe_op op_mul pe_int (pv 1))) pe_int) (pa_cons pe_int pa_nil)))))))), ?_⟩
  have p64 : (2 : Int) ^ 64 = 18446744073709551616 := by decide
  have m1 : (10 : Int) ^ (37 : Int).toNat + 141 = 10000000000000000000000000000000000141 := by decide +kernel
  have p200 : (2 : Nat) ^ 200 = 1606938044258990275541962092341162602522202993782792835301376 := by decide +kernel
  -- what follows once the cell is known
  have rest : ∀ cell : Int, (tRet (tLst (tCons (tCB (fun xs H Q => ∃ i j, xs = [V.int i, V.int j] ∧ Q (.int (if j > i then j else i)) H) (tCons (tC (.int 0)) (tCons (tOp (rI0 fun i j => .int (i - j)) (tCB (fun xs H Q => ∃ i, xs = [V.int i] ∧ Q (.int (if i < 0 then -i else i)) H) (tCons (tVar 2) tNil)) (tOp (rI CPowW fun i j => .int (i ^ j.toNat)) (tC (.int 10)) (tC (.int 18)))) tNil)))
      (tCons (tOp (rI0 fun i j => .int (i + j)) (tOp (rI0 fun i j => .int (i + j)) (tOp (rI CMul fun i j => .int (i * j)) (tOp (rI (fun _ j => 0 < j) fun i j => .int (i % j)) (tCB (fun xs H Q => (∃ i, xs = [V.int i] ∧ Q (.int i) H) ∨ ∃ k, xs = [V.bl k] ∧ Q (.int (if k then 1 else 0)) H) (tCons (tVar 2) tNil)) (tOp (rI0 fun i j => .int (i + j)) (tOp (rI CPowW fun i j => .int (i ^ j.toNat)) (tC (.int 10)) (tC (.int 37))) (tC (.int 141)))) (tC (.int 101))) (tOp (rI CMul fun i j => .int (i * j)) (tC (.int 67)) (tVar 1))) (tC (.int 41)))
        (tCons (tC (.int 0)) tNil))))) { nx := fun _ H' => Q .non H', rt := Q } [some (.ref a), some (.int (i : Int)), some (.int cell)] H := fun cell => by
    refine ⟨_, rfl, _, rfl, _, _, rfl, rfl, cpow10 (by decide) (by decide), _, _, rfl, rfl, _, _, rfl, ?_⟩
    refine ⟨_, rfl, .inl ⟨_, rfl, _, _, rfl, rfl, cpow10 (by decide) (by decide), _, _, rfl, rfl, _, _, rfl, rfl, by rw [m1]; show (0 : Int) < 10000000000000000000000000000000000141; decide, _, _, rfl, rfl, .inr ⟨by decide, by decide⟩, _, rfl, _, _, rfl, rfl, .inl ⟨by decide, by decide⟩, _, _, rfl, rfl, _, _, rfl, rfl, by show 3 ≤ sizeLine; decide, fun p hp => ?_⟩⟩
    rw [m1]
    have x0 : 0 ≤ cell % 10000000000000000000000000000000000141 := Int.emod_nonneg _ (by decide)
    have x1 : cell % 10000000000000000000000000000000000141 < 10000000000000000000000000000000000141 := Int.emod_lt_of_pos _ (by decide)
    refine q p _ ((Same.refl H).new hp) hp ⟨_, _, 0, upd_same, ?_, ?_, ?_, Int.le_refl _, Int.le_refl _⟩
    · split <;> omega
    · omega
    · omega
  refine ⟨_, rfl, _, rfl, _, _, rfl, .inl ⟨_, hS, rfl⟩, _, _, rfl, rfl, _, rfl, ?_⟩
  refine ite2 (fun c1 => ?_) (fun c1 => ?_)
  · have hl : i < (ns.map V.int).length := by
      have c2 := of_decide_eq_true c1
      omega
    have hl2 : i < ns.length := by rw [List.length_map] at hl; exact hl
    refine ⟨_, rfl, _, rfl, a, _, _, _, rfl, rfl, hS, atI_nat (v := V.int ns[i]) (by rw [List.getElem?_map, List.getElem?_eq_getElem hl2]; rfl), ?_⟩
    exact rest _
  · exact rest 0
end

end My

namespace My
open PySem PySem.Spec PyProof.Rows L2
/-! ### a drawn forest: the mathematics -/
theorem walk_range0 {n : Nat} : Walk (Itr 0 n) n (fun _ => True) (YFn fun i => .int (i : Int)) :=
  (walk_range (lo := 0)).mono (fun _ h => h) fun i H x H' _ _ y => ⟨y.1, by rw [y.2]; show V.int (0 + (i : Int)) = V.int (i : Int); rw [Int.zero_add]⟩
def LtF (l : Hs) : Prop := ∀ j u : Nat, l[j]? = some (some u) → u < j
theorem LtF.snoc {l : Hs} {o : Option Nat} (h : LtF l) (ho : ∀ u, o = some u → u < l.length) : LtF (l ++ [o]) := fun j u e => by
  by_cases hj : j < l.length
  · rw [List.getElem?_append_left hj] at e; exact h j u e
  · have hj2 : l.length ≤ j := by omega
    rw [List.getElem?_append_right hj2] at e
    by_cases hz : j - l.length = 0
    · rw [hz] at e
      have q := ho u (Option.some.inj e)
      omega
    · obtain ⟨k, hk⟩ := Nat.exists_eq_succ_of_ne_zero hz
      rw [hk] at e; cases e
theorem fo_plain {l : Hs} (hne : l ≠ []) (h : LtF l) : Fo l := by
  refine ⟨hne, fun v u e => ?_, fun v hv => ?_⟩
  · have h1 := h v u e
    have h2 := (List.getElem?_eq_some_iff.mp e).1
    omega
  · induction v using Nat.strongRecOn with
    | _ v ih =>
      cases e : l[v]? with
      | none => rw [List.getElem?_eq_none_iff] at e; omega
      | some o =>
        cases o with
        | none => exact .root e
        | some u =>
          have q := h v u e
          exact .step e (ih u q (by omega))
def ren (nm : List Nat) : Option Nat → Option Nat
  | none => none
  | some u => some (nm.getD u 0)
theorem fo_turned {l T : Hs} {nm : List Nat} (hne : l ≠ []) (h : LtF l) (hp : nm.Perm (List.range l.length)) (hT : T.length = l.length)
    (hr : ∀ (j v : Nat) (o : Option Nat), nm[j]? = some v → l[j]? = some o → T[v]? = some (ren nm o)) : Fo T := by
  have hlen : nm.length = l.length := by rw [hp.length_eq, List.length_range]
  have hat : ∀ j : Nat, j < l.length → ∃ v o, nm[j]? = some v ∧ l[j]? = some o ∧ v < l.length := fun j hj => by
    have h1 : j < nm.length := by omega
    refine ⟨nm[j], l[j], List.getElem?_eq_getElem h1, List.getElem?_eq_getElem hj, ?_⟩
    have q := hp.mem_iff.mp (List.getElem_mem h1)
    exact List.mem_range.mp q
  have back : ∀ v : Nat, v < l.length → ∃ j : Nat, nm[j]? = some v := fun v hv => by
    have q := hp.mem_iff.mpr (List.mem_range.mpr hv)
    exact List.getElem?_of_mem q
  have jl : ∀ {j v : Nat}, nm[j]? = some v → j < l.length := fun {j v} e => by
    have q := (List.getElem?_eq_some_iff.mp e).1
    omega
  have rc : ∀ j v : Nat, nm[j]? = some v → Rch T v := fun j => by
    induction j using Nat.strongRecOn with
    | _ j ih =>
      intro v e
      obtain ⟨v', o, e1, e2, e3⟩ := hat j (jl e)
      have ev : v' = v := Option.some.inj (e1.symm.trans e)
      subst ev
      have q := hr j v' o e e2
      cases o with
      | none => exact .root q
      | some u =>
        have hu := h j u e2
        obtain ⟨vu, ou, f1, f2, f3⟩ := hat u (Nat.lt_trans hu (jl e))
        have g : nm.getD u 0 = vu := by rw [List.getD_eq_getElem?_getD, f1]; rfl
        refine .step (u := vu) ?_ (ih u hu vu f1)
        rw [q]; show some (some (nm.getD u 0)) = _; rw [g]
  refine ⟨fun z => hne (List.eq_nil_of_length_eq_zero (by rw [z] at hT; exact hT.symm)), fun v u e => ?_, fun v hv => ?_⟩
  · have hv := (List.getElem?_eq_some_iff.mp e).1
    rw [hT] at hv
    obtain ⟨j, ej⟩ := back v hv
    obtain ⟨v', o, e1, e2, e3⟩ := hat j (jl ej)
    have q := hr j v o ej e2
    rw [q] at e
    cases o with
    | none => cases e
    | some w =>
      have hw := h j w e2
      obtain ⟨vu, ou, f1, f2, f3⟩ := hat w (Nat.lt_trans hw (jl ej))
      have g : nm.getD w 0 = vu := by rw [List.getD_eq_getElem?_getD, f1]; rfl
      have e4 : nm.getD w 0 = u := Option.some.inj (Option.some.inj e)
      rw [hT]; omega
  · rw [hT] at hv
    obtain ⟨j, ej⟩ := back v hv
    exact rc j v ej
theorem nv_erase : ∀ (l : List Nat) (k : Nat), nv (l.eraseIdx k) = (nv l).eraseIdx k
  | [], k => by simp [nv]
  | a :: r, 0 => rfl
  | a :: r, k + 1 => by
    have ih := nv_erase r k
    show V.int (a : Int) :: nv (r.eraseIdx k) = V.int (a : Int) :: (nv r).eraseIdx k
    rw [ih]
theorem nv_range (n : Nat) : rgV 0 (n : Int) = nv (List.range n) := by
  unfold rgV nv
  have e : ((n : Int) - 0).toNat = n := by omega
  rw [e]
  refine List.map_congr_left fun i _ => ?_
  show V.int (0 + (i : Int)) = V.int (i : Int)
  rw [Int.zero_add]
theorem ixN_nat {n j : Nat} (h : j < n) : ixN n (j : Int) = some j := by
  unfold ixN
  rw [if_pos (by omega), if_pos (by omega)]
  congr 1
theorem seq_nat {n j : Nat} (h : j < n) : seqIndex? (j : Int) n = some j := (ixN_seq (ixN_nat h)).1
theorem rep_non : ∀ k : Nat, (List.replicate k [V.non]).flatten = (List.replicate k (none : Option Nat)).map hv
  | 0 => rfl
  | k + 1 => by
    rw [List.replicate_succ, List.flatten_cons, rep_non k, List.replicate_succ, List.map_cons]; rfl
theorem erase_perm : ∀ (l : List Nat) (j : Nat) (h : j < l.length), (l[j] :: l.eraseIdx j).Perm l
  | a :: r, 0, _ => List.Perm.refl _
  | a :: r, j + 1, h => by
    have hj : j < r.length := by rw [List.length_cons] at h; omega
    have ih := erase_perm r j hj
    exact (List.Perm.swap a (r[j]'hj) (r.eraseIdx j)).trans (List.Perm.cons a ih)
/-- one of a few, by a drawn number -/
theorem pick {xs : List V} {d : Int} (h0 : 0 ≤ d) (h1 : d < (xs.length : Int)) : ∃ v, v ∈ xs ∧ atI xs d = some v := by
  have hl : d.toNat < xs.length := by omega
  refine ⟨xs[d.toNat], List.getElem_mem hl, ?_⟩
  have e : d = ((d.toNat : Nat) : Int) := by omega
  have q := atI_nat (List.getElem?_eq_getElem hl)
  rw [← e] at q; exact q
def OkV (k : Nat) (v : V) : Prop := ∃ o : Option Nat, v = hv o ∧ ∀ u, o = some u → u < k
theorem OkV.non (k : Nat) : OkV k .non := ⟨none, rfl, fun _ h => by cases h⟩
theorem OkV.int {k : Nat} {i : Int} (h0 : 0 ≤ i) (h1 : i < (k : Int)) : OkV k (.int i) := by
  refine ⟨some i.toNat, ?_, fun u h => ?_⟩
  · show V.int i = V.int ((i.toNat : Nat) : Int)
    congr 1; omega
  · have e := Option.some.inj h
    omega
/-- slots of the drawing def -/
abbrev slF (wl F : Addr) (m sz way : Int) (v5 v6 v7 v8 v9 : Option V) : L2.St := [some (.ref wl), some (.int m), some (.int sz), some (.int way), some (.ref F), v5, v6, v7, v8, v9]
def spLForest : Sp := fun vs H Q _ => ∃ (wl : Addr) (n : Nat) (m : Int), vs = [.ref wl, .int m] ∧ Well H wl n ∧ n < 2 ^ 50 ∧ 1 ≤ m ∧ m ≤ 60 ∧
  ∀ t hs H', Fo hs → (hs.length : Int) ≤ m → Keep wl H H' → Well H' wl (n + 400) → H t = none → H' t = some (.tup (hs.map hv)) → Q (.ref t) H'
section
variable {P : Program} {w : World} {K : PySem.W.Frag} {mg : Str → Option Value} {base : Heap}
abbrev st__law_forest : Stmt := topS 28
abbrev N__law_forest : List Str := ["well", "most", "size", "way", "found", "k", "some", "names", "left", "turned_here"]
theorem sc__law_forest : FnScope N__law_forest ["well", "most"] (defScope st__law_forest) := ⟨rfl, rfl, rfl, by decide +kernel, rfl, by decide +kernel, by decide +kernel⟩
theorem ok__law_forest (D : Df K mg "_law_forest" st__law_forest ["well", "most"]) (B : Bl mg) (K_law_draw : Kn P w K mg base CX0 1 "_law_draw" st__law_draw ["well", "most"] spDraw) :
    Kn P w K mg base CX0 3 "_law_forest" st__law_forest ["well", "most"] spLForest := by
  refine D.ok sc__law_forest (fun vs H Q E h => ?_) (fun f cdv A outer s H vs Q E hr h => ?_)
  · obtain ⟨wl, n, m, rfl, _⟩ := h; rfl
  obtain ⟨wl, n, m, rfl, hw, hn, hm1, hm2, q⟩ := h
  refine ⟨_, ((pss_cons (ps_set (i := 2) sc__law_forest.nd rfl (Or.inl rfl) (pe_op op_add pe_int (pe_callF K_law_draw (hr.mono (by decide)) pass0 (pa_cons (pv 0) (pa_cons (pv 1) pa_nil)))))
      (pss_cons (ps_set (i := 3) sc__law_forest.nd rfl (Or.inl rfl) (pe_callF K_law_draw (hr.mono (by decide)) pass0 (pa_cons (pv 0) (pa_cons pe_int pa_nil))))
      (pss_cons (ps_set (i := 4) sc__law_forest.nd rfl (Or.inl rfl) (pe_lst pa_nil))
      (pss_cons (ps_for PassesOwn.never rfl (pi_range1 (by rfl) B.range (pa_cons (pv 2) pa_nil)) (pg_name (i := 5) sc__law_forest.nd rfl (Or.inl rfl)) (C8.pss_cut (ps_set (i := 6) sc__law_forest.nd rfl (Or.inl rfl) (pe_ifExp (pt_cmpR op_gt (pv 5) pe_int (nomark _)) (pe_ix ix_list (pe_lst (pa_cons pe_non (pa_cons (pe_op op_sub (pv 5) pe_int) (pa_cons (pe_callF K_law_draw (hr.mono (by decide)) pass0 (pa_cons (pv 0) (pa_cons (pe_callB (call_max2 rfl) (by rfl) B.max (by decide +kernel) (pa_cons pe_int (pa_cons (pv 5) pa_nil))) pa_nil))) pa_nil)))) (pe_callF K_law_draw (hr.mono (by decide)) pass0 (pa_cons (pv 0) (pa_cons pe_int pa_nil))) (fun _ _ => rfl)) pe_non))
      (C8.pss_cut (ps_if (PW.pt (pw_and (pt_cmpR op_gt (pv 5) pe_int (nomark _)) (pw_and1 (pt_cmpR op_eq (pv 3) pe_int (nomark _))))) (pss_one (ps_set (i := 6) sc__law_forest.nd rfl (Or.inl rfl) (pe_ix ix_list (pe_lst (pa_cons (pe_op op_sub (pv 5) pe_int) (pa_cons (pe_callB (call_max2 rfl) (by rfl) B.max (by decide +kernel) (pa_cons pe_int (pa_cons (pe_op op_sub (pv 5) pe_int) pa_nil))) pa_nil))) (pe_callF K_law_draw (hr.mono (by decide)) pass0 (pa_cons (pv 0) (pa_cons pe_int pa_nil))) (fun _ _ => rfl)))) pss_nil)
      (C8.pss_cut (ps_if (PW.pt (pw_and (pt_cmpR op_gt (pv 5) pe_int (nomark _)) (pw_and1 (pt_cmpR op_eq (pv 3) pe_int (nomark _))))) (pss_one (ps_set (i := 6) sc__law_forest.nd rfl (Or.inl rfl) (pe_ix ix_list (pe_lst (pa_cons pe_int (pa_cons pe_int (pa_cons pe_non (pa_cons (pe_callF K_law_draw (hr.mono (by decide)) pass0 (pa_cons (pv 0) (pa_cons (pv 5) pa_nil))) pa_nil))))) (pe_callF K_law_draw (hr.mono (by decide)) pass0 (pa_cons (pv 0) (pa_cons pe_int pa_nil))) (fun _ _ => rfl)))) pss_nil)
      (pss_one (ps_expr (pe_bm PySem.F.plainAttrs_list PySem.F.slot_list_append PySem.F.type_list_append mt_append (pv 4) (pa_cons (pv 6) pa_nil))))))))
      (pss_cons (ps_if (pt_cmpR op_eq (pe_callF K_law_draw (hr.mono (by decide)) pass0 (pa_cons (pv 0) (pa_cons pe_int pa_nil))) pe_int (nomark _)) (pss_one (ps_ret (pe_callTy call_tuple_of (by rfl) B.tuple (by decide +kernel) (pa_cons (pv 4) pa_nil)))) pss_nil)
      (pss_cons (ps_par (i := 7) (j := 8) (by rfl) sc__law_forest.nd rfl rfl (by decide) rfl rfl (pa_cons (pe_lst pa_nil) (pa_cons (pe_listRg rfl (by rfl) B.list (prg_1 (by rfl) B.range (pv 2))) pa_nil)) (by rfl))
      (pss_cons (ps_for PassesOwn.never rfl (pi_range1 (by rfl) B.range (pa_cons (pv 2) pa_nil)) (pg_name (i := 5) sc__law_forest.nd rfl (Or.inl rfl)) (pss_one (ps_expr (pe_bm PySem.F.plainAttrs_list PySem.F.slot_list_append PySem.F.type_list_append mt_append (pv 7) (pa_cons (pe_bm PySem.F.plainAttrs_list PySem.F.slot_list_pop PySem.F.type_list_pop mt_popAt (pv 8) (pa_cons (pe_callF K_law_draw (hr.mono (by decide)) pass0 (pa_cons (pv 0) (pa_cons (pe_callB call_len (by rfl) B.len (by decide +kernel) (pa_cons (pv 8) pa_nil)) pa_nil))) pa_nil)) pa_nil)))))
      (pss_cons (ps_set (i := 9) sc__law_forest.nd rfl (Or.inl rfl) (pe_op op_rep (pe_lst (pa_cons pe_non pa_nil)) (pv 2)))
      (pss_cons (ps_for PassesOwn.never rfl (pi_range1 (by rfl) B.range (pa_cons (pv 2) pa_nil)) (pg_name (i := 5) sc__law_forest.nd rfl (Or.inl rfl)) (pss_one (ps_asg (pe_ifExp (pt_cmpR op_isN (pe_ix ix_list (pv 4) (pv 5) (fun _ _ => rfl)) pe_non (nomark _)) pe_non (pe_ix ix_list (pv 7) (pe_ix ix_list (pv 4) (pv 5) (fun _ _ => rfl)) (fun _ _ => rfl))) (pg_sub (pv 9) (pe_ix ix_list (pv 7) (pv 5) (fun _ _ => rfl)) set_list))))
      (pss_one (ps_ret (pe_callTy call_tuple_of (by rfl) B.tuple (by decide +kernel) (pa_cons (pv 9) pa_nil)))))))))))))), ?_⟩
  have p50 : (2 : Nat) ^ 50 = 1125899906842624 := by decide
  have p60 : (2 : Nat) ^ 60 = 1152921504606846976 := by decide
  have p100 : (2 : Nat) ^ 100 = 1267650600228229401496703205376 := by decide +kernel
  have p62 : (2 : Int) ^ 62 = 4611686018427387904 := by decide
  have p63 : (2 : Int) ^ 63 = 9223372036854775808 := by decide
  obtain ⟨wl0, hwl0⟩ := hw.here
  -- size = 1 + _law_draw(well, most); way = _law_draw(well, 4); found = []
  refine ⟨_, rfl, _, rfl, wl, n, _, rfl, hw, by omega, by omega, by omega, fun d0 H1 d00 d01 k1 w1 => ⟨_, _, rfl, rfl, ?_⟩⟩
  refine ⟨_, rfl, wl, n + 1, _, rfl, w1, by omega, by omega, by omega, fun way H2 _ _ k2 w2 => ?_⟩
  refine ⟨by show 0 ≤ sizeLine; decide, fun F hF2 => ?_⟩
  obtain ⟨sz, hsz⟩ : ∃ sz : Nat, 1 + d0 = (sz : Int) := ⟨(1 + d0).toNat, by omega⟩
  have hsz1 : 1 ≤ sz := by omega
  have hsz2 : (sz : Int) ≤ m := by omega
  have hsz3 : sz ≤ 60 := by omega
  have k02 := k1.trans k2
  have hFw : F ≠ wl := by
    obtain ⟨l2, e2⟩ := w2.here
    exact (ne_of_none e2 hF2).symm
  have hFn : H F = none := by
    cases eF : H F with
    | none => rfl
    | some o =>
      have z := k02 F o hFw eF
      rw [hF2] at z; cases z
  -- for k in range(size)
  refine ⟨_, rfl, _, rfl, by omega, by omega, for_it walk_range0 (fun i σ H' => ∃ v5 v6, σ = slF wl F m (1 + d0) way v5 v6 none none none ∧ Keep wl H H' ∧ Well H' wl (n + 2 + 5 * i) ∧ ∃ l : Hs, l.length = i ∧ LtF l ∧ H' F = some (.lst (l.map hv)))
    ⟨none, none, rfl, k02.new hF2, (w2.same ((Same.refl H2).new hF2)), [], rfl, fun j u e => (by cases e), upd_same⟩ (fun _ _ _ _ _ => trivial) ?_ ?_⟩
  · rintro i x σ H3 H4 hi ⟨v5, v6, rfl, k3, w3, l, hl, hlt, hF3⟩ ⟨rfl, rfl⟩
    have hi' : i < sz := by omega
    -- some = [None, k - 1, draw(max(1, k))][draw(3)] if k > 0 else None
    refine ⟨fun σ' H' => ∃ v6, OkV i v6 ∧ σ' = slF wl F m (1 + d0) way (some (.int (i : Int))) (some v6) none none none ∧ Keep wl H H' ∧ Well H' wl (n + 2 + 5 * i + 2) ∧ H' F = some (.lst (l.map hv)), ?_, ?_⟩
    · refine ⟨_, rfl, _, _, rfl, rfl, _, rfl, ?_⟩
      refine ite2 (fun c => ?_) (fun c => ?_)
      · have ci : (0 : Int) < (i : Int) := of_decide_eq_true c
        refine ⟨_, rfl, _, _, rfl, rfl, ?_⟩
        refine ⟨_, rfl, _, rfl, _, _, rfl, wl, _, _, rfl, w3, by omega, by split <;> omega, by split <;> omega, fun d H5 d0 d1 k5 w5 => ⟨by show 3 ≤ sizeLine; decide, fun L hL => ?_⟩⟩
        have w6 := w5.same ((Same.refl H5).new (o := .lst [.non, .int ((i : Int) - 1), .int d]) hL)
        refine ⟨_, rfl, wl, _, _, rfl, w6, by omega, by omega, by omega, fun d2 H6 e0 e1 k6 w6 => ?_⟩
        have hLw : L ≠ wl := by
          obtain ⟨l2, e2⟩ := w5.here
          exact (ne_of_none e2 hL).symm
        have hL6 : H6 L = some (.lst [.non, .int ((i : Int) - 1), .int d]) := k6 L _ hLw upd_same
        obtain ⟨v, hv1, hv2⟩ := pick (xs := [.non, .int ((i : Int) - 1), .int d]) e0 e1
        refine ⟨L, _, _, v, rfl, rfl, SqL.of hL6, hv2, v, ?_, rfl, (k3.trans (k5.new hL)).trans k6, w6, k6 F _ hFw ?_⟩
        · have d2' : d < (i : Int) := by
            split at d1 <;> omega
          simp only [List.mem_cons, List.not_mem_nil, or_false] at hv1
          rcases hv1 with rfl | rfl | rfl
          · exact .non i
          · exact .int (by omega) (by omega)
          · exact .int d0 d2'
        · have z := k5 F _ hFw hF3
          rw [upd_ne (ne_of_none z hL)]; exact z
      · exact ⟨.non, .non i, rfl, k3, w3.mono (by omega), hF3⟩
    · rintro σ' H5 ⟨v6, ok6, rfl, k5, w5, hF5⟩
      -- if k > 0 and way == 0
      refine ⟨fun σ' H' => ∃ v6, OkV i v6 ∧ σ' = slF wl F m (1 + d0) way (some (.int (i : Int))) (some v6) none none none ∧ Keep wl H H' ∧ Well H' wl (n + 2 + 5 * i + 3) ∧ H' F = some (.lst (l.map hv)), ?_, ?_⟩
      · refine ⟨_, rfl, _, _, rfl, rfl, _, rfl, ?_⟩
        refine ite2 (fun c => ?_) (fun c => ?_)
        · have ci : (0 : Int) < (i : Int) := of_decide_eq_true c
          refine ⟨_, rfl, rfl, _, rfl, ?_⟩
          refine ite2 (fun c2 => ?_) (fun c2 => ?_)
          · refine ⟨_, rfl, _, _, rfl, rfl, _, rfl, _, _, rfl, rfl, _, _, rfl, by show 2 ≤ sizeLine; decide, fun L hL => ?_⟩
            have w6 := w5.same ((Same.refl H5).new (o := .lst [.int ((i : Int) - 1), .int (if (i : Int) - 2 > 0 then (i : Int) - 2 else 0)]) hL)
            refine ⟨_, rfl, wl, _, _, rfl, w6, by omega, by omega, by omega, fun d2 H6 e0 e1 k6 w6 => ?_⟩
            have hLw : L ≠ wl := by
              obtain ⟨l2, e2⟩ := w5.here
              exact (ne_of_none e2 hL).symm
            have hL6 : H6 L = some (.lst [.int ((i : Int) - 1), .int (if (i : Int) - 2 > 0 then (i : Int) - 2 else 0)]) := k6 L _ hLw upd_same
            obtain ⟨v, hv1, hv2⟩ := pick (xs := [.int ((i : Int) - 1), .int (if (i : Int) - 2 > 0 then (i : Int) - 2 else 0)]) e0 e1
            refine ⟨L, _, _, v, rfl, rfl, SqL.of hL6, hv2, v, ?_, rfl, (k5.new hL).trans k6, w6, k6 F _ hFw ?_⟩
            · simp only [List.mem_cons, List.not_mem_nil, or_false] at hv1
              rcases hv1 with rfl | rfl
              · exact .int (by omega) (by omega)
              · exact .int (by split <;> omega) (by split <;> omega)
            · rw [upd_ne (ne_of_none hF5 hL)]; exact hF5
          · exact ⟨v6, ok6, rfl, k5, w5.mono (by omega), hF5⟩
        · exact ⟨v6, ok6, rfl, k5, w5.mono (by omega), hF5⟩
      · rintro σ' H6 ⟨v6, ok6, rfl, k6, w6, hF6⟩
        -- if k > 0 and way == 1
        refine ⟨fun σ' H' => ∃ v6, OkV i v6 ∧ σ' = slF wl F m (1 + d0) way (some (.int (i : Int))) (some v6) none none none ∧ Keep wl H H' ∧ Well H' wl (n + 2 + 5 * i + 5) ∧ H' F = some (.lst (l.map hv)), ?_, ?_⟩
        · refine ⟨_, rfl, _, _, rfl, rfl, _, rfl, ?_⟩
          refine ite2 (fun c => ?_) (fun c => ?_)
          · have ci : (0 : Int) < (i : Int) := of_decide_eq_true c
            refine ⟨_, rfl, rfl, _, rfl, ?_⟩
            refine ite2 (fun c2 => ?_) (fun c2 => ?_)
            · refine ⟨_, rfl, _, rfl, wl, _, _, rfl, w6, by omega, by omega, by omega, fun d H7 d0 d1 k7 w7 => ⟨by show 4 ≤ sizeLine; decide, fun L hL => ?_⟩⟩
              have w8 := w7.same ((Same.refl H7).new (o := .lst [.int 0, .int 0, .non, .int d]) hL)
              refine ⟨_, rfl, wl, _, _, rfl, w8, by omega, by omega, by omega, fun d2 H8 e0 e1 k8 w8 => ?_⟩
              have hLw : L ≠ wl := by
                obtain ⟨l2, e2⟩ := w7.here
                exact (ne_of_none e2 hL).symm
              have hL8 : H8 L = some (.lst [.int 0, .int 0, .non, .int d]) := k8 L _ hLw upd_same
              obtain ⟨v, hv1, hv2⟩ := pick (xs := [.int 0, .int 0, .non, .int d]) e0 e1
              refine ⟨L, _, _, v, rfl, rfl, SqL.of hL8, hv2, v, ?_, rfl, (k6.trans (k7.new hL)).trans k8, w8, k8 F _ hFw ?_⟩
              · simp only [List.mem_cons, List.not_mem_nil, or_false] at hv1
                rcases hv1 with rfl | rfl | rfl | rfl
                · exact .int (by omega) (by omega)
                · exact .int (by omega) (by omega)
                · exact .non i
                · exact .int d0 d1
              · have z := k7 F _ hFw hF6
                rw [upd_ne (ne_of_none z hL)]; exact z
            · exact ⟨v6, ok6, rfl, k6, w6.mono (by omega), hF6⟩
          · exact ⟨v6, ok6, rfl, k6, w6.mono (by omega), hF6⟩
        · rintro σ' H7 ⟨v6, ⟨o, rfl, ho⟩, rfl, k7, w7, hF7⟩
          -- found.append(some)
          refine ⟨_, rfl, .inl ⟨rfl, _, SqL.of hF7⟩, _, rfl, F, _, _, rfl, rfl, hF7, by rw [List.length_map]; exact szl (by omega), ?_⟩
          have kf : Keep wl H (upd H7 F (.lst (l.map hv ++ [hv o]))) := fun b u hb e => by
            rw [upd_ne (ne_of_none e hFn)]; exact k7 b u hb e
          refine ⟨_, _, rfl, kf, ?_, l ++ [o], by rw [List.length_append, hl]; rfl, hlt.snoc (by rw [hl]; exact ho), by rw [upd_same, List.map_append]; rfl⟩
          obtain ⟨a, b, c, e, r⟩ := w7.ex
          exact ⟨a, b, c, by rw [upd_ne hFw.symm]; exact e, r.1, r.2.1, r.2.2.1, r.2.2.2.1, by omega⟩
  · rintro σ H3 ⟨v5, v6, rfl, k3, w3, l, hl, hlt, hF3⟩
    have e0 : (1 + d0).toNat = sz := by omega
    rw [e0] at w3 hl
    have hlne : l ≠ [] := by
      intro z; rw [z] at hl; rw [← hl] at hsz1; exact absurd hsz1 (by decide)
    -- if _law_draw(well, 3) == 0: return tuple(found)
    refine ⟨_, rfl, wl, _, _, rfl, w3, by omega, by omega, by omega, fun d H4 _ _ k4 w4 => ?_⟩
    have hF4 := k4 F _ hFw hF3
    have k04 := k3.trans k4
    refine ⟨rfl, _, rfl, ?_⟩
    refine ite2 (fun c => ?_) (fun c => ?_)
    · refine ⟨_, rfl, F, _, rfl, .inl ⟨SqL.of hF4, fun t ht => ?_⟩⟩
      have w5 := w4.same ((Same.refl H4).new (o := .tup (l.map hv)) ht)
      have htn : H t = none := by
        cases et : H t with
        | none => rfl
        | some o =>
          by_cases htw : t = wl
          · obtain ⟨l2, e2⟩ := w4.here
            rw [htw, e2] at ht; cases ht
          · have z := k04 t o htw et
            rw [ht] at z; cases z
      refine q t l _ (fo_plain hlne hlt) (by omega) (k04.new ht) (w5.mono (by omega)) htn upd_same
    · -- names, left = [], list(range(size))
      refine ⟨by show 0 ≤ sizeLine; decide, fun N hN => ?_⟩
      refine ⟨_, rfl, _, rfl, RgOk.of_le (by omega) (by omega) (by omega) (by omega), fun L hL => ⟨_, _, rfl, ?_⟩⟩
      have hNn : H N = none := by
        cases et : H N with
        | none => rfl
        | some o =>
          by_cases htw : N = wl
          · obtain ⟨l2, e2⟩ := w4.here
            rw [htw, e2] at hN; cases hN
          · have z := k04 N o htw et
            rw [hN] at z; cases z
      have hNw : N ≠ wl := by
        obtain ⟨l2, e2⟩ := w4.here
        exact (ne_of_none e2 hN).symm
      have hNL : N ≠ L := ne_of_none upd_same hL
      have hNF : F ≠ N := ne_of_none hF4 hN
      have hL4 : H4 L = none := by rw [upd_ne hNL.symm] at hL; exact hL
      have hLw : L ≠ wl := by
        obtain ⟨l2, e2⟩ := w4.here
        exact (ne_of_none e2 hL4).symm
      have hFL : F ≠ L := ne_of_none hF4 hL4
      have hLn : H L = none := by
        cases et : H L with
        | none => rfl
        | some o =>
          have z := k04 L o hLw et
          rw [hL4] at z; cases z
      have kk : ∀ {H' : Hp} {a : Addr} {o : HO}, Keep wl H H' → H a = none → Keep wl H (upd H' a o) := fun {H' a o} k hn b u hb e => by
        rw [upd_ne (ne_of_none e hn)]; exact k b u hb e
      have ww : ∀ {H' : Hp} {a : Addr} {o : HO} {k : Nat}, Well H' wl k → a ≠ wl → Well (upd H' a o) wl k := fun {H' a o k} h hn => by
        obtain ⟨x, y, z, e, r⟩ := h.ex
        exact ⟨x, y, z, by rw [upd_ne hn.symm]; exact e, r⟩
      -- for k in range(size): names.append(left.pop(_law_draw(well, len(left))))
      refine ⟨_, rfl, _, rfl, by omega, by omega, for_it walk_range0 (fun i σ H' => ∃ v5, σ = slF wl F m (1 + d0) way v5 v6 (some (.ref N)) (some (.ref L)) none ∧ Keep wl H H' ∧ Well H' wl (n + 3 + 5 * sz + i) ∧ H' F = some (.lst (l.map hv)) ∧
          ∃ nm lf : List Nat, nm.length = i ∧ (nm ++ lf).Perm (List.range sz) ∧ H' N = some (.lst (nv nm)) ∧ H' L = some (.lst (nv lf)))
        ⟨v5, rfl, kk (kk k04 hNn) hLn, (ww (ww w4 hNw) hLw).mono (by omega), by rw [upd_ne hFL, upd_ne hNF]; exact hF4, [], List.range sz, rfl, List.Perm.refl _, by rw [upd_ne hNL, upd_same]; rfl, by rw [upd_same, hsz, nv_range]⟩ (fun _ _ _ _ _ => trivial) ?_ ?_⟩
      · rintro i x σ H5 H6 hi ⟨v5, rfl, k5, w5, hF5, nm, lf, hnm, hp, hN5, hL5⟩ ⟨rfl, rfl⟩
        have hi' : i < sz := by omega
        have hlf : nm.length + lf.length = sz := by
          have z := hp.length_eq
          rw [List.length_append, List.length_range] at z; exact z
        refine ⟨_, rfl, .inl ⟨rfl, _, SqL.of hN5⟩, ?_⟩
        refine ⟨_, rfl, .inl ⟨rfl, _, SqL.of hL5⟩, ?_⟩
        refine ⟨_, rfl, _, rfl, _, _, rfl, .inl ⟨_, SqL.of hL5, rfl⟩, wl, _, _, rfl, w5, by omega, by rw [nv_length]; omega, by rw [nv_length]; omega, fun d H6 d0 d1 k6 w6 => ?_⟩
        rw [nv_length] at d1
        obtain ⟨j, hj⟩ : ∃ j : Nat, d = (j : Int) := ⟨d.toNat, by omega⟩
        subst hj
        have hjl : j < lf.length := by omega
        have hL6 := k6 L _ hLw hL5
        have hN6 := k6 N _ hNw hN5
        have hF6 := k6 F _ hFw hF5
        refine ⟨L, _, _, j, _, rfl, rfl, hL6, by omega, by omega, by rw [nv_length]; exact seq_nat hjl, nv_get (List.getElem?_eq_getElem hjl), ?_⟩
        refine ⟨N, _, _, rfl, rfl, by rw [upd_ne hNL]; exact hN6, by rw [nv_length]; exact szl (by omega), ?_⟩
        refine ⟨_, rfl, kk (kk (k5.trans k6) hLn) hNn, (ww (ww w6 hLw) hNw).mono (by omega), by rw [upd_ne hNF, upd_ne hFL]; exact hF6, nm ++ [lf[j]], lf.eraseIdx j, by rw [List.length_append, hnm]; rfl, ?_, by rw [upd_same, nv_append]; rfl, by rw [upd_ne hNL.symm, upd_same, nv_erase]⟩
        have pe := erase_perm lf j hjl
        rw [List.append_assoc]
        exact (List.Perm.append_left nm pe).trans hp
      · rintro σ H5 ⟨v5, rfl, k5, w5, hF5, nm, lf, hnm, hp, hN5, hL5⟩
        rw [e0] at hnm w5
        have hlf : nm.length + lf.length = sz := by
          have z := hp.length_eq
          rw [List.length_append, List.length_range] at z; exact z
        have hlf0 : lf = [] := List.eq_nil_of_length_eq_zero (by omega)
        subst hlf0
        rw [List.append_nil] at hp
        -- turned_here = [None] * size
        refine ⟨by show 1 ≤ sizeLine; decide, fun O hO => ?_⟩
        refine ⟨_, rfl, O, _, _, rfl, rfl, upd_same, by omega, by omega, ?_, fun T hT => ?_⟩
        · show 1 * (1 + d0).toNat ≤ sizeLine
          rw [e0, Nat.one_mul]; exact Nat.le_of_lt (szl (by omega))
        have hT5 : H5 T = none := by
          have z := hT
          rw [upd_ne (ne_of_none upd_same hT).symm] at z; exact z
        have fresh : ∀ {a : Addr}, H5 a = none → H a = none ∧ a ≠ wl ∧ F ≠ a ∧ N ≠ a := fun {a} ha => by
          have h1 : a ≠ wl := by
            obtain ⟨l2, e2⟩ := w5.here
            exact (ne_of_none e2 ha).symm
          refine ⟨?_, h1, ne_of_none hF5 ha, ne_of_none hN5 ha⟩
          cases et : H a with
          | none => rfl
          | some o =>
            have z := k5 a o h1 et
            rw [ha] at z; cases z
        obtain ⟨o1, o2, o3, o4⟩ := fresh hO
        obtain ⟨t1, t2, t3, t4⟩ := fresh hT5
        have hnl : ∀ j : Nat, j < sz → ∃ v, nm[j]? = some v ∧ v < sz := fun j hj => by
          have h1 : j < nm.length := by omega
          exact ⟨nm[j], List.getElem?_eq_getElem h1, List.mem_range.mp (hp.mem_iff.mp (List.getElem_mem h1))⟩
        have hnd : nm.Nodup := hp.nodup_iff.mpr List.nodup_range
        -- for k in range(size): turned_here[names[k]] = ..
        refine ⟨_, rfl, _, rfl, by omega, by omega, for_it walk_range0 (fun i σ H' => ∃ v5, σ = slF wl F m (1 + d0) way v5 v6 (some (.ref N)) (some (.ref L)) (some (.ref T)) ∧ Keep wl H H' ∧ Well H' wl (n + 3 + 6 * sz) ∧ H' F = some (.lst (l.map hv)) ∧ H' N = some (.lst (nv nm)) ∧
            ∃ th : Hs, th.length = sz ∧ (∀ (j v : Nat) (o : Option Nat), j < i → nm[j]? = some v → l[j]? = some o → th[v]? = some (ren nm o)) ∧ H' T = some (.lst (th.map hv)))
          ⟨v5, rfl, kk (kk k5 o1) t1, (ww (ww w5 o2) t2).mono (by omega), by rw [upd_ne t3, upd_ne o3]; exact hF5, by rw [upd_ne t4, upd_ne o4]; exact hN5, List.replicate sz none, List.length_replicate, fun j v o hj => absurd hj (Nat.not_lt_zero j), by rw [upd_same, rep_non, e0]⟩ (fun _ _ _ _ _ => trivial) ?_ ?_⟩
        · rintro i x σ H6 H7 hi ⟨v5, rfl, k6, w6, hF6, hN6, th, hth, hr, hT6⟩ ⟨rfl, rfl⟩
          have hi' : i < sz := by omega
          have hil : i < l.length := by omega
          obtain ⟨v, ev, hv'⟩ := hnl i hi'
          have eo : l[i]? = some l[i] := List.getElem?_eq_getElem hil
          generalize l[i] = o at eo
          have fin : ∀ x : V, x = hv (ren nm o) → gSub (tVar 9) (tOp (rIxL K) (tVar 7) (tVar 5)) rSetL x (slF wl F m (1 + d0) way (some (.int (i : Int))) v6 (some (.ref N)) (some (.ref L)) (some (.ref T))) H7
              (fun σ H' => ∃ v5, σ = slF wl F m (1 + d0) way v5 v6 (some (.ref N)) (some (.ref L)) (some (.ref T)) ∧ Keep wl H H' ∧ Well H' wl (n + 3 + 6 * sz) ∧ H' F = some (.lst (l.map hv)) ∧ H' N = some (.lst (nv nm)) ∧
                ∃ th : Hs, th.length = sz ∧ (∀ (j v : Nat) (o : Option Nat), j < i + 1 → nm[j]? = some v → l[j]? = some o → th[v]? = some (ren nm o)) ∧ H' T = some (.lst (th.map hv))) := by
            rintro x rfl
            refine ⟨_, rfl, _, rfl, _, rfl, N, _, _, _, rfl, rfl, SqL.of hN6, atI_nat (nv_get ev), T, _, _, v, rfl, rfl, hT6, by rw [List.length_map, hth]; exact ixN_nat hv', ?_⟩
            refine ⟨_, rfl, kk k6 t1, ww w6 t2, by rw [upd_ne t3]; exact hF6, by rw [upd_ne t4]; exact hN6, th.set v (ren nm o), by rw [List.length_set]; exact hth, ?_, by rw [upd_same, List.map_set]⟩
            intro j v' o' hj e1 e2
            by_cases hji : j = i
            · subst hji
              have q1 : v' = v := Option.some.inj (e1.symm.trans ev)
              have q2 : o' = o := Option.some.inj (e2.symm.trans eo)
              subst q1 q2
              exact List.getElem?_set_self (by rw [hth]; exact hv')
            · have hne : v ≠ v' := fun z => hji (nodup_at hnd e1 (by rw [← z]; exact ev))
              rw [List.getElem?_set_ne hne]
              exact hr j v' o' (by omega) e1 e2
          refine ⟨_, rfl, _, rfl, F, _, _, _, rfl, rfl, SqL.of hF6, atI_nat (hv_at eo), rfl, _, rfl, ?_⟩
          cases o with
          | none => exact iteT (fin _ rfl)
          | some u =>
            have hu := hlt i u eo
            obtain ⟨vu, eu, _⟩ := hnl u (by omega)
            refine iteF ⟨_, rfl, _, rfl, _, rfl, F, _, _, _, rfl, rfl, SqL.of hF6, atI_nat (hv_at eo), N, _, _, _, rfl, rfl, SqL.of hN6, atI_nat (nv_get eu), fin _ ?_⟩
            show V.int (vu : Int) = V.int ((nm.getD u 0 : Nat) : Int)
            rw [List.getD_eq_getElem?_getD, eu]; rfl
        · rintro σ H6 ⟨v5, rfl, k6, w6, hF6, hN6, th, hth, hr, hT6⟩
          rw [e0] at hr
          refine ⟨_, rfl, T, _, rfl, .inl ⟨SqL.of hT6, fun t ht => ?_⟩⟩
          have w7 := w6.same ((Same.refl H6).new (o := .tup (th.map hv)) ht)
          have htn : H t = none := by
            have h1 : t ≠ wl := by
              obtain ⟨l2, e2⟩ := w6.here
              exact (ne_of_none e2 ht).symm
            cases et : H t with
            | none => rfl
            | some o =>
              have z := k6 t o h1 et
              rw [ht] at z; cases z
          refine q t th _ (fo_turned hlne hlt (by rw [hl]; exact hp) (by rw [hth, hl]) fun j v o e1 e2 => hr j v o ?_ e1 e2) (by omega) (k6.new ht) (w7.mono (by omega)) htn upd_same
          have z := (List.getElem?_eq_some_iff.mp e2).1
          omega
end

end My

namespace My
open PySem PySem.Spec PyProof.Rows L2
/-! ### what the functions of heldbehind.forests raise and hand back -/
def spCheckF (C : Addr) : Sp := fun vs H Q E => ∃ x : V, vs = [x] ∧ Askd H x ∧ (IsF H x → ∀ H', Same H H' → Q .non H') ∧ (¬ IsF H x → ∀ H', Same H H' → E (.ref C) none H')
def spCheckT (C : Addr) : Sp := fun vs H Q E => ∃ (a : Addr) (xs : List V) (y : V), vs = [.ref a, y] ∧ H a = some (.tup xs) ∧ Vd H y ∧ (isIdx (xs.length : Int) y = true → Q .non H) ∧ (isIdx (xs.length : Int) y = false → E (.ref C) none H)
/-- a function of a forest alone: R what its answer's list may be -/
def spOf (C : Addr) (R : Hs → List V → Prop) : Sp := fun vs H Q E => ∃ x : V, vs = [x] ∧ Askd H x ∧ (∀ hs : Hs, tupAt H x = some (hs.map hv) → hs.length ≤ 60) ∧ (¬ IsF H x → ∀ H', Same H H' → E (.ref C) none H') ∧
  ∀ hs : Hs, tupAt H x = some (hs.map hv) → Fo hs → ∀ r l H', R hs l → Same H H' → H r = none → H' r = some (.lst l) → Q (.ref r) H'
/-- a function of a forest and a thing -/
def spOf2 (C C2 : Addr) (R : Hs → Nat → List V → Prop) : Sp := fun vs H Q E => ∃ x y : V, vs = [x, y] ∧ Askd H x ∧ Vd H y ∧ (∀ hs : Hs, tupAt H x = some (hs.map hv) → hs.length ≤ 60) ∧ (¬ IsF H x → ∀ H', Same H H' → E (.ref C) none H') ∧
  (∀ hs : Hs, tupAt H x = some (hs.map hv) → Fo hs → isIdx (hs.length : Int) y = false → ∀ H', Same H H' → E (.ref C2) none H') ∧
  ∀ hs : Hs, tupAt H x = some (hs.map hv) → Fo hs → ∀ t : Nat, y = .int (t : Int) → t < hs.length → ∀ r l H', R hs t l → Same H H' → H r = none → H' r = some (.lst l) → Q (.ref r) H'
theorem tupAt_same {H H' : Hp} {x : V} {xs : List V} (h : tupAt H x = some xs) (s : Same H H') : tupAt H' x = some xs := by
  obtain ⟨a, rfl, ha⟩ := tupAt_ref h
  exact tupAt_tup (s _ _ ha)
theorem Askd.same {H H' : Hp} {x : V} (h : Askd H x) (s : Same H H') (hi : ∀ xs, tupAt H' x = some xs → tupAt H x = some xs) : Askd H' x :=
  ⟨h.vd.same s, fun xs e => ⟨(h.items xs (hi xs e)).1, fun y hy => ((h.items xs (hi xs e)).2 y hy).same s⟩⟩
theorem isIdx_true {n : Nat} {y : V} (h : isIdx (n : Int) y = true) : ∃ t : Nat, y = .int (t : Int) ∧ t < n := by
  cases y with
  | int i =>
    have c : (decide (0 ≤ i) && decide (i < (n : Int))) = true := h
    rw [Bool.and_eq_true, decide_eq_true_eq, decide_eq_true_eq] at c
    exact ⟨i.toNat, by congr 1; omega, by omega⟩
  | _ => cases h
theorem vd_hv {H : Hp} (o : Option Nat) : Vd H (hv o) := by
  cases o with
  | none => exact .non
  | some u => exact .int _
section
variable {P : Program} {w : World} {K : PySem.W.Frag} {mg : Str → Option Value} {base : Heap} {CF CT : Addr}
abbrev st_check_forest : Stmt := topS 11
abbrev N_check_forest : List Str := ["forest"]
theorem sc_check_forest : FnScope N_check_forest ["forest"] (defScope st_check_forest) := ⟨rfl, rfl, rfl, by decide +kernel, rfl, by decide +kernel, by decide +kernel⟩
theorem ok_check_forest (D : Df K mg "check_forest" st_check_forest ["forest"]) (B : Bl mg) (EInvalidForest : Ex1 K mg "InvalidForest" CF) (Kis_forest : Kn P w K mg base CX0 4 "is_forest" st_is_forest ["value"] spIsForest) :
    Kn P w K mg base (L2.CX P w) 5 "check_forest" st_check_forest ["forest"] (spCheckF CF) := by
  refine D.okX sc_check_forest (fun vs H Q E h => ?_) (fun f cdv A outer s H vs Q E hr h => ?_)
  · obtain ⟨x, rfl, _⟩ := h; rfl
  obtain ⟨x, rfl, ask, q1, q2⟩ := h
  refine ⟨_, ((pss_one (ps_if (pt_not (pt_val (pe_callF Kis_forest (hr.mono (by decide)) pass0 (pa_cons (pv 0) pa_nil)))) (pss_one (ps_raise rfl (takes_of rfl rfl rfl rfl) (pmk_own0 PySem.F.excBase_ValueError EInvalidForest.x EInvalidForest.g EInvalidForest.k (raises_own EInvalidForest.b EInvalidForest.t) rfl))) pss_nil))), ?_⟩
  refine ⟨_, rfl, x, rfl, ask, fun b H' s' hb => ⟨_, rfl, ?_⟩⟩
  cases b with
  | true => exact iteF (q1 (hb.mp rfl) H' s')
  | false => exact iteT (q2 (fun z => Bool.false_ne_true (hb.mpr z)) H' s')
abbrev st_check_thing : Stmt := topS 12
abbrev N_check_thing : List Str := ["forest", "thing"]
theorem sc_check_thing : FnScope N_check_thing ["forest", "thing"] (defScope st_check_thing) := ⟨rfl, rfl, rfl, by decide +kernel, rfl, by decide +kernel, by decide +kernel⟩
theorem ok_check_thing (D : Df K mg "check_thing" st_check_thing ["forest", "thing"]) (B : Bl mg) (EInvalidThing : Ex1 K mg "InvalidThing" CT) (Kis_index : Kn P w K mg base CX0 3 "is_index" st_is_index ["value", "many"] spIsIndex) :
    Kn P w K mg base (L2.CX P w) 5 "check_thing" st_check_thing ["forest", "thing"] (spCheckT CT) := by
  refine D.okX sc_check_thing (fun vs H Q E h => ?_) (fun f cdv A outer s H vs Q E hr h => ?_)
  · obtain ⟨a, xs, y, rfl, _⟩ := h; rfl
  obtain ⟨a, xs, y, rfl, ha, vy, q1, q2⟩ := h
  refine ⟨_, ((pss_one (ps_if (pt_not (pt_val (pe_callF Kis_index (hr.mono (by decide)) pass0 (pa_cons (pv 1) (pa_cons (pe_callB call_len (by rfl) B.len (by decide +kernel) (pa_cons (pv 0) pa_nil)) pa_nil))))) (pss_one (ps_raise rfl (takes_of rfl rfl rfl rfl) (pmk_own0 PySem.F.excBase_ValueError EInvalidThing.x EInvalidThing.g EInvalidThing.k (raises_own EInvalidThing.b EInvalidThing.t) rfl))) pss_nil))), ?_⟩
  refine ⟨_, rfl, _, rfl, _, _, rfl, .inr ⟨_, SqT.of ha, rfl⟩, y, _, rfl, vy, _, rfl, ?_⟩
  cases b : isIdx (xs.length : Int) y with
  | true => exact iteF (q1 b)
  | false => exact iteT (q2 b)
end

end My

namespace My
open PySem PySem.Spec PyProof.Rows L2
/-! ### the ways up -/
inductive Ups (hs : Hs) : Nat → List Nat → Prop where
  | root {v : Nat} (h : hs[v]? = some none) : Ups hs v []
  | step {v u : Nat} {l : List Nat} (h : hs[v]? = some (some u)) (r : Ups hs u l) : Ups hs v (u :: l)
theorem Rch.ups {hs : Hs} {v : Nat} (r : Rch hs v) : ∃ l, Ups hs v l := by
  induction r with
  | root h => exact ⟨[], .root h⟩
  | step h _ ih => obtain ⟨l, hl⟩ := ih; exact ⟨_, .step h hl⟩
theorem Ups.inj {hs : Hs} {v : Nat} {l m : List Nat} (a : Ups hs v l) (b : Ups hs v m) : l = m := by
  induction a generalizing m with
  | root h => cases b with
    | root _ => rfl
    | step h2 _ => rw [h] at h2; cases h2
  | step h r ih => cases b with
    | root h2 => rw [h] at h2; cases h2
    | step h2 r2 =>
      rw [h] at h2; cases h2
      rw [ih r2]
theorem Ups.lt {hs : Hs} {v : Nat} {l : List Nat} (a : Ups hs v l) : v < hs.length := by
  cases a with
  | root h => exact (List.getElem?_eq_some_iff.mp h).1
  | step h r => exact (List.getElem?_eq_some_iff.mp h).1
theorem Ups.mem {hs : Hs} {v : Nat} {l : List Nat} (a : Ups hs v l) : ∀ w ∈ l, ∃ m, Ups hs w m ∧ m.length < l.length := by
  induction a with
  | root h => intro w hw; cases hw
  | step h r ih =>
    intro w hw
    rcases List.mem_cons.mp hw with rfl | hw
    · exact ⟨_, r, Nat.lt_succ_self _⟩
    · obtain ⟨m, hm, hl⟩ := ih w hw
      exact ⟨m, hm, Nat.lt_succ_of_lt hl⟩
theorem Ups.nd {hs : Hs} {v : Nat} {l : List Nat} (a : Ups hs v l) : (v :: l).Nodup := by
  induction a with
  | root h => simp
  | step h r ih =>
    refine List.nodup_cons.mpr ⟨fun hm => ?_, ih⟩
    obtain ⟨m, hm, hl⟩ := (Ups.step h r).mem _ hm
    rw [hm.inj (.step h r)] at hl
    exact Nat.lt_irrefl _ hl
theorem Ups.len {hs : Hs} {v : Nat} {l : List Nat} (a : Ups hs v l) : l.length < hs.length := by
  have q := nodup_len hs.length _ a.nd fun w hw => by
    rcases List.mem_cons.mp hw with rfl | hw
    · exact a.lt
    · obtain ⟨m, hm, _⟩ := a.mem w hw
      exact hm.lt
  rw [List.length_cons] at q; omega
/-- below: a thing's held ones, and theirs -/
inductive Blw (hs : Hs) (t : Nat) : Nat → Prop where
  | kid {v : Nat} (h : hs[v]? = some (some t)) : Blw hs t v
  | step {v u : Nat} (h : hs[v]? = some (some u)) (r : Blw hs t u) : Blw hs t v
theorem Blw.ups {hs : Hs} {t v : Nat} (b : Blw hs t v) {l : List Nat} (a : Ups hs v l) : t ∈ l := by
  induction b generalizing l with
  | kid h => cases a with
    | root h2 => rw [h] at h2; cases h2
    | step h2 r => rw [h] at h2; cases h2; exact List.mem_cons_self
  | step h r ih => cases a with
    | root h2 => rw [h] at h2; cases h2
    | step h2 r2 => rw [h] at h2; cases h2; exact List.mem_cons_of_mem _ (ih r2)
theorem ups_blw {hs : Hs} {t v : Nat} {l : List Nat} (a : Ups hs v l) (h : t ∈ l) : Blw hs t v := by
  induction a with
  | root _ => cases h
  | step e r ih =>
    rcases List.mem_cons.mp h with rfl | h
    · exact .kid e
    · exact .step e (ih h)
theorem Blw.irr {hs : Hs} {t : Nat} (r : Rch hs t) : ¬ Blw hs t t := fun b => by
  obtain ⟨l, a⟩ := r.ups
  exact (List.nodup_cons.mp a.nd).1 (b.ups a)
theorem starts_kids {hs : Hs} {t : Nat} (r : Rch hs t) : Starts hs (kids hs t) (Blw hs t) where
  nd := nodup_kids hs t
  ok := fun s h => ⟨(List.getElem?_eq_some_iff.mp (mem_kids.mp h)).1, .kid (mem_kids.mp h)⟩
  down := fun _ _ e b => .step e b
  no := fun s h u e => by
    rw [mem_kids.mp h] at e
    cases e
    exact Blw.irr r
theorem WT.blw {hs : Hs} {t : Nat} {l : List Nat} (h : WT hs (kids hs t) (Blw hs t) l []) (v : Nat) : v ∈ l ↔ Blw hs t v := by
  have z : ∀ w, w ∈ l ++ [] ↔ w ∈ l := fun w => by rw [List.append_nil]
  refine ⟨fun hv => (h.ok v ((z v).mpr hv)).2.1, fun b => ?_⟩
  induction b with
  | kid e => exact (z _).mp (h.sm _ (mem_kids.mpr e))
  | step e _ ih => exact (z _).mp (h.cl _ _ e ih)
/-! ### sizes -/
def sumP (hs : Hs) (F : List Int) (D : List Nat) (v : Nat) : Int := (((kids hs v).filter fun c => decide (c ∈ D)).map fun c => F.getD c 0).sum
def SizeOk (hs : Hs) (F : List Int) : Prop := F.length = hs.length ∧ ∀ v : Nat, v < hs.length → F.getD v 0 = 1 + ((kids hs v).map fun c => F.getD c 0).sum
theorem filter_cons_sum (f : Nat → Int) (D : List Nat) (t : Nat) (ht : t ∉ D) : ∀ l : List Nat, l.Nodup → ((l.filter fun c => decide (c ∈ t :: D)).map f).sum = ((l.filter fun c => decide (c ∈ D)).map f).sum + (if t ∈ l then f t else 0)
  | [], _ => by simp
  | a :: r, nd => by
    have ih := filter_cons_sum f D t ht r (List.nodup_cons.mp nd).2
    have nd1 := (List.nodup_cons.mp nd).1
    by_cases e : a = t
    · subst e
      have h1 : decide (a ∈ a :: D) = true := decide_eq_true List.mem_cons_self
      have h2 : decide (a ∈ D) = false := decide_eq_false ht
      rw [if_neg nd1] at ih
      rw [List.filter_cons_of_pos (by exact h1), List.filter_cons_of_neg (by rw [h2]; exact Bool.false_ne_true), if_pos List.mem_cons_self, List.map_cons, List.sum_cons, ih]
      omega
    · have h3 : (t ∈ a :: r) ↔ t ∈ r := by
        rw [List.mem_cons]
        exact ⟨fun h => h.resolve_left fun z => e z.symm, .inr⟩
      by_cases hd : a ∈ D
      · have h1 : decide (a ∈ t :: D) = true := decide_eq_true (List.mem_cons_of_mem _ hd)
        have h2 : decide (a ∈ D) = true := decide_eq_true hd
        rw [List.filter_cons_of_pos (by exact h1), List.filter_cons_of_pos (by exact h2), List.map_cons, List.sum_cons, List.map_cons, List.sum_cons, ih]
        by_cases h : t ∈ r
        · rw [if_pos h, if_pos (h3.mpr h)]; omega
        · rw [if_neg h, if_neg (fun z => h (h3.mp z))]; omega
      · have h1 : decide (a ∈ t :: D) = false := decide_eq_false fun z => (List.mem_cons.mp z).elim e hd
        have h2 : decide (a ∈ D) = false := decide_eq_false hd
        rw [List.filter_cons_of_neg (by rw [h1]; exact Bool.false_ne_true), List.filter_cons_of_neg (by rw [h2]; exact Bool.false_ne_true), ih]
        by_cases h : t ∈ r
        · rw [if_pos h, if_pos (h3.mpr h)]
        · rw [if_neg h, if_neg (fun z => h (h3.mp z))]
/-- how far the sizes are summed up: of the things in D all is said to their holders -/
def SizeTo (hs : Hs) (F : List Int) (D : List Nat) : Prop := F.length = hs.length ∧ ∀ v : Nat, v < hs.length → F.getD v 0 = 1 + sumP hs F D v
theorem sumP_nil (hs : Hs) (F : List Int) (v : Nat) : sumP hs F [] v = 0 := by
  unfold sumP
  have e : ((kids hs v).filter fun c => decide (c ∈ ([] : List Nat))) = [] := by simp
  rw [e]; rfl
theorem getD_set_self {F : List Int} {u : Nat} {x : Int} (h : u < F.length) : (F.set u x).getD u 0 = x := by
  rw [List.getD_eq_getElem?_getD, List.getElem?_set_self h]; rfl
theorem getD_set_ne {F : List Int} {u v : Nat} {x : Int} (h : u ≠ v) : (F.set u x).getD v 0 = F.getD v 0 := by
  rw [List.getD_eq_getElem?_getD, List.getElem?_set_ne h, List.getD_eq_getElem?_getD]
theorem sumP_set {hs : Hs} {F : List Int} {D : List Nat} {u : Nat} {x : Int} (v : Nat) (h : u ∉ D) : sumP hs (F.set u x) D v = sumP hs F D v := by
  unfold sumP
  congr 1
  refine List.map_congr_left fun c hc => ?_
  have h2 := of_decide_eq_true (List.mem_filter.mp hc).2
  exact getD_set_ne fun e => h (e ▸ h2)
theorem SizeTo.skip {hs : Hs} {F : List Int} {D : List Nat} {t : Nat} (h : SizeTo hs F D) (ht : t ∉ D) (e : hs[t]? = some none) : SizeTo hs F (t :: D) := by
  refine ⟨h.1, fun v hv => ?_⟩
  rw [h.2 v hv]
  unfold sumP
  rw [filter_cons_sum _ D t ht _ (nodup_kids hs v), if_neg (fun z => by rw [mem_kids.mp z] at e; cases e)]
  omega
theorem SizeTo.put {hs : Hs} {F : List Int} {D : List Nat} {t u : Nat} (h : SizeTo hs F D) (ht : t ∉ D) (hu : u ∉ D) (hut : u ≠ t) (e : hs[t]? = some (some u)) (hul : u < hs.length) : SizeTo hs (F.set u (F.getD u 0 + F.getD t 0)) (t :: D) := by
  have hlu : u < F.length := by rw [h.1]; exact hul
  have hu2 : u ∉ t :: D := fun z => (List.mem_cons.mp z).elim hut hu
  refine ⟨by rw [List.length_set]; exact h.1, fun v hv => ?_⟩
  rw [sumP_set v hu2]
  have q : sumP hs F (t :: D) v = sumP hs F D v + (if t ∈ kids hs v then F.getD t 0 else 0) := filter_cons_sum _ D t ht _ (nodup_kids hs v)
  rw [q]
  by_cases hvu : v = u
  · subst hvu
    rw [getD_set_self hlu, if_pos (mem_kids.mpr e), h.2 v hv]; omega
  · rw [getD_set_ne (fun z => hvu z.symm), if_neg (fun z => by
      rw [mem_kids.mp z] at e; cases e; exact hvu rfl), h.2 v hv]; omega
theorem SizeTo.all {hs : Hs} {F : List Int} {D : List Nat} (h : SizeTo hs F D) (hD : ∀ v : Nat, v < hs.length → v ∈ D) : SizeOk hs F := by
  refine ⟨h.1, fun v hv => ?_⟩
  rw [h.2 v hv]
  unfold sumP
  rw [List.filter_eq_self.mpr]
  intro c hc
  exact decide_eq_true (hD c (List.getElem?_eq_some_iff.mp (mem_kids.mp hc)).1)
/-- a forest's walk has all things, each behind its holder -/
structure Ord (hs : Hs) (l : List Nat) : Prop where
  nd : l.Nodup
  len : l.length = hs.length
  lt : ∀ v ∈ l, v < hs.length
  mem : ∀ v : Nat, v < hs.length → v ∈ l
  od : ∀ i v u : Nat, l[i]? = some v → hs[v]? = some (some u) → ∃ j : Nat, j < i ∧ l[j]? = some u
theorem WT.ord {hs : Hs} {l : List Nat} (fo : Fo hs) (h : WT hs (roots hs) (Rch hs) l []) : Ord hs l := by
  have nd := h.nd
  rw [List.append_nil] at nd
  have lt : ∀ v ∈ l, v < hs.length := fun v hv => (h.ok v (by rw [List.append_nil]; exact hv)).1
  have mem : ∀ v : Nat, v < hs.length → v ∈ l := fun v hv => h.all_found (fo.all v hv)
  refine ⟨nd, ?_, lt, mem, fun i v u e e2 => ?_⟩
  · have h1 := nodup_len hs.length l nd lt
    have h2 := nodup_sub (List.range hs.length) l List.nodup_range fun v hv => mem v (List.mem_range.mp hv)
    rw [List.length_range] at h2; omega
  · rcases h.od i v e with z | ⟨j, u', hj, e3, e4⟩
    · rw [mem_roots.mp z] at e2; cases e2
    · rw [e2] at e4; cases e4
      exact ⟨j, hj, e3⟩
/-! ### depths -/
def DepthOk (hs : Hs) (F : List Int) : Prop := F.length = hs.length ∧ ∀ v : Nat, v < hs.length → ∀ l, Ups hs v l → F.getD v 0 = (l.length : Int)
def iv (l : List Int) : List V := l.map V.int
theorem iv_get {F : List Int} {v : Nat} (h : v < F.length) : (iv F)[v]? = some (.int (F.getD v 0)) := by
  unfold iv
  rw [List.getElem?_map, List.getElem?_eq_getElem h, List.getD_eq_getElem?_getD, List.getElem?_eq_getElem h]; rfl
theorem iv_rep (x : Int) : ∀ k : Nat, (List.replicate k [V.int x]).flatten = iv (List.replicate k x)
  | 0 => rfl
  | k + 1 => by rw [List.replicate_succ, List.flatten_cons, iv_rep x k]; rfl
theorem iv_set (F : List Int) (u : Nat) (x : Int) : (iv F).set u (.int x) = iv (F.set u x) := by unfold iv; rw [List.map_set]
theorem iv_length (F : List Int) : (iv F).length = F.length := List.length_map _
section
variable {P : Program} {w : World} {K : PySem.W.Frag} {mg : Str → Option Value} {base : Heap} {CF CT : Addr}
abbrev st_below : Stmt := topS 13
abbrev N_below : List Str := ["forest", "thing", "held"]
theorem sc_below : FnScope N_below ["forest", "thing"] (defScope st_below) := ⟨rfl, rfl, rfl, by decide +kernel, rfl, by decide +kernel, by decide +kernel⟩
theorem ok_below (D : Df K mg "below" st_below ["forest", "thing"]) (B : Bl mg) (Kcheck_forest : Kn P w K mg base (L2.CX P w) 5 "check_forest" st_check_forest ["forest"] (spCheckF CF)) (Kcheck_thing : Kn P w K mg base (L2.CX P w) 5 "check_thing" st_check_thing ["forest", "thing"] (spCheckT CT))
    (K_held_lists : Kn P w K mg base CX0 1 "_held_lists" st__held_lists ["forest"] (spHeld K)) (K_walk_through : Kn P w K mg base CX0 1 "_walk_through" st__walk_through ["held", "starts"] (spWalkT K)) :
    Kn P w K mg base (L2.CX P w) 6 "below" st_below ["forest", "thing"] (spOf2 CF CT fun hs t l => ∃ ns : List Int, l = iv ns ∧ ns.Pairwise (· ≤ ·) ∧ ∃ o : List Nat, ns.Perm (o.map fun v : Nat => (v : Int)) ∧ o.Nodup ∧ ∀ v, v ∈ o ↔ Blw hs t v) := by
  refine D.okX sc_below (fun vs H Q E h => ?_) (fun f cdv A outer s H vs Q E hr h => ?_)
  · obtain ⟨x, y, rfl, _⟩ := h; rfl
  obtain ⟨x, y, rfl, ask, vy, q1, q2, q3, q⟩ := h
  refine ⟨_, ((pss_cons (ps_expr (pe_callF Kcheck_forest (hr.mono (by decide)) (passX (takes_of rfl rfl rfl rfl)) (pa_cons (pv 0) pa_nil)))
      (pss_cons (ps_expr (pe_callF Kcheck_thing (hr.mono (by decide)) (passX (takes_of rfl rfl rfl rfl)) (pa_cons (pv 0) (pa_cons (pv 1) pa_nil))))
      (pss_cons (ps_set (i := 2) sc_below.nd rfl (Or.inl rfl) (pe_callF K_held_lists (hr.mono (by decide)) pass0 (pa_cons (pv 0) pa_nil)))
      (pss_one (ps_ret (pe_callB cr_sorted (by rfl) B.sorted (by decide +kernel) (pa_cons (pe_callF K_walk_through (hr.mono (by decide)) pass0 (pa_cons (pv 2) (pa_cons (pe_ix ix_list (pv 2) (pv 1) (fun _ _ => rfl)) pa_nil))) pa_nil)))))))), ?_⟩
  refine ⟨_, rfl, x, rfl, ask, fun ⟨hs, e, fo⟩ H1 s1 => ?_, q2⟩
  obtain ⟨a, rfl, ha⟩ := tupAt_ref e
  have hl := (ask.items _ e).1
  rw [List.length_map] at hl
  have ha1 := s1 _ _ ha
  have hl60 := q1 hs e
  refine ⟨_, rfl, _, rfl, a, _, y, rfl, ha1, vy.same s1, fun b => ?_, fun b => ?_⟩
  · rw [List.length_map] at b
    obtain ⟨t, rfl, ht⟩ := isIdx_true b
    refine ⟨_, rfl, a, hs, rfl, SqT.of ha1, hl, fo.inb, fun p as H2 s2 hp hpc hA => ?_⟩
    obtain ⟨c, hc⟩ : ∃ c, as[t]? = some c := ⟨as[t]'(by rw [hA.len]; exact ht), List.getElem?_eq_getElem _⟩
    have hc2 : (as.map V.ref)[t]? = some (.ref c) := by rw [List.getElem?_map, hc]; rfl
    refine ⟨_, rfl, _, rfl, _, rfl, p, _, _, _, rfl, rfl, SqL.of hA.lst, atI_nat hc2, p, c, as, hs, kids hs t, Blw hs t, rfl, hA, SqL.of (hA.at_ t c hc), hl, starts_kids (fo.all t ht), fun r l H3 s3 hr3 hl3 hwt => ?_⟩
    have hll := hwt.lens
    rw [List.length_nil] at hll
    have el : nv l = iv (l.map fun v : Nat => (v : Int)) := by unfold nv iv; rw [List.map_map]; rfl
    refine ⟨r, l.map (fun v : Nat => (v : Int)), rfl, SqL.of (by rw [hl3, el]; rfl), by rw [List.length_map]; omega, fun ns p2 hperm hpw hp2 => ?_⟩
    have nd := hwt.nd
    rw [List.append_nil] at nd
    have s13 := (s1.trans s2).trans s3
    exact q hs e fo t rfl ht p2 _ _ ⟨ns, rfl, hpw, l, hperm, nd, hwt.blw⟩ (s13.new hp2) (s13.free hp2) upd_same
  · rw [List.length_map] at b
    exact q3 hs e fo b H1 s1
end

end My

namespace My
open PySem PySem.Spec PyProof.Rows L2
theorem sizeTo_start (hs : Hs) : SizeTo hs (List.replicate hs.length 1) [] := by
  refine ⟨List.length_replicate, fun v hv => ?_⟩
  rw [sumP_nil, List.getD_eq_getElem?_getD, List.getElem?_replicate, if_pos hv]; rfl
theorem drop_back {l : List Nat} {i t : Nat} (hi : i < l.length) (h : l[l.length - 1 - i]? = some t) : l.drop (l.length - (i + 1)) = t :: l.drop (l.length - i) := by
  have e : l.length - (i + 1) = l.length - 1 - i := by omega
  have e2 : l.length - i = l.length - 1 - i + 1 := by omega
  have hlt : l.length - 1 - i < l.length := by omega
  rw [e, e2, List.drop_eq_getElem_cons hlt]
  rw [List.getElem?_eq_getElem hlt] at h
  rw [Option.some.inj h]
theorem nv_at {l : List Nat} {i : Nat} {x : V} (h : (nv l)[i]? = some x) : ∃ t : Nat, l[i]? = some t ∧ x = .int (t : Int) := by
  unfold nv at h
  rw [List.getElem?_map] at h
  cases e : l[i]? with
  | none => rw [e] at h; cases h
  | some t => rw [e] at h; exact ⟨t, rfl, (Option.some.inj h).symm⟩
theorem not_mem_drop {l : List Nat} (nd : l.Nodup) {i j v : Nat} (h : l[i]? = some v) (hij : i < j) : v ∉ l.drop j := fun z => by
  obtain ⟨k, hk⟩ := List.getElem?_of_mem z
  rw [List.getElem?_drop] at hk
  have e := nodup_at nd h hk
  omega
section
variable {P : Program} {w : World} {K : PySem.W.Frag} {mg : Str → Option Value} {base : Heap} {CF CT : Addr}
end

end My

namespace My
open PySem PySem.Spec PyProof.Rows L2
/-! ### lists of naturals as data -/
def nD (l : List Nat) : List PyData := l.map fun v : Nat => PyData.int ((v : Nat) : Int)
theorem dp_nv {K : PySem.W.Frag} {H : Hp} : ∀ l : List Nat, DpAll K H (nv l) (nD l)
  | [] => .nil
  | v :: l => .cons (.int (v : Int)) (dp_nv l)
theorem lay_nD : ∀ l : List Nat, PyData.canLayAll0 (nD l) = true
  | [] => rfl
  | v :: l => by
    show PyData.canLayAll0 (PyData.int (v : Int) :: nD l) = true
    rw [PyData.canLayAll0, lay_nD l]; rfl
theorem deep_nD : ∀ l : List Nat, PyData.depthAll (nD l) = 0
  | [] => rfl
  | v :: l => by
    show PyData.depthAll (PyData.int (v : Int) :: nD l) = 0
    rw [PyData.depthAll, deep_nD l]; rfl
theorem shaped_nD (l : List Nat) : SeqAt.shaped (.list (nD l)) = true := by
  unfold SeqAt.shaped
  rw [PyData.canLay0, lay_nD, PyData.depth, deep_nD]; rfl
theorem eqv_nD : ∀ a b : List Nat, PyData.eqvAll (nD a) (nD b) = decide (a = b)
  | [], [] => rfl
  | [], _ :: _ => rfl
  | _ :: _, [] => rfl
  | x :: a, y :: b => by
    show PyData.eqvAll (PyData.int (x : Int) :: nD a) (PyData.int (y : Int) :: nD b) = _
    rw [PyData.eqvAll, eqv_nD a b, PyData.eqv]
    by_cases h : x = y
    · subst h
      by_cases h2 : a = b
      · subst h2; simp
      · simp [h2]
    · have h3 : ¬ ((x : Int) = (y : Int)) := by omega
      simp [h, h3]
theorem eqv_list (a b : List PyData) : PyData.eqv (.list a) (.list b) = PyData.eqvAll a b := by rw [PyData.eqv]
theorem flat_nv (l : List Nat) : (nv l).all flatV = true := by
  rw [List.all_eq_true]
  intro y hy
  obtain ⟨v, _, rfl⟩ := List.mem_map.mp hy
  rfl
theorem inV_nv (u : Nat) (l : List Nat) : inV (.int (u : Int)) (nv l) = decide (u ∈ l) := by
  unfold inV nv
  rw [List.any_map]
  induction l with
  | nil => rfl
  | cons v l ih =>
    rw [List.any_cons, ih]
    show ((v : Int) == (u : Int) || decide (u ∈ l)) = _
    by_cases h : v = u
    · subst h; simp
    · have h1 : ((v : Int) == (u : Int)) = false := beq_eq_false_iff_ne.mpr (by omega)
      have h2 : ¬ u = v := fun q => h q.symm
      rw [h1, Bool.false_or]
      simp [h2]

/-! ### a forest of some of the things -/
/-- the place of a thing -/
def posOf (l : List Nat) (u : Nat) : Option Nat := l.findIdx? fun v => decide (v = u)
def amongH (hs : Hs) (l : List Nat) : Hs := l.map fun v => match hs[v]? with
  | some (some u) => posOf l u
  | _ => none
theorem posOf_snoc (l : List Nat) (v u : Nat) : posOf (l ++ [v]) u = (posOf l u).or (if v = u then some l.length else none) := by
  unfold posOf
  rw [List.findIdx?_append]
  by_cases c : v = u <;> simp [c]
theorem posOf_none {l : List Nat} {u : Nat} (h : ¬ u ∈ l) : posOf l u = none := by
  unfold posOf
  rw [List.findIdx?_eq_none_iff]
  intro v hv'
  exact decide_eq_false fun z => h (z ▸ hv')
/-- the dict tells the places -/
def NameK (kvs : List (Key × V)) (l : List Nat) : Prop := (∀ u : Nat, valV kvs (Sum.inl (u : Int)) = (posOf l u).map fun i : Nat => V.int ((i : Nat) : Int)) ∧ kvs.length ≤ l.length
theorem NameK.nil : NameK [] [] := ⟨fun _ => rfl, Nat.le_refl _⟩
theorem NameK.put {kvs : List (Key × V)} {l : List Nat} (h : NameK kvs l) {v : Nat} (hn : ¬ v ∈ l) : NameK (putK kvs (Sum.inl (v : Int)) (.int (l.length : Int))) (l ++ [v]) := by
  refine ⟨fun u => ?_, ?_⟩
  · rw [valV_put, posOf_snoc]
    by_cases e : u = v
    · subst e
      rw [if_pos rfl, if_pos rfl, posOf_none hn]; rfl
    · have n : ¬ (Sum.inl (u : Int) : Key) = Sum.inl (v : Int) := fun z => e (by have := Sum.inl.inj z; omega)
      rw [if_neg n, if_neg (fun z => e z.symm), Option.or_none]
      exact h.1 u
  · have z := length_putK kvs (Sum.inl (v : Int)) (V.int (l.length : Int))
    rw [List.length_append, List.length_singleton]
    have y := h.2
    omega
theorem dc_any {J : It} {n : Nat} {G : Hp → Prop} {Y : Nat → Hp → V → Hp → Prop} (wk : Walk J n G Y) {g : TG} {tt : TT} {tk tv : TE} {vs : List Nat} {σ : L2.St} {H1 : Hp} {D : Addr} {Qd : Hp → Prop} (S : Nat → Hp → Prop) (s0 : S 0 (upd H1 D (.dK [])))
    (sG : ∀ i H, i ≤ n → S i H → G H) (st : ∀ i x H H', i < n → S i H → Y i H x H' → g x (wipe σ vs) H' fun σ2 H2 => wipe σ2 vs = wipe σ vs ∧ tt σ2 H2 fun b H3 => if b = true then tk σ2 H3 fun y H4 => tv σ2 H4 fun z H5 => ∃ kvs k, y = kV k ∧ H5 D = some (.dK kvs) ∧ kvs.length < sizeLine ∧ S (i + 1) (upd H5 D (.dK (putK kvs k z))) else S (i + 1) H3)
    (fin : ∀ H, S n H → Qd H) : ∃ W : Nat → Nat → Hp → Prop, (∃ m, W 0 m (upd H1 D (.dK []))) ∧ ∀ i m H, W i m H → (J.stop i H ∧ Qd H) ∨ (J.go i H ∧ ∃ Nx : Hp → Prop, (∀ H', Nx H' → ∃ m', m' < m ∧ W (i + 1) m' H') ∧
      ∀ x H', J.yld i H x H' → g x (wipe σ vs) H' fun σ2 H2 => wipe σ2 vs = wipe σ vs ∧ tt σ2 H2 fun b H3 => if b = true then tk σ2 H3 fun y H4 => tv σ2 H4 fun z H5 => ∃ kvs k, y = kV k ∧ H5 D = some (.dK kvs) ∧ kvs.length < sizeLine ∧ Nx (upd H5 D (.dK (putK kvs k z))) else Nx H3) := by
  refine ⟨fun i m H => m + i = n ∧ S i H, ⟨n, rfl, s0⟩, fun i m H ⟨e, hS⟩ => ?_⟩
  have hG := sG i H (by omega) hS
  rcases Nat.eq_zero_or_pos m with z | z
  · have ei : i = n := by omega
    subst ei
    exact .inl ⟨wk.stops H hG, fin H hS⟩
  · have hi : i < n := by omega
    exact .inr ⟨wk.goes i H hi hG, S (i + 1), fun H' q => ⟨m - 1, by omega, by omega, q⟩, fun x H' y => st i x H H' hi hS (wk.yields i H x H' hi hG y)⟩
theorem among_len (hs : Hs) (l : List Nat) : (amongH hs l).length = l.length := List.length_map _
theorem among_step {hs : Hs} {l : List Nat} {i : Nat} (hi : i < l.length) : (amongH hs l).take (i + 1) = (amongH hs l).take i ++ [match hs[l[i]]? with
  | some (some u) => posOf l u
  | _ => none] := by
  rw [List.take_add_one, List.getElem?_eq_getElem (by rw [among_len]; exact hi)]
  unfold amongH
  rw [List.getElem_map]; rfl
def spAmong (K : PySem.W.Frag) : Sp := fun vs H Q _ => ∃ (a p : Addr) (hs : Hs) (l : List Nat), vs = [.ref a, .ref p] ∧ H a = some (.tup (hs.map hv)) ∧ (H p = some (.lst (nv l)) ∨ H p = some (.tup (nv l))) ∧ l.Nodup ∧ (∀ v ∈ l, v < hs.length) ∧ l.length ≤ 60 ∧
  ∀ r H', Same H H' → H r = none → H' r = some (.tup ((amongH hs l).map hv)) → Q (.ref r) H'
section
variable {P : Program} {w : World} {K : PySem.W.Frag} {mg : Str → Option Value} {base : Heap}
abbrev st_forest_among : Stmt := topS 14
abbrev N_forest_among : List Str := ["forest", "things", "name_of", "name", "thing"]
theorem sc_forest_among : FnScope N_forest_among ["forest", "things"] (defScope st_forest_among) := ⟨rfl, rfl, rfl, by decide +kernel, rfl, by decide +kernel, by decide +kernel⟩
theorem ok_forest_among (D : Df K mg "forest_among" st_forest_among ["forest", "things"]) (B : Bl mg) : Kn P w K mg base CX0 1 "forest_among" st_forest_among ["forest", "things"] (spAmong K) := by
  refine D.ok sc_forest_among (fun vs H Q E h => ?_) (fun f cdv A outer s H vs Q E hr h => ?_)
  · obtain ⟨a, p, hs, l, rfl, _⟩ := h; rfl
  obtain ⟨a, p, hs, l, rfl, ha, hp, nd, hlt, hl, q⟩ := h
  refine ⟨_, ((pss_cons (ps_set (i := 2) sc_forest_among.nd rfl (Or.inr rfl) (pe_dc (own := [("name", 3), ("thing", 4)]) (g := gTup K 2 (gCons (gName 3) (gCons (gName 4) gNil))) rfl sc_forest_among.nd (pi_or (pi_enum (by rfl) B.enumerate (pa_cons (pv 1) pa_nil)) (pi_enumT (by rfl) B.enumerate (pa_cons (pv 1) pa_nil))) (blkOk_by (N := N_forest_among) (sc := defScope st_forest_among) (own := [("name", 3), ("thing", 4)]) (by decide +kernel)) (fun _ _ _ _ _ => by (refine pg_tup (n := 2) ?hc ?h ?hn ?hst; (case hc => rfl); (case hn => rfl); (case hst => rfl); case h => (refine pgs_cons ?g1 ?g2; (case g1 => exact (pg_name (i := 3) sc_forest_among.nd rfl (Or.inl rfl))); case g2 => (refine pgs_cons ?g1 ?g2; (case g1 => exact (pg_name (i := 4) sc_forest_among.nd rfl (Or.inl rfl))); case g2 => (exact pgs_nil))))) (fun _ _ _ _ _ => by exact pts_nil) (fun _ _ _ _ _ => by exact (pv 4)) (fun _ _ _ _ _ => by exact (pv 3))))
      (pss_one (ps_ret (pe_callTy call_tuple_of (by rfl) B.tuple (by decide +kernel) (pa_cons (pe_lc (own := [("thing", 4)]) (g := gName 4) rfl sc_forest_among.nd (pi_or (pi_list (pv 1)) (pi_tup (pv 1))) (blkOk_by (N := N_forest_among) (sc := defScope st_forest_among) (own := [("thing", 4)]) (by decide +kernel)) (fun _ _ _ _ _ => by (exact (pg_name (i := 4) sc_forest_among.nd rfl (Or.inl rfl)))) (fun _ _ _ _ _ => by exact pts_nil) (fun _ _ _ _ _ => by exact (pe_dgetO (hu_of hr) (pv 2) (pe_ix (ix_tupK K) (pv 0) (pv 4) (fun _ _ => rfl)) ⟨by rfl, by rfl, by rfl, by rfl⟩))) pa_nil)))))), ?_⟩
  -- the turn of the walk over the things' numbers, whichever kind they are
  have turn : ∀ (i : Nat) (Y H1 H2 : Hp) (D : Addr) (T : Addr) (hi : i < l.length), Same H H1 → H D = none → (∃ kvs, H1 D = some (.dK kvs) ∧ NameK kvs (l.take i)) → H1 T = none →
      ∃ kvs, upd H1 T (.tup [.int (i : Int), .int ((l[i] : Nat) : Int)]) D = some (.dK kvs) ∧ NameK (putK kvs (Sum.inl ((l[i] : Nat) : Int)) (.int (i : Int))) (l.take (i + 1)) ∧ kvs.length ≤ 60 := fun i _ H1 _ D T hi s1 hD ⟨kvs, hk, nk⟩ hT => by
    have tk : l.take (i + 1) = l.take i ++ [l[i]] := by rw [List.take_add_one, List.getElem?_eq_getElem hi]; rfl
    have ti : (l.take i).length = i := by rw [List.length_take]; omega
    have nm : ¬ l[i] ∈ l.take i := fun m => by
      have z : (l.take i ++ [l[i]]).Nodup := by rw [← tk]; exact (List.take_sublist _ _).nodup nd
      exact (List.nodup_append.mp z).2.2 _ m _ (List.mem_singleton.mpr rfl) rfl
    refine ⟨kvs, (upd_ne (ne_of_none hk hT)).trans hk, ?_, ?_⟩
    · have z := nk.put nm
      rw [ti] at z
      rw [tk]; exact z
    · have := nk.2
      omega
  rcases hp with hp | hp
  · refine .inl ⟨_, rfl, p, _, rfl, SqL.of hp, fun D hD => dc_any (walk_enum (xs := nv l)) (fun i H' => Same H H' ∧ ∃ kvs, H' D = some (.dK kvs) ∧ NameK kvs (l.take i)) ⟨(Same.refl H).new hD, [], upd_same, .nil⟩ (fun i H' _ z => SqL.of (z.1 _ _ hp)) ?_ ?_⟩
    · rintro i x H1 H2 hi ⟨s1, kx⟩ ⟨T, x1, x2, rfl, hT, rfl, e1, e2⟩
      rw [nv_length] at hi
      have e1' := Option.some.inj e1; subst e1'
      have e2' : (nv l)[i]? = some x2 := e2
      rw [nv_get (List.getElem?_eq_getElem hi)] at e2'
      cases e2'
      obtain ⟨kvs, k1, k2, k3⟩ := turn i H1 H1 H1 D T hi s1 hD kx hT
      have s2 : Same H (upd H1 T (.tup [.int (i : Int), .int ((l[i] : Nat) : Int)])) := s1.new hT
      exact ⟨T, _, rfl, SqT.of upd_same, rfl, _, _, rfl, _, _, rfl, rfl, rfl, _, rfl, _, rfl, kvs, Sum.inl ((l[i] : Nat) : Int), rfl, k1, szl (by omega), s2.upd hD, _, upd_same, k2⟩
    · rintro H1 ⟨s1, kvs, hk, nk⟩
      rw [nv_length, List.take_length] at nk
      refine .inl ⟨_, rfl, p, rfl, ⟨_, SqL.of (s1 _ _ hp)⟩, fun L hL => lc_it (walk_list (xs := nv l)) (fun i H' => Same H1 H' ∧ H' L = some (.lst (((amongH hs l).take i).map hv))) ⟨(Same.refl H1).new hL, upd_same⟩ (fun i H' _ z => SqL.of (z.1 _ _ (s1 _ _ hp))) ?_ ?_⟩
      · rintro i x H2 H3 hi ⟨s2, o2⟩ ⟨rfl, e1⟩
        rw [nv_length] at hi
        rw [nv_get (List.getElem?_eq_getElem hi)] at e1
        cases e1
        obtain ⟨o, ho⟩ : ∃ o, hs[l[i]]? = some o := ⟨_, List.getElem?_eq_getElem (hlt _ (List.getElem_mem hi))⟩
        have hk3 := s2 _ _ hk
        have acc : ((((amongH hs l).take i).map hv).length : Nat) < sizeLine := by rw [List.length_map, List.length_take]; exact szl (by omega)
        refine ⟨rfl, _, rfl, D, rfl, .inl ⟨kvs, .inl hk3⟩, _, rfl, _, rfl, a, _, _, _, rfl, rfl, SqT.of (s2 _ _ (s1 _ _ ha)), atI_nat (hv_at ho), ?_⟩
        cases o with
        | none =>
          refine .inl ⟨rfl, ⟨kvs, hk3⟩, _, o2, acc, s2.upd hL, ?_⟩
          rw [upd_same, among_step hi, ho, List.map_append]; rfl
        | some u =>
          refine .inr ⟨_, DGet.k (k := Sum.inl (u : Int)) hk3, _, o2, acc, s2.upd hL, ?_⟩
          rw [upd_same, among_step hi, ho, List.map_append, nk.1 u]
          show some (HO.lst (_ ++ [_])) = some (HO.lst (_ ++ [hv (posOf l u)]))
          cases posOf l u <;> rfl
      · rintro H2 ⟨s2, o2⟩
        have et : (amongH hs l).take (nv l).length = amongH hs l := by rw [nv_length, ← among_len hs l, List.take_length]
        rw [et] at o2
        refine ⟨L, _, rfl, .inl ⟨SqL.of o2, fun r hr2 => ?_⟩⟩
        have s12 := s1.trans s2
        exact q r _ (s12.new hr2) (s12.free hr2) upd_same
  · refine .inr ⟨_, rfl, p, _, rfl, SqT.of hp, fun D hD => dc_any (walk_enumT (xs := nv l)) (fun i H' => Same H H' ∧ ∃ kvs, H' D = some (.dK kvs) ∧ NameK kvs (l.take i)) ⟨(Same.refl H).new hD, [], upd_same, .nil⟩ (fun i H' _ z => SqT.of (z.1 _ _ hp)) ?_ ?_⟩
    · rintro i x H1 H2 hi ⟨s1, kx⟩ ⟨T, x1, x2, rfl, hT, rfl, e1, e2⟩
      rw [nv_length] at hi
      have e1' := Option.some.inj e1; subst e1'
      have e2' : (nv l)[i]? = some x2 := e2
      rw [nv_get (List.getElem?_eq_getElem hi)] at e2'
      cases e2'
      obtain ⟨kvs, k1, k2, k3⟩ := turn i H1 H1 H1 D T hi s1 hD kx hT
      have s2 : Same H (upd H1 T (.tup [.int (i : Int), .int ((l[i] : Nat) : Int)])) := s1.new hT
      exact ⟨T, _, rfl, SqT.of upd_same, rfl, _, _, rfl, _, _, rfl, rfl, rfl, _, rfl, _, rfl, kvs, Sum.inl ((l[i] : Nat) : Int), rfl, k1, szl (by omega), s2.upd hD, _, upd_same, k2⟩
    · rintro H1 ⟨s1, kvs, hk, nk⟩
      rw [nv_length, List.take_length] at nk
      refine .inr ⟨_, rfl, p, rfl, ⟨_, SqT.of (s1 _ _ hp)⟩, fun L hL => lc_it (walk_tup (xs := nv l)) (fun i H' => Same H1 H' ∧ H' L = some (.lst (((amongH hs l).take i).map hv))) ⟨(Same.refl H1).new hL, upd_same⟩ (fun i H' _ z => SqT.of (z.1 _ _ (s1 _ _ hp))) ?_ ?_⟩
      · rintro i x H2 H3 hi ⟨s2, o2⟩ ⟨rfl, e1⟩
        rw [nv_length] at hi
        rw [nv_get (List.getElem?_eq_getElem hi)] at e1
        cases e1
        obtain ⟨o, ho⟩ : ∃ o, hs[l[i]]? = some o := ⟨_, List.getElem?_eq_getElem (hlt _ (List.getElem_mem hi))⟩
        have hk3 := s2 _ _ hk
        have acc : ((((amongH hs l).take i).map hv).length : Nat) < sizeLine := by rw [List.length_map, List.length_take]; exact szl (by omega)
        refine ⟨rfl, _, rfl, D, rfl, .inl ⟨kvs, .inl hk3⟩, _, rfl, _, rfl, a, _, _, _, rfl, rfl, SqT.of (s2 _ _ (s1 _ _ ha)), atI_nat (hv_at ho), ?_⟩
        cases o with
        | none =>
          refine .inl ⟨rfl, ⟨kvs, hk3⟩, _, o2, acc, s2.upd hL, ?_⟩
          rw [upd_same, among_step hi, ho, List.map_append]; rfl
        | some u =>
          refine .inr ⟨_, DGet.k (k := Sum.inl (u : Int)) hk3, _, o2, acc, s2.upd hL, ?_⟩
          rw [upd_same, among_step hi, ho, List.map_append, nk.1 u]
          show some (HO.lst (_ ++ [_])) = some (HO.lst (_ ++ [hv (posOf l u)]))
          cases posOf l u <;> rfl
      · rintro H2 ⟨s2, o2⟩
        have et : (amongH hs l).take (nv l).length = amongH hs l := by rw [nv_length, ← among_len hs l, List.take_length]
        rw [et] at o2
        refine ⟨L, _, rfl, .inl ⟨SqL.of o2, fun r hr2 => ?_⟩⟩
        have s12 := s1.trans s2
        exact q r _ (s12.new hr2) (s12.free hr2) upd_same
end

end My

namespace My
open PySem PySem.Spec PyProof.Rows L2
theorem askdF {H : Hp} {t : Addr} {hs : Hs} (ht : H t = some (.tup (hs.map hv))) (hl : hs.length ≤ 60) : Askd H (.ref t) := by
  refine ⟨.tup ht, fun xs e => ?_⟩
  rw [tupAt_tup ht] at e
  cases e
  refine ⟨by rw [List.length_map]; omega, fun y hy => ?_⟩
  obtain ⟨o, _, rfl⟩ := List.mem_map.mp hy
  exact vd_hv o

/-! ### what a value reads as, further on -/
theorem tupAt_sameV {H H' : Hp} {x : V} (v : Vd H x) (s : Same H H') : tupAt H' x = tupAt H x := by
  cases v with
  | lst h => rw [tupAt_lst h, tupAt_lst (s _ _ h)]
  | tup h => rw [tupAt_tup h, tupAt_tup (s _ _ h)]
  | dK h => rw [tupAt_dK h, tupAt_dK (s _ _ h)]
  | _ => rfl
theorem Askd.sameV {H H' : Hp} {x : V} (k : Askd H x) (s : Same H H') : Askd H' x :=
  ⟨k.vd.same s, fun xs e => by
    rw [tupAt_sameV k.vd s] at e
    exact ⟨(k.items xs e).1, fun y hy => ((k.items xs e).2 y hy).same s⟩⟩
theorem isF_same {H H' : Hp} {x : V} (v : Vd H x) (s : Same H H') : IsF H' x ↔ IsF H x := by
  unfold IsF
  rw [tupAt_sameV v s]
mutual
theorem Rp.same {z : Bool} {H H' : Hp} (s : Same H H') : ∀ (d : PyData) (x : V), Rp z H x d → Rp z H' x d
  | .none, _, h => by cases h; exact .non
  | .bool b, _, h => by cases h; exact .bl b
  | .int i, _, h => by cases h; exact .int i
  | .str x, _, h => by cases h; exact .str x
  | .list ds, _, h => by
    cases h with
    | lst e n r => exact .lst (s _ _ e) n (Rps.same s ds _ r)
  | .tuple ds, _, h => by
    cases h with
    | tup e r => exact .tup (s _ _ e) (Rps.same s ds _ r)
  | .dict _, _, h => by
    cases h with
    | dct y e => exact .dct y (s _ _ e)
theorem Rps.same {z : Bool} {H H' : Hp} (s : Same H H') : ∀ (ds : List PyData) (xs : List V), Rps z H xs ds → Rps z H' xs ds
  | [], _, h => by cases h; exact .nil
  | d :: ds, _, h => by
    cases h with
    | cons a r => exact .cons (Rp.same s d _ a) (Rps.same s ds _ r)
end
theorem shows_of {d : PyData} (h1 : d.showable = true) (h2 : d.leavesShort 100 = true) (h3 : d.bulk ≤ 100000) (h4 : d.depth ≤ 60) : Shows d := by
  refine ⟨h1, ?_, h4⟩
  have z := PyData.shown_le_bulk 100 (by decide) d h2
  rw [sizeLine_eq]
  omega
structure Small (d : PyData) : Prop where
  ok : d.showable = true
  short : d.leavesShort 100 = true
  bulk : d.bulk ≤ 10
  deep : d.depth ≤ 3
theorem small_all : ∀ ds : List PyData, (∀ d ∈ ds, Small d) → PyData.showableAll ds = true ∧ PyData.leavesShortAll 100 ds = true ∧ PyData.bulkAll ds ≤ 11 * ds.length ∧ PyData.depthAll ds ≤ 3
  | [], _ => ⟨rfl, rfl, Nat.le_refl _, Nat.zero_le _⟩
  | d :: ds, h => by
    obtain ⟨a, b, c, e⟩ := small_all ds fun x hx => h x (List.mem_cons_of_mem _ hx)
    have k := h d List.mem_cons_self
    refine ⟨by rw [PyData.showableAll, k.ok, a]; rfl, by rw [PyData.leavesShortAll, k.short, b]; rfl, ?_, ?_⟩
    · rw [PyData.bulkAll, List.length_cons]
      have := k.bulk
      omega
    · rw [PyData.depthAll]
      exact Nat.max_le.mpr ⟨k.deep, e⟩
theorem shows_tuple {ds : List PyData} (h : ∀ d ∈ ds, Small d) (hl : ds.length ≤ 1000) : Shows (.tuple ds) := by
  obtain ⟨a, b, c, e⟩ := small_all ds h
  exact shows_of (by rw [PyData.showable]; exact a) (by rw [PyData.leavesShort]; exact b) (by rw [PyData.bulk]; omega) (by rw [PyData.depth]; omega)
theorem shows_list {ds : List PyData} (h : ∀ d ∈ ds, Small d) (hl : ds.length ≤ 1000) : Shows (.list ds) := by
  obtain ⟨a, b, c, e⟩ := small_all ds h
  exact shows_of (by rw [PyData.showable]; exact a) (by rw [PyData.leavesShort]; exact b) (by rw [PyData.bulk]; omega) (by rw [PyData.depth]; omega)
theorem small_int {i : Int} (h : i.natAbs < 10 ^ 12) : Small (.int i) := by
  refine ⟨?_, ?_, Nat.zero_le _, Nat.zero_le _⟩
  · have z : i.natAbs < 2 ^ 1920 := Nat.lt_trans h (by decide +kernel)
    exact decide_eq_true (PySem.Flt.log2_lt_of (by decide) z)
  · exact decide_eq_true (Nat.le_trans (PyData.shown_int_le h) (by decide))
theorem small_non : Small .none := ⟨rfl, rfl, Nat.zero_le _, Nat.zero_le _⟩
theorem small_bl (b : Bool) : Small (.bool b) := ⟨rfl, rfl, Nat.zero_le _, Nat.zero_le _⟩

/-! ### parts of tuples, tuples put together -/
theorem cut_whole (xs : List V) {lo hi : Option Int} (h : HT.sIx xs.length 0 lo = 0 ∧ HT.sIx xs.length xs.length hi = xs.length) : cutV xs lo hi = xs := by
  unfold cutV
  rw [h.1, h.2, List.drop_zero, Nat.sub_zero, List.take_length]
theorem cut_mem {xs : List V} {lo hi : Option Int} {y : V} (h : y ∈ cutV xs lo hi) : y ∈ xs := List.mem_of_mem_drop (List.mem_of_mem_take h)
theorem cut_lo (xs : List V) (d : Nat) : (cutV xs none (some (d : Int))).length ≤ d := by
  unfold cutV
  rw [HT.sIx_nat, HT.sIx_none, List.length_take]
  omega
theorem cut_hi (xs : List V) (d : Nat) : (cutV xs (some (d : Int)) none).length ≤ xs.length - d := by
  unfold cutV
  rw [HT.sIx_nat, HT.sIx_none, List.length_take, List.length_drop]
  omega
theorem slA {K : PySem.W.Frag} {H : Hp} {t : Addr} {xs : List V} {lo hi : Option Int} {Q : VK} (h : H t = some (.tup xs)) (q : ∀ p H', Same H H' → H' p = some (.tup (cutV xs lo hi)) → Q (.ref p) H') : rSlA K (.ref t) lo hi H Q :=
  ⟨t, xs, rfl, SqT.of h, fun c => q t H (Same.refl H) (by rw [cut_whole xs c]; exact h), fun _ p hp => q p _ ((Same.refl H).new hp) upd_same⟩
theorem catA {K : PySem.W.Frag} {H : Hp} {a b : Addr} {xs ys : List V} {Q : VK} (ha : H a = some (.tup xs)) (hb : H b = some (.tup ys)) (hz : xs.length + ys.length ≤ 1000) (q : ∀ p H', Same H H' → H' p = some (.tup (xs ++ ys)) → Q (.ref p) H') : rCatA K (.ref a) (.ref b) H Q := by
  refine ⟨a, b, xs, ys, rfl, rfl, SqT.of ha, SqT.of hb, Nat.le_of_lt (szl hz), fun e => ?_, fun _ e => ?_, fun _ _ p hp => q p _ ((Same.refl H).new hp) upd_same⟩
  · subst e; exact q b H (Same.refl H) hb
  · subst e; exact q a H (Same.refl H) (by rw [List.append_nil]; exact ha)

/-! ### the law's own ways up, and how many things lie at or below each -/
def upF (hs : Hs) : Nat → Nat → List Nat
  | 0, _ => []
  | k + 1, v => match hs[v]? with
    | some (some u) => u :: upF hs k u
    | _ => []
def up (hs : Hs) (v : Nat) : List Nat := upF hs hs.length v
theorem upF_of {hs : Hs} {v : Nat} {l : List Nat} (a : Ups hs v l) : ∀ k : Nat, l.length ≤ k → upF hs k v = l := by
  induction a with
  | root h =>
    intro k _
    cases k with
    | zero => rfl
    | succ k => unfold upF; rw [h]
  | @step v u l h r ih =>
    intro k hk
    cases k with
    | zero => rw [List.length_cons] at hk; omega
    | succ k =>
      rw [List.length_cons] at hk
      unfold upF
      rw [h]
      show u :: upF hs k u = u :: l
      rw [ih k (by omega)]
theorem Ups.up {hs : Hs} {v : Nat} {l : List Nat} (a : Ups hs v l) : My.up hs v = l := upF_of a _ (Nat.le_of_lt a.len)
theorem Fo.ups {hs : Hs} (fo : Fo hs) {v : Nat} (h : v < hs.length) : Ups hs v (up hs v) := by
  obtain ⟨l, a⟩ := (fo.all v h).ups
  rw [a.up]; exact a
def ind (p : Prop) [Decidable p] : Int := if p then 1 else 0
theorem ind_split {hs : Hs} {v w : Nat} {l : List Nat} (a : Ups hs w l) : ind (v ∈ l) = ((kids hs v).map fun c => ind (c = w) + ind (c ∈ l)).sum := by
  have one : ∀ (cs : List Nat) (x : Nat), cs.Nodup → (cs.map fun c => ind (c = x)).sum = ind (x ∈ cs) := fun cs x => by
    induction cs with
    | nil => intro _; rfl
    | cons c cs ih =>
      intro nd
      obtain ⟨n1, n2⟩ := List.nodup_cons.mp nd
      rw [List.map_cons, List.sum_cons, ih n2]
      unfold ind
      by_cases e : c = x
      · subst e
        rw [if_pos rfl, if_neg n1, if_pos List.mem_cons_self]; rfl
      · rw [if_neg e]
        by_cases m : x ∈ cs
        · rw [if_pos m, if_pos (List.mem_cons_of_mem _ m)]; rfl
        · rw [if_neg m, if_neg (fun z => (List.mem_cons.mp z).elim (fun q => e q.symm) m)]; rfl
  have add : ∀ (cs : List Nat) (f g : Nat → Int), (cs.map fun c => f c + g c).sum = (cs.map f).sum + (cs.map g).sum := fun cs f g => by
    induction cs with
    | nil => rfl
    | cons c cs ih => rw [List.map_cons, List.sum_cons, List.map_cons, List.sum_cons, List.map_cons, List.sum_cons, ih]; omega
  induction a with
  | @root w h =>
    rw [add, one _ _ (nodup_kids hs v)]
    have z1 : ¬ w ∈ kids hs v := fun z => by rw [mem_kids.mp z] at h; cases h
    have z2 : ((kids hs v).map fun c => ind (c ∈ ([] : List Nat))).sum = 0 := by
      generalize kids hs v = cs
      induction cs with
      | nil => rfl
      | cons c cs ih =>
        rw [List.map_cons, List.sum_cons, ih]
        unfold ind
        rw [if_neg List.not_mem_nil]; rfl
    rw [z2]
    unfold ind
    rw [if_neg List.not_mem_nil, if_neg z1]; rfl
  | @step w u l h r ih =>
    rw [add] at ih ⊢
    rw [one _ _ (nodup_kids hs v)] at ih ⊢
    have nd := r.nd
    have z1 : ind (w ∈ kids hs v) = ind (v = u) := by
      unfold ind
      by_cases e : v = u
      · subst e
        rw [if_pos (mem_kids.mpr h), if_pos rfl]
      · rw [if_neg e, if_neg fun z => e ?_]
        have q := mem_kids.mp z
        rw [h] at q
        exact (Option.some.inj (Option.some.inj q)).symm
    have z2 : ∀ cs : List Nat, (cs.map fun c => ind (c ∈ u :: l)).sum = (cs.map fun c => ind (c = u)).sum + (cs.map fun c => ind (c ∈ l)).sum := fun cs => by
      rw [← add]
      congr 1
      refine List.map_congr_left fun c _ => ?_
      unfold ind
      by_cases e : c = u
      · subst e
        rw [if_pos List.mem_cons_self, if_pos rfl, if_neg (List.nodup_cons.mp nd).1]; rfl
      · rw [if_neg e]
        by_cases m : c ∈ l
        · rw [if_pos m, if_pos (List.mem_cons_of_mem _ m)]; rfl
        · rw [if_neg m, if_neg (fun z => (List.mem_cons.mp z).elim e m)]; rfl
    have z3 : ind (v ∈ u :: l) = ind (v = u) + ind (v ∈ l) := by
      have z := z2 [v]
      simpa using z
    rw [z1, z2, one _ _ (nodup_kids hs v), z3, ih]
/-- as many things as lie below one -/
def cnt (hs : Hs) (v i : Nat) : Int := ((List.range i).map fun w => ind (v ∈ up hs w)).sum
def Wt (hs : Hs) (F : List Int) : Prop := F.length = hs.length ∧ ∀ v : Nat, v < hs.length → F.getD v 0 = 1 + cnt hs v hs.length
theorem cnt_split {hs : Hs} (fo : Fo hs) (v : Nat) : ∀ i : Nat, i ≤ hs.length → cnt hs v i = ((kids hs v).map fun c => ind (c < i) + cnt hs c i).sum
  | 0, _ => by
    unfold cnt
    rw [List.range_zero]
    generalize kids hs v = cs
    show (0 : Int) = _
    induction cs with
    | nil => rfl
    | cons c cs ih => rw [List.map_cons, List.sum_cons, ← ih]; rfl
  | i + 1, h => by
    have ih := cnt_split fo v i (by omega)
    have suc : ∀ c : Nat, cnt hs c (i + 1) = cnt hs c i + ind (c ∈ up hs i) := fun c => by
      unfold cnt
      rw [List.range_succ, List.map_append, List.sum_append]
      show _ + (ind (c ∈ up hs i) + 0) = _
      omega
    rw [suc, ih, ind_split (v := v) (fo.ups (show i < hs.length by omega))]
    generalize kids hs v = cs
    induction cs with
    | nil => rfl
    | cons c cs ih2 =>
      rw [List.map_cons, List.sum_cons, List.map_cons, List.sum_cons, List.map_cons, List.sum_cons, ← ih2, suc]
      have z : ind (c < i + 1) = ind (c < i) + ind (c = i) := by
        unfold ind
        by_cases e : c = i
        · subst e
          rw [if_pos (Nat.lt_succ_self c), if_neg (Nat.lt_irrefl c), if_pos rfl]; rfl
        · rw [if_neg e]
          by_cases m : c < i
          · rw [if_pos m, if_pos (by omega)]; rfl
          · rw [if_neg m, if_neg (by omega)]; rfl
      rw [z]; omega
theorem Wt.size {hs : Hs} {F : List Int} (fo : Fo hs) (h : Wt hs F) : SizeOk hs F := by
  refine ⟨h.1, fun v hv => ?_⟩
  rw [h.2 v hv, cnt_split fo v _ (Nat.le_refl _)]
  congr 2
  refine List.map_congr_left fun c hc => ?_
  have hcl := (List.getElem?_eq_some_iff.mp (mem_kids.mp hc)).1
  rw [h.2 c hcl]
  unfold ind
  rw [if_pos hcl]
theorem size_one {hs : Hs} {F G : List Int} (fo : Fo hs) (h : SizeOk hs F) (g : SizeOk hs G) : F = G := by
  have key : ∀ (k v : Nat), v < hs.length → hs.length - (up hs v).length = k → F.getD v 0 = G.getD v 0 := fun k => by
    induction k using Nat.strongRecOn with
    | _ k ih =>
      intro v hv e
      rw [h.2 v hv, g.2 v hv]
      congr 2
      refine List.map_congr_left fun c hc => ?_
      have ec := mem_kids.mp hc
      have hcl := (List.getElem?_eq_some_iff.mp ec).1
      have u1 : up hs c = v :: up hs v := (Ups.step ec (fo.ups hv)).up
      have l1 := (fo.ups hcl).len
      refine ih (hs.length - (up hs c).length) ?_ c hcl rfl
      rw [u1, List.length_cons] at l1 ⊢
      omega
  refine List.ext_getElem (h.1.trans g.1.symm) fun i h1 h2 => ?_
  have z := key _ i (by rw [← h.1]; exact h1) rfl
  rw [List.getD_eq_getElem?_getD, List.getD_eq_getElem?_getD, List.getElem?_eq_getElem h1, List.getElem?_eq_getElem h2] at z
  exact z
def spUp : Sp := fun vs H Q _ => ∃ (t : Addr) (hs : Hs) (v : Nat), vs = [.ref t, .int (v : Int)] ∧ H t = some (.tup (hs.map hv)) ∧ Fo hs ∧ hs.length ≤ 1000 ∧ v < hs.length ∧ ∀ p H', Same H H' → H p = none → H' p = some (.lst (nv (up hs v))) → Q (.ref p) H'
section
variable {P : Program} {w : World} {K : PySem.W.Frag} {mg : Str → Option Value} {base : Heap}
abbrev st__law_up : Stmt := topS 29
abbrev N__law_up : List Str := ["plan", "one", "found"]
theorem sc__law_up : FnScope N__law_up ["plan", "one"] (defScope st__law_up) := ⟨rfl, rfl, rfl, by decide +kernel, rfl, by decide +kernel, by decide +kernel⟩
theorem ok__law_up (D : Df K mg "_law_up" st__law_up ["plan", "one"]) (B : Bl mg) : Kn P w K mg base CX0 1 "_law_up" st__law_up ["plan", "one"] spUp := by
  refine D.ok sc__law_up (fun vs H Q E h => ?_) (fun f cdv A outer s H vs Q E hr h => ?_)
  · obtain ⟨t, hs, v, rfl, _⟩ := h; rfl
  obtain ⟨t, hs, v, rfl, ht, fo, hl, hv1, q⟩ := h
  refine ⟨_, ((pss_cons (ps_set (i := 2) sc__law_up.nd rfl (Or.inl rfl) (pe_lst pa_nil))
      (pss_cons (ps_while PassesOwn.never (pt_cmpR op_notN (pe_ix ix_tup (pv 0) (pv 1) (fun _ _ => rfl)) pe_non (nomark _)) (pss_cons (ps_set (i := 1) sc__law_up.nd rfl (Or.inl rfl) (pe_ix ix_tup (pv 0) (pv 1) (fun _ _ => rfl)))
      (pss_one (ps_expr (pe_bm PySem.F.plainAttrs_list PySem.F.slot_list_append PySem.F.type_list_append mt_append (pv 2) (pa_cons (pv 1) pa_nil))))))
      (pss_one (ps_ret (pv 2)))))), ?_⟩
  have hu := fo.ups hv1
  have hlen := hu.len
  generalize up hs v = ups at hu hlen q
  refine ⟨by show 0 ≤ sizeLine; decide, fun F hF => ?_⟩
  have s0 : Same H (upd H F (.lst [])) := (Same.refl H).new hF
  have sq : ∀ {H' : Hp}, Same H H' → SqT K H' t (hs.map hv) := fun s' => SqT.of (s' _ _ ht)
  refine ⟨fun m σ H' => ∃ (u : Nat) (done rest : List Nat), σ = [some (.ref t), some (.int (u : Int)), some (.ref F)] ∧ Same H H' ∧ H' F = some (.lst (nv done)) ∧ ups = done ++ rest ∧ Ups hs u rest ∧ m = rest.length, ⟨_, v, [], ups, rfl, s0, upd_same, rfl, hu, rfl⟩, ?_⟩
  rintro m σ H' ⟨u, done, rest, rfl, s1, hF1, eu, hr1, rfl⟩
  obtain ⟨o, eo⟩ : ∃ o, hs[u]? = some o := ⟨hs[u]'hr1.lt, List.getElem?_eq_getElem hr1.lt⟩
  refine ⟨_, rfl, _, rfl, t, _, _, hv o, rfl, rfl, sq s1, atI_nat (hv_at eo), rfl, _, rfl, ?_⟩
  cases hr1 with
  | root h =>
    rw [h] at eo; cases eo
    refine iteF ⟨_, rfl, q F H' s1 hF ?_⟩
    rw [eu, List.append_nil]; exact hF1
  | @step _ u2 r' h r =>
    rw [h] at eo; cases eo
    have hdl : done.length ≤ 1000 := by
      rw [eu, List.length_append] at hlen; omega
    refine iteT ⟨fun σ' H' => ∃ m', m' < (u2 :: r').length ∧ ∃ (u : Nat) (done rest : List Nat), σ' = [some (.ref t), some (.int (u : Int)), some (.ref F)] ∧ Same H H' ∧ H' F = some (.lst (nv done)) ∧ ups = done ++ rest ∧ Ups hs u rest ∧ m' = rest.length, fun _ _ h => h, ?_⟩
    refine ⟨_, rfl, _, rfl, t, _, _, hv (some u2), rfl, rfl, sq s1, atI_nat (hv_at h), ?_⟩
    refine ⟨_, rfl, .inl ⟨rfl, _, SqL.of hF1⟩, _, rfl, F, _, _, rfl, rfl, hF1, by rw [nv_length]; exact szl hdl, ?_⟩
    refine ⟨r'.length, Nat.lt_succ_self _, u2, done ++ [u2], r', rfl, s1.upd hF, ?_, by rw [eu, List.append_assoc]; rfl, r, rfl⟩
    rw [upd_same, nv_append]; rfl
end

theorem posOf_some {l : List Nat} {u j : Nat} (h : posOf l u = some j) : l[j]? = some u := by
  unfold posOf at h
  obtain ⟨hj, h1, _⟩ := List.findIdx?_eq_some_iff_getElem.mp h
  rw [List.getElem?_eq_getElem hj, of_decide_eq_true h1]
theorem posOf_mem {l : List Nat} {u : Nat} (h : u ∈ l) : ∃ j, posOf l u = some j := by
  unfold posOf
  cases e : l.findIdx? fun v => decide (v = u) with
  | some j => exact ⟨j, rfl⟩
  | none => exact absurd (List.findIdx?_eq_none_iff.mp e u h) (by simp)
theorem among_at {hs : Hs} {l : List Nat} {i v : Nat} (h : l[i]? = some v) : (amongH hs l)[i]? = some (match hs[v]? with
  | some (some u) => posOf l u
  | _ => none) := by
  unfold amongH
  rw [List.getElem?_map, h]; rfl
theorem fo_among {hs : Hs} {l : List Nat} (fo : Fo hs) (ne : l ≠ []) (nd : l.Nodup) (hlt : ∀ v ∈ l, v < hs.length) : Fo (amongH hs l) := by
  have key : ∀ v, Rch hs v → ∀ i, l[i]? = some v → Rch (amongH hs l) i := fun v r => by
    induction r with
    | @root v h =>
      intro i e
      refine .root ?_
      rw [among_at e, h]
    | @step v u h r ih =>
      intro i e
      by_cases m : u ∈ l
      · obtain ⟨j, ej⟩ := posOf_mem m
        refine .step (u := j) ?_ (ih j (posOf_some ej))
        rw [among_at e, h]
        show some (posOf l u) = _
        rw [ej]
      · refine .root ?_
        rw [among_at e, h]
        show some (posOf l u) = _
        rw [posOf_none m]
  refine ⟨fun z => ne ?_, fun v u e => ?_, fun v hv' => ?_⟩
  · have q := congrArg List.length z
    rw [among_len] at q
    exact List.eq_nil_of_length_eq_zero q
  · rw [among_len]
    have lt := (List.getElem?_eq_some_iff.mp e).1
    rw [among_len] at lt
    rw [among_at (List.getElem?_eq_getElem lt)] at e
    have e2 := Option.some.inj e
    cases eh : hs[l[v]]? with
    | none => rw [eh] at e2; cases e2
    | some o =>
      rw [eh] at e2
      cases o with
      | none => cases e2
      | some w =>
        have e3 : posOf l w = some u := e2
        exact (List.getElem?_eq_some_iff.mp (posOf_some e3)).1
  · rw [among_len] at hv'
    exact key l[v] (fo.all _ (hlt _ (List.getElem_mem hv'))) v (List.getElem?_eq_getElem hv')

theorem up_nat {ms : List Int} {l : List Nat} (pm : ms.Perm (l.map fun v : Nat => (v : Int))) (hs : ms.Pairwise (· ≤ ·)) (nd : l.Nodup) : ∃ ns : List Nat, ms = ns.map (fun v : Nat => (v : Int)) ∧ ns.Perm l ∧ ns.Pairwise (· < ·) := by
  have e : ms = (ms.map Int.toNat).map fun v : Nat => (v : Int) := by
    rw [List.map_map]
    conv => lhs; rw [← List.map_id ms]
    refine List.map_congr_left fun x hx => ?_
    obtain ⟨v, _, rfl⟩ := List.mem_map.mp (pm.mem_iff.mp hx)
    rfl
  have p2 : (ms.map Int.toNat).Perm l := by
    have z := pm.map Int.toNat
    rw [List.map_map] at z
    have y : l.map (Int.toNat ∘ fun v : Nat => (v : Int)) = l := by
      conv => rhs; rw [← List.map_id l]
      exact List.map_congr_left fun v _ => rfl
    rwa [y] at z
  refine ⟨ms.map Int.toNat, e, p2, ?_⟩
  generalize ms.map Int.toNat = ns at e p2
  rw [e] at hs
  have h1 : ns.Pairwise (· ≤ ·) := (List.pairwise_map.mp hs).imp fun {a b} h => by omega
  have h2 : ns.Nodup := p2.nodup_iff.mpr nd
  exact (h1.and h2).imp fun {a b} h => by have := h.1; have := h.2; omega

/-! ### changed forests: the mathematics -/
theorem iteT' {b : Bool} {A B : Prop} (e : b = true) (h : A) : if b = true then A else B := by rw [if_pos e]; exact h
theorem iteF' {b : Bool} {A B : Prop} (e : b = false) (h : B) : if b = true then A else B := by rw [if_neg (by rw [e]; exact Bool.false_ne_true)]; exact h
theorem Ups.rch {hs : Hs} {v : Nat} {l : List Nat} (a : Ups hs v l) : Rch hs v := by
  induction a with
  | root h => exact .root h
  | step h _ ih => exact .step h ih
theorem fo_ups {hs : Hs} (ne : hs ≠ []) (h : ∀ v : Nat, v < hs.length → ∃ l, Ups hs v l) : Fo hs where
  ne := ne
  inb := fun v u e => by
    obtain ⟨l, a⟩ := h v (List.getElem?_eq_some_iff.mp e).1
    cases a with
    | root h2 => rw [e] at h2; cases h2
    | step h2 r => rw [e] at h2; cases h2; exact r.lt
  all := fun v hv => by obtain ⟨l, a⟩ := h v hv; exact a.rch
def upsL (hs : Hs) : List (List Nat) := (List.range hs.length).map (up hs)
theorem upsL_len (hs : Hs) : (upsL hs).length = hs.length := by unfold upsL; rw [List.length_map, List.length_range]
theorem upsL_at {hs : Hs} {i : Nat} (h : i < hs.length) : (upsL hs)[i]? = some (up hs i) := by
  unfold upsL
  rw [List.getElem?_map, List.getElem?_range h]; rfl
def behindH (ms : Hs) (n : Nat) (top : Option Nat) : Hs := ms.map fun o => match o with
  | none => top
  | some u => some (u + n)
theorem behind_len (ms : Hs) (n : Nat) (top : Option Nat) : (behindH ms n top).length = ms.length := List.length_map _
theorem behind_step {ms : Hs} {n : Nat} {top : Option Nat} {i : Nat} {o : Option Nat} (h : ms[i]? = some o) : (behindH ms n top).take (i + 1) = (behindH ms n top).take i ++ [match o with
  | none => top
  | some u => some (u + n)] := by
  rw [List.take_add_one]
  unfold behindH
  rw [List.getElem?_map, h]; rfl
theorem Ups.app {hs ex : Hs} {v : Nat} {l : List Nat} (a : Ups hs v l) : Ups (hs ++ ex) v l := by
  induction a with
  | root h => exact .root ((List.getElem?_append_left (List.getElem?_eq_some_iff.mp h).1).trans h)
  | step h _ ih => exact .step ((List.getElem?_append_left (List.getElem?_eq_some_iff.mp h).1).trans h) ih
/-- what stands above what the top thing holds -/
def TopT (hs : Hs) (top : Option Nat) (tl : List Nat) : Prop := (top = none ∧ tl = []) ∨ ∃ o l', top = some o ∧ tl = o :: l' ∧ Ups hs o l'
theorem Ups.beh {hs ms : Hs} {v : Nat} {l : List Nat} {top : Option Nat} {tl : List Nat} (ht : TopT hs top tl) (a : Ups ms v l) : Ups (hs ++ behindH ms hs.length top) (v + hs.length) (l.map (· + hs.length) ++ tl) := by
  have at_ : ∀ (v : Nat) (o : Option Nat), ms[v]? = some o → (hs ++ behindH ms hs.length top)[v + hs.length]? = some (match o with
    | none => top
    | some u => some (u + hs.length)) := fun v o e => by
    rw [List.getElem?_append_right (by omega), Nat.add_sub_cancel]
    unfold behindH
    rw [List.getElem?_map, e]; rfl
  induction a with
  | root h =>
    rcases ht with ⟨rfl, rfl⟩ | ⟨o, l', rfl, rfl, u⟩
    · exact .root (at_ _ _ h)
    · exact .step (at_ _ _ h) u.app
  | step h _ ih => exact .step (at_ _ _ h) ih
theorem both_ups {hs ms : Hs} (fo : Fo hs) (fm : Fo ms) {top : Option Nat} {tl : List Nat} (ht : TopT hs top tl) (i : Nat) (hi : i < hs.length + ms.length) :
    Ups (hs ++ behindH ms hs.length top) i (if i < hs.length then up hs i else (up ms (i - hs.length)).map (· + hs.length) ++ tl) := by
  by_cases c : i < hs.length
  · rw [if_pos c]; exact (fo.ups c).app
  · rw [if_neg c]
    have z := (fm.ups (show i - hs.length < ms.length by omega)).beh ht
    rw [show i - hs.length + hs.length = i by omega] at z
    exact z
theorem both_fo {hs ms : Hs} (fo : Fo hs) (fm : Fo ms) {top : Option Nat} {tl : List Nat} (ht : TopT hs top tl) : Fo (hs ++ behindH ms hs.length top) := by
  refine fo_ups (fun z => fo.ne (List.append_eq_nil_iff.mp z).1) fun v hv => ⟨_, both_ups fo fm ht v ?_⟩
  rw [List.length_append, behind_len] at hv; exact hv
theorem both_upsL {hs ms : Hs} (fo : Fo hs) (fm : Fo ms) {top : Option Nat} {tl : List Nat} (ht : TopT hs top tl) :
    upsL (hs ++ behindH ms hs.length top) = upsL hs ++ (upsL ms).map fun l => l.map (· + hs.length) ++ tl := by
  refine List.ext_getElem? fun i => ?_
  by_cases c : i < hs.length + ms.length
  · rw [upsL_at (by rw [List.length_append, behind_len]; exact c), (both_ups fo fm ht i c).up]
    by_cases d : i < hs.length
    · rw [if_pos d, List.getElem?_append_left (by rw [upsL_len]; exact d), upsL_at d]
    · rw [if_neg d, List.getElem?_append_right (by rw [upsL_len]; omega), upsL_len, List.getElem?_map, upsL_at (by omega)]; rfl
  · rw [List.getElem?_eq_none (by rw [upsL_len, List.length_append, behind_len]; omega), List.getElem?_eq_none (by rw [List.length_append, upsL_len, List.length_map, upsL_len]; omega)]
/-! ### forests of some of the things -/
def posD (l : List Nat) (u : Nat) : Nat := (posOf l u).getD 0
theorem posOf_at {l : List Nat} (nd : l.Nodup) {i u : Nat} (h : l[i]? = some u) : posOf l u = some i := by
  obtain ⟨hi, e⟩ := List.getElem?_eq_some_iff.mp h
  unfold posOf
  rw [List.findIdx?_eq_some_iff_getElem]
  refine ⟨hi, decide_eq_true e, fun j hj => ?_⟩
  have hjl : j < l.length := by omega
  intro z
  have z2 := of_decide_eq_true z
  have q := nodup_at nd (List.getElem?_eq_getElem hjl) (by rw [h, z2])
  omega
theorem posD_at {l : List Nat} (nd : l.Nodup) {i u : Nat} (h : l[i]? = some u) : posD l u = i := by unfold posD; rw [posOf_at nd h]; rfl
theorem ups_among {hs : Hs} {l : List Nat} (nd : l.Nodup) (cl : ∀ v ∈ l, ∀ u : Nat, hs[v]? = some (some u) → u ∈ l ∨ ∀ m, Ups hs u m → ∀ x ∈ u :: m, ¬ x ∈ l) {v : Nat} {m : List Nat} (a : Ups hs v m) :
    ∀ i : Nat, l[i]? = some v → Ups (amongH hs l) i ((m.filter fun x => decide (x ∈ l)).map (posD l)) := by
  induction a with
  | root h =>
    intro i e
    refine .root ?_
    rw [among_at e, h]
  | @step v u m h r ih =>
    intro i e
    have q := among_at (hs := hs) e
    rw [h] at q
    rcases cl v (List.mem_of_getElem? e) u h with c | c
    · obtain ⟨j, ej⟩ := List.getElem?_of_mem c
      rw [List.filter_cons_of_pos (p := fun x => decide (x ∈ l)) (decide_eq_true c), List.map_cons, posD_at nd ej]
      refine .step ?_ (ih j ej)
      rw [q]
      show some (posOf l u) = _
      rw [posOf_at nd ej]
    · have e0 : (u :: m).filter (fun x => decide (x ∈ l)) = [] := List.filter_eq_nil_iff.mpr fun x hx z => c m r x hx (of_decide_eq_true z)
      rw [e0]
      refine .root ?_
      rw [q]
      show some (posOf l u) = _
      rw [posOf_none (c m r u List.mem_cons_self)]
/-- the thing and those below it -/
def partL (hs : Hs) (t : Nat) : List Nat := (List.range hs.length).filter fun v => decide (v = t) || decide (t ∈ up hs v)
theorem mem_partL {hs : Hs} {t v : Nat} : v ∈ partL hs t ↔ v < hs.length ∧ (v = t ∨ t ∈ up hs v) := by
  unfold partL
  rw [List.mem_filter, List.mem_range, Bool.or_eq_true, decide_eq_true_eq, decide_eq_true_eq]
theorem partL_nd (hs : Hs) (t : Nat) : (partL hs t).Nodup := List.nodup_range.filter _
theorem partL_up (hs : Hs) (t : Nat) : (partL hs t).Pairwise (· < ·) := List.pairwise_lt_range.filter _
theorem partL_cl {hs : Hs} (fo : Fo hs) {t : Nat} (ht : t < hs.length) : ∀ v ∈ partL hs t, ∀ u : Nat, hs[v]? = some (some u) → u ∈ partL hs t ∨ ∀ m, Ups hs u m → ∀ x ∈ u :: m, ¬ x ∈ partL hs t := fun v hv u e => by
  obtain ⟨hl, c⟩ := mem_partL.mp hv
  have hu : u < hs.length := fo.inb v u e
  have eu : up hs v = u :: up hs u := (Ups.step e (fo.ups hu)).up
  rcases c with rfl | c
  · refine .inr fun m a x hx z => ?_
    have nd := (Ups.step e a).nd
    obtain ⟨hx1, hx2⟩ := mem_partL.mp z
    rcases hx2 with rfl | hx2
    · exact (List.nodup_cons.mp nd).1 hx
    · obtain ⟨mx, ax, lx⟩ := (Ups.step e a).mem x hx
      rw [ax.up] at hx2
      obtain ⟨mv, av, lv⟩ := ax.mem v hx2
      rw [av.inj (.step e a)] at lv
      omega
  · refine .inl (mem_partL.mpr ⟨hu, ?_⟩)
    rw [eu] at c
    rcases List.mem_cons.mp c with c | c
    · exact .inl c.symm
    · exact .inr c
def partH (hs : Hs) (t : Nat) : Hs := amongH hs (partL hs t)
def partU (hs : Hs) (t : Nat) : List (List Nat) := (partL hs t).map fun v => ((up hs v).filter fun x => decide (x ∈ partL hs t)).map (posD (partL hs t))
theorem among_upsL {hs : Hs} {l : List Nat} (nd : l.Nodup) (lt : ∀ v ∈ l, v < hs.length) (fo : Fo hs) (cl : ∀ v ∈ l, ∀ u : Nat, hs[v]? = some (some u) → u ∈ l ∨ ∀ m, Ups hs u m → ∀ x ∈ u :: m, ¬ x ∈ l) :
    upsL (amongH hs l) = l.map fun v => ((up hs v).filter fun x => decide (x ∈ l)).map (posD l) := by
  refine List.ext_getElem? fun i => ?_
  by_cases c : i < l.length
  · have e : l[i]? = some l[i] := List.getElem?_eq_getElem c
    rw [upsL_at (by rw [among_len]; exact c), (ups_among nd cl (fo.ups (lt _ (List.getElem_mem c))) i e).up, List.getElem?_map, e]; rfl
  · rw [List.getElem?_eq_none (by rw [upsL_len, among_len]; omega), List.getElem?_eq_none (by rw [List.length_map]; omega)]
theorem part_upsL {hs : Hs} (fo : Fo hs) {t : Nat} (ht : t < hs.length) : upsL (partH hs t) = partU hs t :=
  among_upsL (partL_nd hs t) (fun _ h => (mem_partL.mp h).1) fo (partL_cl fo ht)
theorem part_fo {hs : Hs} (fo : Fo hs) {t : Nat} (ht : t < hs.length) : Fo (partH hs t) :=
  fo_among fo (fun z => by
    have m : t ∈ partL hs t := mem_partL.mpr ⟨ht, .inl rfl⟩
    rw [z] at m; cases m) (partL_nd hs t) fun _ h => (mem_partL.mp h).1
/-! ### a forest without a thing -/
def passH (hs : Hs) (t : Nat) : Hs := hs.map fun o => if o = some t then (hs[t]?).getD none else o
theorem pass_len (hs : Hs) (t : Nat) : (passH hs t).length = hs.length := List.length_map _
theorem pass_at {hs : Hs} {t v : Nat} {o : Option Nat} (h : hs[v]? = some o) : (passH hs t)[v]? = some (if o = some t then (hs[t]?).getD none else o) := by
  unfold passH
  rw [List.getElem?_map, h]; rfl
theorem pass_step {hs : Hs} {t i : Nat} {o : Option Nat} (h : hs[i]? = some o) : (passH hs t).take (i + 1) = (passH hs t).take i ++ [if o = some t then (hs[t]?).getD none else o] := by
  rw [List.take_add_one, pass_at h]; rfl
theorem ups_pass {hs : Hs} {t v : Nat} {m : List Nat} (a : Ups hs v m) : Ups (passH hs t) v (m.filter fun x => decide (x ≠ t)) := by
  induction a with
  | @root v h =>
    refine .root ?_
    rw [pass_at h, if_neg (by intro z; cases z)]
  | @step v u m h r ih =>
    have q := pass_at (t := t) h
    by_cases c : u = t
    · subst c
      rw [if_pos rfl] at q
      rw [List.filter_cons_of_neg (by simp)]
      cases r with
      | root h2 =>
        rw [h2] at q
        exact .root q
      | @step _ u2 m2 h2 r2 =>
        rw [h2] at q
        have n2 : u2 ≠ u := fun z => by
          have nd := (Ups.step h2 r2).nd
          rw [z] at nd
          exact (List.nodup_cons.mp nd).1 List.mem_cons_self
        rw [List.filter_cons_of_pos (by simpa using n2)]
        refine .step q ?_
        have ih := ih
        rw [List.filter_cons_of_pos (by simpa using n2)] at ih
        cases ih with
        | step h3 r3 =>
          rw [pass_at h2, if_neg (fun z => n2 (Option.some.inj z))] at h3
          cases h3
          exact r3
    · rw [if_neg (fun z => c (Option.some.inj z))] at q
      rw [List.filter_cons_of_pos (by simpa using c)]
      exact .step q ih
theorem pass_fo {hs : Hs} (fo : Fo hs) (t : Nat) : Fo (passH hs t) := by
  refine fo_ups (fun z => fo.ne ?_) fun v hv => ⟨_, ups_pass (fo.ups (by rw [pass_len] at hv; exact hv))⟩
  have q := congrArg List.length z
  rw [pass_len] at q
  exact List.eq_nil_of_length_eq_zero q
def othL (n t : Nat) : List Nat := (List.range n).filter fun v => decide (v ≠ t)
theorem mem_othL {n t v : Nat} : v ∈ othL n t ↔ v < n ∧ v ≠ t := by
  unfold othL
  rw [List.mem_filter, List.mem_range, decide_eq_true_eq]
theorem othL_nd (n t : Nat) : (othL n t).Nodup := List.nodup_range.filter _
theorem othL_succ (n t : Nat) : othL (n + 1) t = othL n t ++ (if n ≠ t then [n] else []) := by
  unfold othL
  rw [List.range_succ, List.filter_append]
  by_cases c : n = t <;> simp [c]
theorem othL_len (n t : Nat) : (othL n t).length ≤ n := by
  have z := List.length_filter_le (fun v => decide (v ≠ t)) (List.range n)
  rw [List.length_range] at z; exact z
theorem othL_ne {n t : Nat} (h : 2 ≤ n) : othL n t ≠ [] := fun z => by
  have m : (if t = 0 then 1 else 0) ∈ othL n t := mem_othL.mpr (by split <;> omega)
  rw [z] at m; cases m
def withoutH (hs : Hs) (t : Nat) : Hs := amongH (passH hs t) (othL hs.length t)
def withoutU (hs : Hs) (t : Nat) : List (List Nat) := (othL hs.length t).map fun v => ((up hs v).filter fun x => decide (x ≠ t)).map (posD (othL hs.length t))
theorem without_fo {hs : Hs} (fo : Fo hs) {t : Nat} (h2 : 2 ≤ hs.length) : Fo (withoutH hs t) :=
  fo_among (pass_fo fo t) (othL_ne h2) (othL_nd _ _) fun v h => by rw [pass_len]; exact (mem_othL.mp h).1
theorem without_upsL {hs : Hs} (fo : Fo hs) {t : Nat} (h2 : 2 ≤ hs.length) : upsL (withoutH hs t) = withoutU hs t := by
  have cl : ∀ v ∈ othL hs.length t, ∀ u : Nat, (passH hs t)[v]? = some (some u) → u ∈ othL hs.length t ∨ ∀ m, Ups (passH hs t) u m → ∀ x ∈ u :: m, ¬ x ∈ othL hs.length t := fun v hv u e => by
    have hu : u < hs.length := by
      have z := (pass_fo fo t).inb v u e
      rw [pass_len] at z; exact z
    refine .inl (mem_othL.mpr ⟨hu, fun z => ?_⟩)
    subst z
    obtain ⟨o, ho⟩ : ∃ o, hs[v]? = some o := ⟨_, List.getElem?_eq_getElem (mem_othL.mp hv).1⟩
    rw [pass_at ho] at e
    by_cases c : o = some u
    · rw [if_pos c, List.getElem?_eq_getElem hu] at e
      have e2 : hs[u]? = some (some u) := by rw [List.getElem?_eq_getElem hu]; exact e
      have nd := (Ups.step e2 (fo.ups hu)).nd
      exact (List.nodup_cons.mp nd).1 List.mem_cons_self
    · rw [if_neg c] at e
      exact c (Option.some.inj e)
  unfold withoutH withoutU
  rw [among_upsL (othL_nd _ _) (fun v h => by rw [pass_len]; exact (mem_othL.mp h).1) (pass_fo fo t) cl]
  refine List.map_congr_left fun v hv => ?_
  rw [(ups_pass (t := t) (fo.ups (mem_othL.mp hv).1)).up]
  congr 1
  rw [List.filter_filter]
  refine List.filter_congr fun x hx => ?_
  obtain ⟨mx, ax, _⟩ := (fo.ups (mem_othL.mp hv).1).mem x hx
  have lx := ax.lt
  by_cases c : x = t
  · simp [c]
  · have m : x ∈ othL hs.length t := mem_othL.mpr ⟨lx, c⟩
    simp [c, m]

end My

namespace My
open PySem PySem.Spec PyProof.Rows L2
/-! ### heldbehind.changes -/
def spBehind : Sp := fun vs H Q _ => ∃ (a : Addr) (ms : Hs) (n : Nat) (top : Option Nat), vs = [.ref a, .int (n : Int), hv top] ∧ H a = some (.tup (ms.map hv)) ∧ ms.length ≤ 60 ∧
  ∀ r H', Same H H' → H r = none → H' r = some (.tup ((behindH ms n top).map hv)) → Q (.ref r) H'
/-- a forest, or none -/
structure FoV (H : Hp) (x : V) : Prop where
  ask : Askd H x
  bd : ∀ hs : Hs, tupAt H x = some (hs.map hv) → hs.length ≤ 60
theorem FoV.same {H H' : Hp} {x : V} (h : FoV H x) (s : Same H H') : FoV H' x := ⟨h.ask.sameV s, fun hs e => h.bd hs (by rw [tupAt_sameV h.ask.vd s] at e; exact e)⟩
theorem foV_of {H : Hp} {a : Addr} {hs : Hs} (h : H a = some (.tup (hs.map hv))) (hl : hs.length ≤ 60) : FoV H (.ref a) := ⟨askdF h hl, fun hs' e => by
  rw [tupAt_tup h] at e
  have z := congrArg List.length (Option.some.inj e)
  rw [List.length_map, List.length_map] at z
  omega⟩
def IsH (H : Hp) (x : V) (hs : Hs) : Prop := tupAt H x = some (hs.map hv) ∧ Fo hs
theorem isF_isH {H : Hp} {x : V} (h : IsF H x) : ∃ hs, IsH H x hs := h
def spBeside (CF : Addr) : Sp := fun vs H Q E => ∃ x y : V, vs = [x, y] ∧ FoV H x ∧ FoV H y ∧ (¬ IsF H x → ∀ H', Same H H' → E (.ref CF) none H') ∧ (¬ IsF H y → ∀ H', Same H H' → E (.ref CF) none H') ∧
  ∀ hs ms : Hs, IsH H x hs → IsH H y ms → ∀ r H', Same H H' → H' r = some (.tup ((hs ++ behindH ms hs.length none).map hv)) → Q (.ref r) H'
def spGrafted (CF CT : Addr) : Sp := fun vs H Q E => ∃ x y z : V, vs = [x, y, z] ∧ FoV H x ∧ Vd H y ∧ FoV H z ∧ (¬ IsF H x → ∀ H', Same H H' → E (.ref CF) none H') ∧
  (∀ hs : Hs, IsH H x hs → isIdx (hs.length : Int) y = false → ∀ H', Same H H' → E (.ref CT) none H') ∧ (∀ hs : Hs, IsH H x hs → isIdx (hs.length : Int) y = true → ¬ IsF H z → ∀ H', Same H H' → E (.ref CF) none H') ∧
  ∀ hs ms : Hs, IsH H x hs → IsH H z ms → ∀ t : Nat, y = .int (t : Int) → t < hs.length → ∀ r H', Same H H' → H' r = some (.tup ((hs ++ behindH ms hs.length (some t)).map hv)) → Q (.ref r) H'
def spPart (CF CT : Addr) : Sp := fun vs H Q E => ∃ x y : V, vs = [x, y] ∧ FoV H x ∧ Vd H y ∧ (¬ IsF H x → ∀ H', Same H H' → E (.ref CF) none H') ∧
  (∀ hs : Hs, IsH H x hs → isIdx (hs.length : Int) y = false → ∀ H', Same H H' → E (.ref CT) none H') ∧
  ∀ hs : Hs, IsH H x hs → ∀ t : Nat, y = .int (t : Int) → t < hs.length → ∀ r H', Same H H' → H' r = some (.tup ((partH hs t).map hv)) → Q (.ref r) H'
def spWithoutF (CF CT CO : Addr) : Sp := fun vs H Q E => ∃ x y : V, vs = [x, y] ∧ FoV H x ∧ Vd H y ∧ (¬ IsF H x → ∀ H', Same H H' → E (.ref CF) none H') ∧
  (∀ hs : Hs, IsH H x hs → isIdx (hs.length : Int) y = false → ∀ H', Same H H' → E (.ref CT) none H') ∧
  (∀ hs : Hs, IsH H x hs → isIdx (hs.length : Int) y = true → hs.length = 1 → ∀ H', Same H H' → E (.ref CO) none H') ∧
  ∀ hs : Hs, IsH H x hs → ∀ t : Nat, y = .int (t : Int) → t < hs.length → 2 ≤ hs.length → ∀ r H', Same H H' → H' r = some (.tup ((withoutH hs t).map hv)) → Q (.ref r) H'
theorem asc_ext : ∀ {a b : List Nat}, a.Pairwise (· < ·) → b.Pairwise (· < ·) → (∀ v, v ∈ a ↔ v ∈ b) → a = b
  | [], [], _, _, _ => rfl
  | [], y :: b, _, _, h => absurd ((h y).mpr List.mem_cons_self) List.not_mem_nil
  | x :: a, [], _, _, h => absurd ((h x).mp List.mem_cons_self) List.not_mem_nil
  | x :: a, y :: b, ha, hb, h => by
    obtain ⟨a1, a2⟩ := List.pairwise_cons.mp ha
    obtain ⟨b1, b2⟩ := List.pairwise_cons.mp hb
    have e : x = y := by
      have p := (h x).mp List.mem_cons_self
      have q := (h y).mpr List.mem_cons_self
      rcases List.mem_cons.mp p with p | p
      · exact p
      rcases List.mem_cons.mp q with q | q
      · exact q.symm
      have := b1 x p
      have := a1 y q
      omega
    subst e
    rw [asc_ext a2 b2 fun v => ?_]
    have z := h v
    rw [List.mem_cons, List.mem_cons] at z
    refine ⟨fun m => ?_, fun m => ?_⟩
    · rcases z.mp (.inr m) with rfl | k
      · exact absurd (a1 _ m) (Nat.lt_irrefl _)
      · exact k
    · rcases z.mpr (.inr m) with rfl | k
      · exact absurd (b1 _ m) (Nat.lt_irrefl _)
      · exact k
theorem blw_up {hs : Hs} (fo : Fo hs) {t v : Nat} : Blw hs t v ↔ v < hs.length ∧ t ∈ up hs v := by
  refine ⟨fun b => ?_, fun ⟨h, m⟩ => ups_blw (fo.ups h) m⟩
  have hl : v < hs.length := by
    cases b with
    | kid h => exact (List.getElem?_eq_some_iff.mp h).1
    | step h _ => exact (List.getElem?_eq_some_iff.mp h).1
  exact ⟨hl, b.ups (fo.ups hl)⟩
section
variable {P : Program} {w : World} {K : PySem.W.Frag} {mg : Str → Option Value} {base : Heap} {CF CT CO : Addr}
abbrev st__behind : Stmt := topS 23
abbrev N__behind : List Str := ["forest", "many", "top", "holder"]
theorem sc__behind : FnScope N__behind ["forest", "many", "top"] (defScope st__behind) := ⟨rfl, rfl, rfl, by decide +kernel, rfl, by decide +kernel, by decide +kernel⟩
theorem ok__behind (D : Df K mg "_behind" st__behind ["forest", "many", "top"]) (B : Bl mg) : Kn P w K mg base CX0 1 "_behind" st__behind ["forest", "many", "top"] spBehind := by
  refine D.ok sc__behind (fun vs H Q E h => ?_) (fun f cdv A outer s H vs Q E hr h => ?_)
  · obtain ⟨a, ms, n, top, rfl, _⟩ := h; rfl
  obtain ⟨a, ms, n, top, rfl, ha, hl, q⟩ := h
  refine ⟨_, ((pss_one (ps_ret (pe_callTy call_tuple_of (by rfl) B.tuple (by decide +kernel) (pa_cons (pe_lc (own := [("holder", 3)]) (g := gName 3) rfl sc__behind.nd (pi_tup (pv 0)) (blkOk_by (N := N__behind) (sc := defScope st__behind) (own := [("holder", 3)]) (by decide +kernel)) (fun _ _ _ _ _ => by (exact (pg_name (i := 3) sc__behind.nd rfl (Or.inl rfl)))) (fun _ _ _ _ _ => by exact pts_nil) (fun _ _ _ _ _ => by exact (pe_ifExp (pt_cmpR op_isN (pv 3) pe_non (nomark _)) (pv 2) (pe_op op_add (pv 3) (pv 1))))) pa_nil))))), ?_⟩
  refine ⟨_, rfl, a, rfl, ⟨_, SqT.of ha⟩, fun L hL => lc_it (walk_tup (xs := ms.map hv)) (fun i H' => Same H H' ∧ H' L = some (.lst (((behindH ms n top).take i).map hv))) ⟨(Same.refl H).new hL, upd_same⟩ (fun i H' _ z => SqT.of (z.1 _ _ ha)) ?_ ?_⟩
  · rintro i x H1 H2 hi ⟨s1, o1⟩ ⟨rfl, e1⟩
    obtain ⟨o, ho, rfl⟩ := hv_get e1
    have hil := (List.getElem?_eq_some_iff.mp ho).1
    have acc : ((((behindH ms n top).take i).map hv).length : Nat) < sizeLine := by rw [List.length_map, List.length_take]; exact szl (by omega)
    refine ⟨rfl, _, rfl, rfl, _, rfl, ?_⟩
    cases o with
    | none =>
      refine iteT ⟨_, rfl, _, o1, acc, s1.upd hL, ?_⟩
      rw [upd_same, behind_step ho, List.map_append]; rfl
    | some u =>
      refine iteF ⟨_, rfl, _, rfl, _, _, rfl, rfl, _, o1, acc, s1.upd hL, ?_⟩
      rw [upd_same, behind_step ho, List.map_append]; rfl
  · rintro H1 ⟨s1, o1⟩
    have et : (behindH ms n top).take (ms.map hv).length = behindH ms n top := by rw [List.length_map, ← behind_len ms n top, List.take_length]
    rw [et] at o1
    exact ⟨L, _, rfl, .inl ⟨SqL.of o1, fun r hr2 => q r _ (s1.new hr2) (s1.free hr2) upd_same⟩⟩
abbrev st_beside : Stmt := topS 19
abbrev N_beside : List Str := ["forest", "other"]
theorem sc_beside : FnScope N_beside ["forest", "other"] (defScope st_beside) := ⟨rfl, rfl, rfl, by decide +kernel, rfl, by decide +kernel, by decide +kernel⟩
theorem ok_beside (D : Df K mg "beside" st_beside ["forest", "other"]) (B : Bl mg) (Kcheck_forest : Kn P w K mg base (L2.CX P w) 5 "check_forest" st_check_forest ["forest"] (spCheckF CF))
    (K_behind : Kn P w K mg base CX0 1 "_behind" st__behind ["forest", "many", "top"] spBehind) : Kn P w K mg base (L2.CX P w) 6 "beside" st_beside ["forest", "other"] (spBeside CF) := by
  refine D.okX sc_beside (fun vs H Q E h => ?_) (fun f cdv A outer s H vs Q E hr h => ?_)
  · obtain ⟨x, y, rfl, _⟩ := h; rfl
  obtain ⟨x, y, rfl, fx, fy, q1, q2, q⟩ := h
  refine ⟨_, ((pss_cons (ps_expr (pe_callF Kcheck_forest (hr.mono (by decide)) (passX (takes_of rfl rfl rfl rfl)) (pa_cons (pv 0) pa_nil)))
      (pss_cons (ps_expr (pe_callF Kcheck_forest (hr.mono (by decide)) (passX (takes_of rfl rfl rfl rfl)) (pa_cons (pv 1) pa_nil)))
      (pss_one (ps_ret (pe_op op_catA (pv 0) (pe_callF K_behind (hr.mono (by decide)) pass0 (pa_cons (pv 1) (pa_cons (pe_callB call_len (by rfl) B.len (by decide +kernel) (pa_cons (pv 0) pa_nil)) (pa_cons pe_non pa_nil)))))))))), ?_⟩
  refine ⟨_, rfl, x, rfl, fx.ask, fun isx H1 s1 => ?_, q1⟩
  refine ⟨_, rfl, y, rfl, (fy.same s1).ask, fun isy H2 s2 => ?_, fun n H2 s2 => q2 (fun z => n ((isF_same fy.ask.vd s1).mpr z)) H2 (s1.trans s2)⟩
  rw [isF_same fy.ask.vd s1] at isy
  obtain ⟨hs, hx⟩ := isF_isH isx
  obtain ⟨ms, hy⟩ := isF_isH isy
  obtain ⟨a, rfl, ha⟩ := tupAt_ref hx.1
  obtain ⟨b, rfl, hb⟩ := tupAt_ref hy.1
  have l1 := fx.bd hs hx.1
  have l2 := fy.bd ms hy.1
  have s12 := s1.trans s2
  refine ⟨_, rfl, _, rfl, _, rfl, _, _, rfl, .inr ⟨_, SqT.of (s12 _ _ ha), rfl⟩, b, ms, (hs.map hv).length, none, rfl, s12 _ _ hb, l2, fun r H3 s3 hr0 hr3 => ?_⟩
  have s13 := s12.trans s3
  refine catA (s13 _ _ ha) hr3 (by rw [List.length_map, List.length_map, behind_len]; omega) fun p H4 s4 hp => ?_
  refine q hs ms hx hy p H4 (s13.trans s4) ?_
  rw [hp, List.map_append, List.length_map]
abbrev st_grafted : Stmt := topS 20
abbrev N_grafted : List Str := ["forest", "thing", "other"]
theorem sc_grafted : FnScope N_grafted ["forest", "thing", "other"] (defScope st_grafted) := ⟨rfl, rfl, rfl, by decide +kernel, rfl, by decide +kernel, by decide +kernel⟩
theorem ok_grafted (D : Df K mg "grafted" st_grafted ["forest", "thing", "other"]) (B : Bl mg) (Kcheck_forest : Kn P w K mg base (L2.CX P w) 5 "check_forest" st_check_forest ["forest"] (spCheckF CF))
    (Kcheck_thing : Kn P w K mg base (L2.CX P w) 5 "check_thing" st_check_thing ["forest", "thing"] (spCheckT CT))
    (K_behind : Kn P w K mg base CX0 1 "_behind" st__behind ["forest", "many", "top"] spBehind) : Kn P w K mg base (L2.CX P w) 6 "grafted" st_grafted ["forest", "thing", "other"] (spGrafted CF CT) := by
  refine D.okX sc_grafted (fun vs H Q E h => ?_) (fun f cdv A outer s H vs Q E hr h => ?_)
  · obtain ⟨x, y, z, rfl, _⟩ := h; rfl
  obtain ⟨x, y, z, rfl, fx, vy, fz, q1, q2, q3, q⟩ := h
  refine ⟨_, ((pss_cons (ps_expr (pe_callF Kcheck_forest (hr.mono (by decide)) (passX (takes_of rfl rfl rfl rfl)) (pa_cons (pv 0) pa_nil)))
      (pss_cons (ps_expr (pe_callF Kcheck_thing (hr.mono (by decide)) (passX (takes_of rfl rfl rfl rfl)) (pa_cons (pv 0) (pa_cons (pv 1) pa_nil))))
      (pss_cons (ps_expr (pe_callF Kcheck_forest (hr.mono (by decide)) (passX (takes_of rfl rfl rfl rfl)) (pa_cons (pv 2) pa_nil)))
      (pss_one (ps_ret (pe_op op_catA (pv 0) (pe_callF K_behind (hr.mono (by decide)) pass0 (pa_cons (pv 2) (pa_cons (pe_callB call_len (by rfl) B.len (by decide +kernel) (pa_cons (pv 0) pa_nil)) (pa_cons (pv 1) pa_nil))))))))))), ?_⟩
  refine ⟨_, rfl, x, rfl, fx.ask, fun isx H1 s1 => ?_, q1⟩
  obtain ⟨hs, hx⟩ := isF_isH isx
  obtain ⟨a, rfl, ha⟩ := tupAt_ref hx.1
  refine ⟨_, rfl, _, rfl, a, _, y, rfl, s1 _ _ ha, vy.same s1, fun b => ?_, fun b => ?_⟩
  · rw [List.length_map] at b
    refine ⟨_, rfl, z, rfl, (fz.same s1).ask, fun isz H2 s2 => ?_, fun n H2 s2 => q3 hs hx b (fun k => n ((isF_same fz.ask.vd s1).mpr k)) H2 (s1.trans s2)⟩
    rw [isF_same fz.ask.vd s1] at isz
    obtain ⟨ms, hz⟩ := isF_isH isz
    obtain ⟨c, rfl, hc⟩ := tupAt_ref hz.1
    obtain ⟨t, rfl, ht⟩ := isIdx_true b
    have l1 := fx.bd hs hx.1
    have l2 := fz.bd ms hz.1
    have s12 := s1.trans s2
    refine ⟨_, rfl, _, rfl, _, rfl, _, _, rfl, .inr ⟨_, SqT.of (s12 _ _ ha), rfl⟩, _, rfl, c, ms, (hs.map hv).length, some t, rfl, s12 _ _ hc, l2, fun r H3 s3 hr0 hr3 => ?_⟩
    have s13 := s12.trans s3
    refine catA (s13 _ _ ha) hr3 (by rw [List.length_map, List.length_map, behind_len]; omega) fun p H4 s4 hp => ?_
    refine q hs ms hx hz t rfl ht p H4 (s13.trans s4) ?_
    rw [hp, List.map_append, List.length_map]
  · rw [List.length_map] at b
    exact q2 hs hx b H1 s1
abbrev st_part : Stmt := topS 21
abbrev N_part : List Str := ["forest", "thing"]
theorem sc_part : FnScope N_part ["forest", "thing"] (defScope st_part) := ⟨rfl, rfl, rfl, by decide +kernel, rfl, by decide +kernel, by decide +kernel⟩
theorem ok_part (D : Df K mg "part" st_part ["forest", "thing"]) (B : Bl mg) (Kforest_among : Kn P w K mg base CX0 1 "forest_among" st_forest_among ["forest", "things"] (spAmong K))
    (Kbelow : Kn P w K mg base (L2.CX P w) 6 "below" st_below ["forest", "thing"] (spOf2 CF CT fun hs t l => ∃ ns : List Int, l = iv ns ∧ ns.Pairwise (· ≤ ·) ∧ ∃ o : List Nat, ns.Perm (o.map fun v : Nat => (v : Int)) ∧ o.Nodup ∧ ∀ v, v ∈ o ↔ Blw hs t v)) :
    Kn P w K mg base (L2.CX P w) 7 "part" st_part ["forest", "thing"] (spPart CF CT) := by
  refine D.okX sc_part (fun vs H Q E h => ?_) (fun f cdv A outer s H vs Q E hr h => ?_)
  · obtain ⟨x, y, rfl, _⟩ := h; rfl
  obtain ⟨x, y, rfl, fx, vy, q1, q2, q⟩ := h
  refine ⟨_, ((pss_one (ps_ret (pe_callF Kforest_among (hr.mono (by decide)) pass0 (pa_cons (pv 0) (pa_cons (pe_callB cr_sorted (by rfl) B.sorted (by decide +kernel) (pa_cons (pe_op op_cat (pe_lst (pa_cons (pv 1) pa_nil)) (pe_callF Kbelow (hr.mono (by decide)) (passX (takes_of rfl rfl rfl rfl)) (pa_cons (pv 0) (pa_cons (pv 1) pa_nil)))) pa_nil)) pa_nil)))))), ?_⟩
  refine ⟨_, rfl, _, rfl, by show 1 ≤ sizeLine; decide, fun L hL => ?_⟩
  have s1 := (Same.refl H).new (o := .lst [y]) hL
  have oL : upd H L (.lst [y]) L = some (.lst [y]) := upd_same
  generalize upd H L (.lst [y]) = H1 at s1 oL ⊢
  have fx1 := fx.same s1
  have tx := tupAt_sameV fx.ask.vd s1
  refine ⟨_, rfl, _, rfl, x, y, rfl, fx1.ask, vy.same s1, fx1.bd, fun n H2 s2 => q1 (fun z => n ((isF_same fx.ask.vd s1).mpr z)) H2 (s1.trans s2), fun hs e fo b H2 s2 => q2 hs ⟨by rw [← tx]; exact e, fo⟩ b H2 (s1.trans s2), fun hs e fo t ey ht r l H2 hR s2 hr0 hr2 => ?_⟩
  obtain ⟨ns, rfl, pw, o, pm, nd, mo⟩ := hR
  subst ey
  rw [tx] at e
  have l60 := fx.bd hs e
  obtain ⟨a, rfl, ha⟩ := tupAt_ref e
  have s12 := s1.trans s2
  have lo : o.length ≤ hs.length := nodup_len hs.length o nd fun v hv => ((blw_up fo).mp ((mo v).mp hv)).1
  have ln : ns.length = o.length := by rw [pm.length_eq, List.length_map]
  refine ⟨L, r, _, _, rfl, rfl, s2 _ _ oL, hr2, by rw [iv_length]; exact Nat.le_of_lt (szl (by show 1 + _ ≤ 1000; omega)), fun p hp => ?_⟩
  have s3 := s12.new (o := .lst ([V.int (t : Int)] ++ iv ns)) hp
  have op : upd H2 p (.lst ([V.int (t : Int)] ++ iv ns)) p = some (.lst (iv ((t : Int) :: ns))) := upd_same
  generalize upd H2 p (.lst ([V.int (t : Int)] ++ iv ns)) = H3 at s3 op ⊢
  refine ⟨p, (t : Int) :: ns, rfl, SqL.of op, by rw [List.length_cons]; omega, fun ms p2 pm2 pw2 hp2 => ?_⟩
  have pm3 : ms.Perm ((t :: o).map fun v : Nat => (v : Int)) := pm2.trans (by rw [List.map_cons]; exact List.Perm.cons _ pm)
  have nt : ¬ t ∈ o := fun z => Blw.irr (fo.all t ht) ((mo t).mp z)
  obtain ⟨ks, rfl, pk, pwk⟩ := up_nat pm3 pw2 (List.nodup_cons.mpr ⟨nt, nd⟩)
  have ek : ks = partL hs t := asc_ext pwk (partL_up hs t) fun v => by
    rw [pk.mem_iff, List.mem_cons, mo, blw_up fo, mem_partL]
    refine ⟨fun z => ?_, fun z => ?_⟩
    · rcases z with rfl | z
      · exact ⟨ht, .inl rfl⟩
      · exact ⟨z.1, .inr z.2⟩
    · rcases z with ⟨z1, rfl | z2⟩
      · exact .inl rfl
      · exact .inr ⟨z1, z2⟩
  have eiv : (ks.map fun v : Nat => (v : Int)).map V.int = nv ks := by unfold nv; rw [List.map_map]; rfl
  rw [eiv, ek]
  have s4 := s3.new (o := .lst (nv (partL hs t))) hp2
  refine ⟨a, p2, hs, partL hs t, rfl, s4 _ _ ha, .inl upd_same, partL_nd hs t, fun v hv => (mem_partL.mp hv).1, ?_, fun r2 H5 s5 hr5 hr6 => q hs ⟨e, fo⟩ t rfl ht r2 H5 (s4.trans s5) hr6⟩
  have z : (partL hs t).length = (t :: o).length := by rw [← ek]; exact pk.length_eq
  have y := nodup_len hs.length (partL hs t) (partL_nd hs t) fun v hv => (mem_partL.mp hv).1
  omega
abbrev st_without : Stmt := topS 22
abbrev N_without : List Str := ["forest", "thing", "passed_on", "holder", "other"]
theorem sc_without : FnScope N_without ["forest", "thing"] (defScope st_without) := ⟨rfl, rfl, rfl, by decide +kernel, rfl, by decide +kernel, by decide +kernel⟩
theorem ok_without (D : Df K mg "without" st_without ["forest", "thing"]) (B : Bl mg) (EOnlyThing : Ex1 K mg "OnlyThing" CO) (Kcheck_forest : Kn P w K mg base (L2.CX P w) 5 "check_forest" st_check_forest ["forest"] (spCheckF CF))
    (Kcheck_thing : Kn P w K mg base (L2.CX P w) 5 "check_thing" st_check_thing ["forest", "thing"] (spCheckT CT)) (Kforest_among : Kn P w K mg base CX0 1 "forest_among" st_forest_among ["forest", "things"] (spAmong K)) :
    Kn P w K mg base (L2.CX P w) 6 "without" st_without ["forest", "thing"] (spWithoutF CF CT CO) := by
  refine D.okX sc_without (fun vs H Q E h => ?_) (fun f cdv A outer s H vs Q E hr h => ?_)
  · obtain ⟨x, y, rfl, _⟩ := h; rfl
  obtain ⟨x, y, rfl, fx, vy, q1, q2, q3, q⟩ := h
  refine ⟨_, ((pss_cons (ps_expr (pe_callF Kcheck_forest (hr.mono (by decide)) (passX (takes_of rfl rfl rfl rfl)) (pa_cons (pv 0) pa_nil)))
      (pss_cons (ps_expr (pe_callF Kcheck_thing (hr.mono (by decide)) (passX (takes_of rfl rfl rfl rfl)) (pa_cons (pv 0) (pa_cons (pv 1) pa_nil))))
      (pss_cons (ps_if (pt_cmpR op_eq (pe_callB call_len (by rfl) B.len (by decide +kernel) (pa_cons (pv 0) pa_nil)) pe_int (nomark _)) (pss_one (ps_raise rfl (takes_of rfl rfl rfl rfl) (pmk_own0 PySem.F.excBase_ValueError EOnlyThing.x EOnlyThing.g EOnlyThing.k (raises_own EOnlyThing.b EOnlyThing.t) rfl))) pss_nil)
      (pss_cons (ps_set (i := 2) sc_without.nd rfl (Or.inl rfl) (pe_callTy call_tuple_of (by rfl) B.tuple (by decide +kernel) (pa_cons (pe_lc (own := [("holder", 3)]) (g := gName 3) rfl sc_without.nd (pi_tup (pv 0)) (blkOk_by (N := N_without) (sc := defScope st_without) (own := [("holder", 3)]) (by decide +kernel)) (fun _ _ _ _ _ => by (exact (pg_name (i := 3) sc_without.nd rfl (Or.inl rfl)))) (fun _ _ _ _ _ => by exact pts_nil) (fun _ _ _ _ _ => by exact (pe_ifExp (pt_cmpR op_eq (pv 3) (pv 1) (nomark _)) (pe_ix (ix_tupK K) (pv 0) (pv 1) (fun _ _ => rfl)) (pv 3)))) pa_nil)))
      (pss_one (ps_ret (pe_callF Kforest_among (hr.mono (by decide)) pass0 (pa_cons (pv 2) (pa_cons (pe_lc (own := [("other", 4)]) (g := gName 4) rfl sc_without.nd (pi_range1 (by rfl) B.range (pa_cons (pe_callB call_len (by rfl) B.len (by decide +kernel) (pa_cons (pv 0) pa_nil)) pa_nil)) (blkOk_by (N := N_without) (sc := defScope st_without) (own := [("other", 4)]) (by decide +kernel)) (fun _ _ _ _ _ => by (exact (pg_name (i := 4) sc_without.nd rfl (Or.inl rfl)))) (fun _ _ _ _ _ => by exact (pts_one (pt_cmpR op_ne (pv 4) (pv 1) (nomark _)))) (fun _ _ _ _ _ => by exact (pv 4))) pa_nil)))))))))), ?_⟩
  refine ⟨_, rfl, x, rfl, fx.ask, fun isx H1 s1 => ?_, q1⟩
  obtain ⟨hs, hx⟩ := isF_isH isx
  obtain ⟨a, rfl, ha⟩ := tupAt_ref hx.1
  have l60 := fx.bd hs hx.1
  have hlm : (hs.map hv).length = hs.length := List.length_map _
  refine ⟨_, rfl, _, rfl, a, _, y, rfl, s1 _ _ ha, vy.same s1, fun b => ?_, fun b => ?_⟩
  · rw [List.length_map] at b
    obtain ⟨t, rfl, ht⟩ := isIdx_true b
    refine ⟨_, rfl, _, _, rfl, .inr ⟨_, SqT.of (s1 _ _ ha), rfl⟩, rfl, _, rfl, ?_⟩
    by_cases c1 : hs.length = 1
    · refine iteT' (decide_eq_true (by rw [hlm, c1]; rfl)) ?_
      exact q3 hs hx b c1 H1 s1
    refine iteF' (decide_eq_false (fun z => c1 (by have := V.int.inj z; omega))) ?_
    obtain ⟨ot, hot⟩ : ∃ o, hs[t]? = some o := ⟨_, List.getElem?_eq_getElem ht⟩
    refine ⟨_, rfl, a, rfl, ⟨_, SqT.of (s1 _ _ ha)⟩, fun L hL => lc_it (walk_tup (xs := hs.map hv)) (fun i H' => Same H1 H' ∧ H' L = some (.lst (((passH hs t).take i).map hv))) ⟨(Same.refl H1).new hL, upd_same⟩ (fun i H' _ z => SqT.of (z.1 _ _ (s1 _ _ ha))) ?_ ?_⟩
    · rintro i x H2 H3 hi ⟨s2, o2⟩ ⟨rfl, e1⟩
      obtain ⟨o, ho, rfl⟩ := hv_get e1
      have hil := (List.getElem?_eq_some_iff.mp ho).1
      have acc : ((((passH hs t).take i).map hv).length : Nat) < sizeLine := by rw [List.length_map, List.length_take]; exact szl (by omega)
      refine ⟨rfl, _, rfl, _, rfl, by cases o <;> rfl, _, rfl, ?_⟩
      by_cases c : o = some t
      · subst c
        refine iteT' (decide_eq_true rfl) ⟨_, rfl, _, rfl, a, _, _, _, rfl, rfl, SqT.of (s2 _ _ (s1 _ _ ha)), atI_nat (hv_at hot), _, o2, acc, s2.upd hL, ?_⟩
        rw [upd_same, pass_step ho, if_pos rfl, hot, List.map_append]; rfl
      · refine iteF' (decide_eq_false (fun z => c ?_)) ⟨_, rfl, _, o2, acc, s2.upd hL, ?_⟩
        · cases o with
          | none => cases z
          | some u => have z2 : (u : Int) = (t : Int) := V.int.inj z; congr 1; omega
        · rw [upd_same, pass_step ho, if_neg c, List.map_append]; rfl
    rintro H2 ⟨s2, o2⟩
    have et : (passH hs t).take (hs.map hv).length = passH hs t := by rw [hlm, ← pass_len hs t, List.take_length]
    rw [et] at o2
    refine ⟨L, _, rfl, .inl ⟨SqL.of o2, fun p hp => ?_⟩⟩
    have s3 := (s1.trans s2).new (o := .tup ((passH hs t).map hv)) hp
    have op : upd H2 p (.tup ((passH hs t).map hv)) p = some (.tup ((passH hs t).map hv)) := upd_same
    generalize upd H2 p (.tup ((passH hs t).map hv)) = H3 at s3 op ⊢
    refine ⟨_, rfl, _, rfl, _, _, rfl, .inr ⟨_, SqT.of (s3 _ _ ha), rfl⟩, _, rfl, by omega, by omega, fun M hM => lc_it walk_range0 (fun i H' => Same H3 H' ∧ H' M = some (.lst (nv (othL i t)))) ⟨(Same.refl H3).new hM, upd_same⟩ (fun _ _ _ _ => trivial) ?_ ?_⟩
    · rintro i x H4 H5 hi ⟨s4, o4⟩ ⟨rfl, rfl⟩
      have l4 := othL_len i t
      refine ⟨rfl, _, rfl, _, rfl, rfl, _, rfl, ?_⟩
      by_cases c : i = t
      · refine iteF' (by rw [decide_eq_true (by rw [c])]; rfl) ⟨s4, ?_⟩
        rw [o4, othL_succ, if_neg (fun z => z c), List.append_nil]
      · refine iteT' (by rw [decide_eq_false (fun z => c (by have := V.int.inj z; omega))]; rfl) ⟨_, rfl, _, o4, by rw [nv_length]; exact szl (by omega), s4.upd hM, ?_⟩
        rw [upd_same, othL_succ, if_pos c, nv_append]; rfl
    rintro H4 ⟨s4, o4⟩
    have en : (((hs.map hv).length : Nat) : Int).toNat = hs.length := by rw [hlm]; omega
    rw [en] at o4
    have h2 : 2 ≤ hs.length := by omega
    refine ⟨p, M, passH hs t, othL hs.length t, rfl, s4 _ _ op, .inl o4, othL_nd _ _, fun v h => by rw [pass_len]; exact (mem_othL.mp h).1, Nat.le_trans (othL_len _ _) l60, fun r H5 s5 hr5 hr6 => q hs hx t rfl ht h2 r H5 ((s3.trans s4).trans s5) hr6⟩
  · rw [List.length_map] at b
    exact q2 hs hx b H1 s1
end

end My

namespace My
open PySem PySem.Spec PyProof.Rows L2
/-! ### equal values of the same kinds -/
theorem ix_seqK {X : Cx} (K : PySem.W.Frag) (e : X.K = K := by rfl) : IxR X (rIx K) := by subst e; exact ix_seq
theorem Rps.len {z : Bool} {H : Hp} : ∀ {xs : List V} {ds : List PyData}, Rps z H xs ds → xs.length = ds.length
  | _, _, .nil => rfl
  | _, _, .cons _ r => by rw [List.length_cons, List.length_cons, Rps.len r]
theorem Rps.at {z : Bool} {H : Hp} : ∀ {xs : List V} {ds : List PyData} {k : Nat} {x : V}, Rps z H xs ds → xs[k]? = some x → ∃ d, ds[k]? = some d ∧ Rp z H x d
  | _, _, 0, x, .cons h _, e => by cases e; exact ⟨_, rfl, h⟩
  | _, _, k + 1, x, .cons _ r, e => by
    have z := Rps.at (k := k) (x := x) r e
    exact z
theorem depth_at : ∀ {ds : List PyData} {k : Nat} {d : PyData}, ds[k]? = some d → d.depth ≤ PyData.depthAll ds
  | d :: _, 0, _, e => by cases e; rw [PyData.depthAll]; exact Nat.le_max_left _ _
  | _ :: ds, k + 1, _, e => by rw [PyData.depthAll]; exact Nat.le_trans (depth_at (ds := ds) e) (Nat.le_max_right _ _)
mutual
def shortD : PyData → Bool
  | .list ds => decide (ds.length ≤ 1000) && shortDs ds
  | .tuple ds => decide (ds.length ≤ 1000) && shortDs ds
  | .none => true
  | .bool _ => true
  | .int _ => true
  | .str _ => true
  | .dict _ => false
def shortDs : List PyData → Bool
  | [] => true
  | d :: ds => shortD d && shortDs ds
end
theorem short_at : ∀ {ds : List PyData} {k : Nat} {d : PyData}, shortDs ds = true → ds[k]? = some d → shortD d = true
  | d :: _, 0, _, h, e => by
    cases e
    rw [shortDs, Bool.and_eq_true] at h
    exact h.1
  | _ :: ds, k + 1, _, h, e => by
    rw [shortDs, Bool.and_eq_true] at h
    exact short_at (ds := ds) h.2 e
def spSame (n : Nat) : Sp := fun vs H Q _ => ∃ (x y : V) (d : PyData), vs = [x, y] ∧ Rp false H x d ∧ Rp false H y d ∧ d.depth < n ∧ shortD d = true ∧ ∀ H', Same H H' → Q (.bl true) H'
section
variable {P : Program} {w : World} {K : PySem.W.Frag} {mg : Str → Option Value} {base : Heap}
abbrev st__law_same : Stmt := topS 27
abbrev N__law_same : List Str := ["found", "due", "k"]
theorem sc__law_same : FnScope N__law_same ["found", "due"] (defScope st__law_same) := ⟨rfl, rfl, rfl, by decide +kernel, rfl, by decide +kernel, by decide +kernel⟩
theorem ok__law_same (D : Df K mg "_law_same" st__law_same ["found", "due"]) (B : Bl mg) : ∀ n : Nat, Kn P w K mg base CX0 n "_law_same" st__law_same ["found", "due"] (spSame n)
  | 0 => by
    obtain ⟨f, fd, F, g, b, e⟩ := D.ex
    exact ⟨f, fd, ⟨fun _ _ _ _ h => (by obtain ⟨_, _, _, _, _, _, h, _⟩ := h; omega), fun _ _ _ _ _ _ _ _ _ _ _ _ _ h => (by obtain ⟨_, _, _, _, _, _, h, _⟩ := h; omega)⟩, g, F.kp, b, e⟩
  | n + 1 => by
    have K_law_same := ok__law_same D B n
    refine D.ok sc__law_same (fun vs H Q E h => ?_) (fun f cdv A outer s H vs Q E hr h => ?_)
    · obtain ⟨x, y, d, rfl, _⟩ := h; rfl
    obtain ⟨x, y, d, rfl, hx, hy, hd, hs, q⟩ := h
    refine ⟨_, ((pss_cons (ps_if (PW.pt (pw_or (pt_val (pe_callB call_isi (by rfl) B.isinstance (by decide +kernel) (pa_cons (pv 0) (pa_cons (pe_bltn (v := .ty "bool") (u := .type "bool") (by rfl) B.bool (by decide +kernel) rfl) pa_nil)))) (pw_or1 (pt_val (pe_callB call_isi (by rfl) B.isinstance (by decide +kernel) (pa_cons (pv 1) (pa_cons (pe_bltn (v := .ty "bool") (u := .type "bool") (by rfl) B.bool (by decide +kernel) rfl) pa_nil))))))) (pss_one (ps_ret (pe_and (pe_callB call_isi (by rfl) B.isinstance (by decide +kernel) (pa_cons (pv 0) (pa_cons (pe_bltn (v := .ty "bool") (u := .type "bool") (by rfl) B.bool (by decide +kernel) rfl) pa_nil))) (pe_and (pe_callB call_isi (by rfl) B.isinstance (by decide +kernel) (pa_cons (pv 1) (pa_cons (pe_bltn (v := .ty "bool") (u := .type "bool") (by rfl) B.bool (by decide +kernel) rfl) pa_nil))) (pe_one (pe_cmpR op_eq (pv 0) (pv 1) (nomark _))))))) pss_nil)
      (pss_cons (ps_if (pt_cmpR op_ne (pe_callB call_isi (by rfl) B.isinstance (by decide +kernel) (pa_cons (pv 0) (pa_cons (pe_bltn (v := .ty "list") (u := .type "list") (by rfl) B.list (by decide +kernel) rfl) pa_nil))) (pe_callB call_isi (by rfl) B.isinstance (by decide +kernel) (pa_cons (pv 1) (pa_cons (pe_bltn (v := .ty "list") (u := .type "list") (by rfl) B.list (by decide +kernel) rfl) pa_nil))) (nomark _)) (pss_one (ps_ret pe_bl)) pss_nil)
      (pss_cons (ps_if (PW.pt (pw_and (pt_val (pe_callB call_isiT (by rfl) B.isinstance (by decide +kernel) (pa_cons (pv 0) (pa_cons (pe_tup (pa_cons (pe_bltn (v := .ty "list") (u := .type "list") (by rfl) B.list (by decide +kernel) rfl) (pa_cons (pe_bltn (v := .ty "tuple") (u := .type "tuple") (by rfl) B.tuple (by decide +kernel) rfl) pa_nil))) pa_nil)))) (pw_and1 (pt_val (pe_callB call_isiT (by rfl) B.isinstance (by decide +kernel) (pa_cons (pv 1) (pa_cons (pe_tup (pa_cons (pe_bltn (v := .ty "list") (u := .type "list") (by rfl) B.list (by decide +kernel) rfl) (pa_cons (pe_bltn (v := .ty "tuple") (u := .type "tuple") (by rfl) B.tuple (by decide +kernel) rfl) pa_nil))) pa_nil))))))) (pss_cons (ps_if (pt_cmpR op_ne (pe_callB call_len (by rfl) B.len (by decide +kernel) (pa_cons (pv 0) pa_nil)) (pe_callB call_len (by rfl) B.len (by decide +kernel) (pa_cons (pv 1) pa_nil)) (nomark _)) (pss_one (ps_ret pe_bl)) pss_nil)
      (pss_one (ps_ret (pe_cmpR (op_eqD hr.units) (pe_lc (own := [("k", 2)]) (g := gName 2) rfl sc__law_same.nd (pi_range1 (by rfl) B.range (pa_cons (pe_callB call_len (by rfl) B.len (by decide +kernel) (pa_cons (pv 1) pa_nil)) pa_nil)) (blkOk_by (N := N__law_same) (sc := defScope st__law_same) (own := [("k", 2)]) (by decide +kernel)) (fun _ _ _ _ _ => by (exact (pg_name (i := 2) sc__law_same.nd rfl (Or.inl rfl)))) (fun _ _ _ _ _ => by exact (pts_one (pt_not (pt_val (pe_callF K_law_same hr pass0 (pa_cons (pe_ix (ix_seqK K) (pv 0) (pv 2) (fun _ _ => rfl)) (pa_cons (pe_ix (ix_seqK K) (pv 1) (pv 2) (fun _ _ => rfl)) pa_nil))))))) (fun _ _ _ _ _ => by exact (pv 2))) (pe_lst pa_nil) (nomark _))))) pss_nil)
      (pss_one (ps_ret (pe_and (pe_cmpR op_eq (pv 0) (pv 1) (nomark _)) (pe_one (pe_cmpR op_eq (pe_callB call_isi (by rfl) B.isinstance (by decide +kernel) (pa_cons (pv 0) (pa_cons (pe_bltn (v := .ty "int") (u := .type "int") (by rfl) B.int (by decide +kernel) rfl) pa_nil))) (pe_callB call_isi (by rfl) B.isinstance (by decide +kernel) (pa_cons (pv 1) (pa_cons (pe_bltn (v := .ty "int") (u := .type "int") (by rfl) B.int (by decide +kernel) rfl) pa_nil))) (nomark _)))))))))), ?_⟩
    obtain ⟨t, tx, ty, bi, bb, bl, bt, k1, k2, k3, k4, hk⟩ : ∃ t : String, (∀ H', Same H H' → TyX K H' x (.type t)) ∧ (∀ H', Same H H' → TyX K H' y (.type t)) ∧ ∃ bi bb bl bt : Bool, kitB t "int" = some bi ∧ kitB t "bool" = some bb ∧ kitB t "list" = some bl ∧ kitB t "tuple" = some bt ∧
        ((bb = true ∧ x = y ∧ scal x y = true) ∨ (bb = false ∧ bl = false ∧ bt = false ∧ x = y ∧ scal x y = true) ∨
          (bb = false ∧ (bl || bt) = true ∧ ∃ (a b : Addr) (xs ys : List V) (ds : List PyData), x = .ref a ∧ y = .ref b ∧ ((H a = some (.lst xs) ∧ H b = some (.lst ys)) ∨ (H a = some (.tup xs) ∧ H b = some (.tup ys))) ∧
            Rps false H xs ds ∧ Rps false H ys ds ∧ PyData.depthAll ds < n ∧ shortDs ds = true ∧ ds.length ≤ 1000)) := by
      cases hx with
      | non =>
        cases hy
        exact ⟨_, fun _ _ => .base .non, fun _ _ => .base .non, _, _, _, _, (by decide +kernel : kitB "NoneType" "int" = some false), (by decide +kernel : kitB "NoneType" "bool" = some false), (by decide +kernel : kitB "NoneType" "list" = some false), (by decide +kernel : kitB "NoneType" "tuple" = some false), .inr (.inl ⟨rfl, rfl, rfl, rfl, rfl⟩)⟩
      | bl b =>
        cases hy
        exact ⟨_, fun _ _ => .base (.bl b), fun _ _ => .base (.bl b), _, _, _, _, (by decide +kernel : kitB "bool" "int" = some true), (by decide +kernel : kitB "bool" "bool" = some true), (by decide +kernel : kitB "bool" "list" = some false), (by decide +kernel : kitB "bool" "tuple" = some false), .inl ⟨rfl, rfl, rfl⟩⟩
      | int i =>
        cases hy
        exact ⟨_, fun _ _ => .base (.int i), fun _ _ => .base (.int i), _, _, _, _, (by decide +kernel : kitB "int" "int" = some true), (by decide +kernel : kitB "int" "bool" = some false), (by decide +kernel : kitB "int" "list" = some false), (by decide +kernel : kitB "int" "tuple" = some false), .inr (.inl ⟨rfl, rfl, rfl, rfl, rfl⟩)⟩
      | str z =>
        cases hy
        exact ⟨_, fun _ _ => .base (.str z), fun _ _ => .base (.str z), _, _, _, _, (by decide +kernel : kitB "str" "int" = some false), (by decide +kernel : kitB "str" "bool" = some false), (by decide +kernel : kitB "str" "list" = some false), (by decide +kernel : kitB "str" "tuple" = some false), .inr (.inl ⟨rfl, rfl, rfl, rfl, rfl⟩)⟩
      | lst ea _ r1 =>
        cases hy with
        | lst eb _ r2 =>
          rw [shortD, Bool.and_eq_true, decide_eq_true_eq] at hs
          rw [PyData.depth] at hd
          exact ⟨_, fun _ s => .base (.lst (s _ _ ea)), fun _ s => .base (.lst (s _ _ eb)), _, _, _, _, (by decide +kernel : kitB "list" "int" = some false), (by decide +kernel : kitB "list" "bool" = some false), (by decide +kernel : kitB "list" "list" = some true), (by decide +kernel : kitB "list" "tuple" = some false),
            .inr (.inr ⟨rfl, rfl, _, _, _, _, _, rfl, rfl, .inl ⟨ea, eb⟩, r1, r2, by omega, hs.2, hs.1⟩)⟩
      | tup ea r1 =>
        cases hy with
        | tup eb r2 =>
          rw [shortD, Bool.and_eq_true, decide_eq_true_eq] at hs
          rw [PyData.depth] at hd
          exact ⟨_, fun _ s => .base (.tup (s _ _ ea)), fun _ s => .base (.tup (s _ _ eb)), _, _, _, _, (by decide +kernel : kitB "tuple" "int" = some false), (by decide +kernel : kitB "tuple" "bool" = some false), (by decide +kernel : kitB "tuple" "list" = some false), (by decide +kernel : kitB "tuple" "tuple" = some true),
            .inr (.inr ⟨rfl, rfl, _, _, _, _, _, rfl, rfl, .inr ⟨ea, eb⟩, r1, r2, by omega, hs.2, hs.1⟩)⟩
      | dct z _ => cases z
    have r0 := Same.refl H
    refine ⟨_, rfl, _, _, _, _, _, rfl, .ty _, tx _ r0, kit_ty k2, _, rfl, ?_⟩
    rcases hk with ⟨rfl, rfl, sc⟩ | ⟨rfl, rfl, rfl, rfl, sc⟩ | ⟨rfl, hb, a, b, xs, ys, ds, rfl, rfl, hab, r1, r2, dn, sh, ln⟩
    · -- two bools
      refine iteT (iteT ⟨_, rfl, _, _, _, _, _, rfl, .ty _, tx _ r0, kit_ty k2, _, rfl, iteT ⟨_, rfl, _, _, _, _, _, rfl, .ty _, ty _ r0, kit_ty k2, _, rfl, iteT ⟨_, rfl, _, rfl, sc, ?_⟩⟩⟩)
      rw [decide_eq_true rfl]
      exact q H r0
    · -- values without parts
      refine iteF ⟨_, rfl, _, _, _, _, _, rfl, .ty _, ty _ r0, kit_ty k2, _, rfl, iteF ?_⟩
      refine ⟨_, rfl, _, _, _, _, _, rfl, .ty _, tx _ r0, kit_ty k3, _, rfl, _, _, _, _, _, rfl, .ty _, ty _ r0, kit_ty k3, rfl, _, rfl, iteF ?_⟩
      refine ⟨_, rfl, by show 2 ≤ sizeLine; decide, fun p hp => ⟨_, p, _, _, _, _, rfl, upd_same, .cons (.ty _) (.cons (.ty _) .nil), tx _ (r0.new hp), kitAny_cons (kit_ty k3) (fun _ => kitAny_cons (kit_ty k4) (fun _ => kitAny_nil) (fun z => Bool.noConfusion z)) (fun z => Bool.noConfusion z), _, rfl, iteF (iteF ?_)⟩⟩
      have s1 := r0.new (o := .tup [.ty "list", .ty "tuple"]) hp
      refine ⟨_, rfl, _, rfl, sc, true, by rw [decide_eq_true rfl], iteT ⟨_, rfl, _, _, _, _, _, rfl, .ty _, tx _ s1, kit_ty k1, _, rfl, _, _, _, _, _, rfl, .ty _, ty _ s1, kit_ty k1, rfl, ?_⟩⟩
      rw [decide_eq_true rfl]
      exact q _ s1
    · -- two lists, two tuples
      refine iteF ⟨_, rfl, _, _, _, _, _, rfl, .ty _, ty _ r0, kit_ty k2, _, rfl, iteF ?_⟩
      refine ⟨_, rfl, _, _, _, _, _, rfl, .ty _, tx _ r0, kit_ty k3, _, rfl, _, _, _, _, _, rfl, .ty _, ty _ r0, kit_ty k3, ?_⟩
      refine ⟨by cases bl <;> rfl, false, by rw [decide_eq_true rfl]; rfl, iteF ?_⟩
      have any : PySem.W.kitAny K (.type t) [.type "list", .type "tuple"] = some true := by
        refine kitAny_cons (kit_ty k3) (fun z => ?_) (fun _ => rfl)
        subst z
        have z2 : bt = true := hb
        subst z2
        exact kitAny_cons (kit_ty k4) (fun z => Bool.noConfusion z) (fun _ => rfl)
      refine ⟨_, rfl, by show 2 ≤ sizeLine; decide, fun p hp => ?_⟩
      have s1 := r0.new (o := .tup [.ty "list", .ty "tuple"]) hp
      have op : upd H p (.tup [.ty "list", .ty "tuple"]) p = some (.tup [.ty "list", .ty "tuple"]) := upd_same
      generalize upd H p (.tup [.ty "list", .ty "tuple"]) = H1 at s1 op ⊢
      refine ⟨_, p, _, _, _, _, rfl, op, .cons (.ty _) (.cons (.ty _) .nil), tx _ s1, any, _, rfl, iteT ?_⟩
      refine ⟨_, rfl, by show 2 ≤ sizeLine; decide, fun p2 hp2 => ?_⟩
      have s2 := s1.new (o := .tup [.ty "list", .ty "tuple"]) hp2
      have op2 : upd H1 p2 (.tup [.ty "list", .ty "tuple"]) p2 = some (.tup [.ty "list", .ty "tuple"]) := upd_same
      generalize upd H1 p2 (.tup [.ty "list", .ty "tuple"]) = H2 at s2 op2 ⊢
      refine ⟨_, p2, _, _, _, _, rfl, op2, .cons (.ty _) (.cons (.ty _) .nil), ty _ s2, any, _, rfl, iteT ?_⟩
      have l1 := Rps.len r1
      have l2 := Rps.len r2
      have lenA : ∀ H', Same H H' → LenV K (.ref a) H' ds.length := fun H' s' => by
        rcases hab with ⟨ea, eb⟩ | ⟨ea, eb⟩
        · exact .inl ⟨xs, SqL.of (s' _ _ ea), l1.symm⟩
        · exact .inr ⟨xs, SqT.of (s' _ _ ea), l1.symm⟩
      have lenB : ∀ H', Same H H' → LenV K (.ref b) H' ds.length := fun H' s' => by
        rcases hab with ⟨ea, eb⟩ | ⟨ea, eb⟩
        · exact .inl ⟨ys, SqL.of (s' _ _ eb), l2.symm⟩
        · exact .inr ⟨ys, SqT.of (s' _ _ eb), l2.symm⟩
      have ixA : ∀ (H' : Hp) (k : Nat) (v : V) (Q' : VK), Same H H' → xs[k]? = some v → Q' v H' → rIx K (.ref a) (.int (k : Int)) H' Q' := fun H' k v Q' s' e z => by
        rcases hab with ⟨ea, eb⟩ | ⟨ea, eb⟩
        · exact .inl ⟨a, xs, _, v, rfl, rfl, SqL.of (s' _ _ ea), atI_nat e, z⟩
        · exact .inr (.inl ⟨a, xs, _, v, rfl, rfl, SqT.of (s' _ _ ea), atI_nat e, z⟩)
      have ixB : ∀ (H' : Hp) (k : Nat) (v : V) (Q' : VK), Same H H' → ys[k]? = some v → Q' v H' → rIx K (.ref b) (.int (k : Int)) H' Q' := fun H' k v Q' s' e z => by
        rcases hab with ⟨ea, eb⟩ | ⟨ea, eb⟩
        · exact .inl ⟨b, ys, _, v, rfl, rfl, SqL.of (s' _ _ eb), atI_nat e, z⟩
        · exact .inr (.inl ⟨b, ys, _, v, rfl, rfl, SqT.of (s' _ _ eb), atI_nat e, z⟩)
      refine ⟨_, rfl, _, _, rfl, lenA _ s2, _, rfl, _, _, rfl, lenB _ s2, rfl, false, by rw [decide_eq_true rfl]; rfl, iteF ?_⟩
      refine ⟨_, rfl, _, _, rfl, lenB _ s2, _, rfl, by omega, by omega, fun D hD => lc_it walk_range0 (fun k H' => Same H H' ∧ H' D = some (.lst [])) ⟨s2.new hD, upd_same⟩ (fun _ _ _ _ => trivial) ?_ ?_⟩
      · rintro k x' Ha Hb hk ⟨sa, hD1⟩ ⟨rfl, rfl⟩
        have hk' : k < ds.length := hk
        obtain ⟨x1, e1⟩ : ∃ x1, xs[k]? = some x1 := ⟨_, List.getElem?_eq_getElem (by omega)⟩
        obtain ⟨y1, e2⟩ : ∃ y1, ys[k]? = some y1 := ⟨_, List.getElem?_eq_getElem (by omega)⟩
        obtain ⟨d1, e3, h1⟩ := Rps.at r1 e1
        obtain ⟨d2, e4, h2⟩ := Rps.at r2 e2
        have e5 : d2 = d1 := Option.some.inj (e4.symm.trans e3)
        subst e5
        refine ⟨rfl, _, rfl, _, rfl, ixA _ _ _ _ sa e1 ⟨_, rfl, _, rfl, ixB _ _ _ _ sa e2 ⟨x1, y1, d2, rfl, Rp.same sa _ _ h1, Rp.same sa _ _ h2, Nat.lt_of_le_of_lt (depth_at e3) dn, short_at sh e3, fun Hc sc => ⟨_, rfl, iteF ⟨sa.trans sc, sc _ _ hD1⟩⟩⟩⟩⟩
      · rintro Hb ⟨sb, hD1⟩
        refine ⟨by show 0 ≤ sizeLine; decide, fun M hM => ⟨.list [], .list [], .lst (SqL.of (by rw [upd_ne (ne_of_none hD1 hM)]; exact hD1)) .nil, .lst (SqL.of upd_same) .nil, by decide +kernel, by decide +kernel, ?_⟩⟩
        exact q _ (sb.new hM)
end

structure Rws (H : Hp) (as : List Addr) (rs : List (List Nat)) : Prop where
  len : as.length = rs.length
  at_ : ∀ (i : Nat) (p : Addr) (r : List Nat), as[i]? = some p → rs[i]? = some r → H p = some (.lst (nv r))
theorem Rws.same {H H' : Hp} {as : List Addr} {rs : List (List Nat)} (h : Rws H as rs) (s : Same H H') : Rws H' as rs := ⟨h.len, fun i p r e1 e2 => s _ _ (h.at_ i p r e1 e2)⟩
theorem Rws.but {H : Hp} {as : List Addr} {rs : List (List Nat)} (h : Rws H as rs) {a : Addr} {o : HO} (n : a ∉ as) : Rws (upd H a o) as rs := ⟨h.len, fun i p r e1 e2 => by
  rw [upd_ne (fun z : p = a => n (by rw [← z]; exact List.mem_of_getElem? e1))]; exact h.at_ i p r e1 e2⟩
theorem Rws.grow {H : Hp} {as : List Addr} {rs : List (List Nat)} {p : Addr} {r : List Nat} (h : Rws H as rs) (hp : H p = some (.lst (nv r))) : Rws H (as ++ [p]) (rs ++ [r]) := by
  refine ⟨by rw [List.length_append, List.length_append, h.len]; rfl, fun i q y e1 e2 => ?_⟩
  by_cases c : i < as.length
  · rw [List.getElem?_append_left c] at e1
    rw [List.getElem?_append_left (by rw [← h.len]; exact c)] at e2
    exact h.at_ i q y e1 e2
  · have c2 : as.length ≤ i := by omega
    rw [List.getElem?_append_right c2] at e1
    rw [List.getElem?_append_right (by rw [← h.len]; exact c2), ← h.len] at e2
    rcases hz : i - as.length with _ | m
    · rw [hz] at e1 e2
      cases e1; cases e2; exact hp
    · rw [hz] at e1; cases e1

/-! ### the law's own ways up of all things -/
theorem Rws.app {H : Hp} : ∀ {as bs : List Addr} {rs qs : List (List Nat)}, Rws H as rs → Rws H bs qs → Rws H (as ++ bs) (rs ++ qs) := fun {as bs rs qs} h g => by
  refine ⟨by rw [List.length_append, List.length_append, h.len, g.len], fun i p r e1 e2 => ?_⟩
  by_cases c : i < as.length
  · rw [List.getElem?_append_left c] at e1
    rw [List.getElem?_append_left (by rw [← h.len]; exact c)] at e2
    exact h.at_ i p r e1 e2
  · rw [List.getElem?_append_right (by omega)] at e1
    rw [List.getElem?_append_right (by rw [← h.len]; omega), ← h.len] at e2
    exact g.at_ _ p r e1 e2
theorem Rws.nil {H : Hp} : Rws H [] [] := ⟨rfl, fun i p r e _ => by cases e⟩
theorem rps_nv {z : Bool} {H : Hp} : ∀ l : List Nat, Rps z H (nv l) (nD l)
  | [] => .nil
  | v :: l => .cons (.int (v : Int)) (rps_nv l)
def rwD (rs : List (List Nat)) : List PyData := rs.map fun r => PyData.list (nD r)
theorem Rws.rps {H : Hp} : ∀ {as : List Addr} {rs : List (List Nat)}, Rws H as rs → Rps false H (as.map V.ref) (rwD rs)
  | [], [], _ => .nil
  | [], _ :: _, h => by have := h.len; cases this
  | _ :: _, [], h => by have := h.len; cases this
  | a :: as, r :: rs, h => .cons (.lst (h.at_ 0 a r rfl rfl) (fun z => by cases z) (rps_nv r)) (Rws.rps ⟨Nat.succ.inj h.len, fun i p q e1 e2 => h.at_ (i + 1) p q e1 e2⟩)
theorem deep_rwD : ∀ rs : List (List Nat), PyData.depthAll (rwD rs) ≤ 1
  | [] => Nat.zero_le _
  | r :: rs => by
    show PyData.depthAll (PyData.list (nD r) :: rwD rs) ≤ 1
    rw [PyData.depthAll, PyData.depth, deep_nD]
    exact Nat.max_le.mpr ⟨Nat.le_refl _, deep_rwD rs⟩
theorem short_nD : ∀ l : List Nat, shortDs (nD l) = true
  | [] => rfl
  | v :: l => by
    show shortDs (PyData.int (v : Int) :: nD l) = true
    rw [shortDs, short_nD l]; rfl
theorem short_rwD : ∀ {rs : List (List Nat)}, (∀ r ∈ rs, r.length ≤ 1000) → shortDs (rwD rs) = true
  | [], _ => rfl
  | r :: rs, h => by
    show shortDs (PyData.list (nD r) :: rwD rs) = true
    have e : (nD r).length = r.length := List.length_map _
    rw [shortDs, shortD, short_nD, short_rwD fun x hx => h x (List.mem_cons_of_mem _ hx), e, decide_eq_true (h r List.mem_cons_self)]; rfl
/-- two lists of rows, the same ones -/
theorem rows_same {H : Hp} {p q : Addr} {as bs : List Addr} {rs : List (List Nat)} {Q : VK} {E : XK} (hp : H p = some (.lst (as.map V.ref))) (wa : Rws H as rs) (hq : H q = some (.lst (bs.map V.ref))) (wb : Rws H bs rs)
    (l1 : rs.length ≤ 1000) (l2 : ∀ r ∈ rs, r.length ≤ 1000) (k : ∀ H', Same H H' → Q (.bl true) H') : spSame 3 [.ref p, .ref q] H Q E := by
  refine ⟨.ref p, .ref q, .list (rwD rs), rfl, .lst hp (fun z => by cases z) wa.rps, .lst hq (fun z => by cases z) wb.rps, ?_, ?_, k⟩
  · rw [PyData.depth]
    have := deep_rwD rs
    omega
  · have e : (rwD rs).length = rs.length := List.length_map _
    rw [shortD, short_rwD l2, e, decide_eq_true l1]; rfl
def spLUps : Sp := fun vs H Q _ => ∃ (t : Addr) (hs : Hs), vs = [.ref t] ∧ H t = some (.tup (hs.map hv)) ∧ Fo hs ∧ hs.length ≤ 60 ∧ ∀ p as H', Same H H' → H p = none → H' p = some (.lst (as.map V.ref)) → Rws H' as (upsL hs) → Q (.ref p) H'
def laterL (n : Nat) (r : List Nat) : List Nat := r.map (· + n)
def spLLater : Sp := fun vs H Q _ => ∃ (p : Addr) (r : List Nat) (n : Nat), vs = [.ref p, .int (n : Int)] ∧ H p = some (.lst (nv r)) ∧ r.length ≤ 60 ∧ ∀ y H', Same H H' → H y = none → H' y = some (.lst (nv (laterL n r))) → Q (.ref y) H'
theorem ups_at {hs : Hs} {v : Nat} {l : List Nat} (a : Ups hs v l) : hs[v]? = some (l[0]?) ∧ ∀ (j u : Nat), l[j]? = some u → hs[u]? = some (l[j + 1]?) := by
  induction a with
  | root h => exact ⟨h, fun j u e => by cases e⟩
  | step h r ih =>
    refine ⟨h, fun j u e => ?_⟩
    rcases j with _ | j
    · cases e; exact ih.1
    · exact ih.2 j u e
theorem up_len {hs : Hs} (fo : Fo hs) {v : Nat} (h : v < hs.length) : (up hs v).length < hs.length := (fo.ups h).len
theorem laterL_len (n : Nat) (r : List Nat) : (laterL n r).length = r.length := List.length_map _
theorem ref_at {as : List Addr} {i : Nat} {x : V} (e : (as.map V.ref)[i]? = some x) : ∃ q, as[i]? = some q ∧ x = .ref q := by
  rw [List.getElem?_map] at e
  cases h : as[i]? with
  | none => rw [h] at e; cases e
  | some q => rw [h] at e; exact ⟨q, rfl, (Option.some.inj e).symm⟩
theorem Rws.get {H : Hp} {as : List Addr} {rs : List (List Nat)} (h : Rws H as rs) {i : Nat} {q : Addr} (e : as[i]? = some q) : ∃ r, rs[i]? = some r ∧ H q = some (.lst (nv r)) := by
  have hi := (List.getElem?_eq_some_iff.mp e).1
  have e2 : rs[i]? = some (rs[i]'(by rw [← h.len]; exact hi)) := List.getElem?_eq_getElem _
  exact ⟨_, e2, h.at_ i q _ e e2⟩
theorem Rws.out {H : Hp} {as : List Addr} {rs : List (List Nat)} (h : Rws H as rs) {p : Addr} (hp : H p = none) : p ∉ as := fun z => by
  obtain ⟨i, e⟩ := List.getElem?_of_mem z
  obtain ⟨r, _, k⟩ := h.get e
  rw [hp] at k; cases k
section
variable {P : Program} {w : World} {K : PySem.W.Frag} {mg : Str → Option Value} {base : Heap}
abbrev st__law_ups : Stmt := topS 30
abbrev N__law_ups : List Str := ["plan", "found", "one", "row", "here", "step"]
theorem sc__law_ups : FnScope N__law_ups ["plan"] (defScope st__law_ups) := ⟨rfl, rfl, rfl, by decide +kernel, rfl, by decide +kernel, by decide +kernel⟩
theorem ok__law_ups (D : Df K mg "_law_ups" st__law_ups ["plan"]) (B : Bl mg) : Kn P w K mg base CX0 1 "_law_ups" st__law_ups ["plan"] spLUps := by
  refine D.ok sc__law_ups (fun vs H Q E h => ?_) (fun f cdv A outer s H vs Q E hr h => ?_)
  · obtain ⟨t, hs, rfl, _⟩ := h; rfl
  obtain ⟨t, hs, rfl, ht, fo, hl, q⟩ := h
  refine ⟨_, ((pss_cons (ps_set (i := 1) sc__law_ups.nd rfl (Or.inl rfl) (pe_lst pa_nil))
      (pss_cons (ps_for PassesOwn.never rfl (pi_range1 (by rfl) B.range (pa_cons (pe_callB call_len (by rfl) B.len (by decide +kernel) (pa_cons (pv 0) pa_nil)) pa_nil)) (pg_name (i := 2) sc__law_ups.nd rfl (Or.inl rfl)) (pss_cons (ps_par (i := 3) (j := 4) (by rfl) sc__law_ups.nd rfl rfl (by decide) rfl rfl (pa_cons (pe_lst pa_nil) (pa_cons (pe_ix ix_tup (pv 0) (pv 2) (fun _ _ => rfl)) pa_nil)) (by rfl))
      (pss_cons (ps_for PassesOwn.never rfl (pi_range1 (by rfl) B.range (pa_cons (pe_callB call_len (by rfl) B.len (by decide +kernel) (pa_cons (pv 0) pa_nil)) pa_nil)) (pg_name (i := 5) sc__law_ups.nd rfl (Or.inl rfl)) (pss_one (ps_if (pt_cmpR op_notN (pv 4) pe_non (nomark _)) (pss_cons (ps_expr (pe_bm PySem.F.plainAttrs_list PySem.F.slot_list_append PySem.F.type_list_append mt_append (pv 3) (pa_cons (pv 4) pa_nil)))
      (pss_one (ps_set (i := 4) sc__law_ups.nd rfl (Or.inl rfl) (pe_ix ix_tup (pv 0) (pv 4) (fun _ _ => rfl))))) pss_nil)))
      (pss_one (ps_expr (pe_bm PySem.F.plainAttrs_list PySem.F.slot_list_append PySem.F.type_list_append mt_append (pv 1) (pa_cons (pv 3) pa_nil)))))))
      (pss_one (ps_ret (pv 1)))))), ?_⟩
  have hlm : (hs.map hv).length = hs.length := List.length_map _
  refine ⟨by show 0 ≤ sizeLine; decide, fun F hF => ?_⟩
  have s0 := (Same.refl H).new (o := .lst []) hF
  have oF : upd H F (.lst []) F = some (.lst []) := upd_same
  generalize upd H F (.lst []) = H0 at s0 oF ⊢
  refine ⟨_, rfl, _, _, rfl, .inr ⟨_, SqT.of (s0 _ _ ht), rfl⟩, _, rfl, by omega, by omega, for_it walk_range0 (fun i σ H' => ∃ v2 v3 v4 v5 as, σ = [some (.ref t), some (.ref F), v2, v3, v4, v5] ∧ Same H H' ∧ H' F = some (.lst (as.map V.ref)) ∧ Rws H' as ((upsL hs).take i) ∧ F ∉ as)
    ⟨_, _, _, _, [], rfl, s0, oF, .nil, List.not_mem_nil⟩ (fun _ _ _ _ _ => trivial) ?_ ?_⟩
  · rintro i x σ Ha Hb hi ⟨v2, v3, v4, v5, as, rfl, sa, oF, wa, nF⟩ ⟨rfl, rfl⟩
    have hi' : i < hs.length := by omega
    refine ⟨by show 0 ≤ sizeLine; decide, fun R hR => ?_⟩
    have s1 := sa.new (o := .lst []) hR
    have nR : R ∉ as := wa.out hR
    have nFR : F ≠ R := ne_of_none oF hR
    have hRn : H R = none := sa.free hR
    have oR : upd Hb R (.lst []) R = some (.lst []) := upd_same
    have oF1 := (upd_ne (o := .lst []) nFR).trans oF
    have wa1 := wa.but (o := .lst []) nR
    generalize upd Hb R (.lst []) = H1 at s1 oR oF1 wa1 ⊢
    have ua := ups_at (fo.ups hi')
    have ul := up_len fo hi'
    refine ⟨_, rfl, _, rfl, t, _, _, _, rfl, rfl, SqT.of (s1 _ _ ht), atI_nat (hv_at ua.1), _, _, rfl, ?_⟩
    refine ⟨_, rfl, _, _, rfl, .inr ⟨_, SqT.of (s1 _ _ ht), rfl⟩, _, rfl, by omega, by omega, for_it walk_range0 (fun j σ H' => ∃ v5, σ = [some (.ref t), some (.ref F), some (.int (i : Int)), some (.ref R), some (hv ((up hs i)[j]?)), v5] ∧ Same H H' ∧ H' F = some (.lst (as.map V.ref)) ∧ Rws H' as ((upsL hs).take i) ∧ H' R = some (.lst (nv ((up hs i).take j))))
      ⟨_, rfl, s1, oF1, wa1, oR⟩ (fun _ _ _ _ _ => trivial) ?_ ?_⟩
    · rintro j x σ Hc Hd hj ⟨v5, rfl, sc, oF, wa, oR⟩ ⟨rfl, rfl⟩
      refine ⟨_, rfl, rfl, _, rfl, ?_⟩
      cases e : (up hs i)[j]? with
      | none =>
        refine iteF ⟨some (.int (j : Int)), ?_, sc, oF, wa, ?_⟩
        · rw [List.getElem?_eq_none (by have := List.getElem?_eq_none_iff.mp e; omega)]; rfl
        · rw [List.take_add_one, e, oR]; simp
      | some u =>
        refine iteT ⟨_, rfl, .inl ⟨rfl, _, SqL.of oR⟩, _, rfl, R, _, _, rfl, rfl, oR, by rw [nv_length, List.length_take]; exact szl (by omega), ?_⟩
        have sd := sc.upd (o := .lst (nv ((up hs i).take j) ++ [hv (some u)])) hRn
        refine ⟨_, rfl, _, rfl, t, _, _, _, rfl, rfl, SqT.of (sd _ _ ht), atI_nat (hv_at (ua.2 j u e)), _, rfl, sd, ?_, wa.but nR, ?_⟩
        · rw [upd_ne nFR]; exact oF
        · rw [upd_same, List.take_add_one, e, nv_append]; rfl
    · rintro σ Hc ⟨v5, rfl, sc, oF, wa, oR⟩
      have en : (((hs.map hv).length : Nat) : Int).toNat = hs.length := by rw [hlm]; omega
      rw [en, List.take_of_length_le (Nat.le_of_lt ul)] at oR
      have la := wa.len
      rw [List.length_take, upsL_len] at la
      refine ⟨_, rfl, .inl ⟨rfl, _, SqL.of oF⟩, _, rfl, F, _, _, rfl, rfl, oF, by rw [List.length_map]; exact szl (by omega), _, _, _, _, as ++ [R], rfl, sc.upd hF, by rw [upd_same, List.map_append]; rfl, ?_, fun z => (List.mem_append.mp z).elim nF fun z => nFR (List.mem_singleton.mp z)⟩
      have et : (upsL hs).take (i + 1) = (upsL hs).take i ++ [up hs i] := by rw [List.take_add_one, upsL_at hi']; rfl
      rw [et]
      exact (wa.but nF).grow (by rw [upd_ne nFR.symm]; exact oR)
  · rintro σ Ha ⟨v2, v3, v4, v5, as, rfl, sa, oF, wa, nF⟩
    have en : (((hs.map hv).length : Nat) : Int).toNat = hs.length := by rw [hlm]; omega
    rw [en, ← upsL_len hs, List.take_length] at wa
    exact ⟨_, rfl, q F as Ha sa hF oF wa⟩
abbrev st__law_later : Stmt := topS 31
abbrev N__law_later : List Str := ["row", "size", "one"]
theorem sc__law_later : FnScope N__law_later ["row", "size"] (defScope st__law_later) := ⟨rfl, rfl, rfl, by decide +kernel, rfl, by decide +kernel, by decide +kernel⟩
theorem ok__law_later (D : Df K mg "_law_later" st__law_later ["row", "size"]) (B : Bl mg) : Kn P w K mg base CX0 1 "_law_later" st__law_later ["row", "size"] spLLater := by
  refine D.ok sc__law_later (fun vs H Q E h => ?_) (fun f cdv A outer s H vs Q E hr h => ?_)
  · obtain ⟨p, r, n, rfl, _⟩ := h; rfl
  obtain ⟨p, r, n, rfl, hp, hl, q⟩ := h
  refine ⟨_, ((pss_one (ps_ret (pe_lc (own := [("one", 2)]) (g := gName 2) rfl sc__law_later.nd (pi_list (pv 0)) (blkOk_by (N := N__law_later) (sc := defScope st__law_later) (own := [("one", 2)]) (by decide +kernel)) (fun _ _ _ _ _ => by (exact (pg_name (i := 2) sc__law_later.nd rfl (Or.inl rfl)))) (fun _ _ _ _ _ => by exact pts_nil) (fun _ _ _ _ _ => by exact (pe_op op_add (pv 2) (pv 1))))))), ?_⟩
  refine ⟨_, rfl, p, rfl, ⟨_, SqL.of hp⟩, fun L hL => lc_it (walk_list (xs := nv r)) (fun i H' => Same H H' ∧ H' L = some (.lst (nv ((laterL n r).take i)))) ⟨(Same.refl H).new hL, upd_same⟩ (fun i H' _ z => SqL.of (z.1 _ _ hp)) ?_ ?_⟩
  · rintro i x H1 H2 hi ⟨s1, o1⟩ ⟨rfl, e1⟩
    obtain ⟨u, eu, rfl⟩ := nv_at e1
    refine ⟨rfl, _, rfl, _, rfl, _, _, rfl, rfl, _, o1, by rw [nv_length, List.length_take, laterL_len]; exact szl (by omega), s1.upd hL, ?_⟩
    have et : (laterL n r).take (i + 1) = (laterL n r).take i ++ [u + n] := by
      rw [List.take_add_one]
      unfold laterL
      rw [List.getElem?_map, eu]; rfl
    rw [upd_same, et, nv_append]; rfl
  · rintro H1 ⟨s1, o1⟩
    rw [nv_length, ← laterL_len n r, List.take_length] at o1
    exact q L H1 s1 hL o1
end

end My

namespace My
open PySem PySem.Spec PyProof.Rows L2
/-! ### a list's method with an argument, in a comprehension -/
theorem mt_indexK {X : Cx} (K : PySem.W.Frag) (e : X.K = K := by rfl) : MtR X "list.index" (rIndex K) := by subst e; exact mt_index
theorem pe_bmK {X : Cx} (K : PySem.W.Frag) {o a : Expr} {es : List Expr} {T name id : String} {r : V → List V → Hp → VK → Prop} {to : TE} {t : TA} {apos cpos : Pos} (pa : PlainAttrs T) (slot : Slot T name id) (hty : typeOf (.builtin id) = pure (.type "method_descriptor")) (hm : MtR X id r) (ho : PE X o to) (ha : PA X (a :: es) t) (e : X.K = K := by rfl)
    (hbase : attributeBase o name X.env (eval o X.env) = eval o X.env := by rfl)
    (hfew : ((backTo cpos (starEach (a :: es) X.env)).all (fun x => !x.1) && (backToKw cpos (keywordEach [] X.env)).all (fun x => x.1.isSome) && decide ((a :: es).length + ([] : List Keyword).length + (if ([] : List Keyword).isEmpty then 0 else 1) < 30)) = true := by rfl)
    (hline : (apos.endLine == cpos.line) = true := by rfl) (hs : starEach (a :: es) X.env = (false, eval a X.env) :: starEach es X.env := by rfl) (hplain : (backTo cpos (starEach es X.env)).any (·.1) = false := by rfl) :
    PE X (.Call (.Attribute o name apos) (a :: es) [] cpos) (tBM K T r to t) := by subst e; exact pe_bm pa slot hty hm ho ha hbase hfew hline hs hplain

def hD : Option Nat → PyData
  | none => .none
  | some u => .int (u : Int)
theorem rps_hv {z : Bool} {H : Hp} : ∀ hs : Hs, Rps z H (hs.map hv) (hs.map hD)
  | [] => .nil
  | none :: hs => .cons .non (rps_hv hs)
  | some u :: hs => .cons (.int (u : Int)) (rps_hv hs)
theorem small_hD {hs : Hs} (ib : InB hs) (hl : hs.length ≤ 60) : ∀ d ∈ hs.map hD, Small d := fun d hd => by
  obtain ⟨o, ho, rfl⟩ := List.mem_map.mp hd
  obtain ⟨v, e⟩ := List.getElem?_of_mem ho
  cases o with
  | none => exact small_non
  | some u =>
    have q := ib v u e
    exact small_int (by have z : (10 : Nat) ^ 12 = 1000000000000 := by decide
                        omega)

/-! ### the law's looks at the changed forests -/
theorem deep_hD : ∀ hs : Hs, PyData.depthAll (hs.map hD) = 0
  | [] => rfl
  | none :: hs => by
    show PyData.depthAll (PyData.none :: hs.map hD) = 0
    rw [PyData.depthAll, deep_hD hs]; rfl
  | some u :: hs => by
    show PyData.depthAll (PyData.int (u : Int) :: hs.map hD) = 0
    rw [PyData.depthAll, deep_hD hs]; rfl
theorem short_hD : ∀ hs : Hs, shortDs (hs.map hD) = true
  | [] => rfl
  | none :: hs => by
    show shortDs (PyData.none :: hs.map hD) = true
    rw [shortDs, short_hD hs]; rfl
  | some u :: hs => by
    show shortDs (PyData.int (u : Int) :: hs.map hD) = true
    rw [shortDs, short_hD hs]; rfl
theorem forest_same {H : Hp} {p q : Addr} {hs : Hs} {Q : VK} {E : XK} (hp : H p = some (.tup (hs.map hv))) (hq : H q = some (.tup (hs.map hv))) (hl : hs.length ≤ 1000) (k : ∀ H', Same H H' → Q (.bl true) H') : spSame 3 [.ref p, .ref q] H Q E := by
  refine ⟨.ref p, .ref q, .tuple (hs.map hD), rfl, .tup hp (rps_hv hs), .tup hq (rps_hv hs), ?_, ?_, k⟩
  · rw [PyData.depth, deep_hD]; decide
  · rw [shortD, short_hD, List.length_map, decide_eq_true hl]; rfl
theorem isF_of {H : Hp} {a : Addr} {hs : Hs} (h : H a = some (.tup (hs.map hv))) (fo : Fo hs) : IsF H (.ref a) := ⟨hs, tupAt_tup h, fo⟩
theorem isH_inj {H : Hp} {a : Addr} {hs gs : Hs} (h : H a = some (.tup (hs.map hv))) (g : IsH H (.ref a) gs) : gs = hs := by
  have e := g.1
  rw [tupAt_tup h] at e
  exact (hv_inj (Option.some.inj e)).symm
theorem isIdx_nat {n t : Nat} (h : t < n) : isIdx (n : Int) (.int (t : Int)) = true := by
  show (decide (0 ≤ (t : Int)) && decide ((t : Int) < (n : Int))) = true
  rw [decide_eq_true (by omega), decide_eq_true (by omega)]; rfl
theorem beside_ask {CF a b : Addr} {H : Hp} {hs ms : Hs} {Q : VK} {E : XK} (ha : H a = some (.tup (hs.map hv))) (hb : H b = some (.tup (ms.map hv))) (fo : Fo hs) (fm : Fo ms) (l1 : hs.length ≤ 60) (l2 : ms.length ≤ 60)
    (q : ∀ r H', Same H H' → H' r = some (.tup ((hs ++ behindH ms hs.length none).map hv)) → Q (.ref r) H') : spBeside CF [.ref a, .ref b] H Q E :=
  ⟨_, _, rfl, foV_of ha l1, foV_of hb l2, fun n => absurd (isF_of ha fo) n, fun n => absurd (isF_of hb fm) n, fun hs' ms' e1 e2 r H' s hr => by
    rw [isH_inj ha e1, isH_inj hb e2] at hr
    exact q r H' s hr⟩
theorem grafted_ask {CF CT a b : Addr} {H : Hp} {hs ms : Hs} {t : Nat} {Q : VK} {E : XK} (ha : H a = some (.tup (hs.map hv))) (hb : H b = some (.tup (ms.map hv))) (fo : Fo hs) (fm : Fo ms) (l1 : hs.length ≤ 60) (l2 : ms.length ≤ 60) (ht : t < hs.length)
    (q : ∀ r H', Same H H' → H' r = some (.tup ((hs ++ behindH ms hs.length (some t)).map hv)) → Q (.ref r) H') : spGrafted CF CT [.ref a, .int (t : Int), .ref b] H Q E :=
  ⟨_, _, _, rfl, foV_of ha l1, .int _, foV_of hb l2, fun n => absurd (isF_of ha fo) n, fun gs e b => (by rw [isH_inj ha e, isIdx_nat ht] at b; cases b), fun _ _ _ n => absurd (isF_of hb fm) n, fun hs' ms' e1 e2 t' et ht' r H' s hr => by
    have z : t' = t := by have := V.int.inj et; omega
    rw [isH_inj ha e1, isH_inj hb e2, z] at hr
    exact q r H' s hr⟩
theorem part_ask {CF CT a : Addr} {H : Hp} {hs : Hs} {t : Nat} {Q : VK} {E : XK} (ha : H a = some (.tup (hs.map hv))) (fo : Fo hs) (l1 : hs.length ≤ 60) (ht : t < hs.length)
    (q : ∀ r H', Same H H' → H' r = some (.tup ((partH hs t).map hv)) → Q (.ref r) H') : spPart CF CT [.ref a, .int (t : Int)] H Q E :=
  ⟨_, _, rfl, foV_of ha l1, .int _, fun n => absurd (isF_of ha fo) n, fun gs e b => (by rw [isH_inj ha e, isIdx_nat ht] at b; cases b), fun hs' e1 t' et ht' r H' s hr => by
    have z : t' = t := by have := V.int.inj et; omega
    rw [isH_inj ha e1, z] at hr
    exact q r H' s hr⟩
theorem without_ask {CF CT CO a : Addr} {H : Hp} {hs : Hs} {t : Nat} {Q : VK} {E : XK} (ha : H a = some (.tup (hs.map hv))) (fo : Fo hs) (l1 : hs.length ≤ 60) (ht : t < hs.length) (h2 : 2 ≤ hs.length)
    (q : ∀ r H', Same H H' → H' r = some (.tup ((withoutH hs t).map hv)) → Q (.ref r) H') : spWithoutF CF CT CO [.ref a, .int (t : Int)] H Q E :=
  ⟨_, _, rfl, foV_of ha l1, .int _, fun n => absurd (isF_of ha fo) n, fun gs e b => (by rw [isH_inj ha e, isIdx_nat ht] at b; cases b), fun gs e _ o => (by rw [isH_inj ha e] at o; omega), fun hs' e1 t' et ht' _ r H' s hr => by
    have z : t' = t := by have := V.int.inj et; omega
    rw [isH_inj ha e1, z] at hr
    exact q r H' s hr⟩
theorem part_len (hs : Hs) (t : Nat) : (partH hs t).length ≤ hs.length := by
  unfold partH
  rw [among_len]
  exact nodup_len hs.length (partL hs t) (partL_nd hs t) fun v hv => (mem_partL.mp hv).1
theorem upsL_short {hs : Hs} (fo : Fo hs) (hl : hs.length ≤ 60) : ∀ r ∈ upsL hs, r.length ≤ 60 := fun r hr => by
  unfold upsL at hr
  obtain ⟨v, hv1, rfl⟩ := List.mem_map.mp hr
  have := up_len fo (List.mem_range.mp hv1)
  omega
theorem idx_ask {K : PySem.W.Frag} {H : Hp} {p : Addr} {l : List Nat} {u j : Nat} {Q : VK} (h : H p = some (.lst (nv l))) (nd : l.Nodup) (e : l[j]? = some u) (q : Q (.int ((j : Nat) : Int)) H) : rIndex K (.ref p) [.int (u : Int)] H Q := by
  refine ⟨p, nv l, .int (u : Int), j, .int (u : Int), rfl, rfl, SqL.of h, rfl, flat_nv l, nv_get e, ?_, fun m z hm hz => ?_, q⟩
  · show ((u : Int) == (u : Int)) = true
    exact beq_self_eq_true _
  · obtain ⟨v, ev, rfl⟩ := nv_at hz
    show ((v : Int) == (u : Int)) = false
    refine beq_eq_false_iff_ne.mpr fun k => ?_
    have k2 : v = u := by omega
    subst k2
    have := nodup_at nd ev e
    omega
theorem kb_beside_other_forest : KwB "beside" st_beside ["forest", "other"] ["other", "forest"] (fun us ws => us ++ ws.reverse) (fun us ws => us ++ ws.reverse) :=
  ⟨fun _ _ _ _ _ _ us ws hl => by
    rw [List.length_append, List.length_reverse] at hl
    have z : ([("forest" : Str), ("other" : Str)]).length = 2 := rfl
    rcases us with _ | ⟨u1, _ | ⟨u2, us⟩⟩
    · have h : ws.length = 2 := by rw [List.length_nil] at hl; omega
      exact match ws, h with | [_, _], _ => rfl
    · have h : ws.length = 1 := by rw [List.length_cons, List.length_nil] at hl; omega
      exact match ws, h with | [_], _ => rfl
    · rw [List.length_cons, List.length_cons] at hl
      have h : ws.length = 0 := by omega
      have h2 : us.length = 0 := by omega
      exact match us, ws, h2, h with | [], [], _, _ => rfl, fun a b => a.append b.reverse⟩
theorem kb_grafted_other_thing_forest : KwB "grafted" st_grafted ["forest", "thing", "other"] ["other", "thing", "forest"] (fun us ws => us ++ ws.reverse) (fun us ws => us ++ ws.reverse) :=
  ⟨fun _ _ _ _ _ _ us ws hl => by
    rw [List.length_append, List.length_reverse] at hl
    have z : ([("forest" : Str), ("thing" : Str), ("other" : Str)]).length = 3 := rfl
    rcases us with _ | ⟨u1, _ | ⟨u2, _ | ⟨u3, us⟩⟩⟩
    · have h : ws.length = 3 := by rw [List.length_nil] at hl; omega
      exact match ws, h with | [_, _, _], _ => rfl
    · have h : ws.length = 2 := by rw [List.length_cons, List.length_nil] at hl; omega
      exact match ws, h with | [_, _], _ => rfl
    · have h : ws.length = 1 := by rw [List.length_cons, List.length_cons, List.length_nil] at hl; omega
      exact match ws, h with | [_], _ => rfl
    · rw [List.length_cons, List.length_cons, List.length_cons] at hl
      have h : ws.length = 0 := by omega
      have h2 : us.length = 0 := by omega
      exact match us, ws, h2, h with | [], [], _, _ => rfl, fun a b => a.append b.reverse⟩
theorem kb_part_thing_forest : KwB "part" st_part ["forest", "thing"] ["thing", "forest"] (fun us ws => us ++ ws.reverse) (fun us ws => us ++ ws.reverse) :=
  ⟨fun _ _ _ _ _ _ us ws hl => by
    rw [List.length_append, List.length_reverse] at hl
    have z : ([("forest" : Str), ("thing" : Str)]).length = 2 := rfl
    rcases us with _ | ⟨u1, _ | ⟨u2, us⟩⟩
    · have h : ws.length = 2 := by rw [List.length_nil] at hl; omega
      exact match ws, h with | [_, _], _ => rfl
    · have h : ws.length = 1 := by rw [List.length_cons, List.length_nil] at hl; omega
      exact match ws, h with | [_], _ => rfl
    · rw [List.length_cons, List.length_cons] at hl
      have h : ws.length = 0 := by omega
      have h2 : us.length = 0 := by omega
      exact match us, ws, h2, h with | [], [], _, _ => rfl, fun a b => a.append b.reverse⟩
theorem kb_without_thing_forest : KwB "without" st_without ["forest", "thing"] ["thing", "forest"] (fun us ws => us ++ ws.reverse) (fun us ws => us ++ ws.reverse) :=
  ⟨fun _ _ _ _ _ _ us ws hl => by
    rw [List.length_append, List.length_reverse] at hl
    have z : ([("forest" : Str), ("thing" : Str)]).length = 2 := rfl
    rcases us with _ | ⟨u1, _ | ⟨u2, us⟩⟩
    · have h : ws.length = 2 := by rw [List.length_nil] at hl; omega
      exact match ws, h with | [_, _], _ => rfl
    · have h : ws.length = 1 := by rw [List.length_cons, List.length_nil] at hl; omega
      exact match ws, h with | [_], _ => rfl
    · rw [List.length_cons, List.length_cons] at hl
      have h : ws.length = 0 := by omega
      have h2 : us.length = 0 := by omega
      exact match us, ws, h2, h with | [], [], _, _ => rfl, fun a b => a.append b.reverse⟩
def partTo (hs : Hs) (t i : Nat) : List Nat := (List.range i).filter fun v => decide (v = t) || decide (t ∈ up hs v)
theorem partTo_succ (hs : Hs) (t i : Nat) : partTo hs t (i + 1) = partTo hs t i ++ (if (decide (i = t) || decide (t ∈ up hs i)) = true then [i] else []) := by
  unfold partTo
  rw [List.range_succ, List.filter_append]
  by_cases c : (decide (i = t) || decide (t ∈ up hs i)) = true
  · rw [if_pos c, List.filter_cons_of_pos (p := fun v => decide (v = t) || decide (t ∈ up hs v)) c]; rfl
  · rw [if_neg c, List.filter_cons_of_neg (p := fun v => decide (v = t) || decide (t ∈ up hs v)) c]; rfl
theorem partTo_len (hs : Hs) (t i : Nat) : (partTo hs t i).length ≤ i := by
  have z := List.length_filter_le (fun v => decide (v = t) || decide (t ∈ up hs v)) (List.range i)
  rw [List.length_range] at z; exact z
def spLBeside : Sp := fun vs H Q _ => ∃ (a b : Addr) (hs ms : Hs), vs = [.ref a, .ref b] ∧ H a = some (.tup (hs.map hv)) ∧ H b = some (.tup (ms.map hv)) ∧ Fo hs ∧ Fo ms ∧ hs.length + ms.length ≤ 60 ∧ ∀ H', Same H H' → Q (.bl true) H'
def spLGrafted : Sp := fun vs H Q _ => ∃ (a b : Addr) (hs ms : Hs) (t : Nat), vs = [.ref a, .int (t : Int), .ref b] ∧ H a = some (.tup (hs.map hv)) ∧ H b = some (.tup (ms.map hv)) ∧ Fo hs ∧ Fo ms ∧ hs.length + ms.length ≤ 60 ∧ t < hs.length ∧ ∀ H', Same H H' → Q (.bl true) H'
def spLPart : Sp := fun vs H Q _ => ∃ (a : Addr) (hs : Hs) (t : Nat), vs = [.ref a, .int (t : Int)] ∧ H a = some (.tup (hs.map hv)) ∧ Fo hs ∧ hs.length ≤ 60 ∧ t < hs.length ∧ ∀ H', Same H H' → Q (.bl true) H'
def spLWithout : Sp := fun vs H Q _ => ∃ (a : Addr) (hs : Hs) (t : Nat), vs = [.ref a, .int (t : Int)] ∧ H a = some (.tup (hs.map hv)) ∧ Fo hs ∧ hs.length ≤ 60 ∧ t < hs.length ∧ 2 ≤ hs.length ∧ ∀ H', Same H H' → Q (.bl true) H'
section
variable {P : Program} {w : World} {K : PySem.W.Frag} {mg : Str → Option Value} {base : Heap} {CF CT CO : Addr}
abbrev st__law_beside_right : Stmt := topS 32
abbrev N__law_beside_right : List Str := ["plan", "mate", "due", "found", "row"]
theorem sc__law_beside_right : FnScope N__law_beside_right ["plan", "mate"] (defScope st__law_beside_right) := ⟨rfl, rfl, rfl, by decide +kernel, rfl, by decide +kernel, by decide +kernel⟩
theorem ok__law_beside_right (D : Df K mg "_law_beside_right" st__law_beside_right ["plan", "mate"]) (B : Bl mg) (K_law_ups : Kn P w K mg base CX0 1 "_law_ups" st__law_ups ["plan"] spLUps)
    (K_law_later : Kn P w K mg base CX0 1 "_law_later" st__law_later ["row", "size"] spLLater) (K_law_same : Kn P w K mg base CX0 3 "_law_same" st__law_same ["found", "due"] (spSame 3))
    (Kbeside : Kn P w K mg base (L2.CX P w) 6 "beside" st_beside ["forest", "other"] (spBeside CF)) : Kn P w K mg base CX0 7 "_law_beside_right" st__law_beside_right ["plan", "mate"] spLBeside := by
  refine D.ok sc__law_beside_right (fun vs H Q E h => ?_) (fun f cdv A outer s H vs Q E hr h => ?_)
  · obtain ⟨a, b, hs, ms, rfl, _⟩ := h; rfl
  obtain ⟨a, b, hs, ms, rfl, ha, hb, fo, fm, hl, q⟩ := h
  refine ⟨_, ((pss_cons (ps_set (i := 2) sc__law_beside_right.nd rfl (Or.inl rfl) (pe_op op_cat (pe_callF K_law_ups (hr.mono (by decide)) pass0 (pa_cons (pv 0) pa_nil)) (pe_lc (own := [("row", 4)]) (g := gName 4) rfl sc__law_beside_right.nd (pi_list (pe_callF K_law_ups (hr.mono (by decide)) pass0 (pa_cons (pv 1) pa_nil))) (blkOk_by (N := N__law_beside_right) (sc := defScope st__law_beside_right) (own := [("row", 4)]) (by decide +kernel)) (fun _ _ _ _ _ => by (exact (pg_name (i := 4) sc__law_beside_right.nd rfl (Or.inl rfl)))) (fun _ _ _ _ _ => by exact pts_nil) (fun _ _ _ _ _ => by exact (pe_callF K_law_later (hr.mono (by decide)) pass0 (pa_cons (pv 4) (pa_cons (pe_callB (call_lenK K) (by rfl) B.len (by decide +kernel) (pa_cons (pv 0) pa_nil)) pa_nil)))))))
      (pss_cons (ps_set (i := 3) sc__law_beside_right.nd rfl (Or.inl rfl) (pe_lst (pa_cons (pe_callF Kbeside (hr.mono (by decide)) passL (pa_cons (pv 0) (pa_cons (pv 1) pa_nil))) (pa_cons (pe_callFK0 Kbeside (hr.mono (by decide)) kb_beside_other_forest passL (pk_cons (pv 1) (pk_cons (pv 0) pk_nil))) pa_nil))))
      (pss_cons (ps_if (PW.pt (pw_or (pt_not (pt_val (pe_callB call_isi (by rfl) B.isinstance (by decide +kernel) (pa_cons (pe_ix ix_list (pv 3) pe_int (fun _ _ => rfl)) (pa_cons (pe_bltn (v := .ty "tuple") (u := .type "tuple") (by rfl) B.tuple (by decide +kernel) rfl) pa_nil))))) (pw_or1 (pt_not (pt_val (pe_callF K_law_same (hr.mono (by decide)) pass0 (pa_cons (pe_ix ix_list (pv 3) pe_int (fun _ _ => rfl)) (pa_cons (pe_ix ix_list (pv 3) pe_int (fun _ _ => rfl)) pa_nil)))))))) (pss_one (ps_ret pe_bl)) pss_nil)
      (pss_one (ps_ret (pe_and (pe_cmpR op_eq (pe_callB call_len (by rfl) B.len (by decide +kernel) (pa_cons (pe_ix ix_list (pv 3) pe_int (fun _ _ => rfl)) pa_nil)) (pe_callB call_len (by rfl) B.len (by decide +kernel) (pa_cons (pv 2) pa_nil)) (nomark _)) (pe_one (pe_callF K_law_same (hr.mono (by decide)) pass0 (pa_cons (pe_callF K_law_ups (hr.mono (by decide)) pass0 (pa_cons (pe_ix ix_list (pv 3) pe_int (fun _ _ => rfl)) pa_nil)) (pa_cons (pv 2) pa_nil))))))))))), ?_⟩
  refine ⟨_, rfl, a, hs, rfl, ha, fo, by omega, fun p as H1 s1 hp0 hp wa => ?_⟩
  refine ⟨_, rfl, b, ms, rfl, s1 _ _ hb, fm, by omega, fun p2 bs H2 s2 hp20 hp2 wb => ?_⟩
  have s12 := s1.trans s2
  refine ⟨p2, rfl, ⟨_, SqL.of hp2⟩, fun D hD => lc_it (walk_list (xs := bs.map V.ref)) (fun i H' => Same H2 H' ∧ ∃ cs : List Addr, H' D = some (.lst (cs.map V.ref)) ∧ Rws H' cs (((upsL ms).take i).map (laterL hs.length)) ∧ D ∉ cs) ⟨(Same.refl H2).new hD, [], upd_same, .nil, List.not_mem_nil⟩ (fun i H' _ z => SqL.of (z.1 _ _ hp2)) ?_ ?_⟩
  · rintro i x H3 H4 hi ⟨s3, cs, oD, wc, nD⟩ ⟨rfl, e1⟩
    obtain ⟨q1, eq1, rfl⟩ := ref_at e1
    obtain ⟨r, er, hq⟩ := wb.get eq1
    have rl := upsL_short fm (by omega) r (List.mem_of_getElem? er)
    have lc := wc.len
    rw [List.length_map, List.length_take, upsL_len] at lc
    refine ⟨rfl, _, rfl, _, rfl, _, _, rfl, .inr ⟨_, SqT.of (s3 _ _ (s12 _ _ ha)), rfl⟩, q1, r, (hs.map hv).length, rfl, s3 _ _ hq, rl, fun y H5 s5 hy0 hy => ⟨_, s5 _ _ oD, by rw [List.length_map]; exact szl (by omega), (s3.trans s5).upd hD, cs ++ [y], by rw [upd_same, List.map_append]; rfl, ?_, ?_⟩⟩
    · have et : (upsL ms).take (i + 1) = (upsL ms).take i ++ [r] := by rw [List.take_add_one, er]; rfl
      rw [et, List.map_append]
      refine ((wc.same s5).but nD).grow ?_
      rw [upd_ne (fun z : y = D => by rw [z] at hy0; rw [oD] at hy0; cases hy0), hy, List.length_map]
    · exact fun z => (List.mem_append.mp z).elim nD fun z => by
        rw [← List.mem_singleton.mp z, oD] at hy0; cases hy0
  rintro H3 ⟨s3, cs, oD, wc, nD⟩
  have lb := wb.len
  rw [List.length_map, lb, List.take_length] at wc
  have la := wa.len
  have lc := wc.len
  rw [List.length_map] at lc
  rw [upsL_len] at la lc
  refine ⟨p, D, _, _, rfl, rfl, (s2.trans s3) _ _ hp, oD, by rw [List.length_map, List.length_map]; exact Nat.le_of_lt (szl (by omega)), fun G hG => ?_⟩
  have sG := (s12.trans s3).new (o := .lst (as.map V.ref ++ cs.map V.ref)) hG
  have oG : upd H3 G (.lst (as.map V.ref ++ cs.map V.ref)) G = some (.lst ((as ++ cs).map V.ref)) := by rw [upd_same, List.map_append]
  have wG := ((wa.same (s2.trans s3)).app wc).same ((Same.refl H3).new (o := .lst (as.map V.ref ++ cs.map V.ref)) hG)
  generalize upd H3 G (.lst (as.map V.ref ++ cs.map V.ref)) = H4 at sG oG wG ⊢
  have top : TopT hs none [] := .inl ⟨rfl, rfl⟩
  have fg := both_fo fo fm top
  have eu : upsL (hs ++ behindH ms hs.length none) = upsL hs ++ (upsL ms).map (laterL hs.length) := by
    rw [both_upsL fo fm top]
    congr 1
    refine List.map_congr_left fun l _ => ?_
    rw [List.append_nil]; rfl
  have l60 : (hs ++ behindH ms hs.length none).length ≤ 60 := by rw [List.length_append, behind_len]; omega
  refine ⟨_, rfl, _, rfl, ?_⟩
  dsimp only [tNil, tCons, tC, List.nil_append, List.append_nil, List.cons_append, List.reverse_cons, List.reverse_nil]
  refine beside_ask (sG _ _ ha) (sG _ _ hb) fo fm (by omega) (by omega) fun r1 H5 s5 h1 => ?_
  refine ⟨_, rfl, _, rfl, ?_⟩
  dsimp only [tNil, tCons, tC, List.nil_append, List.append_nil, List.cons_append, List.reverse_cons, List.reverse_nil]
  refine beside_ask ((sG.trans s5) _ _ ha) ((sG.trans s5) _ _ hb) fo fm (by omega) (by omega) fun r2 H6 s6 h2 => ⟨by show 2 ≤ sizeLine; decide, fun F hF => ?_⟩
  -- the answers are two equal forests
  have oF : upd H6 F (.lst [.ref r1, .ref r2]) F = some (.lst [.ref r1, .ref r2]) := upd_same
  have s7 := (Same.refl H6).new (o := .lst [.ref r1, .ref r2]) hF
  have g1 := s7 _ _ (s6 _ _ h1)
  have g2 := s7 _ _ h2
  have gG := s7 _ _ (s6 _ _ (s5 _ _ oG))
  have wG7 := wG.same ((s5.trans s6).trans s7)
  have all := ((sG.trans s5).trans s6).trans s7
  generalize upd H6 F (.lst [.ref r1, .ref r2]) = H7 at oF s7 g1 g2 gG wG7 all ⊢
  refine ⟨_, rfl, F, _, _, _, rfl, rfl, SqL.of oF, rfl, _, _, _, _, _, rfl, .ty _, .base (.tup g1), kit_ty (by decide +kernel : kitB "tuple" "tuple" = some true), _, rfl, iteF ?_⟩
  refine ⟨_, rfl, F, _, _, _, rfl, rfl, SqL.of oF, rfl, _, rfl, F, _, _, _, rfl, rfl, SqL.of oF, rfl, ?_⟩
  dsimp only [tNil, tCons, tC, List.nil_append, List.append_nil, List.cons_append, List.reverse_cons, List.reverse_nil]
  refine forest_same g1 g2 (by omega) fun H8 s8 => ⟨_, rfl, iteF ?_⟩
  refine ⟨_, rfl, F, _, _, _, rfl, rfl, SqL.of (s8 _ _ oF), rfl, _, _, rfl, .inr ⟨_, SqT.of (s8 _ _ g1), rfl⟩, _, rfl, _, _, rfl, .inl ⟨_, SqL.of (s8 _ _ gG), rfl⟩, rfl, _, rfl, ?_⟩
  have lG := wG.len
  rw [← eu, upsL_len] at lG
  refine iteT' (decide_eq_true (by rw [List.length_map, List.length_map, lG])) ?_
  refine ⟨_, rfl, F, _, _, _, rfl, rfl, SqL.of (s8 _ _ oF), rfl, r1, _, rfl, s8 _ _ g1, fg, l60, fun p9 ps9 H9 s9 hp90 hp9 wp9 => ⟨_, rfl, ?_⟩⟩
  dsimp only [tNil, tCons, tC, List.nil_append, List.append_nil, List.cons_append, List.reverse_cons, List.reverse_nil]
  exact rows_same hp9 wp9 (s9 _ _ (s8 _ _ gG)) (by rw [eu]; exact wG7.same (s8.trans s9)) (by rw [upsL_len]; omega) (fun r hr => Nat.le_trans (upsL_short fg l60 r hr) (by decide)) fun HA sA => q HA (((all.trans s8).trans s9).trans sA)
abbrev st__law_grafted_right : Stmt := topS 33
abbrev N__law_grafted_right : List Str := ["plan", "one", "mate", "behind_it", "due", "found", "row"]
theorem sc__law_grafted_right : FnScope N__law_grafted_right ["plan", "one", "mate"] (defScope st__law_grafted_right) := ⟨rfl, rfl, rfl, by decide +kernel, rfl, by decide +kernel, by decide +kernel⟩
theorem ok__law_grafted_right (D : Df K mg "_law_grafted_right" st__law_grafted_right ["plan", "one", "mate"]) (B : Bl mg) (K_law_up : Kn P w K mg base CX0 1 "_law_up" st__law_up ["plan", "one"] spUp) (K_law_ups : Kn P w K mg base CX0 1 "_law_ups" st__law_ups ["plan"] spLUps)
    (K_law_later : Kn P w K mg base CX0 1 "_law_later" st__law_later ["row", "size"] spLLater) (K_law_same : Kn P w K mg base CX0 3 "_law_same" st__law_same ["found", "due"] (spSame 3))
    (Kgrafted : Kn P w K mg base (L2.CX P w) 6 "grafted" st_grafted ["forest", "thing", "other"] (spGrafted CF CT)) : Kn P w K mg base CX0 7 "_law_grafted_right" st__law_grafted_right ["plan", "one", "mate"] spLGrafted := by
  refine D.ok sc__law_grafted_right (fun vs H Q E h => ?_) (fun f cdv A outer s H vs Q E hr h => ?_)
  · obtain ⟨a, b, hs, ms, t, rfl, _⟩ := h; rfl
  obtain ⟨a, b, hs, ms, t, rfl, ha, hb, fo, fm, hl, ht, q⟩ := h
  refine ⟨_, ((pss_cons (ps_set (i := 3) sc__law_grafted_right.nd rfl (Or.inr rfl) (pe_op op_cat (pe_lst (pa_cons (pv 1) pa_nil)) (pe_callF K_law_up (hr.mono (by decide)) pass0 (pa_cons (pv 0) (pa_cons (pv 1) pa_nil)))))
      (pss_cons (ps_set (i := 4) sc__law_grafted_right.nd rfl (Or.inl rfl) (pe_op op_cat (pe_callF K_law_ups (hr.mono (by decide)) pass0 (pa_cons (pv 0) pa_nil)) (pe_lc (own := [("row", 6)]) (g := gName 6) rfl sc__law_grafted_right.nd (pi_list (pe_callF K_law_ups (hr.mono (by decide)) pass0 (pa_cons (pv 2) pa_nil))) (blkOk_by (N := N__law_grafted_right) (sc := defScope st__law_grafted_right) (own := [("row", 6)]) (by decide +kernel)) (fun _ _ _ _ _ => by (exact (pg_name (i := 6) sc__law_grafted_right.nd rfl (Or.inl rfl)))) (fun _ _ _ _ _ => by exact pts_nil) (fun _ _ _ _ _ => by exact (pe_op op_cat (pe_callF K_law_later (hr.mono (by decide)) pass0 (pa_cons (pv 6) (pa_cons (pe_callB (call_lenK K) (by rfl) B.len (by decide +kernel) (pa_cons (pv 0) pa_nil)) pa_nil))) (pv 3))))))
      (pss_cons (ps_set (i := 5) sc__law_grafted_right.nd rfl (Or.inl rfl) (pe_lst (pa_cons (pe_callF Kgrafted (hr.mono (by decide)) passL (pa_cons (pv 0) (pa_cons (pv 1) (pa_cons (pv 2) pa_nil)))) (pa_cons (pe_callFK0 Kgrafted (hr.mono (by decide)) kb_grafted_other_thing_forest passL (pk_cons (pv 2) (pk_cons (pv 1) (pk_cons (pv 0) pk_nil)))) pa_nil))))
      (pss_cons (ps_if (PW.pt (pw_or (pt_not (pt_val (pe_callB call_isi (by rfl) B.isinstance (by decide +kernel) (pa_cons (pe_ix ix_list (pv 5) pe_int (fun _ _ => rfl)) (pa_cons (pe_bltn (v := .ty "tuple") (u := .type "tuple") (by rfl) B.tuple (by decide +kernel) rfl) pa_nil))))) (pw_or1 (pt_not (pt_val (pe_callF K_law_same (hr.mono (by decide)) pass0 (pa_cons (pe_ix ix_list (pv 5) pe_int (fun _ _ => rfl)) (pa_cons (pe_ix ix_list (pv 5) pe_int (fun _ _ => rfl)) pa_nil)))))))) (pss_one (ps_ret pe_bl)) pss_nil)
      (pss_one (ps_ret (pe_and (pe_cmpR op_eq (pe_callB call_len (by rfl) B.len (by decide +kernel) (pa_cons (pe_ix ix_list (pv 5) pe_int (fun _ _ => rfl)) pa_nil)) (pe_callB call_len (by rfl) B.len (by decide +kernel) (pa_cons (pv 4) pa_nil)) (nomark _)) (pe_one (pe_callF K_law_same (hr.mono (by decide)) pass0 (pa_cons (pe_callF K_law_ups (hr.mono (by decide)) pass0 (pa_cons (pe_ix ix_list (pv 5) pe_int (fun _ _ => rfl)) pa_nil)) (pa_cons (pv 4) pa_nil)))))))))))), ?_⟩
  have ul := up_len fo ht
  -- behind_it
  refine ⟨_, rfl, by show 1 ≤ sizeLine; decide, fun Z hZ => ?_⟩
  have s0 := (Same.refl H).new (o := .lst [.int (t : Int)]) hZ
  have oZ : upd H Z (.lst [.int (t : Int)]) Z = some (.lst [.int (t : Int)]) := upd_same
  generalize upd H Z (.lst [.int (t : Int)]) = Ha at s0 oZ ⊢
  refine ⟨_, rfl, _, rfl, a, hs, t, rfl, s0 _ _ ha, fo, by omega, ht, fun u Hb sb hu0 hu => ?_⟩
  refine ⟨Z, u, _, _, rfl, rfl, sb _ _ oZ, hu, by rw [nv_length]; exact Nat.le_of_lt (szl (by show 1 + _ ≤ 1000; omega)), fun I hI => ?_⟩
  have sI := (s0.trans sb).new (o := .lst ([V.int (t : Int)] ++ nv (up hs t))) hI
  have oI : upd Hb I (.lst ([V.int (t : Int)] ++ nv (up hs t))) I = some (.lst (nv (t :: up hs t))) := upd_same
  generalize upd Hb I (.lst ([V.int (t : Int)] ++ nv (up hs t))) = H0 at sI oI ⊢
  refine ⟨_, rfl, a, hs, rfl, sI _ _ ha, fo, by omega, fun p as H1 s1 hp0 hp wa => ?_⟩
  refine ⟨_, rfl, b, ms, rfl, (sI.trans s1) _ _ hb, fm, by omega, fun p2 bs H2 s2 hp20 hp2 wb => ?_⟩
  have s12 := (sI.trans s1).trans s2
  have oI2 := s2 _ _ (s1 _ _ oI)
  refine ⟨p2, rfl, ⟨_, SqL.of hp2⟩, fun D hD => lc_it (walk_list (xs := bs.map V.ref)) (fun i H' => Same H2 H' ∧ ∃ cs : List Addr, H' D = some (.lst (cs.map V.ref)) ∧ Rws H' cs (((upsL ms).take i).map fun l => laterL hs.length l ++ (t :: up hs t)) ∧ D ∉ cs) ⟨(Same.refl H2).new hD, [], upd_same, .nil, List.not_mem_nil⟩ (fun i H' _ z => SqL.of (z.1 _ _ hp2)) ?_ ?_⟩
  · rintro i x H3 H4 hi ⟨s3, cs, oD, wc, nD⟩ ⟨rfl, e1⟩
    obtain ⟨q1, eq1, rfl⟩ := ref_at e1
    obtain ⟨r, er, hq⟩ := wb.get eq1
    have rl := upsL_short fm (by omega) r (List.mem_of_getElem? er)
    have lc := wc.len
    rw [List.length_map, List.length_take, upsL_len] at lc
    refine ⟨rfl, _, rfl, _, rfl, _, _, rfl, .inr ⟨_, SqT.of (s3 _ _ (s12 _ _ ha)), rfl⟩, q1, r, (hs.map hv).length, rfl, s3 _ _ hq, rl, fun y H5 s5 hy0 hy => ?_⟩
    refine ⟨_, rfl, y, I, _, _, rfl, rfl, hy, s5 _ _ (s3 _ _ oI2), by rw [nv_length, nv_length, laterL_len]; exact Nat.le_of_lt (szl (by rw [List.length_cons]; omega)), fun Y hY => ?_⟩
    have s6 := (s3.trans s5).new (o := .lst (nv (laterL (hs.map hv).length r) ++ nv (t :: up hs t))) hY
    have oY : upd H5 Y (.lst (nv (laterL (hs.map hv).length r) ++ nv (t :: up hs t))) Y = some (.lst (nv (laterL hs.length r ++ (t :: up hs t)))) := by rw [upd_same, nv_append, List.length_map]
    have k6 := s5.new (o := .lst (nv (laterL (hs.map hv).length r) ++ nv (t :: up hs t))) hY
    have nYD : Y ≠ D := (ne_of_none (s5 _ _ oD) hY).symm
    generalize upd H5 Y (.lst (nv (laterL (hs.map hv).length r) ++ nv (t :: up hs t))) = H6 at s6 oY k6 ⊢
    refine ⟨_, k6 _ _ oD, by rw [List.length_map]; exact szl (by omega), s6.upd hD, cs ++ [Y], by rw [upd_same, List.map_append]; rfl, ?_, ?_⟩
    · have et : (upsL ms).take (i + 1) = (upsL ms).take i ++ [r] := by rw [List.take_add_one, er]; rfl
      rw [et, List.map_append]
      exact ((wc.same k6).but nD).grow (by rw [upd_ne nYD]; exact oY)
    · exact fun z => (List.mem_append.mp z).elim nD fun z => nYD (List.mem_singleton.mp z).symm
  rintro H3 ⟨s3, cs, oD, wc, nD⟩
  have lb := wb.len
  rw [List.length_map, lb, List.take_length] at wc
  have la := wa.len
  have lc := wc.len
  rw [List.length_map] at lc
  rw [upsL_len] at la lc
  refine ⟨p, D, _, _, rfl, rfl, (s2.trans s3) _ _ hp, oD, by rw [List.length_map, List.length_map]; exact Nat.le_of_lt (szl (by omega)), fun G hG => ?_⟩
  have sG := (s12.trans s3).new (o := .lst (as.map V.ref ++ cs.map V.ref)) hG
  have oG : upd H3 G (.lst (as.map V.ref ++ cs.map V.ref)) G = some (.lst ((as ++ cs).map V.ref)) := by rw [upd_same, List.map_append]
  have wG := ((wa.same (s2.trans s3)).app wc).same ((Same.refl H3).new (o := .lst (as.map V.ref ++ cs.map V.ref)) hG)
  generalize upd H3 G (.lst (as.map V.ref ++ cs.map V.ref)) = H4 at sG oG wG ⊢
  have top : TopT hs (some t) (t :: up hs t) := .inr ⟨t, _, rfl, rfl, fo.ups ht⟩
  have fg := both_fo fo fm top
  have eu : upsL (hs ++ behindH ms hs.length (some t)) = upsL hs ++ (upsL ms).map (fun l => laterL hs.length l ++ (t :: up hs t)) := both_upsL fo fm top
  have l60 : (hs ++ behindH ms hs.length (some t)).length ≤ 60 := by rw [List.length_append, behind_len]; omega
  refine ⟨_, rfl, _, rfl, _, rfl, ?_⟩
  dsimp only [tNil, tCons, tC, List.nil_append, List.append_nil, List.cons_append, List.reverse_cons, List.reverse_nil]
  refine grafted_ask (sG _ _ ha) (sG _ _ hb) fo fm (by omega) (by omega) ht fun r1 H5 s5 h1 => ?_
  refine ⟨_, rfl, _, rfl, _, rfl, ?_⟩
  dsimp only [tNil, tCons, tC, List.nil_append, List.append_nil, List.cons_append, List.reverse_cons, List.reverse_nil]
  refine grafted_ask ((sG.trans s5) _ _ ha) ((sG.trans s5) _ _ hb) fo fm (by omega) (by omega) ht fun r2 H6 s6 h2 => ⟨by show 2 ≤ sizeLine; decide, fun F hF => ?_⟩
  -- the answers are two equal forests
  have oF : upd H6 F (.lst [.ref r1, .ref r2]) F = some (.lst [.ref r1, .ref r2]) := upd_same
  have s7 := (Same.refl H6).new (o := .lst [.ref r1, .ref r2]) hF
  have g1 := s7 _ _ (s6 _ _ h1)
  have g2 := s7 _ _ h2
  have gG := s7 _ _ (s6 _ _ (s5 _ _ oG))
  have wG7 := wG.same ((s5.trans s6).trans s7)
  have all := ((sG.trans s5).trans s6).trans s7
  generalize upd H6 F (.lst [.ref r1, .ref r2]) = H7 at oF s7 g1 g2 gG wG7 all ⊢
  refine ⟨_, rfl, F, _, _, _, rfl, rfl, SqL.of oF, rfl, _, _, _, _, _, rfl, .ty _, .base (.tup g1), kit_ty (by decide +kernel : kitB "tuple" "tuple" = some true), _, rfl, iteF ?_⟩
  refine ⟨_, rfl, F, _, _, _, rfl, rfl, SqL.of oF, rfl, _, rfl, F, _, _, _, rfl, rfl, SqL.of oF, rfl, ?_⟩
  dsimp only [tNil, tCons, tC, List.nil_append, List.append_nil, List.cons_append, List.reverse_cons, List.reverse_nil]
  refine forest_same g1 g2 (by omega) fun H8 s8 => ⟨_, rfl, iteF ?_⟩
  refine ⟨_, rfl, F, _, _, _, rfl, rfl, SqL.of (s8 _ _ oF), rfl, _, _, rfl, .inr ⟨_, SqT.of (s8 _ _ g1), rfl⟩, _, rfl, _, _, rfl, .inl ⟨_, SqL.of (s8 _ _ gG), rfl⟩, rfl, _, rfl, ?_⟩
  have lG := wG.len
  rw [← eu, upsL_len] at lG
  refine iteT' (decide_eq_true (by rw [List.length_map, List.length_map, lG])) ?_
  refine ⟨_, rfl, F, _, _, _, rfl, rfl, SqL.of (s8 _ _ oF), rfl, r1, _, rfl, s8 _ _ g1, fg, l60, fun p9 ps9 H9 s9 hp90 hp9 wp9 => ⟨_, rfl, ?_⟩⟩
  dsimp only [tNil, tCons, tC, List.nil_append, List.append_nil, List.cons_append, List.reverse_cons, List.reverse_nil]
  exact rows_same hp9 wp9 (s9 _ _ (s8 _ _ gG)) (by rw [eu]; exact wG7.same (s8.trans s9)) (by rw [upsL_len]; omega) (fun r hr => Nat.le_trans (upsL_short fg l60 r hr) (by decide)) fun HA sA => q HA (((all.trans s8).trans s9).trans sA)
abbrev st__law_part_right : Stmt := topS 34
abbrev N__law_part_right : List Str := ["plan", "one", "names", "due", "k", "found", "far"]
theorem sc__law_part_right : FnScope N__law_part_right ["plan", "one"] (defScope st__law_part_right) := ⟨rfl, rfl, rfl, by decide +kernel, rfl, by decide +kernel, by decide +kernel⟩
theorem ok__law_part_right (D : Df K mg "_law_part_right" st__law_part_right ["plan", "one"]) (B : Bl mg) (K_law_up : Kn P w K mg base CX0 1 "_law_up" st__law_up ["plan", "one"] spUp) (K_law_ups : Kn P w K mg base CX0 1 "_law_ups" st__law_ups ["plan"] spLUps)
    (K_law_same : Kn P w K mg base CX0 3 "_law_same" st__law_same ["found", "due"] (spSame 3))
    (Kpart : Kn P w K mg base (L2.CX P w) 7 "part" st_part ["forest", "thing"] (spPart CF CT)) : Kn P w K mg base CX0 8 "_law_part_right" st__law_part_right ["plan", "one"] spLPart := by
  refine D.ok sc__law_part_right (fun vs H Q E h => ?_) (fun f cdv A outer s H vs Q E hr h => ?_)
  · obtain ⟨a, hs, t, rfl, _⟩ := h; rfl
  obtain ⟨a, hs, t, rfl, ha, fo, hl, ht, q⟩ := h
  refine ⟨_, ((pss_cons (ps_set (i := 2) sc__law_part_right.nd rfl (Or.inr rfl) (pe_lc (own := [("k", 4)]) (g := gName 4) rfl sc__law_part_right.nd (pi_range1 (by rfl) B.range (pa_cons (pe_callB call_len (by rfl) B.len (by decide +kernel) (pa_cons (pv 0) pa_nil)) pa_nil)) (blkOk_by (N := N__law_part_right) (sc := defScope st__law_part_right) (own := [("k", 4)]) (by decide +kernel)) (fun _ _ _ _ _ => by (exact (pg_name (i := 4) sc__law_part_right.nd rfl (Or.inl rfl)))) (fun _ _ _ _ _ => by exact (pts_one (PW.pt (pw_or (pt_cmpR op_eq (pv 4) (pv 1) (nomark _)) (pw_or1 (pt_cmpR (op_in_seqK K) (pv 1) (pe_callF K_law_up (hr.mono (by decide)) pass0 (pa_cons (pv 0) (pa_cons (pv 4) pa_nil))) (by rfl))))))) (fun _ _ _ _ _ => by exact (pv 4))))
      (pss_cons (ps_set (i := 3) sc__law_part_right.nd rfl (Or.inl rfl) (pe_lst pa_nil))
      (pss_cons (ps_for PassesOwn.never rfl (pi_list (pv 2)) (pg_name (i := 4) sc__law_part_right.nd rfl (Or.inl rfl)) (pss_one (ps_expr (pe_bm PySem.F.plainAttrs_list PySem.F.slot_list_append PySem.F.type_list_append mt_append (pv 3) (pa_cons (pe_lc (own := [("far", 6)]) (g := gName 6) rfl sc__law_part_right.nd (pi_list (pe_callF K_law_up (hr.mono (by decide)) pass0 (pa_cons (pv 0) (pa_cons (pv 4) pa_nil)))) (blkOk_by (N := N__law_part_right) (sc := defScope st__law_part_right) (own := [("far", 6)]) (by decide +kernel)) (fun _ _ _ _ _ => by (exact (pg_name (i := 6) sc__law_part_right.nd rfl (Or.inl rfl)))) (fun _ _ _ _ _ => by exact (pts_one (pt_cmpR (op_in_seqK K) (pv 6) (pv 2) (by rfl)))) (fun _ _ _ _ _ => by exact (pe_bmK K PySem.F.plainAttrs_list PySem.F.slot_list_index PySem.F.type_list_index (mt_indexK K) (pv 2) (pa_cons (pv 6) pa_nil)))) pa_nil)))))
      (pss_cons (ps_set (i := 5) sc__law_part_right.nd rfl (Or.inl rfl) (pe_lst (pa_cons (pe_callF Kpart (hr.mono (by decide)) passL (pa_cons (pv 0) (pa_cons (pv 1) pa_nil))) (pa_cons (pe_callFK0 Kpart (hr.mono (by decide)) kb_part_thing_forest passL (pk_cons (pv 1) (pk_cons (pv 0) pk_nil))) pa_nil))))
      (pss_cons (ps_if (PW.pt (pw_or (pt_not (pt_val (pe_callB call_isi (by rfl) B.isinstance (by decide +kernel) (pa_cons (pe_ix ix_list (pv 5) pe_int (fun _ _ => rfl)) (pa_cons (pe_bltn (v := .ty "tuple") (u := .type "tuple") (by rfl) B.tuple (by decide +kernel) rfl) pa_nil))))) (pw_or1 (pt_not (pt_val (pe_callF K_law_same (hr.mono (by decide)) pass0 (pa_cons (pe_ix ix_list (pv 5) pe_int (fun _ _ => rfl)) (pa_cons (pe_ix ix_list (pv 5) pe_int (fun _ _ => rfl)) pa_nil)))))))) (pss_one (ps_ret pe_bl)) pss_nil)
      (pss_one (ps_ret (pe_and (pe_cmpR op_eq (pe_callB call_len (by rfl) B.len (by decide +kernel) (pa_cons (pe_ix ix_list (pv 5) pe_int (fun _ _ => rfl)) pa_nil)) (pe_callB call_len (by rfl) B.len (by decide +kernel) (pa_cons (pv 3) pa_nil)) (nomark _)) (pe_one (pe_callF K_law_same (hr.mono (by decide)) pass0 (pa_cons (pe_callF K_law_ups (hr.mono (by decide)) pass0 (pa_cons (pe_ix ix_list (pv 5) pe_int (fun _ _ => rfl)) pa_nil)) (pa_cons (pv 3) pa_nil))))))))))))), ?_⟩
  have hlm : (hs.map hv).length = hs.length := List.length_map _
  -- names
  refine ⟨_, rfl, _, _, rfl, .inr ⟨_, SqT.of ha, rfl⟩, _, rfl, by omega, by omega, fun N hN => lc_it walk_range0 (fun i H' => Same H H' ∧ H' N = some (.lst (nv (partTo hs t i)))) ⟨(Same.refl H).new hN, upd_same⟩ (fun _ _ _ _ => trivial) ?_ ?_⟩
  · rintro i x H1 H2 hi ⟨s1, oN⟩ ⟨rfl, rfl⟩
    have hi' : i < hs.length := by omega
    have pl := partTo_len hs t i
    refine ⟨rfl, _, rfl, _, rfl, rfl, _, rfl, ?_⟩
    by_cases c : i = t
    · refine iteT' (decide_eq_true (by rw [c])) (iteT ⟨_, rfl, _, oN, by rw [nv_length]; exact szl (by omega), s1.upd hN, ?_⟩)
      rw [upd_same, partTo_succ, if_pos (by rw [decide_eq_true c]; rfl), nv_append]; rfl
    refine iteF' (decide_eq_false (fun z => c (by have := V.int.inj z; omega))) ?_
    refine ⟨_, rfl, _, rfl, _, rfl, a, hs, i, rfl, s1 _ _ ha, fo, by omega, hi', fun u H3 s3 hu0 hu => ?_⟩
    refine ⟨u, _, rfl, .inl (SqL.of hu), rfl, flat_nv _, _, rfl, ?_⟩
    rw [inV_nv]
    by_cases m : t ∈ up hs i
    · refine iteT' (decide_eq_true m) ⟨_, rfl, _, s3 _ _ oN, by rw [nv_length]; exact szl (by omega), (s1.trans s3).upd hN, ?_⟩
      rw [upd_same, partTo_succ, if_pos (by rw [decide_eq_true m, Bool.or_true]), nv_append]; rfl
    · refine iteF' (decide_eq_false m) ⟨s1.trans s3, ?_⟩
      rw [s3 _ _ oN, partTo_succ, if_neg (by rw [decide_eq_false m, decide_eq_false c]; exact Bool.false_ne_true), List.append_nil]
  rintro H1 ⟨s1, oN⟩
  have en : (((hs.map hv).length : Nat) : Int).toNat = hs.length := by rw [hlm]; omega
  rw [en] at oN
  have oN : H1 N = some (.lst (nv (partL hs t))) := oN
  have nd : (partL hs t).Nodup := partL_nd hs t
  have nlt : ∀ v ∈ partL hs t, v < hs.length := fun v h => (mem_partL.mp h).1
  have nle := nodup_len hs.length _ nd nlt
  -- due
  refine ⟨by show 0 ≤ sizeLine; decide, fun G hG => ?_⟩
  have s2 := s1.new (o := .lst []) hG
  have hG0 : H G = none := s1.free hG
  have oG : upd H1 G (.lst []) G = some (.lst []) := upd_same
  have oN2 := (upd_ne (o := .lst []) (ne_of_none oN hG)).trans oN
  have nNG : N ≠ G := ne_of_none oN hG
  generalize upd H1 G (.lst []) = H2 at s2 oG oN2 ⊢
  refine ⟨_, rfl, N, rfl, ⟨_, SqL.of oN2⟩, for_it (walk_list (xs := nv (partL hs t))) (fun i σ H' => ∃ v4 cs, σ = [some (.ref a), some (.int (t : Int)), some (.ref N), some (.ref G), v4, none, none] ∧ Same H H' ∧ H' N = some (.lst (nv (partL hs t))) ∧ H' G = some (.lst ((cs : List Addr).map V.ref)) ∧ Rws H' cs ((partU hs t).take i) ∧ G ∉ cs)
    ⟨_, [], rfl, s2, oN2, oG, .nil, List.not_mem_nil⟩ (fun i σ H' _ z => by obtain ⟨_, _, _, _, z, _⟩ := z; exact SqL.of z) ?_ ?_⟩
  · rintro i x σ H3 H4 hi ⟨v4, cs, rfl, s3, oN3, oG, wc, nG⟩ ⟨rfl, e1⟩
    obtain ⟨v, ev, rfl⟩ := nv_at e1
    have vl := nlt v (List.mem_of_getElem? ev)
    have ul := up_len fo vl
    refine ⟨_, rfl, .inl ⟨rfl, _, SqL.of oG⟩, _, rfl, _, rfl, a, hs, v, rfl, s3 _ _ ha, fo, by omega, vl, fun u H5 s5 hu0 hu => ?_⟩
    refine ⟨u, rfl, ⟨_, SqL.of hu⟩, fun D hD => lc_it (walk_list (xs := nv (up hs v))) (fun j H' => Same H5 H' ∧ H' D = some (.lst (nv ((((up hs v).take j).filter (fun x => decide (x ∈ partL hs t))).map (posD (partL hs t)))))) ⟨(Same.refl H5).new hD, upd_same⟩ (fun j H' _ z => SqL.of (z.1 _ _ hu)) ?_ ?_⟩
    · rintro j x H6 H7 hj ⟨s6, oD⟩ ⟨rfl, e2⟩
      obtain ⟨k, ek, rfl⟩ := nv_at e2
      have et : (up hs v).take (j + 1) = (up hs v).take j ++ [k] := by rw [List.take_add_one, ek]; rfl
      have oN7 := s6 _ _ (s5 _ _ oN3)
      have acc : (nv ((((up hs v).take j).filter (fun x => decide (x ∈ partL hs t))).map (posD (partL hs t)))).length < sizeLine := by
        rw [nv_length, List.length_map]
        have z1 := List.length_filter_le (fun x => decide (x ∈ partL hs t)) ((up hs v).take j)
        have z2 : ((up hs v).take j).length ≤ (up hs v).length := by rw [List.length_take]; exact Nat.min_le_right _ _
        exact szl (by omega)
      refine ⟨rfl, _, rfl, _, rfl, N, _, rfl, .inl (SqL.of oN7), rfl, flat_nv _, _, rfl, ?_⟩
      rw [inV_nv]
      by_cases m : k ∈ partL hs t
      · obtain ⟨y, ey⟩ := List.getElem?_of_mem m
        refine iteT' (decide_eq_true m) ⟨_, rfl, .inl ⟨rfl, _, SqL.of oN7⟩, _, rfl, ?_⟩
        dsimp only [tNil, tCons, tC, List.nil_append, List.append_nil, List.cons_append, List.reverse_cons, List.reverse_nil]
        refine idx_ask oN7 nd ey ⟨_, oD, acc, s6.upd hD, ?_⟩
        rw [upd_same, et, List.filter_append, List.map_append, nv_append, ← posD_at nd ey]
        simp [m]; rfl
      · refine iteF' (decide_eq_false m) ⟨s6, ?_⟩
        rw [oD, et, List.filter_append, List.map_append, nv_append]
        simp [m]; rfl
    · rintro H6 ⟨s6, oD⟩
      rw [nv_length, List.take_length] at oD
      have s36 := (s3.trans s5).trans s6
      have k36 := s5.trans s6
      have lc := wc.len
      rw [List.length_take] at lc
      have il := (List.getElem?_eq_some_iff.mp ev).1
      have nDG : D ≠ G := (ne_of_none (s5 _ _ oG) hD).symm
      refine ⟨G, _, _, rfl, rfl, k36 _ _ oG, by rw [List.length_map]; exact szl (by omega), _, cs ++ [D], rfl, s36.upd hG0, by rw [upd_ne nNG]; exact k36 _ _ oN3, by rw [upd_same, List.map_append]; rfl, ?_, fun z => (List.mem_append.mp z).elim nG fun z => nDG (List.mem_singleton.mp z).symm⟩
      have et : (partU hs t).take (i + 1) = (partU hs t).take i ++ [((up hs v).filter (fun x => decide (x ∈ partL hs t))).map (posD (partL hs t))] := by
        rw [List.take_add_one]
        unfold partU
        rw [List.getElem?_map, ev]; rfl
      rw [et]
      exact ((wc.same k36).but nG).grow (by rw [upd_ne nDG]; exact oD)
  rintro σ H3 ⟨v4, cs, rfl, sG, oN3, oG, wG, nG⟩
  have lr : (partU hs t).length = (partL hs t).length := List.length_map _
  rw [nv_length, ← lr, List.take_length] at wG
  have fg := part_fo fo ht
  have eu := part_upsL fo ht
  have l60 : (partH hs t).length ≤ 60 := Nat.le_trans (part_len hs t) hl
  refine ⟨_, rfl, _, rfl, ?_⟩
  dsimp only [tNil, tCons, tC, List.nil_append, List.append_nil, List.cons_append, List.reverse_cons, List.reverse_nil]
  refine part_ask (sG _ _ ha) fo hl ht fun r1 H5 s5 h1 => ?_
  refine ⟨_, rfl, _, rfl, ?_⟩
  dsimp only [tNil, tCons, tC, List.nil_append, List.append_nil, List.cons_append, List.reverse_cons, List.reverse_nil]
  refine part_ask ((sG.trans s5) _ _ ha) fo hl ht fun r2 H6 s6 h2 => ⟨by show 2 ≤ sizeLine; decide, fun F hF => ?_⟩
  -- the answers are two equal forests
  have oF : upd H6 F (.lst [.ref r1, .ref r2]) F = some (.lst [.ref r1, .ref r2]) := upd_same
  have s7 := (Same.refl H6).new (o := .lst [.ref r1, .ref r2]) hF
  have g1 := s7 _ _ (s6 _ _ h1)
  have g2 := s7 _ _ h2
  have gG := s7 _ _ (s6 _ _ (s5 _ _ oG))
  have wG7 := wG.same ((s5.trans s6).trans s7)
  have all := ((sG.trans s5).trans s6).trans s7
  generalize upd H6 F (.lst [.ref r1, .ref r2]) = H7 at oF s7 g1 g2 gG wG7 all ⊢
  refine ⟨_, rfl, F, _, _, _, rfl, rfl, SqL.of oF, rfl, _, _, _, _, _, rfl, .ty _, .base (.tup g1), kit_ty (by decide +kernel : kitB "tuple" "tuple" = some true), _, rfl, iteF ?_⟩
  refine ⟨_, rfl, F, _, _, _, rfl, rfl, SqL.of oF, rfl, _, rfl, F, _, _, _, rfl, rfl, SqL.of oF, rfl, ?_⟩
  dsimp only [tNil, tCons, tC, List.nil_append, List.append_nil, List.cons_append, List.reverse_cons, List.reverse_nil]
  refine forest_same g1 g2 (by omega) fun H8 s8 => ⟨_, rfl, iteF ?_⟩
  refine ⟨_, rfl, F, _, _, _, rfl, rfl, SqL.of (s8 _ _ oF), rfl, _, _, rfl, .inr ⟨_, SqT.of (s8 _ _ g1), rfl⟩, _, rfl, _, _, rfl, .inl ⟨_, SqL.of (s8 _ _ gG), rfl⟩, rfl, _, rfl, ?_⟩
  have lG := wG.len
  rw [← eu, upsL_len] at lG
  refine iteT' (decide_eq_true (by rw [List.length_map, List.length_map, lG])) ?_
  refine ⟨_, rfl, F, _, _, _, rfl, rfl, SqL.of (s8 _ _ oF), rfl, r1, _, rfl, s8 _ _ g1, fg, l60, fun p9 ps9 H9 s9 hp90 hp9 wp9 => ⟨_, rfl, ?_⟩⟩
  dsimp only [tNil, tCons, tC, List.nil_append, List.append_nil, List.cons_append, List.reverse_cons, List.reverse_nil]
  exact rows_same hp9 wp9 (s9 _ _ (s8 _ _ gG)) (by rw [eu]; exact wG7.same (s8.trans s9)) (by rw [upsL_len]; omega) (fun r hr => Nat.le_trans (upsL_short fg l60 r hr) (by decide)) fun HA sA => q HA (((all.trans s8).trans s9).trans sA)
abbrev st__law_without_right : Stmt := topS 35
abbrev N__law_without_right : List Str := ["plan", "one", "names", "due", "k", "found", "far"]
theorem sc__law_without_right : FnScope N__law_without_right ["plan", "one"] (defScope st__law_without_right) := ⟨rfl, rfl, rfl, by decide +kernel, rfl, by decide +kernel, by decide +kernel⟩
theorem ok__law_without_right (D : Df K mg "_law_without_right" st__law_without_right ["plan", "one"]) (B : Bl mg) (K_law_up : Kn P w K mg base CX0 1 "_law_up" st__law_up ["plan", "one"] spUp) (K_law_ups : Kn P w K mg base CX0 1 "_law_ups" st__law_ups ["plan"] spLUps)
    (K_law_same : Kn P w K mg base CX0 3 "_law_same" st__law_same ["found", "due"] (spSame 3))
    (Kwithout : Kn P w K mg base (L2.CX P w) 6 "without" st_without ["forest", "thing"] (spWithoutF CF CT CO)) : Kn P w K mg base CX0 8 "_law_without_right" st__law_without_right ["plan", "one"] spLWithout := by
  refine D.ok sc__law_without_right (fun vs H Q E h => ?_) (fun f cdv A outer s H vs Q E hr h => ?_)
  · obtain ⟨a, hs, t, rfl, _⟩ := h; rfl
  obtain ⟨a, hs, t, rfl, ha, fo, hl, ht, h2, q⟩ := h
  refine ⟨_, ((pss_cons (ps_set (i := 2) sc__law_without_right.nd rfl (Or.inr rfl) (pe_lc (own := [("k", 4)]) (g := gName 4) rfl sc__law_without_right.nd (pi_range1 (by rfl) B.range (pa_cons (pe_callB call_len (by rfl) B.len (by decide +kernel) (pa_cons (pv 0) pa_nil)) pa_nil)) (blkOk_by (N := N__law_without_right) (sc := defScope st__law_without_right) (own := [("k", 4)]) (by decide +kernel)) (fun _ _ _ _ _ => by (exact (pg_name (i := 4) sc__law_without_right.nd rfl (Or.inl rfl)))) (fun _ _ _ _ _ => by exact (pts_one (pt_cmpR op_ne (pv 4) (pv 1) (nomark _)))) (fun _ _ _ _ _ => by exact (pv 4))))
      (pss_cons (ps_set (i := 3) sc__law_without_right.nd rfl (Or.inl rfl) (pe_lst pa_nil))
      (pss_cons (ps_for PassesOwn.never rfl (pi_list (pv 2)) (pg_name (i := 4) sc__law_without_right.nd rfl (Or.inl rfl)) (pss_one (ps_expr (pe_bm PySem.F.plainAttrs_list PySem.F.slot_list_append PySem.F.type_list_append mt_append (pv 3) (pa_cons (pe_lc (own := [("far", 6)]) (g := gName 6) rfl sc__law_without_right.nd (pi_list (pe_callF K_law_up (hr.mono (by decide)) pass0 (pa_cons (pv 0) (pa_cons (pv 4) pa_nil)))) (blkOk_by (N := N__law_without_right) (sc := defScope st__law_without_right) (own := [("far", 6)]) (by decide +kernel)) (fun _ _ _ _ _ => by (exact (pg_name (i := 6) sc__law_without_right.nd rfl (Or.inl rfl)))) (fun _ _ _ _ _ => by exact (pts_one (pt_cmpR op_ne (pv 6) (pv 1) (nomark _)))) (fun _ _ _ _ _ => by exact (pe_bmK K PySem.F.plainAttrs_list PySem.F.slot_list_index PySem.F.type_list_index (mt_indexK K) (pv 2) (pa_cons (pv 6) pa_nil)))) pa_nil)))))
      (pss_cons (ps_set (i := 5) sc__law_without_right.nd rfl (Or.inl rfl) (pe_lst (pa_cons (pe_callF Kwithout (hr.mono (by decide)) passL (pa_cons (pv 0) (pa_cons (pv 1) pa_nil))) (pa_cons (pe_callFK0 Kwithout (hr.mono (by decide)) kb_without_thing_forest passL (pk_cons (pv 1) (pk_cons (pv 0) pk_nil))) pa_nil))))
      (pss_cons (ps_if (PW.pt (pw_or (pt_not (pt_val (pe_callB call_isi (by rfl) B.isinstance (by decide +kernel) (pa_cons (pe_ix ix_list (pv 5) pe_int (fun _ _ => rfl)) (pa_cons (pe_bltn (v := .ty "tuple") (u := .type "tuple") (by rfl) B.tuple (by decide +kernel) rfl) pa_nil))))) (pw_or1 (pt_not (pt_val (pe_callF K_law_same (hr.mono (by decide)) pass0 (pa_cons (pe_ix ix_list (pv 5) pe_int (fun _ _ => rfl)) (pa_cons (pe_ix ix_list (pv 5) pe_int (fun _ _ => rfl)) pa_nil)))))))) (pss_one (ps_ret pe_bl)) pss_nil)
      (pss_one (ps_ret (pe_and (pe_cmpR op_eq (pe_callB call_len (by rfl) B.len (by decide +kernel) (pa_cons (pe_ix ix_list (pv 5) pe_int (fun _ _ => rfl)) pa_nil)) (pe_callB call_len (by rfl) B.len (by decide +kernel) (pa_cons (pv 3) pa_nil)) (nomark _)) (pe_one (pe_callF K_law_same (hr.mono (by decide)) pass0 (pa_cons (pe_callF K_law_ups (hr.mono (by decide)) pass0 (pa_cons (pe_ix ix_list (pv 5) pe_int (fun _ _ => rfl)) pa_nil)) (pa_cons (pv 3) pa_nil))))))))))))), ?_⟩
  have hlm : (hs.map hv).length = hs.length := List.length_map _
  -- names
  refine ⟨_, rfl, _, _, rfl, .inr ⟨_, SqT.of ha, rfl⟩, _, rfl, by omega, by omega, fun N hN => lc_it walk_range0 (fun i H' => Same H H' ∧ H' N = some (.lst (nv (othL i t)))) ⟨(Same.refl H).new hN, upd_same⟩ (fun _ _ _ _ => trivial) ?_ ?_⟩
  · rintro i x H1 H2 hi ⟨s1, oN⟩ ⟨rfl, rfl⟩
    have l4 := othL_len i t
    refine ⟨rfl, _, rfl, _, rfl, rfl, _, rfl, ?_⟩
    by_cases c : i = t
    · refine iteF' (by rw [decide_eq_true (by rw [c])]; rfl) ⟨s1, ?_⟩
      rw [oN, othL_succ, if_neg (fun z => z c), List.append_nil]
    · refine iteT' (by rw [decide_eq_false (fun z => c (by have := V.int.inj z; omega))]; rfl) ⟨_, rfl, _, oN, by rw [nv_length]; exact szl (by omega), s1.upd hN, ?_⟩
      rw [upd_same, othL_succ, if_pos c, nv_append]; rfl
  rintro H1 ⟨s1, oN⟩
  have en : (((hs.map hv).length : Nat) : Int).toNat = hs.length := by rw [hlm]; omega
  rw [en] at oN
  have oN : H1 N = some (.lst (nv (othL hs.length t))) := oN
  have nd : (othL hs.length t).Nodup := othL_nd _ _
  have nlt : ∀ v ∈ othL hs.length t, v < hs.length := fun v h => (mem_othL.mp h).1
  have nle := nodup_len hs.length _ nd nlt
  -- due
  refine ⟨by show 0 ≤ sizeLine; decide, fun G hG => ?_⟩
  have s2 := s1.new (o := .lst []) hG
  have hG0 : H G = none := s1.free hG
  have oG : upd H1 G (.lst []) G = some (.lst []) := upd_same
  have oN2 := (upd_ne (o := .lst []) (ne_of_none oN hG)).trans oN
  have nNG : N ≠ G := ne_of_none oN hG
  generalize upd H1 G (.lst []) = H2 at s2 oG oN2 ⊢
  refine ⟨_, rfl, N, rfl, ⟨_, SqL.of oN2⟩, for_it (walk_list (xs := nv (othL hs.length t))) (fun i σ H' => ∃ v4 cs, σ = [some (.ref a), some (.int (t : Int)), some (.ref N), some (.ref G), v4, none, none] ∧ Same H H' ∧ H' N = some (.lst (nv (othL hs.length t))) ∧ H' G = some (.lst ((cs : List Addr).map V.ref)) ∧ Rws H' cs ((withoutU hs t).take i) ∧ G ∉ cs)
    ⟨_, [], rfl, s2, oN2, oG, .nil, List.not_mem_nil⟩ (fun i σ H' _ z => by obtain ⟨_, _, _, _, z, _⟩ := z; exact SqL.of z) ?_ ?_⟩
  · rintro i x σ H3 H4 hi ⟨v4, cs, rfl, s3, oN3, oG, wc, nG⟩ ⟨rfl, e1⟩
    obtain ⟨v, ev, rfl⟩ := nv_at e1
    have vl := nlt v (List.mem_of_getElem? ev)
    have ul := up_len fo vl
    refine ⟨_, rfl, .inl ⟨rfl, _, SqL.of oG⟩, _, rfl, _, rfl, a, hs, v, rfl, s3 _ _ ha, fo, by omega, vl, fun u H5 s5 hu0 hu => ?_⟩
    refine ⟨u, rfl, ⟨_, SqL.of hu⟩, fun D hD => lc_it (walk_list (xs := nv (up hs v))) (fun j H' => Same H5 H' ∧ H' D = some (.lst (nv ((((up hs v).take j).filter (fun x => decide (x ≠ t))).map (posD (othL hs.length t)))))) ⟨(Same.refl H5).new hD, upd_same⟩ (fun j H' _ z => SqL.of (z.1 _ _ hu)) ?_ ?_⟩
    · rintro j x H6 H7 hj ⟨s6, oD⟩ ⟨rfl, e2⟩
      obtain ⟨k, ek, rfl⟩ := nv_at e2
      have et : (up hs v).take (j + 1) = (up hs v).take j ++ [k] := by rw [List.take_add_one, ek]; rfl
      have oN7 := s6 _ _ (s5 _ _ oN3)
      have acc : (nv ((((up hs v).take j).filter (fun x => decide (x ≠ t))).map (posD (othL hs.length t)))).length < sizeLine := by
        rw [nv_length, List.length_map]
        have z1 := List.length_filter_le (fun x => decide (x ≠ t)) ((up hs v).take j)
        have z2 : ((up hs v).take j).length ≤ (up hs v).length := by rw [List.length_take]; exact Nat.min_le_right _ _
        exact szl (by omega)
      refine ⟨rfl, _, rfl, _, rfl, rfl, _, rfl, ?_⟩
      have kl : k < hs.length := by
        obtain ⟨mx, ax, _⟩ := (fo.ups vl).mem k (List.mem_of_getElem? ek)
        exact ax.lt
      by_cases m : k = t
      · refine iteF' (by rw [decide_eq_true (by rw [m])]; rfl) ⟨s6, ?_⟩
        rw [oD, et, List.filter_append, List.map_append, nv_append]
        simp [m]; rfl
      · obtain ⟨y, ey⟩ := List.getElem?_of_mem (mem_othL.mpr ⟨kl, m⟩)
        refine iteT' (by rw [decide_eq_false (fun z => m (by have := V.int.inj z; omega))]; rfl) ⟨_, rfl, .inl ⟨rfl, _, SqL.of oN7⟩, _, rfl, ?_⟩
        dsimp only [tNil, tCons, tC, List.nil_append, List.append_nil, List.cons_append, List.reverse_cons, List.reverse_nil]
        refine idx_ask oN7 nd ey ⟨_, oD, acc, s6.upd hD, ?_⟩
        rw [upd_same, et, List.filter_append, List.map_append, nv_append, ← posD_at nd ey]
        simp [m]; rfl
    · rintro H6 ⟨s6, oD⟩
      rw [nv_length, List.take_length] at oD
      have s36 := (s3.trans s5).trans s6
      have k36 := s5.trans s6
      have lc := wc.len
      rw [List.length_take] at lc
      have il := (List.getElem?_eq_some_iff.mp ev).1
      have nDG : D ≠ G := (ne_of_none (s5 _ _ oG) hD).symm
      refine ⟨G, _, _, rfl, rfl, k36 _ _ oG, by rw [List.length_map]; exact szl (by omega), _, cs ++ [D], rfl, s36.upd hG0, by rw [upd_ne nNG]; exact k36 _ _ oN3, by rw [upd_same, List.map_append]; rfl, ?_, fun z => (List.mem_append.mp z).elim nG fun z => nDG (List.mem_singleton.mp z).symm⟩
      have et : (withoutU hs t).take (i + 1) = (withoutU hs t).take i ++ [((up hs v).filter (fun x => decide (x ≠ t))).map (posD (othL hs.length t))] := by
        rw [List.take_add_one]
        unfold withoutU
        rw [List.getElem?_map, ev]; rfl
      rw [et]
      exact ((wc.same k36).but nG).grow (by rw [upd_ne nDG]; exact oD)
  rintro σ H3 ⟨v4, cs, rfl, sG, oN3, oG, wG, nG⟩
  have lr : (withoutU hs t).length = (othL hs.length t).length := List.length_map _
  rw [nv_length, ← lr, List.take_length] at wG
  have fg := without_fo (t := t) fo h2
  have eu := without_upsL (t := t) fo h2
  have l60 : (withoutH hs t).length ≤ 60 := by
    unfold withoutH
    rw [among_len]
    exact Nat.le_trans (othL_len _ _) hl
  refine ⟨_, rfl, _, rfl, ?_⟩
  dsimp only [tNil, tCons, tC, List.nil_append, List.append_nil, List.cons_append, List.reverse_cons, List.reverse_nil]
  refine without_ask (sG _ _ ha) fo hl ht h2 fun r1 H5 s5 h1 => ?_
  refine ⟨_, rfl, _, rfl, ?_⟩
  dsimp only [tNil, tCons, tC, List.nil_append, List.append_nil, List.cons_append, List.reverse_cons, List.reverse_nil]
  refine without_ask ((sG.trans s5) _ _ ha) fo hl ht h2 fun r2 H6 s6 h2 => ⟨by show 2 ≤ sizeLine; decide, fun F hF => ?_⟩
  -- the answers are two equal forests
  have oF : upd H6 F (.lst [.ref r1, .ref r2]) F = some (.lst [.ref r1, .ref r2]) := upd_same
  have s7 := (Same.refl H6).new (o := .lst [.ref r1, .ref r2]) hF
  have g1 := s7 _ _ (s6 _ _ h1)
  have g2 := s7 _ _ h2
  have gG := s7 _ _ (s6 _ _ (s5 _ _ oG))
  have wG7 := wG.same ((s5.trans s6).trans s7)
  have all := ((sG.trans s5).trans s6).trans s7
  generalize upd H6 F (.lst [.ref r1, .ref r2]) = H7 at oF s7 g1 g2 gG wG7 all ⊢
  refine ⟨_, rfl, F, _, _, _, rfl, rfl, SqL.of oF, rfl, _, _, _, _, _, rfl, .ty _, .base (.tup g1), kit_ty (by decide +kernel : kitB "tuple" "tuple" = some true), _, rfl, iteF ?_⟩
  refine ⟨_, rfl, F, _, _, _, rfl, rfl, SqL.of oF, rfl, _, rfl, F, _, _, _, rfl, rfl, SqL.of oF, rfl, ?_⟩
  dsimp only [tNil, tCons, tC, List.nil_append, List.append_nil, List.cons_append, List.reverse_cons, List.reverse_nil]
  refine forest_same g1 g2 (by omega) fun H8 s8 => ⟨_, rfl, iteF ?_⟩
  refine ⟨_, rfl, F, _, _, _, rfl, rfl, SqL.of (s8 _ _ oF), rfl, _, _, rfl, .inr ⟨_, SqT.of (s8 _ _ g1), rfl⟩, _, rfl, _, _, rfl, .inl ⟨_, SqL.of (s8 _ _ gG), rfl⟩, rfl, _, rfl, ?_⟩
  have lG := wG.len
  rw [← eu, upsL_len] at lG
  refine iteT' (decide_eq_true (by rw [List.length_map, List.length_map, lG])) ?_
  refine ⟨_, rfl, F, _, _, _, rfl, rfl, SqL.of (s8 _ _ oF), rfl, r1, _, rfl, s8 _ _ g1, fg, l60, fun p9 ps9 H9 s9 hp90 hp9 wp9 => ⟨_, rfl, ?_⟩⟩
  dsimp only [tNil, tCons, tC, List.nil_append, List.append_nil, List.cons_append, List.reverse_cons, List.reverse_nil]
  exact rows_same hp9 wp9 (s9 _ _ (s8 _ _ gG)) (by rw [eu]; exact wG7.same (s8.trans s9)) (by rw [upsL_len]; omega) (fun r hr => Nat.le_trans (upsL_short fg l60 r hr) (by decide)) fun HA sA => q HA (((all.trans s8).trans s9).trans sA)
end

end My

namespace My
open PySem PySem.Spec PyProof.Rows L2
def spLaw (K : PySem.W.Frag) : Sp := fun vs H Q _ => ∃ (a : Addr) (ns : List Int), vs = [.ref a] ∧ SqL K H a (ns.map V.int) ∧ ns.length ≤ 63 ∧ ∀ H', Q (.bl true) H'
theorem Well.ne {H : Hp} {wl p : Addr} {n : Nat} (w : Well H wl n) (h : H p = none) : p ≠ wl := by
  obtain ⟨l, e⟩ := w.here
  exact (ne_of_none e h).symm
theorem thenK {H H1 H2 : Hp} {wl : Addr} (s : Same H H1) (hn : H wl = none) (k : Keep wl H1 H2) : Same H H2 := fun b o e => k b o (ne_of_none e hn) (s b o e)
theorem isF_fo {H : Hp} {x : V} {hs : Hs} (e : tupAt H x = some (hs.map hv)) (h : IsF H x) : Fo hs := by
  obtain ⟨hs', e', fo⟩ := h
  rw [e] at e'
  rw [hv_inj (Option.some.inj e')]; exact fo
/-- values that are no forests: by what their tuple is -/
theorem noF_none {H : Hp} {x : V} (h : tupAt H x = none) : ¬ IsF H x := fun ⟨hs, e, _⟩ => by rw [h] at e; cases e
theorem noF_nil {H : Hp} {x : V} (h : tupAt H x = some []) : ¬ IsF H x := fun ⟨hs, e, fo⟩ => by
  rw [h] at e
  have z := Option.some.inj e
  cases hs with
  | nil => exact fo.ne rfl
  | cons o r => cases z
theorem noF_odd {H : Hp} {x : V} {xs : List V} {y : V} (h : tupAt H x = some (xs ++ [y])) (hy : ∀ o, y ≠ hv o) : ¬ IsF H x := fun ⟨hs, e, fo⟩ => by
  rw [h] at e
  have z := Option.some.inj e
  have hm : y ∈ hs.map hv := by rw [← z]; simp
  obtain ⟨o, _, ho⟩ := List.mem_map.mp hm
  exact hy o ho.symm
theorem snoc_hs {hs hs' : Hs} {o : Option Nat} (h : hs.map hv ++ [hv o] = hs'.map hv) : hs' = hs ++ [o] := by
  have e : (hs ++ [o]).map hv = hs'.map hv := by rw [List.map_append]; exact h
  exact (hv_inj e).symm
theorem noF_self {H : Hp} {x : V} {hs : Hs} (h : tupAt H x = some (hs.map hv ++ [.int (hs.length : Int)])) : ¬ IsF H x := fun ⟨hs', e, fo⟩ => by
  rw [h] at e
  have z := snoc_hs (o := some hs.length) (Option.some.inj e)
  subst z
  have hat : (hs ++ [some hs.length])[hs.length]? = some (some hs.length) := by
    rw [List.getElem?_append_right (Nat.le_refl _), Nat.sub_self]; rfl
  have no : ∀ v, Rch (hs ++ [some hs.length]) v → v ≠ hs.length := fun v r => by
    induction r with
    | root h1 => intro e1; rw [e1, hat] at h1; cases h1
    | step h1 _ ih =>
      intro e1
      rw [e1, hat] at h1
      cases h1
      exact ih rfl
  exact no hs.length (fo.all hs.length (by rw [List.length_append]; exact Nat.lt_succ_self _)) rfl
theorem noF_far {H : Hp} {x : V} {hs : Hs} (h : tupAt H x = some (hs.map hv ++ [.int ((hs.length : Int) + 1)])) : ¬ IsF H x := fun ⟨hs', e, fo⟩ => by
  rw [h] at e
  have z := snoc_hs (o := some (hs.length + 1)) (Option.some.inj e)
  subst z
  have hat : (hs ++ [some (hs.length + 1)])[hs.length]? = some (some (hs.length + 1)) := by
    rw [List.getElem?_append_right (Nat.le_refl _), Nat.sub_self]; rfl
  have q := fo.inb _ _ hat
  rw [List.length_append] at q
  exact Nat.lt_irrefl _ q
theorem askd_tup {H : Hp} {a : Addr} {xs : List V} (h : H a = some (.tup xs)) (hl : xs.length ≤ 1000) (hv' : ∀ y ∈ xs, Vd H y) : Askd H (.ref a) :=
  ⟨.tup h, fun ys e => by rw [tupAt_tup h] at e; cases e; exact ⟨hl, hv'⟩⟩
theorem askd_no {H : Hp} {x : V} (v : Vd H x) (h : tupAt H x = none) : Askd H x := ⟨v, fun ys e => by rw [h] at e; cases e⟩
theorem hv_ne_str (z : Str) (o : Option Nat) : V.str z ≠ hv o := by cases o <;> (intro e; cases e)
theorem hv_ne_bl (z : Bool) (o : Option Nat) : V.bl z ≠ hv o := by cases o <;> (intro e; cases e)
abbrev slL (a t : Addr) (at' : Int) (wl : Addr) (x : V) (way : Int) (y : V) (due : Str) (v7 v8 : Option V) : L2.St := [some (.ref a), some (.int at'), some (.ref wl), some x, some (.int way), some y, some (.str due), v7, v8]

/-! ### the law's test of two forests -/
theorem both_shows {hs ms : Hs} (fo : Fo hs) (fm : Fo ms) (l1 : hs.length ≤ 60) (l2 : ms.length ≤ 60) : Shows (.list [.tuple (hs.map hD), .tuple (ms.map hD)]) := by
  obtain ⟨a, b, c, e⟩ := small_all _ (small_hD fo.inb l1)
  obtain ⟨a2, b2, c2, e2⟩ := small_all _ (small_hD fm.inb l2)
  rw [List.length_map] at c c2
  refine shows_of ?_ ?_ ?_ ?_
  · rw [PyData.showable, PyData.showableAll, PyData.showableAll, PyData.showableAll, PyData.showable, a, PyData.showable, a2]; rfl
  · rw [PyData.leavesShort, PyData.leavesShortAll, PyData.leavesShortAll, PyData.leavesShortAll, PyData.leavesShort, b, PyData.leavesShort, b2]; rfl
  · rw [PyData.bulk, PyData.bulkAll, PyData.bulkAll, PyData.bulkAll, PyData.bulk, PyData.bulk]
    omega
  · rw [PyData.depth, PyData.depthAll, PyData.depthAll, PyData.depthAll, PyData.depth, PyData.depth]
    omega
def spRight33 : Sp := fun vs H Q _ => ∃ (a b : Addr) (hs ms : Hs) (t : Nat), vs = [.ref a, .int (t : Int), .ref b] ∧ H a = some (.tup (hs.map hv)) ∧ H b = some (.tup (ms.map hv)) ∧ Fo hs ∧ Fo ms ∧ hs.length + ms.length ≤ 60 ∧ t < hs.length ∧ ∀ H', Same H H' → Q (.bl true) H'
section
variable {P : Program} {w : World} {K : PySem.W.Frag} {mg : Str → Option Value} {base : Heap}
abbrev st__law_right : Stmt := topS 36
abbrev N__law_right : List Str := ["plan", "one", "mate", "before"]
theorem sc__law_right : FnScope N__law_right ["plan", "one", "mate"] (defScope st__law_right) := ⟨rfl, rfl, rfl, by decide +kernel, rfl, by decide +kernel, by decide +kernel⟩
theorem ok__law_right (D : Df K mg "_law_right" st__law_right ["plan", "one", "mate"]) (B : Bl mg) (K_law_beside_right : Kn P w K mg base CX0 7 "_law_beside_right" st__law_beside_right ["plan", "mate"] spLBeside)
    (K_law_grafted_right : Kn P w K mg base CX0 7 "_law_grafted_right" st__law_grafted_right ["plan", "one", "mate"] spLGrafted) (K_law_part_right : Kn P w K mg base CX0 8 "_law_part_right" st__law_part_right ["plan", "one"] spLPart)
    (K_law_without_right : Kn P w K mg base CX0 8 "_law_without_right" st__law_without_right ["plan", "one"] spLWithout) : KnQ P w K mg base 9 "_law_right" st__law_right ["plan", "one", "mate"] spRight33 := by
  refine D.okQ sc__law_right (fun vs H Q E h => ?_) (fun f cdv A outer s H vs Q E hr hq h => ?_)
  · obtain ⟨a, b, hs, ms, t, rfl, _⟩ := h; rfl
  obtain ⟨a, b, hs, ms, t, rfl, ha, hb, fo, fm, hl, ht, q⟩ := h
  refine ⟨_, ((pss_cons (ps_set (i := 3) sc__law_right.nd rfl (Or.inl rfl) (pe_callB (call_repr hr hq) (by rfl) B.repr (by decide +kernel) (pa_cons (pe_lst (pa_cons (pv 0) (pa_cons (pv 2) pa_nil))) pa_nil)))
      (pss_cons (ps_if (PW.pt (pw_or (pt_not (pt_val (pe_callF K_law_beside_right (hr.mono (by decide)) pass0 (pa_cons (pv 0) (pa_cons (pv 2) pa_nil))))) (pw_or1 (pt_not (pt_val (pe_callF K_law_beside_right (hr.mono (by decide)) pass0 (pa_cons (pv 2) (pa_cons (pv 0) pa_nil)))))))) (pss_one (ps_ret pe_bl)) pss_nil)
      (pss_cons (ps_if (PW.pt (pw_or (pt_not (pt_val (pe_callF K_law_grafted_right (hr.mono (by decide)) pass0 (pa_cons (pv 0) (pa_cons (pv 1) (pa_cons (pv 2) pa_nil)))))) (pw_or1 (pt_not (pt_val (pe_callF K_law_part_right (hr.mono (by decide)) pass0 (pa_cons (pv 0) (pa_cons (pv 1) pa_nil)))))))) (pss_one (ps_ret pe_bl)) pss_nil)
      (C8.pss_cut (ps_if (PW.pt (pw_and (pt_cmpR op_gt (pe_callB call_len (by rfl) B.len (by decide +kernel) (pa_cons (pv 0) pa_nil)) pe_int (nomark _)) (pw_and1 (pt_not (pt_val (pe_callF K_law_without_right (hr.mono (by decide)) pass0 (pa_cons (pv 0) (pa_cons (pv 1) pa_nil)))))))) (pss_one (ps_ret pe_bl)) pss_nil)
      (pss_one (ps_ret (pe_cmpR op_eq (pe_callB (call_repr hr hq) (by rfl) B.repr (by decide +kernel) (pa_cons (pe_lst (pa_cons (pv 0) (pa_cons (pv 2) pa_nil))) pa_nil)) (pv 3) (nomark _))))))))), ?_⟩
  have sh := both_shows fo fm (by omega) (by omega)
  have rp : ∀ {H' : Hp} {Z : Addr}, Same H H' → H' Z = some (.lst [.ref a, .ref b]) → Rp false H' (.ref Z) (.list [.tuple (hs.map hD), .tuple (ms.map hD)]) := fun {H' Z} s e =>
    .lst e (fun z => by cases z) (.cons (.tup (s _ _ ha) (rps_hv hs)) (.cons (.tup (s _ _ hb) (rps_hv ms)) .nil))
  refine ⟨_, rfl, _, rfl, ⟨by show 2 ≤ sizeLine; decide, fun Z hZ => ?_⟩⟩
  have s1 := (Same.refl H).new (o := .lst [.ref a, .ref b]) hZ
  have z1 : upd H Z (.lst [.ref a, .ref b]) Z = some (.lst [.ref a, .ref b]) := upd_same
  generalize upd H Z (.lst [.ref a, .ref b]) = H1 at s1 z1 ⊢
  refine ⟨false, _, _, rfl, rp s1 z1, sh, ?_⟩
  refine ⟨_, rfl, _, rfl, a, b, hs, ms, rfl, s1 _ _ ha, s1 _ _ hb, fo, fm, by omega, fun H2 s2 => ⟨_, rfl, iteF ?_⟩⟩
  have s12 := s1.trans s2
  refine ⟨_, rfl, _, rfl, b, a, ms, hs, rfl, s12 _ _ hb, s12 _ _ ha, fm, fo, by omega, fun H3 s3 => ⟨_, rfl, iteF ?_⟩⟩
  have s13 := s12.trans s3
  refine ⟨_, rfl, _, rfl, _, rfl, a, b, hs, ms, t, rfl, s13 _ _ ha, s13 _ _ hb, fo, fm, by omega, ht, fun H4 s4 => ⟨_, rfl, iteF ?_⟩⟩
  have s14 := s13.trans s4
  refine ⟨_, rfl, _, rfl, a, hs, t, rfl, s14 _ _ ha, fo, by omega, ht, fun H5 s5 => ⟨_, rfl, iteF ?_⟩⟩
  have s15 := s14.trans s5
  clear s2 s3 s4 s5 s12 s13 s14 s1 z1
  refine ⟨fun σ' H' => σ' = [some (.ref a), some (.int (t : Int)), some (.ref b), some (.str (PyData.list [PyData.tuple (hs.map hD), PyData.tuple (ms.map hD)]).shown)] ∧ Same H H', ?_, ?_⟩
  · refine ⟨_, rfl, _, _, rfl, .inr ⟨_, SqT.of (s15 _ _ ha), rfl⟩, _, _, rfl, rfl, _, rfl, ite2 (fun c => ?_) (fun _ => iteF ⟨rfl, s15⟩)⟩
    have h2 : 2 ≤ hs.length := by
      have z := of_decide_eq_true c
      rw [List.length_map] at z; omega
    exact ⟨_, rfl, _, rfl, a, hs, t, rfl, s15 _ _ ha, fo, by omega, ht, h2, fun H6 s6 => ⟨_, rfl, iteF ⟨rfl, s15.trans s6⟩⟩⟩
  rintro σ H6 ⟨rfl, s6⟩
  refine ⟨_, rfl, _, rfl, ⟨by show 2 ≤ sizeLine; decide, fun Y hY => ?_⟩⟩
  have s7 := s6.new (o := .lst [.ref a, .ref b]) hY
  have z7 : upd H6 Y (.lst [.ref a, .ref b]) Y = some (.lst [.ref a, .ref b]) := upd_same
  generalize upd H6 Y (.lst [.ref a, .ref b]) = H7 at s7 z7 ⊢
  refine ⟨false, _, _, rfl, rp s7 z7, sh, _, rfl, rfl, ?_⟩
  rw [decide_eq_true rfl]
  exact q H7 s7
end

end My

namespace My
open PySem PySem.Spec PyProof.Rows L2
/-! ### facts about a heap, kept together -/
structure Kp (H0 H : Hp) (L : List (Addr × HO)) : Prop where
  same : Same H0 H
  has : ∀ q ∈ L, H q.1 = some q.2
theorem Kp.start {H : Hp} : Kp H H [] := ⟨Same.refl H, fun _ h => absurd h List.not_mem_nil⟩
theorem Kp.new {H0 H : Hp} {L : List (Addr × HO)} {p : Addr} {o : HO} (k : Kp H0 H L) (hp : H p = none) : Kp H0 (upd H p o) ((p, o) :: L) := ⟨k.same.new hp, fun q hq => by
  rcases List.mem_cons.mp hq with rfl | hq
  · exact upd_same
  · exact (upd_ne (ne_of_none (k.has q hq) hp)).trans (k.has q hq)⟩
theorem ne_of_hold {H : Hp} {L : List (Addr × HO)} {p : Addr} (h : ∀ q ∈ L, H q.1 = some q.2) (hp : H p = none) : ∀ q ∈ L, q.1 ≠ p := fun q hq => ne_of_none (h q hq) hp
theorem Kp.at {H0 H : Hp} {L : List (Addr × HO)} {p : Addr} {o : HO} (k : Kp H0 H L) (i : Nat) (e : L[i]? = some (p, o) := by rfl) : H p = some o := k.has _ (List.mem_of_getElem? e)
theorem Kp.to {H0 H H' : Hp} {L : List (Addr × HO)} (k : Kp H0 H L) (s : Same H H') : Kp H0 H' L := ⟨k.same.trans s, fun q hq => s _ _ (k.has q hq)⟩
theorem Kp.add {H0 H : Hp} {L : List (Addr × HO)} {p : Addr} {o : HO} (k : Kp H0 H L) (h : H p = some o) : Kp H0 H ((p, o) :: L) := ⟨k.same, fun q hq => by
  rcases List.mem_cons.mp hq with rfl | hq
  · exact h
  · exact k.has q hq⟩

def fiveH : Hs := [none, some 0, some 0, some 1, none]
theorem fo_five : Fo fiveH := fo_plain (by intro z; cases z) fun j u e => by
  rcases j with _ | _ | _ | _ | _ | j
  · cases e
  · cases e; decide
  · cases e; decide
  · cases e; decide
  · cases e
  · cases e
theorem fo_01 : Fo [none, some 0] := fo_plain (by intro z; cases z) fun j u e => by
  rcases j with _ | _ | j
  · cases e
  · cases e; decide
  · cases e
theorem fo_00 : Fo [none, none] := fo_plain (by intro z; cases z) fun j u e => by
  rcases j with _ | _ | j
  · cases e
  · cases e
  · cases e
theorem fo_10 : Fo [some 1, none] := fo_ups (by intro z; cases z) fun v h => by
  rcases v with _ | _ | v
  · exact ⟨_, .step rfl (.root rfl)⟩
  · exact ⟨_, .root rfl⟩
  · exact absurd h (by show ¬ v + 2 < 2; omega)
theorem dp_hv {K : PySem.W.Frag} {H : Hp} : ∀ hs : Hs, DpAll K H (hs.map hv) (hs.map hD)
  | [] => .nil
  | none :: hs => .cons .non (dp_hv hs)
  | some u :: hs => .cons (.int _) (dp_hv hs)
theorem dpT {K : PySem.W.Frag} {H : Hp} {a : Addr} {hs : Hs} (h : H a = some (.tup (hs.map hv))) : Dp K H (.ref a) (.tuple (hs.map hD)) := .tup (SqT.of h) (dp_hv hs)
section
variable {P : Program} {w : World} {K : PySem.W.Frag} {mg : Str → Option Value} {base : Heap} {CF CT CO : Addr}
abbrev st_law : Stmt := topS 37
abbrev N_law : List Str := ["script", "at", "well", "size", "few", "plan", "mate", "one", "found", "k"]
theorem sc_law : FnScope N_law ["script"] (defScope st_law) := ⟨rfl, rfl, rfl, by decide +kernel, rfl, by decide +kernel, by decide +kernel⟩
theorem ok_law {f : Addr} {fd : FuncData} (F : Fun K "law" "law" st_law f fd) (B : Bl mg) (K_law_well : Kn P w K mg base CX0 1 "_law_well" st__law_well ["script", "at"] (spWell K)) (K_law_draw : Kn P w K mg base CX0 1 "_law_draw" st__law_draw ["well", "most"] spDraw)
    (K_law_forest : Kn P w K mg base CX0 3 "_law_forest" st__law_forest ["well", "most"] spLForest) (K_law_right : KnQ P w K mg base 9 "_law_right" st__law_right ["plan", "one", "mate"] spRight33)
    (Kbeside : Kn P w K mg base (L2.CX P w) 6 "beside" st_beside ["forest", "other"] (spBeside CF)) (Kgrafted : Kn P w K mg base (L2.CX P w) 6 "grafted" st_grafted ["forest", "thing", "other"] (spGrafted CF CT))
    (Kpart : Kn P w K mg base (L2.CX P w) 7 "part" st_part ["forest", "thing"] (spPart CF CT)) (Kwithout : Kn P w K mg base (L2.CX P w) 6 "without" st_without ["forest", "thing"] (spWithoutF CF CT CO)) :
    Qui P w K mg base 11 f fd ["script"] (spLaw K) := by
  refine F.quiet sc_law (fun vs H Q E h => ?_) (fun cdv A outer s H vs Q E hr hq h => ?_)
  · obtain ⟨a, ns, rfl, _⟩ := h; rfl
  obtain ⟨a, ns, rfl, hS, hns, q⟩ := h
  refine ⟨_, ((pss_cons (ps_for PassesOwn.never rfl (pi_range1 (by rfl) B.range (pa_cons (pe_callB (call_max2 rfl) (by rfl) B.max (by decide +kernel) (pa_cons pe_int (pa_cons (pe_callB (call_min2 rfl) (by rfl) B.min (by decide +kernel) (pa_cons pe_int (pa_cons (pe_callB call_len (by rfl) B.len (by decide +kernel) (pa_cons (pv 0) pa_nil)) pa_nil))) pa_nil))) pa_nil)) (pg_name (i := 1) sc_law.nd rfl (Or.inl rfl)) (pss_cons (ps_set (i := 2) sc_law.nd rfl (Or.inr rfl) (pe_callF K_law_well (hr.mono (by decide)) pass0 (pa_cons (pv 0) (pa_cons (pv 1) pa_nil))))
      (pss_one (ps_for PassesOwn.never rfl (pi_tup (pe_tup (pa_cons (pe_tup (pa_cons pe_int (pa_cons pe_int pa_nil))) (pa_cons (pe_tup (pa_cons pe_int (pa_cons pe_int pa_nil))) (pa_cons (pe_tup (pa_cons pe_int (pa_cons pe_int pa_nil))) (pa_cons (pe_tup (pa_cons pe_int (pa_cons pe_int pa_nil))) (pa_cons (pe_tup (pa_cons pe_int (pa_cons pe_int pa_nil))) pa_nil))))))) (pg_tup rfl (pgs_cons (pg_name (i := 3) sc_law.nd rfl (Or.inl rfl)) (pgs_cons (pg_name (i := 4) sc_law.nd rfl (Or.inl rfl)) pgs_nil))) (pss_cons (ps_asg (pe_tup (pa_cons (pe_callF K_law_forest (hr.mono (by decide)) pass0 (pa_cons (pv 2) (pa_cons (pv 3) pa_nil))) (pa_cons (pe_callF K_law_forest (hr.mono (by decide)) pass0 (pa_cons (pv 2) (pa_cons (pv 4) pa_nil))) pa_nil))) (pg_tup rfl (pgs_cons (pg_name (i := 5) sc_law.nd rfl (Or.inr rfl)) (pgs_cons (pg_name (i := 6) sc_law.nd rfl (Or.inl rfl)) pgs_nil))))
      (pss_one (ps_for PassesOwn.never rfl (pi_list (pe_lc (own := [("k", 9)]) (g := gName 9) rfl sc_law.nd (pi_range1 (by rfl) B.range (pa_cons pe_int pa_nil)) (blkOk_by (N := N_law) (sc := defScope st_law) (own := [("k", 9)]) (by decide +kernel)) (fun _ _ _ _ _ => by (exact (pg_name (i := 9) sc_law.nd rfl (Or.inl rfl)))) (fun _ _ _ _ _ => by exact pts_nil) (fun _ _ _ _ _ => by exact (pe_callF K_law_draw (hr.mono (by decide)) pass0 (pa_cons (pv 2) (pa_cons (pe_callB (call_lenK K) (by rfl) B.len (by decide +kernel) (pa_cons (pv 5) pa_nil)) pa_nil)))))) (pg_name (i := 7) sc_law.nd rfl (Or.inl rfl)) (pss_one (ps_if (pt_not (pt_val (pe_callQ (E := fun _ _ _ => False) K_law_right (hr.mono (by decide)) hq (pa_cons (pv 5) (pa_cons (pv 7) (pa_cons (pv 6) pa_nil)))))) (pss_one (ps_ret pe_bl)) pss_nil)))))))))
      (pss_cons (ps_set (i := 5) sc_law.nd rfl (Or.inr rfl) (pe_tup (pa_cons pe_non (pa_cons pe_int (pa_cons pe_int (pa_cons pe_int (pa_cons pe_non pa_nil)))))))
      (pss_cons (ps_set (i := 8) sc_law.nd rfl (Or.inl rfl) (pe_lst (pa_cons (pe_callF Kgrafted (hr.mono (by decide)) passL (pa_cons (pe_tup (pa_cons pe_non (pa_cons pe_int pa_nil))) (pa_cons pe_int (pa_cons (pe_tup (pa_cons pe_non (pa_cons pe_non pa_nil))) pa_nil)))) (pa_cons (pe_callF Kpart (hr.mono (by decide)) passL (pa_cons (pv 5) (pa_cons pe_int pa_nil))) (pa_cons (pe_callF Kwithout (hr.mono (by decide)) passL (pa_cons (pv 5) (pa_cons pe_int pa_nil))) (pa_cons (pe_callF Kwithout (hr.mono (by decide)) passL (pa_cons (pv 5) (pa_cons pe_int pa_nil))) pa_nil))))))
      (pss_cons (ps_if (pt_cmpR (op_neD hr.units) (pv 8) (pe_lst (pa_cons (pe_tup (pa_cons pe_non (pa_cons pe_int (pa_cons pe_int (pa_cons pe_int pa_nil))))) (pa_cons (pe_tup (pa_cons pe_non (pa_cons pe_int pa_nil))) (pa_cons (pe_tup (pa_cons pe_non (pa_cons pe_int (pa_cons pe_int (pa_cons pe_non pa_nil))))) (pa_cons (pe_tup (pa_cons pe_non (pa_cons pe_non (pa_cons pe_int (pa_cons pe_non pa_nil))))) pa_nil))))) (nomark _)) (pss_one (ps_ret pe_bl)) pss_nil)
      (pss_cons (ps_set (i := 8) sc_law.nd rfl (Or.inl rfl) (pe_lst (pa_cons (pe_callF Kpart (hr.mono (by decide)) passL (pa_cons (pv 5) (pa_cons pe_int pa_nil))) (pa_cons (pe_callF Kbeside (hr.mono (by decide)) passL (pa_cons (pe_tup (pa_cons pe_int (pa_cons pe_non pa_nil))) (pa_cons (pe_tup (pa_cons pe_non (pa_cons pe_int pa_nil))) pa_nil))) (pa_cons (pe_callF Kwithout (hr.mono (by decide)) passL (pa_cons (pe_tup (pa_cons pe_int (pa_cons pe_non pa_nil))) (pa_cons pe_int pa_nil))) pa_nil)))))
      (pss_one (ps_ret (pe_cmpR (op_eqD hr.units) (pv 8) (pe_lst (pa_cons (pe_tup (pa_cons pe_non pa_nil)) (pa_cons (pe_tup (pa_cons pe_int (pa_cons pe_non (pa_cons pe_non (pa_cons pe_int pa_nil))))) (pa_cons (pe_tup (pa_cons pe_non pa_nil)) pa_nil)))) (nomark _)))))))))), ?_⟩
  have p50 : (2 : Nat) ^ 50 = 1125899906842624 := by decide
  have p60 : (2 : Nat) ^ 60 = 1152921504606846976 := by decide
  have p100 : (2 : Nat) ^ 100 = 1267650600228229401496703205376 := by decide +kernel
  have lns : (ns.map V.int).length = ns.length := List.length_map _
  refine ⟨_, rfl, _, _, rfl, .inl ⟨_, hS, rfl⟩, _, _, rfl, _, _, rfl, _, rfl, by split <;> omega, by split <;> (try split) <;> omega, for_it walk_range0 (fun i σ H' => (∃ v1 v2 v3 v4 v5 v6 v7, σ = [some (.ref a), v1, v2, v3, v4, v5, v6, v7, none, none]) ∧ Same H H')
    ⟨⟨none, none, none, none, none, none, none, rfl⟩, Same.refl H⟩ (fun _ _ _ _ _ => trivial) ?_ ?_⟩
  · rintro i x σ H1 H1' hi ⟨⟨v1, v2, v3, v4, v5, v6, v7, rfl⟩, s1⟩ ⟨rfl, rfl⟩
    have hi64 : i < 64 := by split at hi <;> (try split at hi) <;> omega
    clear hi
    refine ⟨_, rfl, _, rfl, a, ns, i, rfl, s1.seq hS, hi64, fun wl H2 s2 hwl w2 => ?_⟩
    have hwn : H wl = none := s1.free hwl
    have s12 := s1.trans s2
    clear s1 s2 hwl
    have k := (Kp.start (H := H2))
    refine ⟨by show 2 ≤ sizeLine; decide, fun p1 g1 => ?_⟩
    have k := k.new (o := .tup [.int 3, .int 3]) g1
    generalize upd H2 p1 (.tup [.int 3, .int 3]) = G at k ⊢
    refine ⟨by show 2 ≤ sizeLine; decide, fun p2 g2 => ?_⟩
    have k := k.new (o := .tup [.int 9, .int 9]) g2
    generalize upd G p2 (.tup [.int 9, .int 9]) = G at k ⊢
    refine ⟨by show 2 ≤ sizeLine; decide, fun p3 g3 => ?_⟩
    have k := k.new (o := .tup [.int 9, .int 9]) g3
    generalize upd G p3 (.tup [.int 9, .int 9]) = G at k ⊢
    refine ⟨by show 2 ≤ sizeLine; decide, fun p4 g4 => ?_⟩
    have k := k.new (o := .tup [.int 6, .int 6]) g4
    generalize upd G p4 (.tup [.int 6, .int 6]) = G at k ⊢
    refine ⟨by show 2 ≤ sizeLine; decide, fun p5 g5 => ?_⟩
    have k := k.new (o := .tup [.int 50, .int 9]) g5
    generalize upd G p5 (.tup [.int 50, .int 9]) = G at k ⊢
    refine ⟨by show 5 ≤ sizeLine; decide, fun P0 g6 => ?_⟩
    have k := k.new (o := .tup [.ref p1, .ref p2, .ref p3, .ref p4, .ref p5]) g6
    generalize upd G P0 (.tup [.ref p1, .ref p2, .ref p3, .ref p4, .ref p5]) = G at k ⊢
    have wG := w2.same k.same
    have nw : ∀ {p : Addr} {o : List V}, G p = some (.tup o) → p ≠ wl := fun e z => by
      obtain ⟨l, el⟩ := wG.here
      rw [z, el] at e; cases e
    have sG := s12.trans k.same
    refine ⟨P0, rfl, ⟨_, SqT.of (k.at 0)⟩, for_it (walk_tup (xs := [V.ref p1, .ref p2, .ref p3, .ref p4, .ref p5])) (fun j σ H' => (∃ v3 v4 v5 v6 v7, σ = [some (.ref a), some (.int (i : Int)), some (.ref wl), v3, v4, v5, v6, v7, none, none]) ∧ Keep wl G H' ∧ Well H' wl (900 * j)) ⟨⟨_, _, _, _, _, rfl⟩, Keep.refl _ _, wG⟩ (fun j σ H' _ p => SqT.of (p.2.1 _ _ (nw (k.at 0)) (k.at 0))) ?_ ?_⟩
    · rintro j x σ H7 H7' hj ⟨⟨v3, v4, v5, v6, v7, rfl⟩, k7, w7⟩ ⟨rfl, e1⟩
      have hj5 : j < 5 := hj
      obtain ⟨pa, m, f2, ex, hm1, hf1, hmf, hpa⟩ : ∃ (pa : Addr) (m f2 : Int), x = .ref pa ∧ 1 ≤ m ∧ 1 ≤ f2 ∧ m + f2 ≤ 60 ∧ G pa = some (.tup [.int m, .int f2]) := by
        rcases j with _ | _ | _ | _ | _ | j
        · cases e1; exact ⟨p1, 3, 3, rfl, by decide, by decide, by decide, k.at 5⟩
        · cases e1; exact ⟨p2, 9, 9, rfl, by decide, by decide, by decide, k.at 4⟩
        · cases e1; exact ⟨p3, 9, 9, rfl, by decide, by decide, by decide, k.at 3⟩
        · cases e1; exact ⟨p4, 6, 6, rfl, by decide, by decide, by decide, k.at 2⟩
        · cases e1; exact ⟨p5, 50, 9, rfl, by decide, by decide, by decide, k.at 1⟩
        · cases e1
      subst ex
      refine ⟨pa, _, rfl, SqT.of (k7 _ _ (nw hpa) hpa), rfl, _, _, rfl, _, _, rfl, rfl, ?_⟩
      refine ⟨_, rfl, _, rfl, wl, _, m, rfl, w7, by omega, hm1, by omega, fun t hs H8 fo hl k8 w8 ht hT => ?_⟩
      have ntw : t ≠ wl := w7.ne ht
      refine ⟨_, rfl, _, rfl, wl, _, f2, rfl, w8, by omega, hf1, by omega, fun t2 ms H9 fm hl2 k9 w9 ht2 hT2 => ?_⟩
      have nt2 : t2 ≠ wl := w8.ne ht2
      have hT9 := k9 _ _ ntw hT
      have k79 := (k7.trans k8).trans k9
      refine ⟨by show 2 ≤ sizeLine; decide, fun T hTn => ⟨T, _, rfl, SqT.of upd_same, rfl, _, _, rfl, _, _, rfl, rfl, ?_⟩⟩
      have sA := (Same.refl H9).new (o := .tup [.ref t, .ref t2]) hTn
      have hTA := sA _ _ hT9
      have hTB := sA _ _ hT2
      have kA : Keep wl G (upd H9 T (.tup [.ref t, .ref t2])) := k79.trans sA.keep
      have wA := w9.same sA
      generalize upd H9 T (.tup [.ref t, .ref t2]) = HA at sA hTA hTB kA wA ⊢
      have hlm : (hs.map hv).length = hs.length := List.length_map _
      have h1 : 1 ≤ hs.length := by
        rcases hs with _ | ⟨_, _⟩
        · exact absurd rfl fo.ne
        · exact Nat.succ_le_succ (Nat.zero_le _)
      refine ⟨_, rfl, by decide, by decide, fun D hD => lc_it walk_range0 (fun c H' => Keep wl HA H' ∧ Well H' wl (900 * j + 800 + c) ∧ ∃ l : List Nat, H' D = some (.lst (nv l)) ∧ l.length = c ∧ ∀ v ∈ l, v < hs.length) ⟨(Keep.refl _ _).new hD, (wA.same ((Same.refl HA).new hD)).mono (by omega), [], upd_same, rfl, fun v h => absurd h List.not_mem_nil⟩ (fun _ _ _ _ => trivial) ?_ ?_⟩
      · rintro c x HB HC hc ⟨kB, wB, l, oD, ll, lv⟩ ⟨rfl, rfl⟩
        have hc3 : c < 3 := hc
        have nD : D ≠ wl := wA.ne hD
        refine ⟨rfl, _, rfl, _, rfl, _, _, rfl, .inr ⟨_, SqT.of (kB _ _ ntw hTA), rfl⟩, wl, _, _, rfl, wB, by omega, by omega, by omega, fun d HE d0 d1 kE wE => ?_⟩
        obtain ⟨dn, rfl⟩ : ∃ dn : Nat, d = (dn : Int) := ⟨d.toNat, by omega⟩
        have oDE := kE _ _ nD oD
        refine ⟨_, oDE, by rw [nv_length]; exact szl (by omega), ?_, ?_, l ++ [dn], by rw [upd_same, nv_append]; rfl, by rw [List.length_append, ll]; rfl, fun v hv1 => ?_⟩
        · intro b o nb e
          have z := kE _ _ nb (kB _ _ nb e)
          rw [upd_ne (fun y : b = D => by rw [y, hD] at e; cases e)]; exact z
        · obtain ⟨x1, y1, z1, e, r⟩ := wE.ex
          exact ⟨x1, y1, z1, by rw [upd_ne nD.symm]; exact e, by obtain ⟨r1, r2, r3, r4, r5⟩ := r; exact ⟨r1, r2, r3, r4, by omega⟩⟩
        · rcases List.mem_append.mp hv1 with z | z
          · exact lv v z
          · rw [List.mem_singleton.mp z]; omega
      rintro HB ⟨kB, wB, l, oD, ll, lv⟩
      have hTA' := kB _ _ ntw hTA
      have hTB' := kB _ _ nt2 hTB
      refine ⟨D, rfl, ⟨_, SqL.of oD⟩, for_it (walk_list (xs := nv l)) (fun c σ H' => (∃ v7, σ = [some (.ref a), some (.int (i : Int)), some (.ref wl), some (.int m), some (.int f2), some (.ref t), some (.ref t2), v7, none, none]) ∧ Same HB H') ⟨⟨_, rfl⟩, Same.refl _⟩ (fun c σ H' _ p => SqL.of (p.2 _ _ oD)) ?_ ?_⟩
      · rintro c x σ HC HD hc ⟨⟨v7, rfl⟩, sC⟩ ⟨rfl, e1⟩
        obtain ⟨v, ev, rfl⟩ := nv_at e1
        have vl := lv v (List.mem_of_getElem? ev)
        exact ⟨_, rfl, _, rfl, _, rfl, t, t2, hs, ms, v, rfl, sC _ _ hTA', sC _ _ hTB', fo, fm, by omega, vl, fun HE sE => ⟨_, rfl, iteF ⟨⟨_, rfl⟩, sC.trans sE⟩⟩⟩
      · rintro σ HC ⟨⟨v7, rfl⟩, sC⟩
        exact ⟨⟨_, _, _, _, _, rfl⟩, (kA.trans kB).trans sC.keep, (wB.same sC).mono (by omega)⟩
    · rintro σ H7 ⟨⟨v3, v4, v5, v6, v7, rfl⟩, k7, w7⟩
      exact ⟨⟨_, _, _, _, _, _, _, rfl⟩, thenK sG hwn k7⟩
  · rintro σ H1 ⟨⟨v1, v2, v3, v4, v5, v6, v7, rfl⟩, s1⟩
    -- plan
    refine ⟨by show 5 ≤ sizeLine; decide, fun F hF => ?_⟩
    have k := (Kp.start (H := H1)).new (o := .tup [.non, .int 0, .int 0, .int 1, .non]) hF
    generalize upd H1 F (.tup [.non, .int 0, .int 0, .int 1, .non]) = G at k ⊢
    have oF : G F = some (.tup (fiveH.map hv)) := k.at 0
    refine ⟨by show 2 ≤ sizeLine; decide, fun b1 gb1 => ?_⟩
    have k := k.new (o := .tup [.non, .int 0]) gb1
    have s2 := (Same.refl G).new (o := .tup [.non, .int 0]) gb1
    have oF := s2 _ _ oF
    generalize upd G b1 (.tup [.non, .int 0]) = G at k oF s2 ⊢
    refine ⟨by show 2 ≤ sizeLine; decide, fun b2 gb2 => ?_⟩
    have k := k.new (o := .tup [.non, .non]) gb2
    have s3 := (Same.refl G).new (o := .tup [.non, .non]) gb2
    have oF := s3 _ _ oF
    generalize upd G b2 (.tup [.non, .non]) = G at k oF s3 ⊢
    dsimp only [tNil, tCons, tC, List.nil_append, List.append_nil, List.cons_append, List.reverse_cons, List.reverse_nil]
    refine grafted_ask (hs := [none, some 0]) (ms := [none, none]) (t := 1) (k.at 1) (k.at 0) fo_01 fo_00 (by decide) (by decide) (by decide) fun r1 G1 t1 o1 => ?_
    refine ⟨_, rfl, ?_⟩
    dsimp only [tNil, tCons, tC, List.nil_append, List.append_nil, List.cons_append, List.reverse_cons, List.reverse_nil]
    refine part_ask (hs := fiveH) (t := 1) (t1 _ _ oF) fo_five (by decide) (by decide) fun r2 G2 t2 o2 => ?_
    refine ⟨_, rfl, ?_⟩
    dsimp only [tNil, tCons, tC, List.nil_append, List.append_nil, List.cons_append, List.reverse_cons, List.reverse_nil]
    refine without_ask (hs := fiveH) (t := 1) ((t1.trans t2) _ _ oF) fo_five (by decide) (by decide) (by decide) fun r3 G3 t3 o3 => ?_
    refine ⟨_, rfl, ?_⟩
    dsimp only [tNil, tCons, tC, List.nil_append, List.append_nil, List.cons_append, List.reverse_cons, List.reverse_nil]
    refine without_ask (hs := fiveH) (t := 0) (((t1.trans t2).trans t3) _ _ oF) fo_five (by decide) (by decide) (by decide) fun r4 G4 t4 o4 => ?_
    refine ⟨by show 4 ≤ sizeLine; decide, fun L hL => ?_⟩
    have m := (((((Kp.start (H := G4)).add o4).add (t4 _ _ o3)).add ((t3.trans t4) _ _ o2)).add (((t2.trans t3).trans t4) _ _ o1)).add ((((t1.trans t2).trans t3).trans t4) _ _ oF)
    have m := m.new (o := .lst [.ref r1, .ref r2, .ref r3, .ref r4]) hL
    generalize upd G4 L (.lst [.ref r1, .ref r2, .ref r3, .ref r4]) = G at m ⊢
    refine ⟨_, rfl, ?_⟩
    refine ⟨by show 4 ≤ sizeLine; decide, fun c1 gc1 => ?_⟩
    have m := m.new (o := .tup [.non, .int 0, .int 1, .int 1]) gc1
    generalize upd G c1 (.tup [.non, .int 0, .int 1, .int 1]) = G at m ⊢
    refine ⟨by show 2 ≤ sizeLine; decide, fun c2 gc2 => ?_⟩
    have m := m.new (o := .tup [.non, .int 0]) gc2
    generalize upd G c2 (.tup [.non, .int 0]) = G at m ⊢
    refine ⟨by show 4 ≤ sizeLine; decide, fun c3 gc3 => ?_⟩
    have m := m.new (o := .tup [.non, .int 0, .int 0, .non]) gc3
    generalize upd G c3 (.tup [.non, .int 0, .int 0, .non]) = G at m ⊢
    refine ⟨by show 4 ≤ sizeLine; decide, fun c4 gc4 => ?_⟩
    have m := m.new (o := .tup [.non, .non, .int 0, .non]) gc4
    generalize upd G c4 (.tup [.non, .non, .int 0, .non]) = G at m ⊢
    refine ⟨by show 4 ≤ sizeLine; decide, fun M hM => ?_⟩
    have m := m.new (o := .lst [.ref c1, .ref c2, .ref c3, .ref c4]) hM
    generalize upd G M (.lst [.ref c1, .ref c2, .ref c3, .ref c4]) = G at m ⊢
    refine ⟨_, _, .lst (SqL.of (m.at 5)) (.cons (dpT (m.at 7)) (.cons (dpT (m.at 8)) (.cons (dpT (m.at 9)) (.cons (dpT (m.at 10)) .nil)))),
      .lst (SqL.of (m.at 0)) (.cons (dpT (hs := [none, some 0, some 1, some 1]) (m.at 4)) (.cons (dpT (hs := [none, some 0]) (m.at 3)) (.cons (dpT (hs := [none, some 0, some 0, none]) (m.at 2)) (.cons (dpT (hs := [none, none, some 0, none]) (m.at 1)) .nil)))),
      by decide +kernel, by decide +kernel, _, rfl, iteF' (by decide +kernel) ?_⟩
    have oF : G F = some (.tup (fiveH.map hv)) := m.at 6
    clear m k t1 t2 t3 t4 o1 o2 o3 o4
    -- found, again
    refine ⟨_, rfl, ?_⟩
    dsimp only [tNil, tCons, tC, List.nil_append, List.append_nil, List.cons_append, List.reverse_cons, List.reverse_nil]
    refine part_ask (hs := fiveH) (t := 4) oF fo_five (by decide) (by decide) fun r1 G1 t1 o1 => ?_
    refine ⟨by show 2 ≤ sizeLine; decide, fun b1 gb1 => ?_⟩
    have u := ((Kp.start (H := G1)).add o1).new (o := .tup [.int 1, .non]) gb1
    generalize upd G1 b1 (.tup [.int 1, .non]) = G2 at u ⊢
    refine ⟨by show 2 ≤ sizeLine; decide, fun b2 gb2 => ?_⟩
    have u := u.new (o := .tup [.non, .int 0]) gb2
    generalize upd G2 b2 (.tup [.non, .int 0]) = G3 at u ⊢
    dsimp only [tNil, tCons, tC, List.nil_append, List.append_nil, List.cons_append, List.reverse_cons, List.reverse_nil]
    refine beside_ask (hs := [some 1, none]) (ms := [none, some 0]) (u.at 1) (u.at 0) fo_10 fo_01 (by decide) (by decide) fun r2 G4 t4 o4 => ?_
    have u := (u.to t4).add o4
    refine ⟨by show 2 ≤ sizeLine; decide, fun b3 gb3 => ?_⟩
    have u := u.new (o := .tup [.int 1, .non]) gb3
    generalize upd G4 b3 (.tup [.int 1, .non]) = G5 at u ⊢
    dsimp only [tNil, tCons, tC, List.nil_append, List.append_nil, List.cons_append, List.reverse_cons, List.reverse_nil]
    refine without_ask (hs := [some 1, none]) (t := 1) (u.at 0) fo_10 (by decide) (by decide) (by decide) fun r3 G6 t6 o6 => ?_
    have u := (u.to t6).add o6
    refine ⟨by show 3 ≤ sizeLine; decide, fun L2 hL2 => ?_⟩
    have u := u.new (o := .lst [.ref r1, .ref r2, .ref r3]) hL2
    generalize upd G6 L2 (.lst [.ref r1, .ref r2, .ref r3]) = G7 at u ⊢
    refine ⟨_, rfl, ?_⟩
    refine ⟨by show 1 ≤ sizeLine; decide, fun c1 gc1 => ?_⟩
    have u := u.new (o := .tup [.non]) gc1
    generalize upd G7 c1 (.tup [.non]) = G at u ⊢
    refine ⟨by show 4 ≤ sizeLine; decide, fun c2 gc2 => ?_⟩
    have u := u.new (o := .tup [.int 1, .non, .non, .int 2]) gc2
    generalize upd G c2 (.tup [.int 1, .non, .non, .int 2]) = G at u ⊢
    refine ⟨by show 1 ≤ sizeLine; decide, fun c3 gc3 => ?_⟩
    have u := u.new (o := .tup [.non]) gc3
    generalize upd G c3 (.tup [.non]) = G at u ⊢
    refine ⟨by show 3 ≤ sizeLine; decide, fun M hM => ?_⟩
    have u := u.new (o := .lst [.ref c1, .ref c2, .ref c3]) hM
    generalize upd G M (.lst [.ref c1, .ref c2, .ref c3]) = G at u ⊢
    refine ⟨_, _, .lst (SqL.of (u.at 4)) (.cons (dpT (u.at 10)) (.cons (dpT (u.at 7)) (.cons (dpT (u.at 5)) .nil))),
      .lst (SqL.of (u.at 0)) (.cons (dpT (hs := [none]) (u.at 3)) (.cons (dpT (hs := [some 1, none, none, some 2]) (u.at 2)) (.cons (dpT (hs := [none]) (u.at 1)) .nil))), by decide +kernel, by decide +kernel, ?_⟩
    have e : ∀ b : Bool, b = true → Q (.bl b) G := fun b z => by rw [z]; exact q G
    exact e _ (by decide +kernel)
end

end My

namespace My
open PySem PySem.Spec PyProof.Rows L2
theorem all_mk {l : PySem.W.OpenLaw} {w : World} {K : PySem.W.Frag} {h : Heap} {mg : Str → Option Value} {fa f0 f1 f2 f3 f4 f5 f6 f7 f8 f9 f10 f11 f12 f13 f14 f15 f16 f17 f18 f19 f20 f21 f22 f23 f24 f25 f26 f27 f28 C0 C1 C2 : Addr} (X : K.In h) (G : h.Ns mainGlobals mg) (hfa : mg "law" = some (.ref fa))
    {od0 an0 od1 an1 od2 an2 od3 an3 od4 an4 od5 an5 od6 an6 od7 an7 od8 an8 od9 an9 od10 an10 od11 an11 od12 an12 od13 an13 od14 an14 od15 an15 od16 an16 od17 an17 od18 an18 od19 an19 od20 an20 od21 an21 od22 an22 od23 an23 od24 an24 od25 an25 od26 an26 od27 an27 od28 an28 : Option Addr} {sl0 sl1 sl2 sl3 sl4 sl5 sl6 sl7 sl8 sl9 sl10 sl11 sl12 sl13 sl14 sl15 sl16 sl17 sl18 sl19 sl20 sl21 sl22 sl23 sl24 sl25 sl26 sl27 sl28 : Array (Option Value)} {oc0 kV0 dc0 pm0 cd0 ct0 oc1 kV1 dc1 pm1 cd1 ct1 oc2 kV2 dc2 pm2 cd2 ct2 oc3 kV3 dc3 pm3 cd3 ct3 oc4 kV4 dc4 pm4 cd4 ct4 oc5 kV5 dc5 pm5 cd5 ct5 oc6 kV6 dc6 pm6 cd6 ct6 oc7 kV7 dc7 pm7 cd7 ct7 oc8 kV8 dc8 pm8 cd8 ct8 oc9 kV9 dc9 pm9 cd9 ct9 oc10 kV10 dc10 pm10 cd10 ct10 oc11 kV11 dc11 pm11 cd11 ct11 oc12 kV12 dc12 pm12 cd12 ct12 oc13 kV13 dc13 pm13 cd13 ct13 oc14 kV14 dc14 pm14 cd14 ct14 oc15 kV15 dc15 pm15 cd15 ct15 oc16 kV16 dc16 pm16 cd16 ct16 oc17 kV17 dc17 pm17 cd17 ct17 oc18 kV18 dc18 pm18 cd18 ct18 oc19 kV19 dc19 pm19 cd19 ct19 oc20 kV20 dc20 pm20 cd20 ct20 oc21 kV21 dc21 pm21 cd21 ct21 oc22 kV22 dc22 pm22 cd22 ct22 oc23 kV23 dc23 pm23 cd23 ct23 oc24 kV24 dc24 pm24 cd24 ct24 oc25 kV25 dc25 pm25 cd25 ct25 oc26 kV26 dc26 pm26 cd26 ct26 oc27 kV27 dc27 pm27 cd27 ct27 oc28 kV28 dc28 pm28 cd28 ct28 : Value}
    (a0 : PySem.W.nsIn K mainGlobals "is_integer" = some (some (.ref f0)))
    (l0 : K.lookup f0 = some ⟨oc0, od0, .func (PySem.W.fnOf "is_integer" "is_integer" (defArgs st_is_integer) (defBody st_is_integer) (defScope st_is_integer) .none kV0 dc0 pm0 an0 cd0 ct0), sl0⟩)
    (c0 : PySem.W.codeIn K cd0 "is_integer" = true)
    (k0 : PySem.W.keepIn K (.ref f0) = true)
    (a1 : PySem.W.nsIn K mainGlobals "is_between" = some (some (.ref f1)))
    (l1 : K.lookup f1 = some ⟨oc1, od1, .func (PySem.W.fnOf "is_between" "is_between" (defArgs st_is_between) (defBody st_is_between) (defScope st_is_between) .none kV1 dc1 pm1 an1 cd1 ct1), sl1⟩)
    (c1 : PySem.W.codeIn K cd1 "is_between" = true)
    (k1 : PySem.W.keepIn K (.ref f1) = true)
    (a2 : PySem.W.nsIn K mainGlobals "is_index" = some (some (.ref f2)))
    (l2 : K.lookup f2 = some ⟨oc2, od2, .func (PySem.W.fnOf "is_index" "is_index" (defArgs st_is_index) (defBody st_is_index) (defScope st_is_index) .none kV2 dc2 pm2 an2 cd2 ct2), sl2⟩)
    (c2 : PySem.W.codeIn K cd2 "is_index" = true)
    (k2 : PySem.W.keepIn K (.ref f2) = true)
    (a3 : PySem.W.nsIn K mainGlobals "is_forest" = some (some (.ref f3)))
    (l3 : K.lookup f3 = some ⟨oc3, od3, .func (PySem.W.fnOf "is_forest" "is_forest" (defArgs st_is_forest) (defBody st_is_forest) (defScope st_is_forest) .none kV3 dc3 pm3 an3 cd3 ct3), sl3⟩)
    (c3 : PySem.W.codeIn K cd3 "is_forest" = true)
    (k3 : PySem.W.keepIn K (.ref f3) = true)
    (a4 : PySem.W.nsIn K mainGlobals "check_forest" = some (some (.ref f4)))
    (l4 : K.lookup f4 = some ⟨oc4, od4, .func (PySem.W.fnOf "check_forest" "check_forest" (defArgs st_check_forest) (defBody st_check_forest) (defScope st_check_forest) .none kV4 dc4 pm4 an4 cd4 ct4), sl4⟩)
    (c4 : PySem.W.codeIn K cd4 "check_forest" = true)
    (k4 : PySem.W.keepIn K (.ref f4) = true)
    (a5 : PySem.W.nsIn K mainGlobals "check_thing" = some (some (.ref f5)))
    (l5 : K.lookup f5 = some ⟨oc5, od5, .func (PySem.W.fnOf "check_thing" "check_thing" (defArgs st_check_thing) (defBody st_check_thing) (defScope st_check_thing) .none kV5 dc5 pm5 an5 cd5 ct5), sl5⟩)
    (c5 : PySem.W.codeIn K cd5 "check_thing" = true)
    (k5 : PySem.W.keepIn K (.ref f5) = true)
    (a6 : PySem.W.nsIn K mainGlobals "_without_holder" = some (some (.ref f6)))
    (l6 : K.lookup f6 = some ⟨oc6, od6, .func (PySem.W.fnOf "_without_holder" "_without_holder" (defArgs st__without_holder) (defBody st__without_holder) (defScope st__without_holder) .none kV6 dc6 pm6 an6 cd6 ct6), sl6⟩)
    (c6 : PySem.W.codeIn K cd6 "_without_holder" = true)
    (k6 : PySem.W.keepIn K (.ref f6) = true)
    (a7 : PySem.W.nsIn K mainGlobals "_held_lists" = some (some (.ref f7)))
    (l7 : K.lookup f7 = some ⟨oc7, od7, .func (PySem.W.fnOf "_held_lists" "_held_lists" (defArgs st__held_lists) (defBody st__held_lists) (defScope st__held_lists) .none kV7 dc7 pm7 an7 cd7 ct7), sl7⟩)
    (c7 : PySem.W.codeIn K cd7 "_held_lists" = true)
    (k7 : PySem.W.keepIn K (.ref f7) = true)
    (a8 : PySem.W.nsIn K mainGlobals "_walk_through" = some (some (.ref f8)))
    (l8 : K.lookup f8 = some ⟨oc8, od8, .func (PySem.W.fnOf "_walk_through" "_walk_through" (defArgs st__walk_through) (defBody st__walk_through) (defScope st__walk_through) .none kV8 dc8 pm8 an8 cd8 ct8), sl8⟩)
    (c8 : PySem.W.codeIn K cd8 "_walk_through" = true)
    (k8 : PySem.W.keepIn K (.ref f8) = true)
    (a9 : PySem.W.nsIn K mainGlobals "below" = some (some (.ref f9)))
    (l9 : K.lookup f9 = some ⟨oc9, od9, .func (PySem.W.fnOf "below" "below" (defArgs st_below) (defBody st_below) (defScope st_below) .none kV9 dc9 pm9 an9 cd9 ct9), sl9⟩)
    (c9 : PySem.W.codeIn K cd9 "below" = true)
    (k9 : PySem.W.keepIn K (.ref f9) = true)
    (a10 : PySem.W.nsIn K mainGlobals "forest_among" = some (some (.ref f10)))
    (l10 : K.lookup f10 = some ⟨oc10, od10, .func (PySem.W.fnOf "forest_among" "forest_among" (defArgs st_forest_among) (defBody st_forest_among) (defScope st_forest_among) .none kV10 dc10 pm10 an10 cd10 ct10), sl10⟩)
    (c10 : PySem.W.codeIn K cd10 "forest_among" = true)
    (k10 : PySem.W.keepIn K (.ref f10) = true)
    (a11 : PySem.W.nsIn K mainGlobals "_behind" = some (some (.ref f11)))
    (l11 : K.lookup f11 = some ⟨oc11, od11, .func (PySem.W.fnOf "_behind" "_behind" (defArgs st__behind) (defBody st__behind) (defScope st__behind) .none kV11 dc11 pm11 an11 cd11 ct11), sl11⟩)
    (c11 : PySem.W.codeIn K cd11 "_behind" = true)
    (k11 : PySem.W.keepIn K (.ref f11) = true)
    (a12 : PySem.W.nsIn K mainGlobals "beside" = some (some (.ref f12)))
    (l12 : K.lookup f12 = some ⟨oc12, od12, .func (PySem.W.fnOf "beside" "beside" (defArgs st_beside) (defBody st_beside) (defScope st_beside) .none kV12 dc12 pm12 an12 cd12 ct12), sl12⟩)
    (c12 : PySem.W.codeIn K cd12 "beside" = true)
    (k12 : PySem.W.keepIn K (.ref f12) = true)
    (a13 : PySem.W.nsIn K mainGlobals "grafted" = some (some (.ref f13)))
    (l13 : K.lookup f13 = some ⟨oc13, od13, .func (PySem.W.fnOf "grafted" "grafted" (defArgs st_grafted) (defBody st_grafted) (defScope st_grafted) .none kV13 dc13 pm13 an13 cd13 ct13), sl13⟩)
    (c13 : PySem.W.codeIn K cd13 "grafted" = true)
    (k13 : PySem.W.keepIn K (.ref f13) = true)
    (a14 : PySem.W.nsIn K mainGlobals "part" = some (some (.ref f14)))
    (l14 : K.lookup f14 = some ⟨oc14, od14, .func (PySem.W.fnOf "part" "part" (defArgs st_part) (defBody st_part) (defScope st_part) .none kV14 dc14 pm14 an14 cd14 ct14), sl14⟩)
    (c14 : PySem.W.codeIn K cd14 "part" = true)
    (k14 : PySem.W.keepIn K (.ref f14) = true)
    (a15 : PySem.W.nsIn K mainGlobals "without" = some (some (.ref f15)))
    (l15 : K.lookup f15 = some ⟨oc15, od15, .func (PySem.W.fnOf "without" "without" (defArgs st_without) (defBody st_without) (defScope st_without) .none kV15 dc15 pm15 an15 cd15 ct15), sl15⟩)
    (c15 : PySem.W.codeIn K cd15 "without" = true)
    (k15 : PySem.W.keepIn K (.ref f15) = true)
    (a16 : PySem.W.nsIn K mainGlobals "_law_well" = some (some (.ref f16)))
    (l16 : K.lookup f16 = some ⟨oc16, od16, .func (PySem.W.fnOf "_law_well" "_law_well" (defArgs st__law_well) (defBody st__law_well) (defScope st__law_well) .none kV16 dc16 pm16 an16 cd16 ct16), sl16⟩)
    (c16 : PySem.W.codeIn K cd16 "_law_well" = true)
    (k16 : PySem.W.keepIn K (.ref f16) = true)
    (a17 : PySem.W.nsIn K mainGlobals "_law_draw" = some (some (.ref f17)))
    (l17 : K.lookup f17 = some ⟨oc17, od17, .func (PySem.W.fnOf "_law_draw" "_law_draw" (defArgs st__law_draw) (defBody st__law_draw) (defScope st__law_draw) .none kV17 dc17 pm17 an17 cd17 ct17), sl17⟩)
    (c17 : PySem.W.codeIn K cd17 "_law_draw" = true)
    (k17 : PySem.W.keepIn K (.ref f17) = true)
    (a18 : PySem.W.nsIn K mainGlobals "_law_same" = some (some (.ref f18)))
    (l18 : K.lookup f18 = some ⟨oc18, od18, .func (PySem.W.fnOf "_law_same" "_law_same" (defArgs st__law_same) (defBody st__law_same) (defScope st__law_same) .none kV18 dc18 pm18 an18 cd18 ct18), sl18⟩)
    (c18 : PySem.W.codeIn K cd18 "_law_same" = true)
    (k18 : PySem.W.keepIn K (.ref f18) = true)
    (a19 : PySem.W.nsIn K mainGlobals "_law_forest" = some (some (.ref f19)))
    (l19 : K.lookup f19 = some ⟨oc19, od19, .func (PySem.W.fnOf "_law_forest" "_law_forest" (defArgs st__law_forest) (defBody st__law_forest) (defScope st__law_forest) .none kV19 dc19 pm19 an19 cd19 ct19), sl19⟩)
    (c19 : PySem.W.codeIn K cd19 "_law_forest" = true)
    (k19 : PySem.W.keepIn K (.ref f19) = true)
    (a20 : PySem.W.nsIn K mainGlobals "_law_up" = some (some (.ref f20)))
    (l20 : K.lookup f20 = some ⟨oc20, od20, .func (PySem.W.fnOf "_law_up" "_law_up" (defArgs st__law_up) (defBody st__law_up) (defScope st__law_up) .none kV20 dc20 pm20 an20 cd20 ct20), sl20⟩)
    (c20 : PySem.W.codeIn K cd20 "_law_up" = true)
    (k20 : PySem.W.keepIn K (.ref f20) = true)
    (a21 : PySem.W.nsIn K mainGlobals "_law_ups" = some (some (.ref f21)))
    (l21 : K.lookup f21 = some ⟨oc21, od21, .func (PySem.W.fnOf "_law_ups" "_law_ups" (defArgs st__law_ups) (defBody st__law_ups) (defScope st__law_ups) .none kV21 dc21 pm21 an21 cd21 ct21), sl21⟩)
    (c21 : PySem.W.codeIn K cd21 "_law_ups" = true)
    (k21 : PySem.W.keepIn K (.ref f21) = true)
    (a22 : PySem.W.nsIn K mainGlobals "_law_later" = some (some (.ref f22)))
    (l22 : K.lookup f22 = some ⟨oc22, od22, .func (PySem.W.fnOf "_law_later" "_law_later" (defArgs st__law_later) (defBody st__law_later) (defScope st__law_later) .none kV22 dc22 pm22 an22 cd22 ct22), sl22⟩)
    (c22 : PySem.W.codeIn K cd22 "_law_later" = true)
    (k22 : PySem.W.keepIn K (.ref f22) = true)
    (a23 : PySem.W.nsIn K mainGlobals "_law_beside_right" = some (some (.ref f23)))
    (l23 : K.lookup f23 = some ⟨oc23, od23, .func (PySem.W.fnOf "_law_beside_right" "_law_beside_right" (defArgs st__law_beside_right) (defBody st__law_beside_right) (defScope st__law_beside_right) .none kV23 dc23 pm23 an23 cd23 ct23), sl23⟩)
    (c23 : PySem.W.codeIn K cd23 "_law_beside_right" = true)
    (k23 : PySem.W.keepIn K (.ref f23) = true)
    (a24 : PySem.W.nsIn K mainGlobals "_law_grafted_right" = some (some (.ref f24)))
    (l24 : K.lookup f24 = some ⟨oc24, od24, .func (PySem.W.fnOf "_law_grafted_right" "_law_grafted_right" (defArgs st__law_grafted_right) (defBody st__law_grafted_right) (defScope st__law_grafted_right) .none kV24 dc24 pm24 an24 cd24 ct24), sl24⟩)
    (c24 : PySem.W.codeIn K cd24 "_law_grafted_right" = true)
    (k24 : PySem.W.keepIn K (.ref f24) = true)
    (a25 : PySem.W.nsIn K mainGlobals "_law_part_right" = some (some (.ref f25)))
    (l25 : K.lookup f25 = some ⟨oc25, od25, .func (PySem.W.fnOf "_law_part_right" "_law_part_right" (defArgs st__law_part_right) (defBody st__law_part_right) (defScope st__law_part_right) .none kV25 dc25 pm25 an25 cd25 ct25), sl25⟩)
    (c25 : PySem.W.codeIn K cd25 "_law_part_right" = true)
    (k25 : PySem.W.keepIn K (.ref f25) = true)
    (a26 : PySem.W.nsIn K mainGlobals "_law_without_right" = some (some (.ref f26)))
    (l26 : K.lookup f26 = some ⟨oc26, od26, .func (PySem.W.fnOf "_law_without_right" "_law_without_right" (defArgs st__law_without_right) (defBody st__law_without_right) (defScope st__law_without_right) .none kV26 dc26 pm26 an26 cd26 ct26), sl26⟩)
    (c26 : PySem.W.codeIn K cd26 "_law_without_right" = true)
    (k26 : PySem.W.keepIn K (.ref f26) = true)
    (a27 : PySem.W.nsIn K mainGlobals "_law_right" = some (some (.ref f27)))
    (l27 : K.lookup f27 = some ⟨oc27, od27, .func (PySem.W.fnOf "_law_right" "_law_right" (defArgs st__law_right) (defBody st__law_right) (defScope st__law_right) .none kV27 dc27 pm27 an27 cd27 ct27), sl27⟩)
    (c27 : PySem.W.codeIn K cd27 "_law_right" = true)
    (k27 : PySem.W.keepIn K (.ref f27) = true)
    (a28 : PySem.W.nsIn K mainGlobals "law" = some (some (.ref f28)))
    (l28 : K.lookup f28 = some ⟨oc28, od28, .func (PySem.W.fnOf "law" "law" (defArgs st_law) (defBody st_law) (defScope st_law) .none kV28 dc28 pm28 an28 cd28 ct28), sl28⟩)
    (c28 : PySem.W.codeIn K cd28 "law" = true)
    (k28 : PySem.W.keepIn K (.ref f28) = true)
    (z_isinstance : PySem.W.nsIn K mainGlobals "isinstance" = some none)
    (z_int : PySem.W.nsIn K mainGlobals "int" = some none)
    (z_bool : PySem.W.nsIn K mainGlobals "bool" = some none)
    (z_tuple : PySem.W.nsIn K mainGlobals "tuple" = some none)
    (z_len : PySem.W.nsIn K mainGlobals "len" = some none)
    (z_all : PySem.W.nsIn K mainGlobals "all" = some none)
    (z_enumerate : PySem.W.nsIn K mainGlobals "enumerate" = some none)
    (z_reversed : PySem.W.nsIn K mainGlobals "reversed" = some none)
    (z_sorted : PySem.W.nsIn K mainGlobals "sorted" = some none)
    (z_max : PySem.W.nsIn K mainGlobals "max" = some none)
    (z_min : PySem.W.nsIn K mainGlobals "min" = some none)
    (z_abs : PySem.W.nsIn K mainGlobals "abs" = some none)
    (z_range : PySem.W.nsIn K mainGlobals "range" = some none)
    (z_list : PySem.W.nsIn K mainGlobals "list" = some none)
    (z_repr : PySem.W.nsIn K mainGlobals "repr" = some none)
    (z_sum : PySem.W.nsIn K mainGlobals "sum" = some none)
    (z_any : PySem.W.nsIn K mainGlobals "any" = some none)
    (z_zip : PySem.W.nsIn K mainGlobals "zip" = some none)
    (z_str : PySem.W.nsIn K mainGlobals "str" = some none)
    (z_set : PySem.W.nsIn K mainGlobals "set" = some none)
    (z_dict : PySem.W.nsIn K mainGlobals "dict" = some none)
    (g_0 : PySem.W.nsIn K mainGlobals "InvalidForest" = some (some (.ref C0)))
    (x_0 : PySem.W.excIn K C0 [.type "ValueError", .type "Exception", .type "BaseException", .type "object"] "ValueError.__new__" = true)
    (k_0 : PySem.W.keepIn K (.ref C0) = true)
    (b_0 : PySem.W.subIn K (.ref C0) (.type "BaseException") = some true)
    (t_0 : PySem.W.typeIn K (.ref C0) = some (.type "type"))
    (ga_0 : PySem.W.findIn K (.ref C0) "__getattribute__" = some (some (.builtin "BaseException.__getattribute__")))
    (gt_0 : PySem.W.findIn K (.ref C0) "__getattr__" = some none)
    (hd_0 : PySem.W.hasDictIn K C0 = true)
    (hc_0 : PySem.W.findIn K (.ref C0) "__class__" = some (some (.builtin "object.__class__")))
    (hm_0 : PySem.W.mroIn K C0 (.type "object") = some true)
    (v_0 : PySem.W.kitOne K (.ref C0) (.type "ValueError") = some true)
    (y_0_0 : PySem.W.kitOne K (.ref C0) (.ref C0) = some true)
    (y_0_1 : PySem.W.kitOne K (.ref C0) (.ref C1) = some false)
    (y_0_2 : PySem.W.kitOne K (.ref C0) (.ref C2) = some false)
    (g_1 : PySem.W.nsIn K mainGlobals "InvalidThing" = some (some (.ref C1)))
    (x_1 : PySem.W.excIn K C1 [.type "ValueError", .type "Exception", .type "BaseException", .type "object"] "ValueError.__new__" = true)
    (k_1 : PySem.W.keepIn K (.ref C1) = true)
    (b_1 : PySem.W.subIn K (.ref C1) (.type "BaseException") = some true)
    (t_1 : PySem.W.typeIn K (.ref C1) = some (.type "type"))
    (ga_1 : PySem.W.findIn K (.ref C1) "__getattribute__" = some (some (.builtin "BaseException.__getattribute__")))
    (gt_1 : PySem.W.findIn K (.ref C1) "__getattr__" = some none)
    (hd_1 : PySem.W.hasDictIn K C1 = true)
    (hc_1 : PySem.W.findIn K (.ref C1) "__class__" = some (some (.builtin "object.__class__")))
    (hm_1 : PySem.W.mroIn K C1 (.type "object") = some true)
    (v_1 : PySem.W.kitOne K (.ref C1) (.type "ValueError") = some true)
    (y_1_0 : PySem.W.kitOne K (.ref C1) (.ref C0) = some false)
    (y_1_1 : PySem.W.kitOne K (.ref C1) (.ref C1) = some true)
    (y_1_2 : PySem.W.kitOne K (.ref C1) (.ref C2) = some false)
    (g_2 : PySem.W.nsIn K mainGlobals "OnlyThing" = some (some (.ref C2)))
    (x_2 : PySem.W.excIn K C2 [.type "ValueError", .type "Exception", .type "BaseException", .type "object"] "ValueError.__new__" = true)
    (k_2 : PySem.W.keepIn K (.ref C2) = true)
    (b_2 : PySem.W.subIn K (.ref C2) (.type "BaseException") = some true)
    (t_2 : PySem.W.typeIn K (.ref C2) = some (.type "type"))
    (ga_2 : PySem.W.findIn K (.ref C2) "__getattribute__" = some (some (.builtin "BaseException.__getattribute__")))
    (gt_2 : PySem.W.findIn K (.ref C2) "__getattr__" = some none)
    (hd_2 : PySem.W.hasDictIn K C2 = true)
    (hc_2 : PySem.W.findIn K (.ref C2) "__class__" = some (some (.builtin "object.__class__")))
    (hm_2 : PySem.W.mroIn K C2 (.type "object") = some true)
    (v_2 : PySem.W.kitOne K (.ref C2) (.type "ValueError") = some true)
    (y_2_0 : PySem.W.kitOne K (.ref C2) (.ref C0) = some false)
    (y_2_1 : PySem.W.kitOne K (.ref C2) (.ref C1) = some false)
    (y_2_2 : PySem.W.kitOne K (.ref C2) (.ref C2) = some true)
    (sn : PySem.W.specialIn K (.builtin "object.__class__") "__get__" = some (some (.builtin "getset_descriptor.__get__")))
    (st : PySem.W.takesIn K (.builtin "object.__class__") = some true) :
    ∃ fd : FuncData, (∀ (s : Shared) (v : Value), BindsTo s fd ⟨[v], []⟩ [("script", v)]) ∧ ∀ base : Heap, K.In base → base.Ns mainGlobals mg → Qui l.prog w K mg base 11 fa fd ["script"] (spLaw K) := by
  have e := hfa.symm.trans (PySem.W.mg_of X G a28)
  cases e
  have D_is_integer : Df K mg "is_integer" st_is_integer ["value"] := Df.mk' l0 c0 k0 (PySem.W.mg_of X G a0) fun _ _ _ _ _ _ us hl => match us, hl with | [_], _ => rfl
  have D_is_between : Df K mg "is_between" st_is_between ["value", "least", "greatest"] := Df.mk' l1 c1 k1 (PySem.W.mg_of X G a1) fun _ _ _ _ _ _ us hl => match us, hl with | [_, _, _], _ => rfl
  have D_is_index : Df K mg "is_index" st_is_index ["value", "many"] := Df.mk' l2 c2 k2 (PySem.W.mg_of X G a2) fun _ _ _ _ _ _ us hl => match us, hl with | [_, _], _ => rfl
  have D_is_forest : Df K mg "is_forest" st_is_forest ["value"] := Df.mk' l3 c3 k3 (PySem.W.mg_of X G a3) fun _ _ _ _ _ _ us hl => match us, hl with | [_], _ => rfl
  have D_check_forest : Df K mg "check_forest" st_check_forest ["forest"] := Df.mk' l4 c4 k4 (PySem.W.mg_of X G a4) fun _ _ _ _ _ _ us hl => match us, hl with | [_], _ => rfl
  have D_check_thing : Df K mg "check_thing" st_check_thing ["forest", "thing"] := Df.mk' l5 c5 k5 (PySem.W.mg_of X G a5) fun _ _ _ _ _ _ us hl => match us, hl with | [_, _], _ => rfl
  have D__without_holder : Df K mg "_without_holder" st__without_holder ["forest"] := Df.mk' l6 c6 k6 (PySem.W.mg_of X G a6) fun _ _ _ _ _ _ us hl => match us, hl with | [_], _ => rfl
  have D__held_lists : Df K mg "_held_lists" st__held_lists ["forest"] := Df.mk' l7 c7 k7 (PySem.W.mg_of X G a7) fun _ _ _ _ _ _ us hl => match us, hl with | [_], _ => rfl
  have D__walk_through : Df K mg "_walk_through" st__walk_through ["held", "starts"] := Df.mk' l8 c8 k8 (PySem.W.mg_of X G a8) fun _ _ _ _ _ _ us hl => match us, hl with | [_, _], _ => rfl
  have D_below : Df K mg "below" st_below ["forest", "thing"] := Df.mk' l9 c9 k9 (PySem.W.mg_of X G a9) fun _ _ _ _ _ _ us hl => match us, hl with | [_, _], _ => rfl
  have D_forest_among : Df K mg "forest_among" st_forest_among ["forest", "things"] := Df.mk' l10 c10 k10 (PySem.W.mg_of X G a10) fun _ _ _ _ _ _ us hl => match us, hl with | [_, _], _ => rfl
  have D__behind : Df K mg "_behind" st__behind ["forest", "many", "top"] := Df.mk' l11 c11 k11 (PySem.W.mg_of X G a11) fun _ _ _ _ _ _ us hl => match us, hl with | [_, _, _], _ => rfl
  have D_beside : Df K mg "beside" st_beside ["forest", "other"] := Df.mk' l12 c12 k12 (PySem.W.mg_of X G a12) fun _ _ _ _ _ _ us hl => match us, hl with | [_, _], _ => rfl
  have D_grafted : Df K mg "grafted" st_grafted ["forest", "thing", "other"] := Df.mk' l13 c13 k13 (PySem.W.mg_of X G a13) fun _ _ _ _ _ _ us hl => match us, hl with | [_, _, _], _ => rfl
  have D_part : Df K mg "part" st_part ["forest", "thing"] := Df.mk' l14 c14 k14 (PySem.W.mg_of X G a14) fun _ _ _ _ _ _ us hl => match us, hl with | [_, _], _ => rfl
  have D_without : Df K mg "without" st_without ["forest", "thing"] := Df.mk' l15 c15 k15 (PySem.W.mg_of X G a15) fun _ _ _ _ _ _ us hl => match us, hl with | [_, _], _ => rfl
  have D__law_well : Df K mg "_law_well" st__law_well ["script", "at"] := Df.mk' l16 c16 k16 (PySem.W.mg_of X G a16) fun _ _ _ _ _ _ us hl => match us, hl with | [_, _], _ => rfl
  have D__law_draw : Df K mg "_law_draw" st__law_draw ["well", "most"] := Df.mk' l17 c17 k17 (PySem.W.mg_of X G a17) fun _ _ _ _ _ _ us hl => match us, hl with | [_, _], _ => rfl
  have D__law_same : Df K mg "_law_same" st__law_same ["found", "due"] := Df.mk' l18 c18 k18 (PySem.W.mg_of X G a18) fun _ _ _ _ _ _ us hl => match us, hl with | [_, _], _ => rfl
  have D__law_forest : Df K mg "_law_forest" st__law_forest ["well", "most"] := Df.mk' l19 c19 k19 (PySem.W.mg_of X G a19) fun _ _ _ _ _ _ us hl => match us, hl with | [_, _], _ => rfl
  have D__law_up : Df K mg "_law_up" st__law_up ["plan", "one"] := Df.mk' l20 c20 k20 (PySem.W.mg_of X G a20) fun _ _ _ _ _ _ us hl => match us, hl with | [_, _], _ => rfl
  have D__law_ups : Df K mg "_law_ups" st__law_ups ["plan"] := Df.mk' l21 c21 k21 (PySem.W.mg_of X G a21) fun _ _ _ _ _ _ us hl => match us, hl with | [_], _ => rfl
  have D__law_later : Df K mg "_law_later" st__law_later ["row", "size"] := Df.mk' l22 c22 k22 (PySem.W.mg_of X G a22) fun _ _ _ _ _ _ us hl => match us, hl with | [_, _], _ => rfl
  have D__law_beside_right : Df K mg "_law_beside_right" st__law_beside_right ["plan", "mate"] := Df.mk' l23 c23 k23 (PySem.W.mg_of X G a23) fun _ _ _ _ _ _ us hl => match us, hl with | [_, _], _ => rfl
  have D__law_grafted_right : Df K mg "_law_grafted_right" st__law_grafted_right ["plan", "one", "mate"] := Df.mk' l24 c24 k24 (PySem.W.mg_of X G a24) fun _ _ _ _ _ _ us hl => match us, hl with | [_, _, _], _ => rfl
  have D__law_part_right : Df K mg "_law_part_right" st__law_part_right ["plan", "one"] := Df.mk' l25 c25 k25 (PySem.W.mg_of X G a25) fun _ _ _ _ _ _ us hl => match us, hl with | [_, _], _ => rfl
  have D__law_without_right : Df K mg "_law_without_right" st__law_without_right ["plan", "one"] := Df.mk' l26 c26 k26 (PySem.W.mg_of X G a26) fun _ _ _ _ _ _ us hl => match us, hl with | [_, _], _ => rfl
  have D__law_right : Df K mg "_law_right" st__law_right ["plan", "one", "mate"] := Df.mk' l27 c27 k27 (PySem.W.mg_of X G a27) fun _ _ _ _ _ _ us hl => match us, hl with | [_, _, _], _ => rfl
  have B : Bl mg := ⟨PySem.W.mg_none_of X G z_isinstance, PySem.W.mg_none_of X G z_int, PySem.W.mg_none_of X G z_bool, PySem.W.mg_none_of X G z_tuple, PySem.W.mg_none_of X G z_len, PySem.W.mg_none_of X G z_all, PySem.W.mg_none_of X G z_enumerate, PySem.W.mg_none_of X G z_reversed, PySem.W.mg_none_of X G z_sorted, PySem.W.mg_none_of X G z_max, PySem.W.mg_none_of X G z_min, PySem.W.mg_none_of X G z_abs, PySem.W.mg_none_of X G z_range, PySem.W.mg_none_of X G z_list, PySem.W.mg_none_of X G z_repr, PySem.W.mg_none_of X G z_sum, PySem.W.mg_none_of X G z_any, PySem.W.mg_none_of X G z_zip, PySem.W.mg_none_of X G z_str, PySem.W.mg_none_of X G z_set, PySem.W.mg_none_of X G z_dict⟩
  have E_InvalidForest : Ex1 K mg "InvalidForest" C0 := ⟨x_0, PySem.W.mg_of X G g_0, k_0, b_0, t_0⟩
  have X_InvalidForest : ExcC K C0 := ⟨ga_0, gt_0, b_0, hd_0, hc_0, sn, st, hm_0⟩
  have E_InvalidThing : Ex1 K mg "InvalidThing" C1 := ⟨x_1, PySem.W.mg_of X G g_1, k_1, b_1, t_1⟩
  have X_InvalidThing : ExcC K C1 := ⟨ga_1, gt_1, b_1, hd_1, hc_1, sn, st, hm_1⟩
  have E_OnlyThing : Ex1 K mg "OnlyThing" C2 := ⟨x_2, PySem.W.mg_of X G g_2, k_2, b_2, t_2⟩
  have X_OnlyThing : ExcC K C2 := ⟨ga_2, gt_2, b_2, hd_2, hc_2, sn, st, hm_2⟩
  refine ⟨PySem.W.fnOf "law" "law" (defArgs st_law) (defBody st_law) (defScope st_law) .none kV28 dc28 pm28 an28 cd28 ct28, fun s v => .of_eq rfl, fun base _ _ => ?_⟩
  have Kis_integer := ok_is_integer (P := l.prog) (w := w) (base := base) D_is_integer B
  have Kis_between := ok_is_between D_is_between B Kis_integer
  have Kis_index := ok_is_index D_is_index B Kis_between
  have Kwo := ok__without_holder (P := l.prog) (w := w) (base := base) D__without_holder B
  have Khl := ok__held_lists (P := l.prog) (w := w) (base := base) D__held_lists B
  have Kwt := ok__walk_through (P := l.prog) (w := w) (base := base) D__walk_through B
  have Kis_forest := ok_is_forest D_is_forest B Kis_index Kwo Khl Kwt
  have Kcf := ok_check_forest D_check_forest B E_InvalidForest Kis_forest
  have Kct := ok_check_thing D_check_thing B E_InvalidThing Kis_index
  have Kbelow := ok_below D_below B Kcf Kct Khl Kwt
  have Kamong := ok_forest_among (P := l.prog) (w := w) (base := base) D_forest_among B
  have Kbehind := ok__behind (P := l.prog) (w := w) (base := base) D__behind B
  have Kbeside := ok_beside D_beside B Kcf Kbehind
  have Kgrafted := ok_grafted D_grafted B Kcf Kct Kbehind
  have Kpart := ok_part D_part B Kamong Kbelow
  have Kwithout := ok_without D_without B E_OnlyThing Kcf Kct Kamong
  have Kdraw := ok__law_draw (P := l.prog) (w := w) (base := base) D__law_draw B
  have Kwell := ok__law_well (P := l.prog) (w := w) (base := base) D__law_well B
  have Kforest := ok__law_forest D__law_forest B Kdraw
  have Ksame3 := ok__law_same (P := l.prog) (w := w) (base := base) D__law_same B 3
  have Kup := ok__law_up (P := l.prog) (w := w) (base := base) D__law_up B
  have Kups := ok__law_ups (P := l.prog) (w := w) (base := base) D__law_ups B
  have Klater := ok__law_later (P := l.prog) (w := w) (base := base) D__law_later B
  have Klb := ok__law_beside_right D__law_beside_right B Kups Klater Ksame3 Kbeside
  have Klg := ok__law_grafted_right D__law_grafted_right B Kup Kups Klater Ksame3 Kgrafted
  have Klp := ok__law_part_right D__law_part_right B Kup Kups Ksame3 Kpart
  have Klw := ok__law_without_right D__law_without_right B Kup Kups Ksame3 Kwithout
  have Kright := ok__law_right D__law_right B Klb Klg Klp Klw
  exact ok_law (fun_mk (st := st_law) l28 c28 k28) B Kwell Kdraw Kforest Kright Kbeside Kgrafted Kpart Kwithout
theorem walkL {l : PySem.W.OpenLaw} {q : Program} {loose : List Str} {XP : (Str → Option Value) → Heap → Prop} {YP : World → Heap → Prop} {d : DefRec} {K : Params → PySem.W.Frag} (hn : l.most = some 63) (hdf : d.params.defaults = []) (hY : ∀ (w : World) (h : Heap), YP w h → (K w.params).In h)
    (F : ∀ (w : World) (mg : Str → Option Value) (fa : Addr) (h : Heap), (K w.params).In h → h.Ns mainGlobals mg → mg d.name = some (.ref fa) → ∃ fd : FuncData, (∀ (s : Shared) (u : Value), BindsTo s fd ⟨[u], []⟩ [("script", u)]) ∧ ∀ base : Heap, (K w.params).In base → base.Ns mainGlobals mg → Qui l.prog w (K w.params) mg base 11 fa fd ["script"] (spLaw (K w.params))) :
    PySem.W.WalkO q loose XP YP l.row.toRowW d [] (fun f vs => PySem.call f vs) :=
  L2.walk_ofQ (n := 63) (k := 11) (x := "script") (sp := fun w => spLaw (K w.params)) hn (by decide) hdf ⟨rfl, by decide, by decide⟩ hY F fun _ _ a ns hl _ hS => ⟨a, ns, rfl, hS, hl, fun _ => rfl⟩
end My
open PySem PySem.W PyProof.Rows
set_option maxRecDepth 100000 in
set_option maxHeartbeats 0 in
theorem PySem.Challenge.cw_heldbehind_k33_forests_put_together_and_holds : PySem.Challenge.rw_heldbehind_k33_forests_put_together_and.Holds := by
  w_on; o_law; k_head; (case hw => w_witness2)
  k_fill
  refine My.walkL (l := PySem.Challenge.rw_heldbehind_k33_forests_put_together_and) rfl rfl (fun w h Y => PySem.W.kIn_of Y) ?F
  case F =>
    intro w mg fa h KX G hmg
    refine' My.all_mk KX G hmg ?a0 ?l0 ?c0 ?k0 ?a1 ?l1 ?c1 ?k1 ?a2 ?l2 ?c2 ?k2 ?a3 ?l3 ?c3 ?k3 ?a4 ?l4 ?c4 ?k4 ?a5 ?l5 ?c5 ?k5 ?a6 ?l6 ?c6 ?k6 ?a7 ?l7 ?c7 ?k7 ?a8 ?l8 ?c8 ?k8 ?a9 ?l9 ?c9 ?k9 ?a10 ?l10 ?c10 ?k10 ?a11 ?l11 ?c11 ?k11 ?a12 ?l12 ?c12 ?k12 ?a13 ?l13 ?c13 ?k13 ?a14 ?l14 ?c14 ?k14 ?a15 ?l15 ?c15 ?k15 ?a16 ?l16 ?c16 ?k16 ?a17 ?l17 ?c17 ?k17 ?a18 ?l18 ?c18 ?k18 ?a19 ?l19 ?c19 ?k19 ?a20 ?l20 ?c20 ?k20 ?a21 ?l21 ?c21 ?k21 ?a22 ?l22 ?c22 ?k22 ?a23 ?l23 ?c23 ?k23 ?a24 ?l24 ?c24 ?k24 ?a25 ?l25 ?c25 ?k25 ?a26 ?l26 ?c26 ?k26 ?a27 ?l27 ?c27 ?k27 ?a28 ?l28 ?c28 ?k28 ?z_isinstance ?z_int ?z_bool ?z_tuple ?z_len ?z_all ?z_enumerate ?z_reversed ?z_sorted ?z_max ?z_min ?z_abs ?z_range ?z_list ?z_repr ?z_sum ?z_any ?z_zip ?z_str ?z_set ?z_dict ?g_0 ?x_0 ?k_0 ?b_0 ?t_0 ?ga_0 ?gt_0 ?hd_0 ?hc_0 ?hm_0 ?v_0 ?y_0_0 ?y_0_1 ?y_0_2 ?g_1 ?x_1 ?k_1 ?b_1 ?t_1 ?ga_1 ?gt_1 ?hd_1 ?hc_1 ?hm_1 ?v_1 ?y_1_0 ?y_1_1 ?y_1_2 ?g_2 ?x_2 ?k_2 ?b_2 ?t_2 ?ga_2 ?gt_2 ?hd_2 ?hc_2 ?hm_2 ?v_2 ?y_2_0 ?y_2_1 ?y_2_2 ?sn ?st
    (case a0 => first | k_is | rfl)
    (case a1 => first | k_is | rfl)
    (case a2 => first | k_is | rfl)
    (case a3 => first | k_is | rfl)
    (case a4 => first | k_is | rfl)
    (case a5 => first | k_is | rfl)
    (case a6 => first | k_is | rfl)
    (case a7 => first | k_is | rfl)
    (case a8 => first | k_is | rfl)
    (case a9 => first | k_is | rfl)
    (case a10 => first | k_is | rfl)
    (case a11 => first | k_is | rfl)
    (case a12 => first | k_is | rfl)
    (case a13 => first | k_is | rfl)
    (case a14 => first | k_is | rfl)
    (case a15 => first | k_is | rfl)
    (case a16 => first | k_is | rfl)
    (case a17 => first | k_is | rfl)
    (case a18 => first | k_is | rfl)
    (case a19 => first | k_is | rfl)
    (case a20 => first | k_is | rfl)
    (case a21 => first | k_is | rfl)
    (case a22 => first | k_is | rfl)
    (case a23 => first | k_is | rfl)
    (case a24 => first | k_is | rfl)
    (case a25 => first | k_is | rfl)
    (case a26 => first | k_is | rfl)
    (case a27 => first | k_is | rfl)
    (case a28 => first | k_is | rfl)
    (case g_0 => first | k_is | rfl)
    (case g_1 => first | k_is | rfl)
    (case g_2 => first | k_is | rfl)
    (case l0 => first | k_is | rfl)
    (case c0 => first | k_is | rfl)
    (case k0 => first | k_is | rfl)
    (case l1 => first | k_is | rfl)
    (case c1 => first | k_is | rfl)
    (case k1 => first | k_is | rfl)
    (case l2 => first | k_is | rfl)
    (case c2 => first | k_is | rfl)
    (case k2 => first | k_is | rfl)
    (case l3 => first | k_is | rfl)
    (case c3 => first | k_is | rfl)
    (case k3 => first | k_is | rfl)
    (case l4 => first | k_is | rfl)
    (case c4 => first | k_is | rfl)
    (case k4 => first | k_is | rfl)
    (case l5 => first | k_is | rfl)
    (case c5 => first | k_is | rfl)
    (case k5 => first | k_is | rfl)
    (case l6 => first | k_is | rfl)
    (case c6 => first | k_is | rfl)
    (case k6 => first | k_is | rfl)
    (case l7 => first | k_is | rfl)
    (case c7 => first | k_is | rfl)
    (case k7 => first | k_is | rfl)
    (case l8 => first | k_is | rfl)
    (case c8 => first | k_is | rfl)
    (case k8 => first | k_is | rfl)
    (case l9 => first | k_is | rfl)
    (case c9 => first | k_is | rfl)
    (case k9 => first | k_is | rfl)
    (case l10 => first | k_is | rfl)
    (case c10 => first | k_is | rfl)
    (case k10 => first | k_is | rfl)
    (case l11 => first | k_is | rfl)
    (case c11 => first | k_is | rfl)
    (case k11 => first | k_is | rfl)
    (case l12 => first | k_is | rfl)
    (case c12 => first | k_is | rfl)
    (case k12 => first | k_is | rfl)
    (case l13 => first | k_is | rfl)
    (case c13 => first | k_is | rfl)
    (case k13 => first | k_is | rfl)
    (case l14 => first | k_is | rfl)
    (case c14 => first | k_is | rfl)
    (case k14 => first | k_is | rfl)
    (case l15 => first | k_is | rfl)
    (case c15 => first | k_is | rfl)
    (case k15 => first | k_is | rfl)
    (case l16 => first | k_is | rfl)
    (case c16 => first | k_is | rfl)
    (case k16 => first | k_is | rfl)
    (case l17 => first | k_is | rfl)
    (case c17 => first | k_is | rfl)
    (case k17 => first | k_is | rfl)
    (case l18 => first | k_is | rfl)
    (case c18 => first | k_is | rfl)
    (case k18 => first | k_is | rfl)
    (case l19 => first | k_is | rfl)
    (case c19 => first | k_is | rfl)
    (case k19 => first | k_is | rfl)
    (case l20 => first | k_is | rfl)
    (case c20 => first | k_is | rfl)
    (case k20 => first | k_is | rfl)
    (case l21 => first | k_is | rfl)
    (case c21 => first | k_is | rfl)
    (case k21 => first | k_is | rfl)
    (case l22 => first | k_is | rfl)
    (case c22 => first | k_is | rfl)
    (case k22 => first | k_is | rfl)
    (case l23 => first | k_is | rfl)
    (case c23 => first | k_is | rfl)
    (case k23 => first | k_is | rfl)
    (case l24 => first | k_is | rfl)
    (case c24 => first | k_is | rfl)
    (case k24 => first | k_is | rfl)
    (case l25 => first | k_is | rfl)
    (case c25 => first | k_is | rfl)
    (case k25 => first | k_is | rfl)
    (case l26 => first | k_is | rfl)
    (case c26 => first | k_is | rfl)
    (case k26 => first | k_is | rfl)
    (case l27 => first | k_is | rfl)
    (case c27 => first | k_is | rfl)
    (case k27 => first | k_is | rfl)
    (case l28 => first | k_is | rfl)
    (case c28 => first | k_is | rfl)
    (case k28 => first | k_is | rfl)
    (case z_isinstance => first | k_is | rfl)
    (case z_int => first | k_is | rfl)
    (case z_bool => first | k_is | rfl)
    (case z_tuple => first | k_is | rfl)
    (case z_len => first | k_is | rfl)
    (case z_all => first | k_is | rfl)
    (case z_enumerate => first | k_is | rfl)
    (case z_reversed => first | k_is | rfl)
    (case z_sorted => first | k_is | rfl)
    (case z_max => first | k_is | rfl)
    (case z_min => first | k_is | rfl)
    (case z_abs => first | k_is | rfl)
    (case z_range => first | k_is | rfl)
    (case z_list => first | k_is | rfl)
    (case z_repr => first | k_is | rfl)
    (case z_sum => first | k_is | rfl)
    (case z_any => first | k_is | rfl)
    (case z_zip => first | k_is | rfl)
    (case z_str => first | k_is | rfl)
    (case z_set => first | k_is | rfl)
    (case z_dict => first | k_is | rfl)
    (case x_0 => first | k_exc | rfl)
    (case k_0 => first | k_is | rfl)
    (case b_0 => first | k_is | rfl)
    (case t_0 => first | k_is | rfl)
    (case ga_0 => first | k_is | rfl)
    (case gt_0 => first | k_is | rfl)
    (case hd_0 => first | k_is | rfl)
    (case hc_0 => first | k_is | rfl)
    (case hm_0 => first | k_is | rfl)
    (case v_0 => first | k_is | rfl)
    (case y_0_0 => first | k_is | rfl)
    (case y_0_1 => first | k_is | rfl)
    (case y_0_2 => first | k_is | rfl)
    (case x_1 => first | k_exc | rfl)
    (case k_1 => first | k_is | rfl)
    (case b_1 => first | k_is | rfl)
    (case t_1 => first | k_is | rfl)
    (case ga_1 => first | k_is | rfl)
    (case gt_1 => first | k_is | rfl)
    (case hd_1 => first | k_is | rfl)
    (case hc_1 => first | k_is | rfl)
    (case hm_1 => first | k_is | rfl)
    (case v_1 => first | k_is | rfl)
    (case y_1_0 => first | k_is | rfl)
    (case y_1_1 => first | k_is | rfl)
    (case y_1_2 => first | k_is | rfl)
    (case x_2 => first | k_exc | rfl)
    (case k_2 => first | k_is | rfl)
    (case b_2 => first | k_is | rfl)
    (case t_2 => first | k_is | rfl)
    (case ga_2 => first | k_is | rfl)
    (case gt_2 => first | k_is | rfl)
    (case hd_2 => first | k_is | rfl)
    (case hc_2 => first | k_is | rfl)
    (case hm_2 => first | k_is | rfl)
    (case v_2 => first | k_is | rfl)
    (case y_2_0 => first | k_is | rfl)
    (case y_2_1 => first | k_is | rfl)
    (case y_2_2 => first | k_is | rfl)
    (case sn => first | k_is | rfl)
    (case st => first | k_is | rfl)
