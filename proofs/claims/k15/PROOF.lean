import PyProof.Rows.All
import Wide.All
import OpenK.AllK
import Wide.FinOn
import KE.GoesMore
import KE.GoesEnum
import HandS.Base
import HandS.Call
import HandS.List
import HandS.Comp
import HandS.Dict
import HandS.Iter
import HandS.Walk
import HandS.Exc
import HandS.ExcOwn
import Flt.Len
import HandS.ForMost
import HandS.ForExc
import HandS.Wide
import HandS.IsInst
import HandS.ExcIs
import HandS.Conv
import HandS.TupAny
import HandS.SetFor
import HandS.Style
import HandS.CallSlots
import HandS.Codes
import PyProof.ReprBulk
import PyProof.ReprRoads
import HandS.Gcd
import HandS.Zip
import HandS.TupMul
import KE.KMathGC
import HandS.SortInts
import PySem.Challenge.RW_heldbehind_k15_faults_of_stages
set_option Elab.async false
set_option linter.all false
set_option maxRecDepth 100000
set_option maxHeartbeats 4000000
/-! Z0: rules of my own beside the hand layer: enumerate over a tuple, powers of great ints, an own error without arguments, list.count of flat items. -/
namespace L2
open PySem PySem.Spec PyProof.Rows
/-! ### enumerate(tuple) -/
theorem zen_new (t : Addr) (items : Array Value) :
    Meets (Builtin.«enumerate.__new__» ⟨[.type "enumerate", .ref t], []⟩) (fun _ R s => s.heap.IsTuple t items ∧
      R (.ok (.ret (.ref (s.heap.push { cls := .type "tuple_iterator", data := .fields #[.ref t, .int 0 0] }).objs.size)))
        { s with heap := (s.heap.push { cls := .type "tuple_iterator", data := .fields #[.ref t, .int 0 0] }).push { cls := .type "enumerate", data := .fields #[.none, .bool false, .ref s.heap.objs.size, rawInt 0, .none, .none] } }) :=
  .of_wp fun prog w A R s hs => by
    obtain ⟨hp, g, d, tk, os⟩ := s; obtain ⟨ht, hs⟩ := hs
    have hsb := sub_enumerate
    have q1 : ∀ {A' : Around} {E : Value → Shared → Prop} {Q : Value → Shared → Prop}, Q (.ref hp.objs.size) ⟨hp.push { cls := .type "tuple_iterator", data := .fields #[.ref t, .int 0 0] }, g, d, tk, os⟩ → wpAny (model prog w) A' (pyIter (.ref t)) Q E ⟨hp, g, d, tk, os⟩ :=
      fun q => wpAny_pyIter_tuple (s := ⟨hp, g, d, tk, os⟩) ht q
    wp_walk using q1
    refine wpAny_stack_any fun st => wpAny_pure ?_
    split
    · rename_i c _ _ _ _ _
      cases hce : (c == Value.type "enumerate")
      · wp_walk using q1
        exact ⟨_, rfl, hs⟩
      · wp_walk using q1
        exact ⟨_, rfl, hs⟩
    · wp_walk using q1
      exact ⟨_, rfl, hs⟩
section
variable {prog : Program} {w : World} {A : Around} {E : Value → Shared → Prop} {s : Shared}
theorem zen_call {t : Addr} {items : Array Value} {Q : Value → Shared → Prop} (ht : s.heap.IsTuple t items)
    (h : ∀ h', IsEnum h' (s.heap.objs.size + 1) s.heap.objs.size 0 .none → h'.IsTupleIter s.heap.objs.size t 0 →
      (∀ b o, s.heap.get? b = some o → h'.get? b = some o) → Q (.ref (s.heap.objs.size + 1)) { s with heap := h' }) :
    wpAny (model prog w) A (call (.type "enumerate") [.ref t]) Q E s := by
  refine callType_new F.called_enumerate (by decide) (F.typeCall_enumerate_1 _) (F.newCall_enumerate_1 _) (fun obj => F.args_object_init_2 obj _) F.entry_enumerate_new (zen_new t items) ⟨ht, ?_⟩
  have hz : (s.heap.push { cls := .type "tuple_iterator", data := .fields #[.ref t, .int 0 0] }).objs.size = s.heap.objs.size + 1 := Heap.size_push ..
  show _ ∧ _
  rw [hz]
  have he := Heap.get?_push_size (s.heap.push { cls := .type "tuple_iterator", data := .fields #[.ref t, .int 0 0] }) (o := { cls := .type "enumerate", data := .fields #[.none, .bool false, .ref s.heap.objs.size, rawInt 0, .none, .none] }) rfl
  rw [hz] at he
  refine ⟨⟨_, he, rfl⟩, h _ he ⟨_, Heap.get?_push_of_some _ (Heap.get?_push_size _ rfl), rfl, rfl⟩ fun b o e => Heap.get?_push_of_some _ (Heap.get?_push_of_some _ e)⟩
end
/-- the tuple at a as it stands at each turn, each item in a new pair -/
def IteT (K : PySem.W.Frag) (a : Addr) : It :=
  ⟨fun i H => ∃ (xs : List V) (x : V), SqT K H a xs ∧ xs[i]? = some x, fun i H v H' => ∃ T x, v = .ref T ∧ H T = none ∧ H' = upd H T (.tup [.int (i : Nat), x]) ∧ ∀ ys, SqT K H a ys → ys[i]? = some x, fun i H => ∃ xs : List V, SqT K H a xs ∧ xs.length = i⟩
theorem zen_turn {P : Program} {w : World} {K : PySem.W.Frag} {elts : List Expr} {kk : Nat} {tpos : Pos} (a e it : Addr) :
    Turn P w K (.Tuple elts kk tpos) (IteT K a) [e, it] e (fun i h => (∃ old, IsEnum h e it ((i : Nat) : Int) old) ∧ h.IsTupleIter it a i ∧ e ≠ it) where
  mem := by simp
  obj := fun i h st b hb => by
    obtain ⟨⟨old, he⟩, ⟨o, ho, hc, hd⟩, _⟩ := st
    have e' : b = e ∨ b = it := by simpa using hb
    rcases e' with z | z
    · exact ⟨_, by rw [z]; exact he, fun v q => by cases q⟩
    · exact ⟨o, by rw [z]; exact ho, fun v q => by rw [hd] at q; cases q⟩
  keep := fun i h h' st k => let ⟨⟨old, he⟩, hi, hne⟩ := st; ⟨⟨old, k e (by simp) _ he⟩, hi.at fun o q => k it (by simp) o q, hne⟩
  item := by
    intro X hP hw hK hc i pins s σ H E I hf st hg
    subst hP hw hK
    obtain ⟨⟨old, he⟩, hit, hne⟩ := st
    obtain ⟨xs, x, hq, hx⟩ := hg
    obtain ⟨its, rv, p, hz⟩ := I.tuple hq
    obtain ⟨u, hu, ru⟩ := rv.get hx
    have hel : e < s.heap.objs.size := Heap.lt_size he
    have hil : it < s.heap.objs.size := by obtain ⟨_, q, _⟩ := hit; exact Heap.lt_size q
    have hai : a ≠ it := by
      intro z
      obtain ⟨o1, q1, c1, _⟩ := p
      obtain ⟨o2, q2, c2, _⟩ := hit
      rw [z, q2] at q1
      cases q1
      rw [c2] at c1
      exact absurd c1 (by decide)
    have hae : a ≠ e := by
      intro z
      obtain ⟨o1, q1, c1, _⟩ := p
      rw [z] at q1
      have q3 := he.symm.trans q1
      cases q3
      have c2 : ("enumerate" : String) = "tuple" := Value.type.inj c1
      exact absurd c2 (by decide)
    have hlt : i < its.toArray.size := by
      have := (List.getElem?_eq_some_iff.mp hu).1
      simpa using this
    have D := Draws.tuple (prog := X.prog) (w := X.w) (A := X.A.in1) (I.ok.hd hc) it a hai its.toArray
    refine wpAny_pyNext_enum_itemD D he ⟨hit, p⟩ hlt hne (by simp [hne, Ne.symm hae]) fun y h' tk hy ho hst hT hsz hk => ?_
    have ey : y = u := by
      have q4 : its[i]? = some y := by simpa using hy
      rw [hu] at q4
      exact (Option.some.inj q4).symm
    subst ey
    refine ⟨_, rfl, wpAny_letOwnedTupleGo_enum (s := { s with heap := h', toks := tk + 1 }) ho fun h'' he' sb => ?_⟩
    have hT2 : h''.get? s.heap.objs.size = some { cls := .type "tuple", data := .seq #[.int i tk, y] } := (sb.2 _ (Nat.ne_of_gt hel)).trans hT
    have new : ObjOk X.prog X.w (upd H s.heap.objs.size (.tup [.int (i : Nat), x])) h'' s.heap.objs.size (.tup [.int (i : Nat), x]) :=
      ⟨by show 2 ≤ sizeLine; decide, [.int i tk, y], .cons ⟨_, rfl⟩ (.cons ru .nil), ⟨_, hT2, rfl, _, rfl⟩⟩
    have I1 : Inv X pins σ (upd H s.heap.objs.size (.tup [.int (i : Nat), x])) { s with heap := h'', toks := tk + 1 } :=
      I.turnedNew (ch := [e, it]) (fun b ob hb q => (sb.2 b (fun z => hb (by simp [z]))).trans (hk b ob (fun z => hb (by simp [z])) (fun z => hb (by simp [z])) q)) hf (Nat.le_refl _) new
    refine ⟨.ref s.heap.objs.size, _, I1, rfl, ⟨_, x, rfl, I.hok.fresh (Nat.le_refl _), rfl, fun ys hy => by rw [I.tuple_inj hy hq]; exact hx⟩, ⟨⟨y, ?_⟩, hst.1.at fun o q => (sb.2 it (Ne.symm hne)).trans q, hne⟩, fun b hb => ?_⟩
    · have e1 : ((i + 1 : Nat) : Int) = (i : Int) + 1 := by omega
      rw [e1]; exact he'
    · have hb' : b < s.heap.objs.size := by
        rcases (by simpa using hb : b = e ∨ b = it) with z | z
        · rw [z]; exact hel
        · rw [z]; exact hil
      rw [upd_ne (Nat.ne_of_lt hb')]; exact (hf b hb).1
  done := by
    intro X hP hw hK hc i pins s σ H E I hf st hg
    subst hP hw hK
    obtain ⟨⟨old, he⟩, hit, hne⟩ := st
    obtain ⟨xs, hq, hx⟩ := hg
    obtain ⟨its, rv, p, hz⟩ := I.tuple hq
    obtain ⟨f0, f1, f2, f3, f4, f5⟩ := hf it (by simp)
    have hl := rv.length
    have hai : a ≠ it := by
      intro z
      obtain ⟨o1, q1, c1, _⟩ := p
      obtain ⟨o2, q2, c2, _⟩ := hit
      rw [z, q2] at q1; cases q1
      rw [c2] at c1
      exact absurd c1 (by decide)
    have hn : its.toArray.size = i := by simp only [List.size_toArray]; omega
    have D := Draws.tuple (prog := X.prog) (w := X.w) (A := X.A.in1) (I.ok.hd hc) it a hai its.toArray
    rw [hn] at D
    exact wpAny_pyNext_enum_endD D he ⟨hit, p⟩ fun h' eb => ⟨rfl, I.turned (t' := s.toks) (fun b o hb q => eb b o hb q) f0 f1 f3 f4 f5⟩
  self := fun A i s Q E st h => let ⟨⟨_, he⟩, _⟩ := st; wpAny_pyIter_enum he h
def iEnumT (K : PySem.W.Frag) (ta : TA) : TI := fun σ H R => ta σ H fun vs H1 => ∃ a xs, vs = [.ref a] ∧ SqT K H1 a xs ∧ R (IteT K a) H1
theorem pi_enumT {X : Cx} {e : Expr} {ta : TA} {p pos tpos : Pos} {elts : List Expr} {kk : Nat} (hg : Gl X "enumerate") (hm : X.mg "enumerate" = none) (ha : PA X [e] ta) (hs : starEach [e] X.env = [(false, eval e X.env)] := by rfl) :
    PI X (.Tuple elts kk tpos) (.Call (.Name "enumerate" p) [e] [] pos) (iEnumT X.K ta) := by
  refine ⟨fun pins s σ H R I h => Call_ (ld_blt I hg hm boot_enumerate (PyProof.Rows.callWith_type1 (thn (ha.run pos pins s σ H _ I h) fun us s1 ⟨vs, H1, I1, r1, q1⟩ => ?_) hs rfl))⟩
  obtain ⟨a, xs, ex, hq, q⟩ := q1
  subst ex
  cases r1 with
  | cons r rr =>
    cases rr; cases r
    obtain ⟨its, rv, p', hz⟩ := I1.tuple hq
    refine zen_call p' fun h' he hit hk => wpAny_pyIter_enum he ?_
    have I2 : Inv X pins σ H1 { s1 with heap := h' } := I1.kept (t' := s1.toks) hk
    refine ⟨s1.heap.objs.size + 1, [s1.heap.objs.size + 1, s1.heap.objs.size], _, _, H1, rfl, I2, zen_turn a (s1.heap.objs.size + 1) s1.heap.objs.size, ⟨⟨.none, he⟩, hit, Nat.succ_ne_self _⟩, fun b hb => ?_, q⟩
    have hle : s1.heap.objs.size ≤ b := by
      rcases (by simpa using hb : b = s1.heap.objs.size + 1 ∨ b = s1.heap.objs.size) with z | z
      · rw [z]; exact Nat.le_add_right _ _
      · rw [z]; exact Nat.le_refl _
    exact I1.fpOk hle (I1.hok.fresh hle)
theorem walk_enumT {K : PySem.W.Frag} {a : Addr} {xs : List V} : Walk (IteT K a) xs.length (fun H => SqT K H a xs) (YPair (fun i => some (.int (i : Nat))) (fun i => xs[i]?)) := by
  refine ⟨fun i _ hi q => ⟨xs, xs[i], q, by simp [hi]⟩, fun _ q => ⟨xs, q, rfl⟩, fun i H v H' _ q ⟨T, x, h1, h2, h3, h4⟩ => ⟨T, .int (i : Nat), x, h1, h2, h3, rfl, h4 xs q⟩⟩
/-! ### powers -/
def CPowW (i j : Int) : Prop := 0 ≤ j ∧ (Builtin.Int.intBits i : Int) * j ≤ 2 ^ 27
theorem op_powW {X : Cx} : OpR X (binaryOp .Pow) (rI CPowW fun i j => .int (i ^ j.toNat)) := opI fun _ _ _ _ _ _ _ hc q => pow_int hc.1 hc.2 q
theorem cpow3 {i : Int} {b : Nat} (h : i.natAbs < 2 ^ b) (hb : 0 < b) (h9 : b ≤ 9000) : CPowW i 3 := by
  refine ⟨by decide, ?_⟩
  have z : Builtin.Int.intBits i ≤ b := by
    unfold Builtin.Int.intBits
    have y := PySem.Flt.log2_lt_of hb h
    split <;> omega
  have e : (2 : Int) ^ 27 = 134217728 := by decide
  rw [e]; omega
/-! ### an own error without arguments -/
theorem pmk_own0 {X : Cx} {C : Addr} {bmB : List Value} {B newId initId : String} {x : Str} {p pos : Pos} (F : ExcBaseFacts B newId initId bmB) (q : PySem.W.excIn X.K C bmB newId = true) (gC : X.mg x = some (.ref C)) (kC : PySem.W.keepIn X.K (.ref C) = true) (r : Raises X (.ref C)) (hg : Gl X x)
    (hdb : (x == ("__debug__" : Str)) = false := by decide) : PMk X (.Call (.Name x p) [] [] pos) (fun _ H Q => Q (.ref C) none H) := by
  intro pins s σ H Q I h
  refine wpAny_Call_Name_kw (ld_glob I hg gC ?_ hdb)
  refine PySem.W.callWith_K0 I.kIn kC ?_
  obtain ⟨bm, N, nm, qn, bs, hdct, sn, sub, ab, col, dd, k0, k1, k2, k3, k5, mN, hC, hN, hni, T⟩ := exc_obj I.kIn q
  exact wpAny_call_exc_subT F T hC hN hni (fun h' e hm => mk_of I hm r h (I.hok.gone hm.new)) (Nat.zero_le _)
/-! ### list.count of flat items -/
def cntV (y : V) (xs : List V) : Nat := xs.countP fun z => eqV z y
theorem count_eqU {x : V} : ∀ {xs : List V} {us : List Value}, Vals xs us → xs.all flatV = true → us.countP (eqU x) = cntV x xs
  | _, _, .nil, _ => rfl
  | y :: xs, u :: us, .cons r t, f => by
    rw [List.all_cons, Bool.and_eq_true] at f
    unfold cntV
    rw [List.countP_cons, List.countP_cons, eqU_of r f.1, count_eqU t f.2]; rfl
def rCntV (K : PySem.W.Frag) : V → List V → Hp → VK → Prop := fun x xs H Q => ∃ (a : Addr) (ys : List V) (y : V), x = .ref a ∧ xs = [y] ∧ SqL K H a ys ∧ flatV y = true ∧ ys.all flatV = true ∧ Q (.int (cntV y ys : Nat)) H
theorem mt_lcountV {X : Cx} : MtR X "list.count" (rCntV X.K) := by
  intro pins s σ H x xs v us Q I rx rxs h
  obtain ⟨a, ys, y, rfl, rfl, hs, fy, fys, q⟩ := h
  cases rx
  obtain ⟨u, rfl, ru⟩ := rxs.one
  obtain ⟨its, rv, ⟨⟨cls, dd, data, sl⟩, n, ho, hc, hdn, hd⟩, hlen⟩ := I.list hs
  simp only at hc hd
  subst hc hd
  refine call_meets PySem.F.slot_list_count ⟨_, ho, rfl⟩ PySem.F.entry_list_count (PySem.F.args_list_count_2 _ _) (SeqAt.list_countAt a its.toArray n dd sl u (eqU y)) ⟨ho, fun z hz => mem_eqAt ru fy rv fys z (by simpa using hz), ?_⟩
  exact ⟨.int (cntV y ys : Nat), H, I.tok _, ⟨s.toks, by rw [← count_eqU rv fys]⟩, q⟩
end L2

namespace L2
open PySem PySem.Spec PyProof.Rows
/-! ### a def of the text with its name, and one that keeps its promise -/
structure Df (K : PySem.W.Frag) (mg : Str → Option Value) (x : Str) (st : Stmt) (ps : List Str) : Prop where
  ex : ∃ (f : Addr) (fd : FuncData), Fun K x x st f fd ∧ mg x = some (.ref f) ∧ Binds K fd ps [] ∧
    ∃ (kV doc pm : Value) (an : Option Addr) (cdv ct : Value), fd = PySem.W.fnOf x x (defArgs st) (defBody st) (defScope st) .none kV doc pm an cdv ct
structure Kn (P : Program) (w : World) (K : PySem.W.Frag) (mg : Str → Option Value) (base : Heap) (CX : CXT) (k : Nat) (x : Str) (st : Stmt) (ps : List Str) (sp : Sp) : Prop where
  ex : ∃ (f : Addr) (fd : FuncData), FnOk P w K mg base CX k f fd ps sp ∧ mg x = some (.ref f) ∧ PySem.W.keepIn K (.ref f) = true ∧ Binds K fd ps [] ∧
    ∃ (kV doc pm : Value) (an : Option Addr) (cdv ct : Value), fd = PySem.W.fnOf x x (defArgs st) (defBody st) (defScope st) .none kV doc pm an cdv ct
section
variable {P : Program} {w : World} {K : PySem.W.Frag} {mg : Str → Option Value} {base : Heap} {x : Str} {st : Stmt} {ps N : List Str} {k : Nat} {sp : Sp}
theorem Df.mk' {f : Addr} {oc : Value} {od an : Option Addr} {osl : Array (Option Value)} {kV doc pm cdv ct : Value} (l : K.lookup f = some ⟨oc, od, .func (PySem.W.fnOf x x (defArgs st) (defBody st) (defScope st) .none kV doc pm an cdv ct), osl⟩)
    (c : PySem.W.codeIn K cdv x = true) (kp : PySem.W.keepIn K (.ref f) = true) (g : mg x = some (.ref f))
    (h : ∀ (kV doc pm : Value) (an : Option Addr) (cdv ct : Value) (us : List Value), us.length = ps.length → bindArgs (PySem.W.fnOf x x (defArgs st) (defBody st) (defScope st) .none kV doc pm an cdv ct) ⟨us, []⟩ = pure (ps.zip us)) : Df K mg x st ps :=
  ⟨f, _, fun_mk l c kp, g, (fun_mk l c kp).binds h, _, _, _, _, _, _, rfl⟩
theorem Df.ok (D : Df K mg x st ps) (S : FnScope N ps (defScope st)) (len : ∀ vs H Q E, sp vs H Q E → vs.length = ps.length)
    (hb : ∀ (f : Addr) (cdv : Value) (A : Around) (outer : List Env) (s : Shared) (H : Hp) (vs : List V) (Q : VK) (E : XK), Room k (A.deeper (envOfC x (defScope st) s.heap.objs.size f cdv)) → sp vs H Q E →
      ∃ t, PSs (cxOf CX0 P w K mg base N x (defScope st) f cdv A outer s H E).nox (defBody st) t ∧ t { nx := fun _ H' => Q .non H', rt := Q } (start N vs) H) : Kn P w K mg base CX0 (k + 1) x st ps sp := by
  obtain ⟨f, fd, F, g, b, e⟩ := D.ex
  exact ⟨f, fd, F.ok S len fun cdv A outer s H vs Q E hr h => hb f cdv A outer s H vs Q E hr h, g, F.kp, b, e⟩
theorem Df.okX (D : Df K mg x st ps) (S : FnScope N ps (defScope st)) (len : ∀ vs H Q E, sp vs H Q E → vs.length = ps.length)
    (hb : ∀ (f : Addr) (cdv : Value) (A : Around) (outer : List Env) (s : Shared) (H : Hp) (vs : List V) (Q : VK) (E : XK), Room k (A.deeper (envOfC x (defScope st) s.heap.objs.size f cdv)) → sp vs H Q E →
      ∃ t, PSs (cxOf (L2.CX P w) P w K mg base N x (defScope st) f cdv A outer s H E) (defBody st) t ∧ t { nx := fun _ H' => Q .non H', rt := Q } (start N vs) H) : Kn P w K mg base (L2.CX P w) (k + 1) x st ps sp := by
  obtain ⟨f, fd, F, g, b, e⟩ := D.ex
  exact ⟨f, fd, F.okX S len fun cdv A outer s H vs Q E hr h => hb f cdv A outer s H vs Q E hr h, g, F.kp, b, e⟩
end
section
variable {X : Cx} {CX : CXT} {k : Nat} {x : Str} {st : Stmt} {ps ks : List Str} {sp : Sp} {E : XK} {p pos : Pos} {e : Expr} {es : List Expr} {kws : List Keyword} {t tk : TA}
theorem pe_callF (h : Kn X.prog X.w X.K X.mg X.base CX k x st ps sp) (hr : Room k X.A) (hx : Passes CX X E) (ha : PA X (e :: es) t) (hg : Gl X x := by rfl)
    (hdb : (x == ("__debug__" : Str)) = false := by decide) (he : starEach (e :: es) X.env = (false, eval e X.env) :: starEach es X.env := by rfl) (hpl : (backTo pos (starEach es X.env)).any (·.1) = false := by rfl) :
    PE X (.Call (.Name x p) (e :: es) [] pos) (tCall sp [] E t) := by
  obtain ⟨f, fd, F, g, kp, b, _⟩ := h.ex
  exact pe_call F hr hg g kp b .nil hx ha hdb he hpl
theorem pe_callF0 (h : Kn X.prog X.w X.K X.mg X.base CX k x st ps sp) (hr : Room k X.A) (hx : Passes CX X E) (hg : Gl X x := by rfl) (hdb : (x == ("__debug__" : Str)) = false := by decide) : PE X (.Call (.Name x p) [] [] pos) (tCall sp [] E tNil) := by
  obtain ⟨f, fd, F, g, kp, b, _⟩ := h.ex
  exact pe_call0 F hr hg g kp b .nil hx hdb
theorem pe_callFS {E : St → XK} (h : Kn X.prog X.w X.K X.mg X.base CX k x st ps sp) (hr : Room k X.A) (hx : ∀ σ, PassesAt CX X σ (E σ)) (ha : PA X (e :: es) t) (hg : Gl X x := by rfl)
    (hdb : (x == ("__debug__" : Str)) = false := by decide) (he : starEach (e :: es) X.env = (false, eval e X.env) :: starEach es X.env := by rfl) (hpl : (backTo pos (starEach es X.env)).any (·.1) = false := by rfl) :
    PE X (.Call (.Name x p) (e :: es) [] pos) (tCallS sp E t) := by
  obtain ⟨f, fd, F, g, kp, b, _⟩ := h.ex
  exact pe_callS F hr hg g kp b hx ha hdb he hpl
/-- how keywords bind, whatever the def's loose parts are -/
def KwB (x : Str) (st : Stmt) (ps ks : List Str) (g : List Value → List Value → List Value) (gV : List V → List V → List V) : Prop :=
  (∀ (kV doc pm : Value) (an : Option Addr) (cdv ct : Value) (us ws : List Value), (g us ws).length = ps.length →
    bindArgs (PySem.W.fnOf x x (defArgs st) (defBody st) (defScope st) .none kV doc pm an cdv ct) ⟨us, ks.zip ws⟩ = pure (ps.zip (g us ws))) ∧
  ∀ {vs : List V} {us : List Value} {zs : List V} {ws : List Value}, Vals vs us → Vals zs ws → Vals (gV vs zs) (g us ws)
variable {g : List Value → List Value → List Value} {gV : List V → List V → List V}
theorem pe_callFK (h : Kn X.prog X.w X.K X.mg X.base CX k x st ps sp) (hr : Room k X.A) (hb : KwB x st ps ks g gV) (hx : Passes CX X E) (ha : PA X (e :: es) t) (hkw : PK X kws tk) (hg : Gl X x := by rfl)
    (hall : (backToKw pos (keywordEach kws X.env)).all (·.1.isSome) = true := by rfl) (hks : (backToKw pos (keywordEach kws X.env)).filterMap (·.1) = ks := by rfl)
    (hdb : (x == ("__debug__" : Str)) = false := by decide) (he : starEach (e :: es) X.env = (false, eval e X.env) :: starEach es X.env := by rfl)
    (hpl : ((backTo pos (starEach (e :: es) X.env)).any (·.1) || (backToKw pos (keywordEach kws X.env)).any (·.1.isNone)) = false := by rfl) :
    PE X (.Call (.Name x p) (e :: es) kws pos) (tCallK sp gV E t tk) := by
  obtain ⟨f, fd, F, gm, kp, b, kV, doc, pm, an, cdv, ct, rfl⟩ := h.ex
  exact pe_callK F hr hg gm kp ⟨fun s us ws _ hl => .of_eq (hb.1 kV doc pm an cdv ct us ws hl), hb.2⟩ hx ha hkw hall hks hdb he hpl
/-- f(k = v, ..), no positional -/
theorem pe_callFK0 (h : Kn X.prog X.w X.K X.mg X.base CX k x st ps sp) (hr : Room k X.A) (hb : KwB x st ps ks g gV) (hx : Passes CX X E) (hkw : PK X kws tk) (hg : Gl X x := by rfl)
    (hall : (backToKw pos (keywordEach kws X.env)).all (·.1.isSome) = true := by rfl) (hks : (backToKw pos (keywordEach kws X.env)).filterMap (·.1) = ks := by rfl)
    (hdb : (x == ("__debug__" : Str)) = false := by decide)
    (hpl : ((backTo pos (starEach [] X.env)).any (·.1) || (backToKw pos (keywordEach kws X.env)).any (·.1.isNone)) = false := by rfl) :
    PE X (.Call (.Name x p) [] kws pos) (tCallK sp gV E tNil tk) := by
  obtain ⟨f, fd, F, gm, kp, b, kV, doc, pm, an, cdv, ct, rfl⟩ := h.ex
  have hbb : KBinds X.K (PySem.W.fnOf x x (defArgs st) (defBody st) (defScope st) .none kV doc pm an cdv ct) ps ks g gV := ⟨fun s us ws _ hl => .of_eq (hb.1 kV doc pm an cdv ct us ws hl), hb.2⟩
  refine ⟨fun pins s σ H Q I hq => wpAny_Call_Name_kw (ld_glob I hg gm ?_ hdb)⟩
  refine PySem.W.callWith_KW0 (h₀ := X.base) I.ok.mod.kin kp hall (thn (hkw.run pos pins s σ H _ I hq) fun ws s2 ⟨zs, H2, I2, rz, q2⟩ => ⟨I2.kIn, ?_⟩) hpl
  rw [hks]
  exact run_fnk F hr hbb hx I2 .nil rz q2
end
/-! ### rules whose reading names K outright (for a comprehension's block) -/
def rLenK (K : PySem.W.Frag) : List V → Hp → VK → Prop := fun xs H Q => ∃ x n, xs = [x] ∧ LenV K x H n ∧ Q (.int n) H
theorem call_lenK {X : Cx} (K : PySem.W.Frag) (e : X.K = K := by rfl) : CallR X (.builtin "len") (rLenK K) := by subst e; exact call_len
theorem call_isiK1 {X : Cx} (K : PySem.W.Frag) (e : X.K = K := by rfl) : CallR X (.builtin "isinstance") (rIsi K) := by subst e; exact call_isi
theorem ix_listK {X : Cx} (K : PySem.W.Frag) (e : X.K = K := by rfl) : IxR X (rIxL K) := by subst e; exact ix_list
theorem ix_tupK {X : Cx} (K : PySem.W.Frag) (e : X.K = K := by rfl) : IxR X (rIxT K) := by subst e; exact ix_tup
theorem op_in_seqK {X : Cx} (K : PySem.W.Frag) (e : X.K = K := by rfl) : OpR X (compareOp .In) (rIn K false) := by subst e; exact op_in_seq
theorem op_notIn_seqK {X : Cx} (K : PySem.W.Frag) (e : X.K = K := by rfl) : OpR X (compareOp .NotIn) (rIn K true) := by subst e; exact op_notIn_seq
theorem op_eqDK {X : Cx} (K : PySem.W.Frag) (hu : X.A.units + 64 < cLine) (e : X.K = K := by rfl) : OpR X (compareOp .Eq) (rEqD K) := by subst e; exact op_eqD hu
theorem op_neDK {X : Cx} (K : PySem.W.Frag) (hu : X.A.units + 64 < cLine) (e : X.K = K := by rfl) : OpR X (compareOp .NotEq) (rNeD K) := by subst e; exact op_neD hu
/-! ### heaps -/
theorem Same.upd {H H' : Hp} {p : Addr} {o : HO} (s : Same H H') (h : H p = none) : Same H (upd H' p o) := fun b u e => by
  rw [upd_ne (ne_of_none e h)]; exact s b u e
theorem Same.new {H H' : Hp} {p : Addr} {o : HO} (s : Same H H') (h : H' p = none) : Same H (L2.upd H' p o) := s.upd (s.free h)
theorem Same.tseq {K : PySem.W.Frag} {H H' : Hp} {a : Addr} {xs : List V} (e : Same H H') (h : SqT K H a xs) : SqT K H' a xs := by
  rcases h with (h | ⟨o, h⟩) | h
  · exact .inl (.inl (e _ _ h))
  · exact .inl (.inr ⟨o, e _ _ h⟩)
  · exact .inr h
/-- all but what stands at a is as it was -/
def Keep (a : Addr) (H H' : Hp) : Prop := ∀ b o, b ≠ a → H b = some o → H' b = some o
theorem Keep.refl (a : Addr) (H : Hp) : Keep a H H := fun _ _ _ h => h
theorem Keep.trans {a : Addr} {H H1 H2 : Hp} (x : Keep a H H1) (y : Keep a H1 H2) : Keep a H H2 := fun b o hb h => y b o hb (x b o hb h)
theorem Same.keep {a : Addr} {H H' : Hp} (s : Same H H') : Keep a H H' := fun b o _ h => s b o h
theorem Keep.upd (a : Addr) (H : Hp) (o : HO) : Keep a H (upd H a o) := fun b u hb h => by rw [upd_ne hb]; exact h
theorem Keep.new {a p : Addr} {H H' : Hp} {o : HO} (x : Keep a H H') (h : H' p = none) : Keep a H (L2.upd H' p o) := fun b u hb e => by
  have q := x b u hb e
  rw [upd_ne (ne_of_none q h)]; exact q
end L2

/-! Z2: promises of defs that are called where no repr is under way; repr; a tuple held against (). -/
namespace L2
open PySem PySem.Spec PyProof.Rows
/-! ### promises that hold where no repr is under way -/
structure Qui (P : Program) (w : World) (K : PySem.W.Frag) (mg : Str → Option Value) (base : Heap) (k : Nat) (f : Addr) (fd : FuncData) (ps : List Str) (sp : Sp) : Prop where
  many : ∀ vs H Q E, sp vs H Q E → vs.length = ps.length
  go : ∀ (A : Around) (outer : List Env) (s : Shared) (H : Hp) (args : Args) (us : List Value) (vs : List V) (Q : VK) (E : XK), Room k A → A.guards = some [] → Env0 P w K mg base A outer s H → BindsTo s fd args (ps.zip us) →
    Vals vs us → sp vs H Q E → codeAny (model P w) A (.call (.ref f) args) (CR CX0 outer P w H s Q E) s
structure KnQ (P : Program) (w : World) (K : PySem.W.Frag) (mg : Str → Option Value) (base : Heap) (k : Nat) (x : Str) (st : Stmt) (ps : List Str) (sp : Sp) : Prop where
  ex : ∃ (f : Addr) (fd : FuncData), Qui P w K mg base k f fd ps sp ∧ mg x = some (.ref f) ∧ PySem.W.keepIn K (.ref f) = true ∧ Binds K fd ps []
theorem fin_flow {X : Cx} {outer : List Env} {P : Program} {w : World} {H : Hp} {s s' : Shared} {Q : VK} {E : XK} {fl : Flow} (hp : X.prog = P) (hw : X.w = w) (h0 : X.s_0 = s) (hH : X.H_0 = H) (hf : X.fs = frs outer) (he : X.ex = []) :
    SP X [] { nx := fun _ H' => Q .non H', rt := Q } fl s' → CR CX0 outer P w H s Q E (.ok (.ret (match fl with | .ret v => v | _ => .none))) s' := by
  intro h
  subst hp hw h0 hH
  have last : ∀ {σ : St} {H' : Hp} {v : V} {u : Value}, Inv X [] σ H' s' → RelV v u → Q v H' → CE outer X.prog X.w X.H_0 X.s_0 Q u s' := by
    intro σ H' v u I r q
    have b := I.base
    rw [hf, he] at b
    exact ⟨v, H', I.os, I.bare, b, I.hok, r, q⟩
  match fl, h with
  | .ret u, ⟨_, _, _, I, r, q⟩ => exact last I r q
  | .next, ⟨_, _, I, q⟩ => exact last (v := .non) (u := .none) I rfl q
  | .brk, ⟨_, _, _, q⟩ => exact q.elim
  | .cont, ⟨_, _, _, q⟩ => exact q.elim
section
variable {P : Program} {w : World} {K : PySem.W.Frag} {mg : Str → Option Value} {base : Heap} {x : Str} {st : Stmt} {ps N : List Str} {k : Nat} {sp : Sp}
theorem Fun.quiet {f : Addr} {fd : FuncData} (F : Fun K x x st f fd) (S : FnScope N ps (defScope st)) (many : ∀ vs H Q E, sp vs H Q E → vs.length = ps.length)
    (hb : ∀ (cdv : Value) (A : Around) (outer : List Env) (s : Shared) (H : Hp) (vs : List V) (Q : VK) (E : XK), Room k (A.deeper (envOfC x (defScope st) s.heap.objs.size f cdv)) → A.guards = some [] → sp vs H Q E →
      ∃ t, PSs (cxOf CX0 P w K mg base N x (defScope st) f cdv A outer s H E).nox (defBody st) t ∧ t { nx := fun _ H' => Q .non H', rt := Q } (start N vs) H) : Qui P w K mg base (k + 1) f fd ps sp := by
  refine ⟨many, ?_⟩
  obtain ⟨oc, od, kV, doc, pm, an, cdv, ct, osl, rfl, found, code⟩ := F.ex
  intro A outer s H args us vs Q E room quiet here binds vals promise
  have old : ∀ b o, base.get? b = some o → s.heap.get? b = some o := fun b o e => (here.bs b o e).1
  have kin := here.mod.kin.keeps old
  refine codeAny_call_function room.depth (kin _ _ found) rfl S.co S.gen rfl (PySem.W.codeRec_of kin code) (binds _ _ _ _ (wpAny_newFunctionEnv_cells S.kind ?_ ?_))
  · rintro ⟨n, v⟩ hy
    exact (S.par n (List.of_mem_zip hy).1).imp id fun z => ⟨z, PySem.W.cellsFrom_some _ _ _ (.inl z)⟩
  · rintro _ rfl s1 called
    obtain ⟨t, ht, h0⟩ := hb cdv A outer s H vs Q E (room.deeper _) quiet promise
    have I := inv_start (CX := CX0) (E := E) S room.hd here (many _ _ _ _ promise) vals called
    refine ⟨(here.mod.nolimit.keeps old).keeps called.toInCall.keep, codeAny_func ?_⟩
    exact wpAny_mono (ht.nox.run [] s1 _ H _ I h0) (fun _ _ h => fin_flow (X := cxOf CX0 P w K mg base N x (defScope st) f cdv A outer s H E) (outer := outer) (E := E) rfl rfl rfl rfl rfl rfl h) fun _ _ h => h
theorem Df.okQ (D : Df K mg x st ps) (S : FnScope N ps (defScope st)) (many : ∀ vs H Q E, sp vs H Q E → vs.length = ps.length)
    (hb : ∀ (f : Addr) (cdv : Value) (A : Around) (outer : List Env) (s : Shared) (H : Hp) (vs : List V) (Q : VK) (E : XK), Room k (A.deeper (envOfC x (defScope st) s.heap.objs.size f cdv)) → A.guards = some [] → sp vs H Q E →
      ∃ t, PSs (cxOf CX0 P w K mg base N x (defScope st) f cdv A outer s H E).nox (defBody st) t ∧ t { nx := fun _ H' => Q .non H', rt := Q } (start N vs) H) : KnQ P w K mg base (k + 1) x st ps sp := by
  obtain ⟨f, fd, F, g, b, e⟩ := D.ex
  exact ⟨f, fd, F.quiet S many fun cdv A outer s H vs Q E => hb f cdv A outer s H vs Q E, g, F.kp, b⟩
end
section
variable {X : Cx} {k : Nat} {x : Str} {st : Stmt} {ps : List Str} {sp : Sp} {E : XK} {p pos : Pos} {e : Expr} {es : List Expr} {t : TA}
theorem pe_callQ (h : KnQ X.prog X.w X.K X.mg X.base k x st ps sp) (hr : Room k X.A) (hq : X.A.guards = some []) (ha : PA X (e :: es) t) (hg : Gl X x := by rfl)
    (hdb : (x == ("__debug__" : Str)) = false := by decide) (he : starEach (e :: es) X.env = (false, eval e X.env) :: starEach es X.env := by rfl) (hpl : (backTo pos (starEach es X.env)).any (·.1) = false := by rfl) :
    PE X (.Call (.Name x p) (e :: es) [] pos) (tCall sp [] E t) := by
  obtain ⟨f, fd, F, gm, kp, b⟩ := h.ex
  constructor
  intro pins s σ H Q I h
  refine wpAny_Call_Name_kw (ld_glob I hg gm (PySem.W.callWith_K (h₀ := X.base) I.ok.mod.kin kp (thn (ha.run pos pins s σ H _ I h) ?_) he hpl) hdb)
  rintro us s1 ⟨vs, H1, J, r, q⟩
  rw [List.append_nil] at q
  refine ⟨J.kIn, wpAny_call (codeAny_mono (F.go X.A X.stack s1 H1 ⟨us, []⟩ us vs Q E hr hq J.env0 ?_ r q) ?_)⟩
  · have z := b s1 us J.kIn (by rw [List.append_nil, ← r.length]; exact F.many _ _ _ _ q)
    rw [List.append_nil] at z; exact z
  · rintro (e | fl) s' z
    · exact z.elim
    · match fl, z with
      | .ret u, z => exact J.after z
      | .next, z => exact z.elim
      | .brk, z => exact z.elim
      | .cont, z => exact z.elim
end
/-! ### a law whose def is such a one -/
/-- the heap in which just the script may be tracked -/
theorem script_hp {P : Program} {w : World} {K : PySem.W.Frag} {s : Shared} {a : Addr} {vs : List Value} {ns : List Int} (kin : K.In s.heap) (ha : s.heap.get? a = some { cls := .type "list", data := .seq vs.toArray }) (hi : IntsAre vs ns) (hl : ns.length ≤ sizeLine) :
    ∃ H : Hp, Only H ∧ SqL K H a (ns.map V.int) ∧ HOk P w H s.heap ∧ (∀ b o, H b = some o → b = a ∧ K.lookup a = none ∧ o = .frz { cls := .type "list", data := .seq vs.toArray } (.lst (ns.map V.int))) := by
  have r := vals_ints hi
  rcases hk : K.lookup a with _ | o
  · have off : ∀ b o, (if b = a then some (HO.frz { cls := .type "list", data := .seq vs.toArray } (.lst (ns.map V.int))) else none) = some o → b = a ∧ o = .frz { cls := .type "list", data := .seq vs.toArray } (.lst (ns.map V.int)) := fun b o z => by
      split at z
      · exact ⟨by assumption, (Option.some.inj z).symm⟩
      · cases z
    refine ⟨fun b => if b = a then some (.frz { cls := .type "list", data := .seq vs.toArray } (.lst (ns.map V.int))) else none, fun b => ?_, .inl (.inr ⟨_, if_pos rfl⟩), fun b o z => ?_, fun b o z => ⟨(off b o z).1, rfl, (off b o z).2⟩⟩
    · by_cases c : b = a
      · exact .inr ⟨_, _, if_pos c⟩
      · exact .inl (if_neg c)
    · obtain ⟨rfl, rfl⟩ := off b o z
      exact ⟨ha, by rw [List.length_map]; exact hl, vs, _, r, ha⟩
  · have z := ha.symm.trans (kin a o hk)
    cases z
    exact ⟨fun _ => none, fun _ => .inl rfl, .inr ⟨_, vs.toArray, _, hk, rfl, rfl, rfl, by rw [List.size_toArray, hi.length]; exact hl, by simpa using r⟩, fun _ _ z => (by cases z), fun _ _ z => (by cases z)⟩
theorem law_callQ {P : Program} {w : World} {K : PySem.W.Frag} {mg mb : Str → Option Value} {k : Nat} {fa a : Addr} {fd : FuncData} {x : Str} {sp : Sp} {s : Shared} {vs : List Value} {ns : List Int}
    (kin : K.In s.heap) (glob : s.heap.Ns mainGlobals mg) (blt : s.heap.Ns builtinsNs mb) (boot : ∀ x : Str, x ≠ "__name__" → mb x = bootBuiltins x) (lim : s.heap.NoLimit) (gens : s.gens = #[])
    (ha : s.heap.get? a = some { cls := .type "list", data := .seq vs.toArray }) (hi : IntsAre vs ns) (hl : ns.length ≤ sizeLine) (hr : Room k callerA)
    (F : ∀ base : Heap, K.In base → base.Ns mainGlobals mg → Qui P w K mg base k fa fd [x] sp) (bind : ∀ (s : Shared) (u : Value), BindsTo s fd ⟨[u], []⟩ [(x, u)])
    (hsp : ∀ H : Hp, Only H → SqL K H a (ns.map V.int) → sp [.ref a] H (fun v _ => v = .bl true) fun _ _ _ => False) :
    codeAny (model P w) callerA (.call (.ref fa) ⟨[.ref a], []⟩) (fun r s' => r = .ok (.ret (.bool true)) ∧ OldK s.heap s'.heap ∧ s'.os = s.os ∧ AllBare s'.gens) s := by
  obtain ⟨H, only, script, held, alone⟩ := script_hp (P := P) (w := w) kin ha hi hl
  -- what is not the script's object lies in the base
  have low : ∀ {b : Addr} {o : Obj}, s.heap.get? b = some o → (∀ xs n, o.data ≠ .seq xs n ∨ K.lookup b ≠ none) → (hidT s.heap H).get? b = some o := fun {b o} e d => by
    refine hidT_get e ?_
    rcases z : H b with _ | u
    · rfl
    · obtain ⟨rfl, n, _⟩ := alone b u z
      rw [ha] at e
      cases e
      rcases d vs.toArray 0 with y | y
      · exact absurd rfl y
      · exact absurd n y
  have spaces : ∀ {b : Addr} {m : Str → Option Value}, s.heap.Ns b m → (hidT s.heap H).Ns b m := fun ⟨o, es, ep, e, d, z⟩ => ⟨o, es, ep, low e fun xs n => .inl (by rw [d]; intro q; cases q), d, z⟩
  have kinB : K.In (hidT s.heap H) := fun b o e => low (kin b o e) fun xs n => .inr (by intro q; rw [e] at q; cases q)
  have room : Env0 P w K mg (hidT s.heap H) callerA [] s H :=
    ⟨rfl, ⟨kinB, spaces glob, ⟨mb, spaces blt, boot⟩, lim.imp fun mc z => ⟨spaces z.1, z.2⟩⟩, fun _ _ => of_hidT, Nat.le_of_eq (hidT_size _ _), trivial, fun b z => absurd (show b ∈ ([] : List Addr) from z) List.not_mem_nil, held, .of_eq gens⟩
  refine codeAny_mono ((F _ kinB (spaces glob)).go callerA [] s H ⟨[.ref a], []⟩ [.ref a] [.ref a] _ _ hr rfl room (bind s (.ref a)) (.cons rfl .nil) (hsp H only script)) ?_
  rintro (e | fl) s' z
  · exact z.elim
  match fl, z with
  | .next, z => exact z.elim
  | .brk, z => exact z.elim
  | .cont, z => exact z.elim
  | .ret u, ⟨v, H', os, bare, un, held', r, q⟩ =>
    cases (show v = V.bl true from q)
    cases (show u = Value.bool true from r)
    refine ⟨rfl, OldK.of_keep fun b o e => ?_, os, bare⟩
    rcases y : H b with _ | u
    · exact un.keep b o e y (fun z => absurd (show b ∈ ([] : List Addr) from z) List.not_mem_nil) (fun z => absurd (show b ∈ ([] : List Addr) from z) List.not_mem_nil)
    · obtain ⟨rfl, _, rfl⟩ := alone b u y
      have h1 := (held b _ y).1
      have h2 := (held' b _ (un.frzs b _ _ y)).1
      rw [e] at h1
      cases h1
      exact h2
theorem walk_ofQ {l : PySem.W.OpenLaw} {n k : Nat} {q : Program} {loose : List Str} {XP : (Str → Option Value) → Heap → Prop} {YP : World → Heap → Prop} {d : DefRec} {K : Params → PySem.W.Frag} {sp : World → Sp} {x : Str}
    (hn : l.most = some n) (hn2 : n ≤ sizeLine) (hdf : d.params.defaults = []) (hr : Room k callerA) (kin : ∀ (w : World) (h : Heap), YP w h → (K w.params).In h)
    (F : ∀ (w : World) (mg : Str → Option Value) (fa : Addr) (h : Heap), (K w.params).In h → h.Ns mainGlobals mg → mg d.name = some (.ref fa) →
      ∃ fd : FuncData, (∀ (s : Shared) (u : Value), BindsTo s fd ⟨[u], []⟩ [(x, u)]) ∧ ∀ base : Heap, (K w.params).In base → base.Ns mainGlobals mg → Qui l.prog w (K w.params) mg base k fa fd [x] (sp w))
    (hsp : ∀ (w : World) (H : Hp) (a : Addr) (ns : List Int), ns.length ≤ n → Only H → SqL (K w.params) H a (ns.map V.int) → sp w [.ref a] H (fun v _ => v = .bl true) fun _ _ _ => False) :
    PySem.W.WalkO q loose XP YP l.row.toRowW d [] (fun f vs => PySem.call f vs) := by
  refine Att.attach_call hn hdf ?_
  intro w _ s₁ mg mb fa o pm cd doc a vs ns G Y _ _ _ named script whole many bare
  obtain ⟨fd, binds, holds⟩ := F w mg fa _ (kin w _ Y) G.T.g named
  exact law_callQ (kin w _ Y) G.T.g G.T.b G.T.builtins G.T.nolimit bare script whole (Nat.le_trans many hn2) hr holds binds fun H only z => hsp w H a ns many only z
/-! ### repr -/
mutual
/-- what a value reads as; with dicts (all empty) no list may be the interpreter's own -/
inductive Rp (z : Bool) (H : Hp) : V → PyData → Prop
  | non : Rp z H .non .none
  | bl (b : Bool) : Rp z H (.bl b) (.bool b)
  | int (i : Int) : Rp z H (.int i) (.int i)
  | str (x : Str) : Rp z H (.str x) (.str x)
  | lst {a : Addr} {xs : List V} {ds : List PyData} (h : H a = some (.lst xs)) (n : z = true → a ≠ sysModules) (r : Rps z H xs ds) : Rp z H (.ref a) (.list ds)
  | tup {a : Addr} {xs : List V} {ds : List PyData} (h : H a = some (.tup xs)) (r : Rps z H xs ds) : Rp z H (.ref a) (.tuple ds)
  | dct {a : Addr} (y : z = true) (h : H a = some (.dK [])) : Rp z H (.ref a) (.dict [])
inductive Rps (z : Bool) (H : Hp) : List V → List PyData → Prop
  | nil : Rps z H [] []
  | cons {x : V} {xs : List V} {d : PyData} {ds : List PyData} (h : Rp z H x d) (r : Rps z H xs ds) : Rps z H (x :: xs) (d :: ds)
end
section
variable {X : Cx} {pins : List (Addr × Obj)} {σ : St} {H : Hp} {s : Shared} {z : Bool}
mutual
theorem Rp.reads (I : Inv X pins σ H s) : ∀ (d : PyData) (v : V) (u : Value), Rp z H v d → RelV v u → ∃ as, Reads s.heap u d as ∧ (z = true → sysModules ∉ as) ∧ (z = false → d.hasDict = false)
  | .none, _, _, h, r => by
    cases h; cases r
    exact ⟨_, Reads.none, fun _ => List.not_mem_nil, fun _ => rfl⟩
  | .bool b, _, _, h, r => by
    cases h; cases r
    exact ⟨_, Reads.bool b, fun _ => List.not_mem_nil, fun _ => rfl⟩
  | .int i, _, _, h, r => by
    cases h
    obtain ⟨t, rfl⟩ := r
    exact ⟨_, Reads.int i t, fun _ => List.not_mem_nil, fun _ => rfl⟩
  | .str x, _, _, h, r => by
    cases h
    obtain ⟨t, rfl⟩ := r
    exact ⟨_, Reads.str x t, fun _ => List.not_mem_nil, fun _ => rfl⟩
  | .list ds, _, _, h, r => by
    cases h with
    | lst hs n ha =>
      cases r
      obtain ⟨its, rv, ⟨o, m, ho, hc, _, hd⟩, _⟩ := I.list (SqL.of hs)
      obtain ⟨as, hr, h1, h2⟩ := Rps.reads I ds _ its ha rv
      refine ⟨_, Reads.list ho hc hd hr, fun y q => ?_, fun y => ?_⟩
      · rcases List.mem_cons.mp q with q | q
        · exact n y q.symm
        · exact h1 y q
      · rw [PyData.hasDict]; exact h2 y
  | .tuple ds, _, _, h, r => by
    cases h with
    | tup hs ha =>
      cases r
      obtain ⟨its, rv, ⟨o, ho, hc, m, hd⟩, _⟩ := I.tuple (SqT.of hs)
      obtain ⟨as, hr, h1, h2⟩ := Rps.reads I ds _ its ha rv
      exact ⟨_, Reads.tuple ho hc hd hr, h1, fun y => by rw [PyData.hasDict]; exact h2 y⟩
  | .dict kvs, _, _, h, r => by
    cases h with
    | dct y hs =>
      cases r
      obtain ⟨_, hd, vs, kv, o, es, ep, ho, hx, hdt, _, hp, _⟩ := dk_of I.hok hs
      cases kv
      have e0 : es.toList = [] := List.eq_nil_of_length_eq_zero hp.length
      refine ⟨_, Reads.dict (kvs := []) ho hx.1 hdt (by rw [e0]; exact .nil) (by rw [e0]; exact .nil), fun _ q => ?_, fun q => by rw [y] at q; cases q⟩
      rcases List.mem_cons.mp q with q | q
      · exact absurd q.symm (beq_eq_false_iff_ne.mp hd)
      · exact absurd q List.not_mem_nil
theorem Rps.reads (I : Inv X pins σ H s) : ∀ (ds : List PyData) (vs : List V) (us : List Value), Rps z H vs ds → Vals vs us → ∃ as, ReadsAll s.heap us ds as ∧ (z = true → sysModules ∉ as) ∧ (z = false → PyData.hasDictAll ds = false)
  | [], _, _, h, r => by
    cases h; cases r
    exact ⟨_, ReadsAll.nil, fun _ => List.not_mem_nil, fun _ => rfl⟩
  | d :: ds, _, _, h, r => by
    cases h with
    | cons g1 g2 =>
      cases r with
      | cons r1 r2 =>
        obtain ⟨as, q1, a1, a2⟩ := Rp.reads I d _ _ g1 r1
        obtain ⟨bs, q2, b1, b2⟩ := Rps.reads I ds _ _ g2 r2
        refine ⟨_, ReadsAll.cons q1 q2, fun y q => ?_, fun y => ?_⟩
        · rcases List.mem_append.mp q with q | q
          · exact a1 y q
          · exact b1 y q
        · rw [PyData.hasDictAll, a2 y, b2 y]; rfl
end
end
/-- texts that can be told -/
structure Shows (d : PyData) : Prop where
  ok : d.showable = true
  fit : d.shown.length ≤ sizeLine
  deep : d.depth ≤ 60
def rRepr : List V → Hp → VK → Prop := fun xs H Q => ∃ (z : Bool) (x : V) (d : PyData), xs = [x] ∧ Rp z H x d ∧ Shows d ∧ Q (.str d.shown) H
theorem call_repr {X : Cx} {k : Nat} (hr : Room k X.A) (hq : X.A.guards = some []) : CallR X (.builtin "repr") rRepr := by
  intro pins s σ H xs us Q I r h
  obtain ⟨z, x, d, rfl, hp, hs, q⟩ := h
  obtain ⟨u, rfl, rx⟩ := r.one
  have un : X.A.units + (d.depth + 1) < cLine := by
    have h1 := hr.un
    have h2 := hs.deep
    omega
  have refs : ∀ (a : Addr), x = .ref a → wpAny (model X.prog X.w) X.A (call (.builtin "repr") [u]) (EP X pins σ Q) X.xe s := fun a ex => by
    subst ex
    cases rx
    obtain ⟨as, hr, n1, n2⟩ := Rp.reads I d _ _ hp rfl
    refine repr_of_reads' hr hs.ok (fun y => n1 ?_) hq un (fun _ _ e => e) (fun h' t tk keep => ⟨.str d.shown, H, I.kept keep, ⟨t, rfl⟩, q⟩) hs.fit
    rcases z with _ | _
    · rw [n2 rfl] at y; cases y
    · rfl
  cases hp with
  | non => cases rx; exact PySem.P.repr_of_none ⟨.str _, H, I.tok _, ⟨_, rfl⟩, q⟩
  | bl b => cases rx; exact PySem.P.repr_of_bool ⟨.str _, H, I.tok _, ⟨_, rfl⟩, q⟩
  | int i =>
    obtain ⟨t, rfl⟩ := rx
    exact PySem.P.repr_of_int (of_decide_eq_true hs.ok) ⟨.str _, H, I.tok _, ⟨_, rfl⟩, q⟩
  | str y =>
    obtain ⟨t, rfl⟩ := rx
    exact PySem.P.repr_of_str ⟨.str _, H, I.tok _, ⟨_, rfl⟩, q⟩ hs.fit
  | lst _ _ _ => exact refs _ rfl
  | tup _ _ => exact refs _ rfl
  | dct _ _ => exact refs _ rfl
/-! ### == and != of a tuple and () -/
def rEqNil (K : PySem.W.Frag) (ne : Bool) : R2 := fun x y H Q => ∃ a b xs, x = .ref a ∧ y = .ref b ∧ SqT K H a xs ∧ SqT K H b [] ∧ Q (.bl (xor ne (decide (xs = [])))) H
theorem op_eqNil {X : Cx} (hu : X.A.units < cLine) : OpR X (compareOp .Eq) (rEqNil X.K false) := by
  intro pins s σ H x y v u Q I rx ry h
  obtain ⟨a, b, xs, rfl, rfl, ha, hb, q⟩ := h
  cases rx; cases ry
  obtain ⟨its, r, ⟨o, ho, hc, n, hd⟩, _⟩ := I.tuple ha
  obtain ⟨jts, r2, ⟨o2, ho2, hc2, n2, hd2⟩, _⟩ := I.tuple hb
  cases r2
  refine SeqAt.eq_tupleAt (e := fun _ => true) ⟨o, ho, hc, n, hd⟩ ⟨o2, ho2, hc2, n2, hd2⟩ hu (fun j h1 h2 => absurd h2 (Nat.not_lt_zero j)) ?_
  refine ⟨.bl _, H, I, rfl, ?_⟩
  have e : ((List.range (min its.toArray.size ([] : List Value).toArray.size)).all (fun _ => true) && its.toArray.size == ([] : List Value).toArray.size) = (xor false (decide (xs = []))) := by
    cases r with
    | nil => rfl
    | cons _ _ => simp
  rw [e]; exact q
theorem op_neNil {X : Cx} (hu : X.A.units < cLine) : OpR X (compareOp .NotEq) (rEqNil X.K true) := by
  intro pins s σ H x y v u Q I rx ry h
  obtain ⟨a, b, xs, rfl, rfl, ha, hb, q⟩ := h
  cases rx; cases ry
  obtain ⟨its, r, ⟨o, ho, hc, n, hd⟩, _⟩ := I.tuple ha
  obtain ⟨jts, r2, ⟨o2, ho2, hc2, n2, hd2⟩, _⟩ := I.tuple hb
  cases r2
  refine SeqAt.RcNeAt.tuples (e := fun _ => true) ⟨o, ho, hc, n, hd⟩ ⟨o2, ho2, hc2, n2, hd2⟩ hu (fun j h1 h2 => absurd h2 (Nat.not_lt_zero j)) _ _ _ _ ?_
  refine ⟨.bl _, H, I, rfl, ?_⟩
  have e : (!((List.range (min its.toArray.size ([] : List Value).toArray.size)).all (fun _ => true) && its.toArray.size == ([] : List Value).toArray.size)) = (xor true (decide (xs = []))) := by
    cases r with
    | nil => rfl
    | cons _ _ => simp
  rw [e]; exact q
/-- a display of a list, its place told to be none of the interpreter's own -/
def tLstN (t : TA) : TE := fun σ H Q => t σ H fun xs H1 => xs.length ≤ sizeLine ∧ ∀ l, H1 l = none → l ≠ sysModules → Q (.ref l) (upd H1 l (.lst xs))
theorem pe_lstN {X : Cx} {es : List Expr} {pos : Pos} {t : TA} (h : PA X es t) : PE X (.List es pos) (tLstN t) := by
  constructor
  intro pins s σ H Q I hq
  refine wpAny_List_spliced (thn (h.run pos pins s σ H _ I hq) ?_)
  rintro us s1 ⟨xs, H1, J, r, z, q⟩
  refine ⟨r.length ▸ z, .ref s1.heap.objs.size, _, J.laid (o := .lst xs) (t' := s1.toks) (fun _ _ => Heap.get?_push_of_some _) (Nat.le_refl _) ⟨z, us, 0, r, Heap.get?_push_size _ rfl⟩, rfl, q _ (J.hok.fresh (Nat.le_refl _)) (Nat.ne_of_gt J.big)⟩
theorem lt64 {k : Nat} {A : Around} (hr : Room k A) : A.units < cLine := by
  have h := hr.un
  omega
end L2

/-! Z3: math.factorial. -/
namespace L2
open PySem PySem.Spec PyProof.Rows
def fct : Nat → Nat
  | 0 => 1
  | n + 1 => fct n * (n + 1)
theorem fct_same : ∀ n : Nat, Builtin.Math.factorialNat n = fct n
  | 0 => rfl
  | n + 1 => by rw [PySem.W.mc_fac_succ, fct_same n, fct]
theorem cr_factorial {X : Cx} : CallR X (.builtin "math.factorial") (fun vs H Q => ∃ a : Nat, vs = [.int (a : Int)] ∧ a ≤ 20000 ∧ Q (.int ((fct a : Nat) : Int)) H) := by
  intro pins s σ H vs us Q I r h
  obtain ⟨a, rfl, h2, q⟩ := h
  obtain ⟨u, rfl, t, rfl⟩ := r.one
  refine PySem.W.mc_factorial (by omega) (by omega) fun _ => ?_
  rw [Int.toNat_natCast, fct_same]
  exact ⟨.int _, H, I.tok _, ⟨_, rfl⟩, q⟩
theorem fct_pos : ∀ n : Nat, 1 ≤ fct n
  | 0 => Nat.le_refl 1
  | n + 1 => by rw [fct]; exact Nat.mul_pos (fct_pos n) (Nat.succ_pos n)
theorem fct_mono {m n : Nat} (h : m ≤ n) : fct m ≤ fct n := by
  induction h with
  | refl => exact Nat.le_refl _
  | step _ ih => rw [fct]; exact Nat.le_trans ih (Nat.le_mul_of_pos_right _ (Nat.succ_pos _))
theorem fct_small {n : Nat} (h : n ≤ 60) : fct n < 2 ^ 300 := Nat.lt_of_le_of_lt (fct_mono h) (by decide +kernel)
end L2

/-! Z4: list(enumerate(a list)): a new list of new pairs. -/
namespace PySem.F
theorem en_len : typeLookup (.type "enumerate") "__len__" = pure none := by rw [typeLookup_type, builtinLookup_eq_fast]; kernel_rfl
theorem en_hint : typeLookup (.type "enumerate") "__length_hint__" = pure none := by rw [typeLookup_type, builtinLookup_eq_fast]; kernel_rfl
end PySem.F
namespace L2
open PySem PySem.Spec PyProof.Rows
open Sem (wp)
/-- an enumerate object, whatever pair it may have handed out -/
abbrev EnO (h : Heap) (e it : Addr) (g : Value) (b : Bool) (i : Int) (z : Value) : Prop :=
  h.get? e = some ({ cls := .type "enumerate", dict := none, data := .fields #[g, .bool b, .ref it, rawInt i, .none, z], slots := #[] } : Obj)
/-- it is new, or its pair is still there -/
def EnG (h : Heap) (e it : Addr) (g : Value) (b : Bool) : Prop := (g = .none ∧ b = false) ∨ ∃ (a : Addr) (o : Obj), g = rawInt a ∧ h.get? a = some o ∧ a ≠ e ∧ a ≠ it ∧ o.cls = .type "tuple"
structure EnSt (e it l : Addr) (items : Array Value) (i : Nat) (h : Heap) : Prop where
  en : ∃ g b z, EnO h e it g b ((i : Nat) : Int) z ∧ EnG h e it g b
  sit : h.IsListIter it l i
  sli : h.IsList l items
  ne : e ≠ it
theorem EnSt.put {e it l S : Addr} {items : Array Value} {i : Nat} {h h' : Heap} {oS : Obj} (s : EnSt e it l items i h) (hS : h.get? S = some oS) (cS : oS.cls = .type "list") (nl : l ≠ S) (k : ∀ b o, b ≠ S → h.get? b = some o → h'.get? b = some o) : EnSt e it l items i h' := by
  obtain ⟨⟨g, b, z, he, hg⟩, hi, hl, ne⟩ := s
  have other : ∀ {a : Addr} {o : Obj} {c : String}, h.get? a = some o → o.cls = .type c → c ≠ "list" → a ≠ S := fun {a o c} x y n q => by
    rw [q, hS] at x
    cases x
    exact n (Value.type.inj (y.symm.trans cS))
  obtain ⟨o2, ho2, hc2, _⟩ := id hi
  have n1 : e ≠ S := other he rfl (by decide)
  have n2 : it ≠ S := other ho2 hc2 (by decide)
  refine ⟨⟨g, b, z, k _ _ n1 he, ?_⟩, hi.at fun o x => k _ _ n2 x, hl.at fun o x => k _ _ nl x, ne⟩
  rcases hg with hg | ⟨a, o, h1, h2, h3, h4, h5⟩
  · exact .inl hg
  · exact .inr ⟨a, o, h1, k _ _ (other h2 h5 (by decide)) h2, h3, h4, h5⟩
section
variable {prog : Program} {w : World} {A : Around} {E : Value → Shared → Prop} {s : Shared}
theorem alive_wp {M : Model} {a : Addr} {Q : Option Obj → Shared → Prop} (h : Q (s.heap.get? a) s) : wpAny M A (Sem.loadIfAlive a .pure) Q E s := fun _ _ _ => h
/-- the next pair -/
theorem en_step {e it l : Addr} {i : Nat} {items : Array Value} {x : Value} {Q : Value → Shared → Prop} (st : EnSt e it l items i s.heap) (hx : items[i]? = some x)
    (hQ : ∀ h', EnSt e it l items (i + 1) h' → h'.get? s.heap.objs.size = some { cls := .type "tuple", data := .seq #[.int i s.toks, x] } → h'.objs.size = s.heap.objs.size + 1 →
      (∀ b o, b ≠ e → b ≠ it → s.heap.get? b = some o → h'.get? b = some o) → Q (.ref s.heap.objs.size) { s with heap := h', toks := s.toks + 1 }) :
    wpAny (model prog w) A (Builtin.«enumerate.__next__» ⟨[.ref e], []⟩) (fun fin s' => ∃ v, fin = .done (.ret v) ∧ Q v s') E s := by
  obtain ⟨hp, g0, d, tk, os⟩ := s
  obtain ⟨⟨g, b, z, he, hg⟩, hit, hl, hne⟩ := st
  replace he : EnO hp e it g b ((i : Nat) : Int) z := he
  show wpAny (model prog w) A (field (.ref e) 2 >>= _) _ E _
  refine wpAny_bind (wpAny_field he rfl (i := 2) (x := .ref it) rfl ?_)
  refine wpAny_bind (wpAny_nextOf_list_item hit hl hx fun h1 hit1 sb1 => ?_)
  replace sb1 : Heap.SameBut it hp h1 := sb1
  have e1 : EnO h1 e it g b ((i : Nat) : Int) z := (sb1.2 e hne).trans he
  show wpAny (model prog w) A (field (.ref e) 3 >>= _) _ E ⟨h1, g0, d, tk, os⟩
  refine wpAny_bind (wpAny_field e1 rfl (i := 3) (x := rawInt i) rfl ?_)
  show wpAny (model prog w) A (field (.ref e) 4 >>= _) _ E ⟨h1, g0, d, tk, os⟩
  refine wpAny_bind (wpAny_field e1 rfl (i := 4) (x := .none) rfl ?_)
  show wpAny (model prog w) A (mkInt i >>= _) _ E ⟨h1, g0, d, tk, os⟩
  refine wpAny_bind (wpAny_mkInt ?_)
  show wpAny (model prog w) A (setField (.ref e) 3 (rawInt ((i : Int) + 1)) >>= _) _ E ⟨h1, g0, d, tk + 1, os⟩
  refine wpAny_bind (wpAny_setField_rec e1 (by simp) fun h2 e2 sb2 => ?_)
  replace sb2 : Heap.SameBut e h1 h2 := sb2
  replace e2 : EnO h2 e it g b ((i : Int) + 1) z := e2
  show wpAny (model prog w) A (setField (.ref e) 4 .none >>= _) _ E ⟨h2, g0, d, tk + 1, os⟩
  refine wpAny_bind (wpAny_setField_rec e2 (by simp) fun h3 e3 sb3 => ?_)
  replace sb3 : Heap.SameBut e h2 h3 := sb3
  replace e3 : EnO h3 e it g b ((i : Int) + 1) z := e3
  show wpAny (model prog w) A (newTuple [.int i tk, x] >>= _) _ E ⟨h3, g0, d, tk + 1, os⟩
  refine wpAny_bind (wpAny_newTuple ?_)
  have e4 : EnO (h3.push { cls := .type "tuple", data := .seq #[.int i tk, x] }) e it g b ((i : Int) + 1) z := Heap.get?_push_of_some _ e3
  have sz3 : h3.objs.size = hp.objs.size := by rw [sb3.1, sb2.1, sb1.1]
  have lt_e : e < hp.objs.size := Heap.lt_size he
  have t4 : (h3.push { cls := .type "tuple", data := .seq #[.int i tk, x] }).get? hp.objs.size = some { cls := .type "tuple", data := .seq #[.int i tk, x] } := by rw [← sz3]; exact Heap.get?_push_size _ rfl
  have sz4 : (h3.push { cls := .type "tuple", data := .seq #[.int i tk, x] }).objs.size = hp.objs.size + 1 := by rw [Heap.size_push, sz3]
  have k4 : ∀ b o, b ≠ e → b ≠ it → hp.get? b = some o → (h3.push { cls := .type "tuple", data := .seq #[.int i tk, x] }).get? b = some o := fun b o n1 n2 y =>
    Heap.get?_push_of_some _ (sb3.extBut b o n1 (sb2.extBut b o n1 (sb1.extBut b o n2 y)))
  have it4 : (h3.push { cls := .type "tuple", data := .seq #[.int i tk, x] }).IsListIter it l (i + 1) := by
    obtain ⟨o, ho, r⟩ := (hit1.extBut sb2.extBut (Ne.symm hne)).extBut sb3.extBut (Ne.symm hne)
    exact ⟨o, Heap.get?_push_of_some _ ho, r⟩
  have nle : l ≠ e := fun q => by
    obtain ⟨o, ho, hc, _⟩ := id hl
    rw [q] at ho
    have y := he.symm.trans ho
    cases y
    have c2 : ("enumerate" : String) = "list" := Value.type.inj hc
    exact absurd c2 (by decide)
  have nli : l ≠ it := fun q => by
    obtain ⟨o, ho, hc, _⟩ := id hl
    obtain ⟨o2, ho2, hc2, _⟩ := id hit
    rw [q, ho2] at ho
    cases ho
    have c2 : ("list_iterator" : String) = "list" := Value.type.inj (hc2.symm.trans hc)
    exact absurd c2 (by decide)
  have l4 : (h3.push { cls := .type "tuple", data := .seq #[.int i tk, x] }).IsList l items := hl.at fun o y => k4 l o nle nli y
  rw [sz3]
  generalize h3.push { cls := .type "tuple", data := .seq #[.int i tk, x] } = h4 at e4 t4 sz4 k4 it4 l4 ⊢
  clear e3 sb3 e2 sb2 e1 sb1 hit1 sz3
  have tie : ((i + 1 : Nat) : Int) = (i : Int) + 1 := by omega
  show wpAny (model prog w) A (Builtin.SmallTypes.ownedTupleIsFree (.ref e) >>= _) _ E ⟨h4, g0, d, tk + 1, os⟩
  refine wpAny_bind ?_
  unfold Builtin.SmallTypes.ownedTupleIsFree
  rcases hg with ⟨rfl, rfl⟩ | ⟨a, o, rfl, ha, na1, na2, na3⟩
  · refine wpAny_bind (wpAny_field e4 rfl (i := 0) (x := .none) rfl (wpAny_pure ?_))
    simp only [if_true]
    refine wpAny_bind (wpAny_rule (wpAny_bind (wpAny_field e4 rfl (i := 5) (x := z) rfl ?_)))
    refine wpAny_bind (wpAny_setField_rec e4 (by simp) fun h5 e5 sb5 => ?_)
    replace sb5 : Heap.SameBut e h4 h5 := sb5
    replace e5 : EnO h5 e it .none false ((i : Int) + 1) x := e5
    show wpAny (model prog w) A (Builtin.SmallTypes.ownedTupleHandOut (.ref e) (.ref hp.objs.size) >>= _) _ E ⟨h5, g0, d, tk + 1, os⟩
    refine wpAny_bind ?_
    unfold Builtin.SmallTypes.ownedTupleHandOut
    refine wpAny_bind (wpAny_setField_rec e5 (by simp) fun h6 e6 sb6 => ?_)
    replace sb6 : Heap.SameBut e h5 h6 := sb6
    replace e6 : EnO h6 e it (rawInt hp.objs.size) false ((i : Int) + 1) x := e6
    refine wpAny_setField_rec e6 (by simp) fun h7 e7 sb7 => ?_
    replace sb7 : Heap.SameBut e h6 h7 := sb7
    replace e7 : EnO h7 e it (rawInt hp.objs.size) false ((i : Int) + 1) x := e7
    have kk : ∀ b o, b ≠ e → h4.get? b = some o → h7.get? b = some o := fun b o n y => sb7.extBut b o n (sb6.extBut b o n (sb5.extBut b o n y))
    have t7 := kk _ _ (Nat.ne_of_gt lt_e) t4
    refine wpAny_bind (wpAny_letGo (wpAny_pure ⟨_, rfl, hQ h7 ⟨⟨_, _, _, by rw [tie]; exact e7, .inr ⟨_, _, rfl, t7, Nat.ne_of_gt lt_e, ?_, rfl⟩⟩, it4.at fun o y => kk _ _ (Ne.symm hne) y, l4.at fun o y => kk _ _ nle y, hne⟩ t7 (by rw [sb7.1, sb6.1, sb5.1, sz4]) fun b o n1 n2 y => kk b o n1 (k4 b o n1 n2 y)⟩))
    obtain ⟨o2, ho2, _⟩ := hit
    exact Nat.ne_of_gt (Heap.lt_size ho2)
  · have a4 := k4 a o na1 na2 ha
    refine wpAny_bind (wpAny_field e4 rfl (i := 0) (x := rawInt a) rfl ?_)
    show wpAny (model prog w) A (Sem.loadIfAlive a .pure >>= _) _ E ⟨h4, g0, d, tk + 1, os⟩
    refine wpAny_bind (alive_wp ?_)
    show wpAny (model prog w) A (if (h4.get? a).isNone = true then _ else _) _ E ⟨h4, g0, d, tk + 1, os⟩
    rw [a4]
    show wpAny (model prog w) A (field (.ref e) 1 >>= _) _ E ⟨h4, g0, d, tk + 1, os⟩
    refine wpAny_bind (wpAny_field e4 rfl (i := 1) (x := .bool b) rfl ?_)
    have fin : ∀ (h5 : Heap) (b' : Bool), EnO h5 e it (rawInt a) b' ((i : Int) + 1) z → (∀ b o, b ≠ e → h4.get? b = some o → h5.get? b = some o) → h5.objs.size = h4.objs.size → Q (.ref hp.objs.size) ⟨h5, g0, d, tk + 1, os⟩ := fun h5 b' e5 kk sz5 =>
      hQ h5 ⟨⟨_, _, _, by rw [tie]; exact e5, .inr ⟨a, o, rfl, kk _ _ na1 a4, na1, na2, na3⟩⟩, it4.at fun o y => kk _ _ (Ne.symm hne) y, l4.at fun o y => kk _ _ nle y, hne⟩ (kk _ _ (Nat.ne_of_gt lt_e) t4) (sz5.trans sz4) fun b o n1 n2 y => kk b o n1 (k4 b o n1 n2 y)
    cases b with
    | true => exact wpAny_pure (wpAny_pure ⟨_, rfl, fin h4 true e4 (fun _ _ _ y => y) rfl⟩)
    | false =>
      show wpAny (model prog w) A (setField (.ref e) 1 (.bool true) >>= _) _ E ⟨h4, g0, d, tk + 1, os⟩
      refine wpAny_bind (wpAny_setField_rec e4 (by simp) fun h5 e5 sb5 => ?_)
      exact wpAny_pure (wpAny_pure ⟨_, rfl, fin h5 true e5 (fun b o n y => sb5.extBut b o n y) sb5.1⟩)
theorem en_next {e it l : Addr} {i : Nat} {items : Array Value} {x : Value} {Q : Option Value → Shared → Prop} (st : EnSt e it l items i s.heap) (hx : items[i]? = some x)
    (hQ : ∀ h', EnSt e it l items (i + 1) h' → h'.get? s.heap.objs.size = some { cls := .type "tuple", data := .seq #[.int i s.toks, x] } → h'.objs.size = s.heap.objs.size + 1 →
      (∀ b o, b ≠ e → b ≠ it → s.heap.get? b = some o → h'.get? b = some o) → Q (some (.ref s.heap.objs.size)) { s with heap := h', toks := s.toks + 1 }) :
    wpAny (model prog w) A (pyNext (.ref e)) Q E s := by
  obtain ⟨g, b, z, he, _⟩ := st.en
  have ty : s.TypeIs (.ref e) "enumerate" := ⟨_, he, rfl⟩
  unfold pyNext
  exact wpAny_bind (wpAny_attempt (wpAny_callSpecial?_slot (name := Str.ofString "__next__") ty F.slot_enumerate_next (wpAny_call_entry F.slot_enumerate_next ty F.entry_enumerate_next (en_step st hx fun h' a b c d => wpAny_pure (hQ h' a b c d)) (F.args_enumerate_next_1 _))))
theorem en_end {e it l : Addr} {items : Array Value} {Q : Option Value → Shared → Prop} (hh : A.handled = none) (st : EnSt e it l items items.size s.heap) (hQ : ∀ h', Heap.ExtBut it s.heap h' → Q none { s with heap := h' }) : wpAny (model prog w) A (pyNext (.ref e)) Q E s := by
  obtain ⟨⟨g, b, z, he, _⟩, hit, hl, _⟩ := st
  have ty : s.TypeIs (.ref e) "enumerate" := ⟨_, he, rfl⟩
  unfold pyNext
  refine wpAny_bind (wpAny_attempt (wpAny_callSpecial?_slot (name := Str.ofString "__next__") ty F.slot_enumerate_next (wpAny_call_entry F.slot_enumerate_next ty F.entry_enumerate_next ?_ (F.args_enumerate_next_1 _))))
  show wpAny _ _ (field (.ref e) 2 >>= _) _ _ s
  refine wpAny_bind (wpAny_field he rfl (i := 2) (x := .ref it) rfl ?_)
  refine wpAny_bind (wpAny_nextOf_list_end hh hit hl (by simp) fun h' y he' hy => ?_)
  obtain ⟨o, ho, hc⟩ := hy
  exact wpAny_bind (wpAny_isInstance (T := "StopIteration") (b := true) ⟨o, ho, hc⟩ isSubtype_stop (wpAny_pure (hQ _ he')))
/-- the pairs gathered so far -/
structure AccEn (items acc : Array Value) (i : Nat) (h : Heap) (n0 : Nat) : Prop where
  sz : acc.size = i
  at_ : ∀ j : Nat, j < i → ∃ (p : Addr) (tk : Nat) (x : Value), acc[j]? = some (.ref p) ∧ items[j]? = some x ∧ n0 ≤ p ∧ h.get? p = some { cls := .type "tuple", data := .seq #[.int j tk, x] }
theorem AccEn.to {items acc : Array Value} {i n0 : Nat} {h h' : Heap} (a : AccEn items acc i h n0) (k : ∀ b o, n0 ≤ b → h.get? b = some o → h'.get? b = some o) : AccEn items acc i h' n0 := ⟨a.sz, fun j hj => by
  obtain ⟨p, tk, x, h1, h2, h3, h4⟩ := a.at_ j hj
  exact ⟨p, tk, x, h1, h2, h3, k _ _ h3 h4⟩⟩
theorem AccEn.push {items acc : Array Value} {i n0 : Nat} {h : Heap} {p : Addr} {tk : Nat} {x : Value} (a : AccEn items acc i h n0) (hx : items[i]? = some x) (hp : n0 ≤ p) (ht : h.get? p = some { cls := .type "tuple", data := .seq #[.int i tk, x] }) : AccEn items (acc.push (.ref p)) (i + 1) h n0 := ⟨by rw [Array.size_push, a.sz], fun j hj => by
  by_cases c : j < i
  · obtain ⟨p', tk', x', h1, h2, h3, h4⟩ := a.at_ j c
    exact ⟨p', tk', x', by rw [Array.getElem?_push_lt (by rw [a.sz]; exact c), ← Array.getElem?_eq_getElem]; exact h1, h2, h3, h4⟩
  · have e : j = i := by omega
    subst e
    exact ⟨p, tk, x, by rw [← a.sz, Array.getElem?_push_size], hx, hp, ht⟩⟩
theorem en_loop {e it l S : Addr} {items : Array Value} {R : Result → Shared → Prop} {n0 : Nat} (hh : A.handled = none) (hn : items.size ≤ sizeLine) (res : Value) (hSl : S < n0) (hel : e < n0) (hil : it < n0) (nS : S ≠ e ∧ S ≠ it ∧ l ≠ S) :
    ∀ (k i : Nat) (s : Shared) (acc : Array Value) (c : Nat), items.size - i = k → i ≤ items.size → EnSt e it l items i s.heap → n0 ≤ s.heap.objs.size → s.heap.get? S = some { cls := .type "list", dict := none, data := .seq acc c, slots := #[] } → AccEn items acc i s.heap n0 →
    (∀ h' tk acc' c', (∀ b o, b ≠ e → b ≠ it → b ≠ S → s.heap.get? b = some o → h'.get? b = some o) → h'.get? S = some { cls := .type "list", dict := none, data := .seq acc' c', slots := #[] } → AccEn items acc' items.size h' n0 → R (.ok (.ret res)) { s with heap := h', toks := tk }) →
    codeAny (model prog w) A (.builtin "list.extend.loop" ⟨[.ref S, .ref e, res], []⟩) R s := by
  intro k
  induction k with
  | zero =>
    intro i s acc c hk hi st hz hS ha hR
    have ei : i = items.size := by omega
    subst ei
    refine codeAny_builtin F.entry_extend_loop ?_
    rw [Around.under_plainId F.plain_extend_loop _]
    show wpAny _ A.in1 (pyNext (.ref e) >>= _) _ _ s
    refine wpAny_bind (en_end hh st fun h' x => wpAny_pure ?_)
    exact hR h' s.toks acc c (fun b o _ n2 _ y => x b o n2 y) (x _ _ nS.2.1 hS) (ha.to fun b o n y => x b o (Nat.ne_of_gt (Nat.lt_of_lt_of_le hil n)) y)
  | succ k ih =>
    intro i s acc c hk hi st hz hS ha hR
    have lt : i < items.size := by omega
    refine codeAny_builtin F.entry_extend_loop ?_
    rw [Around.under_plainId F.plain_extend_loop _]
    show wpAny _ A.in1 (pyNext (.ref e) >>= _) _ _ s
    obtain ⟨x, hx⟩ : ∃ x, items[i]? = some x := ⟨items[i], by simp [lt]⟩
    refine wpAny_bind (en_next st hx fun h1 st1 t1 sz1 k1 => ?_)
    have hS1 := k1 S _ nS.1 nS.2.1 hS
    show wpAny _ A.in1 (updateSeq S (·.push (.ref s.heap.objs.size)) >>= _) _ _ _
    refine wpAny_bind ?_
    refine wpAny_updateSeq hS1 rfl (wpAny_pure ⟨plainId_quiet F.plain_extend_loop _, ih (i + 1) _ (acc.push (.ref s.heap.objs.size)) _ (by omega) lt ?_ ?_ (Heap.get?_update_self _ hS1 rfl) ?_ fun h' tk acc' c' kk hS' ha' => ?_⟩) (by rw [ha.sz]; omega) (by show (acc.push (.ref s.heap.objs.size)).size ≤ sizeLine + 1; rw [Array.size_push, ha.sz]; omega)
    · exact st1.put hS1 rfl nS.2.2 fun b o n y => (Heap.get?_update_other _ _ (Ne.symm n)).trans y
    · show n0 ≤ (h1.update S _).objs.size
      rw [Heap.size_update, sz1]; omega
    · refine ((ha.to fun b o n y => ?_).push hx hz t1).to fun b o n y => (Heap.get?_update_other _ _ (Nat.ne_of_lt (Nat.lt_of_lt_of_le hSl n))).trans y
      exact k1 b o (Nat.ne_of_gt (Nat.lt_of_lt_of_le hel n)) (Nat.ne_of_gt (Nat.lt_of_lt_of_le hil n)) y
    · exact hR h' tk acc' c' (fun b o n1 n2 n3 y => kk b o n1 n2 n3 ((Heap.get?_update_other _ _ (Ne.symm n3)).trans (k1 b o n1 n2 y))) hS' ha'
theorem en_extend {e it l S : Addr} {items : Array Value} {R : Result → Shared → Prop} (hh : A.handled = none) (hn : items.size ≤ sizeLine) (res : Value) (c : Nat) (he : IsEnum s.heap e it 0 .none) (st : EnSt e it l items 0 s.heap) (hS : s.heap.get? S = some { cls := .type "list", data := .seq #[] c }) (nl : l ≠ S)
    (hR : ∀ h' tk acc' c', (∀ b o, b ≠ e → b ≠ it → b ≠ S → s.heap.get? b = some o → h'.get? b = some o) → h'.get? S = some { cls := .type "list", dict := none, data := .seq acc' c', slots := #[] } → AccEn items acc' items.size h' s.heap.objs.size → R (.ok (.ret res)) { s with heap := h', toks := tk }) :
    wpAny (model prog w) A.in1 (Builtin.List.listExtendWith (.ref S) (.ref e) res) (fun fin s' => match fin with | .done f => R (.ok f) s' | .again c' => c'.quiet = true ∧ codeAny (model prog w) A c' R s') (fun e s' => R (.error e) s') s := by
  have ty : s.TypeIs (.ref e) "enumerate" := ⟨_, he, rfl⟩
  obtain ⟨oi, hoi, hci, _⟩ := id st.sit
  have nS : S ≠ e ∧ S ≠ it ∧ l ≠ S := by
    refine ⟨fun q => ?_, fun q => ?_, nl⟩
    · have y := he.symm.trans (q ▸ hS)
      exact absurd (Value.type.inj (congrArg Obj.cls (Option.some.inj y))) (by decide)
    · rw [q, hoi] at hS
      cases hS
      have c2 : ("list" : String) = "list_iterator" := Value.type.inj hci
      exact absurd c2 (by decide)
  unfold Builtin.List.listExtendWith
  refine wpAny_bind (wpAny_typeOf ty ?_)
  have d1 : Builtin.List.listSameRef (.ref S) (.ref e) = false := by simp [Builtin.List.listSameRef, nS.1]
  have d2 : (Value.type "enumerate" == Value.type "list") = false := by decide
  have d3 : (Value.type "enumerate" == Value.type "tuple") = false := by decide
  simp only [d1, d2, d3, Bool.or_false, Bool.false_eq_true, if_false]
  refine wpAny_bind (wpAny_pyIter_enum he (wpAny_bind (wpAny_holding ?_)))
  unfold Builtin.List.listLengthHint
  refine wpAny_bind (wpAny_specialOf ty F.en_len ?_)
  show wpAny _ A.in1 (specialOf (Value.ref e) (Str.ofString "__length_hint__") >>= _) _ _ s
  refine wpAny_bind (wpAny_specialOf ty F.en_hint (wpAny_pure ?_))
  show wpAny _ A.in1 (rule "list.extend.makes-room" >>= fun _ => Builtin.List.listTouch (.ref S) >>= fun _ => again (.builtin "list.extend.loop" ⟨[.ref S, .ref e, res], []⟩)) _ _ s
  refine wpAny_bind (wpAny_rule (wpAny_bind ?_))
  show wpAny _ A.in1 (updateSeq S (·.push .none) >>= fun _ => updateSeq S (·.pop)) _ _ s
  refine wpAny_bind (wpAny_updateSeq hS rfl ?_)
  have h2 := Heap.get?_update_self (Obj.mapSeq (·.push Value.none)) hS rfl
  refine wpAny_updateSeq (hz := by seq_fits) h2 rfl ?_
  have h3 := Heap.get?_update_self (Obj.mapSeq (·.pop)) h2 rfl
  have ot : ∀ b o, b ≠ S → s.heap.get? b = some o → ((s.heap.update S (Obj.mapSeq (·.push Value.none))).update S (Obj.mapSeq (·.pop))).get? b = some o := fun b o n y =>
    (Heap.get?_update_other _ _ (Ne.symm n)).trans ((Heap.get?_update_other _ _ (Ne.symm n)).trans y)
  have hz : ((s.heap.update S (Obj.mapSeq (·.push Value.none))).update S (Obj.mapSeq (·.pop))).objs.size = s.heap.objs.size := by rw [Heap.size_update, Heap.size_update]
  refine wpAny_pure ⟨plainId_quiet F.plain_extend_loop _, en_loop (n0 := s.heap.objs.size) hh hn res (Heap.lt_size hS) (Heap.lt_size he) (Heap.lt_size hoi) nS items.size 0 _ #[] _ rfl (Nat.zero_le _) (st.put hS rfl nl ot) (Nat.le_of_eq hz.symm) h3 ⟨rfl, fun j hj => absurd hj (Nat.not_lt_zero j)⟩ fun h' tk acc' c' kk hS' ha => ?_⟩
  exact hR h' tk acc' c' (fun b o n1 n2 n3 y => kk b o n1 n2 n3 (ot b o n3 y)) hS' ha
theorem en_init {e it l S : Addr} {items : Array Value} {R : Result → Shared → Prop} (hh : A.handled = none) (hn : items.size ≤ sizeLine) (he : IsEnum s.heap e it 0 .none) (st : EnSt e it l items 0 s.heap) (hS : s.heap.get? S = some { cls := .type "list", data := .seq #[] }) (nl : l ≠ S)
    (hR : ∀ h' tk acc' c', (∀ b o, b ≠ e → b ≠ it → b ≠ S → s.heap.get? b = some o → h'.get? b = some o) → h'.get? S = some { cls := .type "list", dict := none, data := .seq acc' c', slots := #[] } → AccEn items acc' items.size h' s.heap.objs.size → R (.ok (.ret .none)) { s with heap := h', toks := tk }) :
    wpAny (model prog w) A.in1 (Builtin.«list.__init__» ⟨[.ref S, .ref e], []⟩) (fun fin s' => match fin with | .done f => R (.ok f) s' | .again c' => c'.quiet = true ∧ codeAny (model prog w) A c' R s') (fun e s' => R (.error e) s') s := by
  show wpAny _ A.in1 (do let old ← Builtin.List.listItems (.ref S); Builtin.List.listUpdate (.ref S) (fun _ => #[]); letGo old.toList.reverse; Builtin.List.listExtendWith (.ref S) (.ref e) .none) _ _ s
  refine wpAny_bind ?_
  unfold Builtin.List.listItems
  refine wpAny_bind (wpAny_seqItems hS rfl (wpAny_pure ?_))
  show wpAny _ A.in1 (updateSeq S (fun _ => #[]) >>= fun _ => letGo (#[] : Array Value).toList.reverse >>= fun _ => Builtin.List.listExtendWith (.ref S) (.ref e) .none) _ _ s
  refine wpAny_bind (wpAny_updateSeq hS rfl (wpAny_bind (wpAny_letGo ?_)))
  have h2 := Heap.get?_update_self (Obj.mapSeq (fun _ => (#[] : Array Value))) hS rfl
  have ot : ∀ b o, b ≠ S → s.heap.get? b = some o → (s.heap.update S (Obj.mapSeq (fun _ => (#[] : Array Value)))).get? b = some o := fun b o n y => (Heap.get?_update_other _ _ (Ne.symm n)).trans y
  have st2 := st.put hS rfl nl ot
  have ne : e ≠ S := fun q => by
    have y := he.symm.trans (q ▸ hS)
    exact absurd (Value.type.inj (congrArg Obj.cls (Option.some.inj y))) (by decide)
  refine en_extend hh hn .none _ (ot e _ ne he) st2 h2 nl fun h' tk acc' c' kk hS' ha => hR h' tk acc' c' (fun b o n1 n2 n3 y => kk b o n1 n2 n3 (ot b o n3 y)) hS' ?_
  have ez : (s.heap.update S (Obj.mapSeq fun _ => (#[] : Array Value))).objs.size = s.heap.objs.size := Heap.size_update ..
  have ha2 : AccEn items acc' items.size h' (s.heap.update S (Obj.mapSeq fun _ => (#[] : Array Value))).objs.size := ha
  rw [ez] at ha2; exact ha2
theorem call_listEn {e it l : Addr} {items : Array Value} {Q : Value → Shared → Prop} (hh : A.handled = none) (hn : items.size ≤ sizeLine) (he : IsEnum s.heap e it 0 .none) (st : EnSt e it l items 0 s.heap)
    (hQ : ∀ h' tk acc' c', (∀ b o, b ≠ e → b ≠ it → s.heap.get? b = some o → h'.get? b = some o) → h'.get? s.heap.objs.size = some { cls := .type "list", dict := none, data := .seq acc' c', slots := #[] } → AccEn items acc' items.size h' (s.heap.objs.size + 1) → Q (.ref s.heap.objs.size) { s with heap := h', toks := tk }) :
    wpAny (model prog w) A (call (.type "list") [.ref e]) Q E s := by
  refine callType_codes (Q₁ := fun obj s1 => obj = .ref s.heap.objs.size ∧ s1 = { s with heap := s.heap.push { cls := .type "list", data := .seq #[] } }) F.called_list (F.typeCall_list_1 _) F.entry_list_init (code_list_new _ ⟨rfl, rfl⟩) fun obj s1 h1 => ?_
  obtain ⟨rfl, rfl⟩ := h1
  have hS : (s.heap.push { cls := .type "list", data := .seq #[] }).get? s.heap.objs.size = some { cls := .type "list", data := .seq #[] } := Heap.get?_push_size _ rfl
  have hk : ∀ b o, s.heap.get? b = some o → (s.heap.push { cls := .type "list", data := .seq #[] }).get? b = some o := fun b o y => Heap.get?_push_of_some _ y
  have st2 : EnSt e it l items 0 (s.heap.push { cls := .type "list", data := .seq #[] }) := by
    obtain ⟨⟨g, b, z, h1, hg⟩, hi, hl, ne⟩ := st
    refine ⟨⟨g, b, z, hk _ _ h1, ?_⟩, hi.at fun o y => hk _ _ y, hl.at fun o y => hk _ _ y, ne⟩
    rcases hg with hg | ⟨a, o, x1, x2, x3, x4, x5⟩
    · exact .inl hg
    · exact .inr ⟨a, o, x1, hk _ _ x2, x3, x4, x5⟩
  have nl : l ≠ s.heap.objs.size := by
    obtain ⟨o, ho, _⟩ := st.sli
    exact Nat.ne_of_lt (Heap.lt_size ho)
  refine ⟨⟨_, hS, rfl⟩, F.args_list_init_2 _ _, en_init (A := A.in1) hh hn (hk _ _ he) st2 hS nl fun h' tk acc' c' kk hS' ha => ⟨rfl, ?_⟩⟩
  have ez : (s.heap.push { cls := .type "list", data := .seq #[] }).objs.size = s.heap.objs.size + 1 := Heap.size_push ..
  have ha2 : AccEn items acc' items.size h' (s.heap.push { cls := .type "list", data := .seq #[] }).objs.size := ha
  rw [ez] at ha2
  exact hQ h' tk acc' c' (fun b o n1 n2 y => kk b o n1 n2 (Nat.ne_of_lt (Heap.lt_size y)) (hk _ _ y)) hS' ha2
end
/-! ### several new objects at once -/
section
variable {P : Program} {w : World} {fs ex : List Addr} {H H' : Hp} {h h' : Heap}
structure Many (H H' : Hp) (h : Heap) : Prop where
  old : ∀ b, b < h.objs.size → H' b = H b
theorem Many.ext (m : Many H H' h) (x : HOk P w H h) : Same H H' := fun b o e => by rw [m.old b (x.lt e)]; exact e
theorem Many.hok (m : Many H H' h) (x : HOk P w H h) (k : ∀ b u, h.get? b = some u → h'.get? b = some u) (new : ∀ b o, h.objs.size ≤ b → H' b = some o → ObjOk P w H' h' b o) : HOk P w H' h' := fun b u e => by
  by_cases c : b < h.objs.size
  · rw [m.old b c] at e
    exact (x b u e).stay (fun c v _ q => k c v q) (fun c q => m.ext x _ _ q) fun c xs q => m.ext x _ _ q
  · exact new b u (Nat.le_of_not_lt c) e
theorem Many.un (m : Many H H' h) (x : HOk P w H h) (k : ∀ b u, h.get? b = some u → h'.get? b = some u) : Un fs ex H H' h h' where
  keep := fun b u q _ _ _ => k b u q
  slot := fun b u q _ _ _ => ⟨u.slots, k b u q⟩
  free := fun b u q n _ => by rw [m.old b (Heap.lt_size q)]; exact n
  there := fun b u q _ => ⟨u, k b u q⟩
  tups := fun b xs q => m.ext x _ _ q
  frzs := fun b u xs q => m.ext x _ _ q
  tbls := fun b ps q => ⟨#[], by rw [m.ext x _ _ q]; simp⟩
end
open Classical in
/-- the heap with a new list at D of new pairs at ts -/
noncomputable def enH (H : Hp) (n : Nat) (D : Addr) (ts : List Addr) (f : Nat → V) : Hp := fun b =>
  if b < n then H b else if b = D then some (.lst (ts.map V.ref)) else if q : ∃ j : Nat, ts[j]? = some b then some (.tup [.int ((Classical.choose q : Nat) : Int), f (Classical.choose q)]) else none
theorem enrefs_of : ∀ vs : List Value, (∀ v ∈ vs, ∃ p, v = .ref p) → ∃ ts : List Addr, vs = ts.map Value.ref
  | [], _ => ⟨[], rfl⟩
  | v :: vs, h => by
    obtain ⟨p, rfl⟩ := h v List.mem_cons_self
    obtain ⟨ts, e⟩ := enrefs_of vs fun u hu => h u (List.mem_cons_of_mem _ hu)
    exact ⟨p :: ts, by rw [e]; rfl⟩
theorem envals_refs : ∀ ts : List Addr, Vals (ts.map V.ref) (ts.map Value.ref)
  | [] => .nil
  | p :: ts => .cons rfl (envals_refs ts)
theorem enH_at {H : Hp} {n : Nat} {D : Addr} {ts : List Addr} {f : Nat → V} {j : Nat} {b : Addr} (e : ts[j]? = some b) (hb : n ≤ b) (hD : b ≠ D) (one : ∀ i, ts[i]? = some b → i = j) : enH H n D ts f b = some (.tup [.int ((j : Nat) : Int), f j]) := by
  unfold enH
  rw [if_neg (Nat.not_lt.mpr hb), if_neg hD, dif_pos ⟨j, e⟩]
  have z := one _ (Classical.choose_spec (⟨j, e⟩ : ∃ j : Nat, ts[j]? = some b))
  rw [z]
def tLstEn (K : PySem.W.Frag) (ta : TA) : TE := fun σ H Q => ta σ H fun vs H1 => ∃ a xs, vs = [.ref a] ∧ SqL K H1 a xs ∧ ∀ (D : Addr) (ts : List Addr) (H' : Hp), Same H1 H' → H1 D = none → H' D = some (.lst (ts.map V.ref)) → ts.length = xs.length →
  (∀ (i : Nat) (p : Addr) (x : V), ts[i]? = some p → xs[i]? = some x → H' p = some (.tup [.int ((i : Nat) : Int), x])) → Q (.ref D) H'
theorem pe_listEn {X : Cx} {e : Expr} {ta : TA} {p p2 pos pos2 : Pos} (hc : X.calm = true) (hg : Gl X "list") (hm : X.mg "list" = none) (hg2 : Gl X "enumerate") (hm2 : X.mg "enumerate" = none) (ha : PA X [e] ta) (hs : starEach [e] X.env = [(false, eval e X.env)] := by rfl)
    (na : starEach [.Call (.Name "enumerate" p2) [e] [] pos2] X.env = (false, eval (.Call (.Name "enumerate" p2) [e] [] pos2) X.env) :: starEach [] X.env := by rfl) : PE X (.Call (.Name "list" p) [.Call (.Name "enumerate" p2) [e] [] pos2] [] pos) (tLstEn X.K ta) := by
  refine ⟨fun pins s σ H Q I h => ?_⟩
  refine Call_ (ld_blt I hg hm boot_list (PyProof.Rows.callWith_type1 (args_cons ?_ na) na))
  refine Call_ (ld_blt I hg2 hm2 boot_enumerate (PyProof.Rows.callWith_type1 (thn (ha.run pos2 pins s σ H _ I h) fun us s1 ⟨vs, H1, I1, r1, q1⟩ => ?_) hs rfl))
  obtain ⟨a, xs, ex, hq, q⟩ := q1
  subst ex
  cases r1 with
  | cons r rr =>
    cases rr
    cases r
    obtain ⟨its, rv, p', hz⟩ := I1.list hq
    refine call_enumerate_list p'.isList fun h1 he hit hsz hk => args_nil ?_
    have hl1 : h1.IsList a its.toArray := p'.isList.at fun o y => hk _ _ y
    have st : EnSt (s1.heap.objs.size + 1) s1.heap.objs.size a its.toArray 0 h1 := ⟨⟨_, _, _, he, .inl ⟨rfl, rfl⟩⟩, hit, hl1, Nat.succ_ne_self _⟩
    refine call_listEn (s := { s1 with heap := h1 }) (I1.ok.hd hc) (by rw [List.size_toArray, ← rv.length]; exact hz) he st fun h' tk acc' c' kk hD ha' => ?_
    have lx := rv.length
    have n1 : h1.objs.size = s1.heap.objs.size + 1 + 1 := by rw [hsz]
    obtain ⟨ts, ets⟩ := enrefs_of acc'.toList fun v hv => by
      obtain ⟨j, hj⟩ := List.getElem?_of_mem hv
      have lt := (List.getElem?_eq_some_iff.mp hj).1
      rw [Array.length_toList, ha'.sz] at lt
      obtain ⟨p, tk, x, y1, _⟩ := ha'.at_ j lt
      rw [Array.getElem?_toList, y1] at hj
      exact ⟨p, (Option.some.inj hj).symm⟩
    have lts : ts.length = its.length := by
      have z := congrArg List.length ets
      rw [Array.length_toList, ha'.sz, List.length_map, List.size_toArray] at z
      exact z.symm
    -- what stands at each pair's address
    have at_ : ∀ (j : Nat) (b : Addr), ts[j]? = some b → ∃ (tk : Nat) (x : Value), its[j]? = some x ∧ h1.objs.size + 1 ≤ b ∧ h'.get? b = some { cls := .type "tuple", data := .seq #[.int j tk, x] } := fun j b e => by
      have lt := (List.getElem?_eq_some_iff.mp e).1
      obtain ⟨p, tk, x, y1, y2, y3, y4⟩ := ha'.at_ j (by rw [List.size_toArray]; omega)
      have z : acc'.toList[j]? = some (.ref b) := by rw [ets, List.getElem?_map, e]; rfl
      rw [Array.getElem?_toList, y1] at z
      cases z
      exact ⟨tk, x, by simpa using y2, y3, y4⟩
    have one : ∀ (i j : Nat) (b : Addr), ts[i]? = some b → ts[j]? = some b → i = j := fun i j b e1 e2 => by
      obtain ⟨_, _, _, _, g1⟩ := at_ i b e1
      obtain ⟨_, _, _, _, g2⟩ := at_ j b e2
      rw [g1] at g2
      injection g2 with g2
      injection g2 with _ _ g2
      injection g2 with g2
      have g3 := congrArg (fun a => a[0]?) g2
      simp at g3
      omega
    have old : ∀ b u, s1.heap.get? b = some u → h'.get? b = some u := fun b u y => kk b u (Nat.ne_of_lt (Nat.lt_succ_of_lt (Heap.lt_size y))) (Nat.ne_of_lt (Heap.lt_size y)) (hk _ _ y)
    have m : Many H1 (enH H1 s1.heap.objs.size h1.objs.size ts fun j => xs.getD j .non) s1.heap := ⟨fun b hb => if_pos hb⟩
    have nD : ∀ (j : Nat) (b : Addr), ts[j]? = some b → b ≠ h1.objs.size ∧ s1.heap.objs.size ≤ b := fun j b e => by
      obtain ⟨_, _, _, g, _⟩ := at_ j b e
      exact ⟨Nat.ne_of_gt g, Nat.le_trans (by omega) (Nat.le_of_succ_le g)⟩
    have pair : ∀ (j : Nat) (b : Addr) (x : V), ts[j]? = some b → xs[j]? = some x → enH H1 s1.heap.objs.size h1.objs.size ts (fun j => xs.getD j .non) b = some (.tup [.int ((j : Nat) : Int), x]) := fun j b x e ex => by
      have z := enH_at (H := H1) (D := h1.objs.size) (f := fun j => xs.getD j .non) e (nD j b e).2 (nD j b e).1 fun i e1 => one i j b e1 e
      have y : xs.getD j .non = x := by rw [List.getD_eq_getElem?_getD, ex]; rfl
      rw [z, y]
    have dl : enH H1 s1.heap.objs.size h1.objs.size ts (fun j => xs.getD j .non) h1.objs.size = some (.lst (ts.map V.ref)) := by
      have n2 : ¬ (h1.objs.size : Nat) < s1.heap.objs.size := by omega
      unfold enH
      rw [if_neg n2, if_pos rfl]
    have hok := m.hok (h' := h') I1.hok old fun b o hb e => by
      unfold enH at e
      rw [if_neg (Nat.not_lt.mpr hb)] at e
      by_cases c : b = h1.objs.size
      · rw [if_pos c] at e
        cases e
        subst c
        refine ⟨by rw [List.length_map, lts, ← lx]; exact hz, acc'.toList, c', by rw [ets]; exact envals_refs ts, ?_⟩
        rw [Array.toArray_toList]; exact hD
      · rw [if_neg c] at e
        by_cases q : ∃ j : Nat, ts[j]? = some b
        · rw [dif_pos q] at e
          cases e
          have sp := Classical.choose_spec q
          obtain ⟨tk, x, g1, _, g2⟩ := at_ _ b sp
          have lt := (List.getElem?_eq_some_iff.mp sp).1
          obtain ⟨v, hv⟩ : ∃ v, xs[Classical.choose q]? = some v := ⟨_, List.getElem?_eq_getElem (by omega)⟩
          obtain ⟨u, hu, ru⟩ := rv.get hv
          rw [g1] at hu
          cases hu
          have y : xs.getD (Classical.choose q) .non = v := by rw [List.getD_eq_getElem?_getD, hv]; rfl
          dsimp only
          rw [y]
          exact ⟨by show 2 ≤ sizeLine; decide, [.int _ tk, x], .cons ⟨_, rfl⟩ (.cons ru .nil), ⟨_, g2, rfl, _, rfl⟩⟩
        · rw [dif_neg q] at e; cases e
    refine ⟨.ref h1.objs.size, _, I1.un (t' := tk) (m.un I1.hok old) hok, rfl, q _ ts _ (m.ext I1.hok) (I1.hok.fresh (by omega)) dl (lts.trans lx.symm) pair⟩
end L2

/-! Z5: sorted(a tuple of whole numbers), list.extend(a tuple). -/
namespace L2
open PySem PySem.Spec PyProof.Rows SrtO
section
variable {prog : Program} {w : World} {A : Around} {E : Value → Shared → Prop} {s : Shared}
/-- what is gathered from a tuple -/
theorem gather_tup {t : Addr} {vs : List Value} {G : List Value → Shared → Prop} (ht : IsTup s.heap t vs.toArray) (hz : vs.length ≤ sizeLine)
    (hG : G vs { s with heap := (s.heap.push (seqObj "list" #[] 0)).update s.heap.objs.size (Obj.mapSeq (· ++ vs.toArray)) }) : wpAny (model prog w) A (collect (.ref t)) G E s := by
  obtain ⟨o, ho, hc, n, hd⟩ := ht
  have op : (s.heap.push (seqObj "list" #[] 0)).get? t = some o := Heap.get?_push_of_some _ ho
  have on : (s.heap.push (seqObj "list" #[] 0)).get? s.heap.objs.size = some (seqObj "list" #[] 0) := Heap.get?_push_size _ rfl
  have ze : (#[] ++ vs.toArray : Array Value).size ≤ sizeLine + 1 := by rw [Array.size_append, List.size_toArray]; exact Nat.le_succ_of_le (by simpa using hz)
  unfold collect
  refine wpAny_bind (wpAny_runValue (codeAny_builtin entry_proto_collect' (wpAny_bind (wpAny_newList (wpAny_pure ⟨Code.quiet_builtin _ (by decide +kernel), codeAny_builtin entry_list_iadd' ?_⟩)))))
  show wpAny _ _ (Builtin.List.listExtendWith (.ref s.heap.objs.size) (.ref t) (.ref s.heap.objs.size)) _ _ ⟨s.heap.push (seqObj "list" #[] 0), _, _, _, _⟩
  unfold Builtin.List.listExtendWith
  refine wpAny_bind (wpAny_typeOf (T := "tuple") ⟨o, op, hc⟩ ?_)
  have et : (Value.type "tuple" == Value.type "tuple") = true := rfl
  rw [if_pos (by rw [et]; simp)]
  refine wpAny_bind (listItems_at op hd (wpAny_bind (listItems_at (xs := #[]) (n := 0) on rfl ?_)))
  rw [if_neg (by simp)]
  refine wpAny_bind (listUpdate_at (xs := #[]) (n := 0) on rfl (wpAny_pure ?_) (Nat.zero_le _) ze)
  show wpAny _ _ (load s.heap.objs.size >>= _) _ _ ⟨(s.heap.push (seqObj "list" #[] 0)).update s.heap.objs.size (Obj.mapSeq (· ++ vs.toArray)), _, _, _, _⟩
  refine wpAny_bind (wpAny_load (get?_update_seq on _) ?_)
  show wpAny _ _ (pure (#[] ++ vs.toArray : Array Value).toList) _ _ _
  have ev : (#[] ++ vs.toArray : Array Value).toList = vs := by simp
  rw [ev]
  exact wpAny_pure hG
/-- sorted(a tuple) -/
theorem sorted_tup {t : Addr} {vs : List Value} {lt : Value → Value → Bool} {G : Value → Shared → Prop} (O : Swo lt) (ht : IsTup s.heap t vs.toArray) (hz : vs.length ≤ sizeLine)
    (hS : 2 ≤ vs.length → ∀ (g : Heap) (a : Addr), SortableO prog w A.in1.in1 { s with heap := g } a vs lt)
    (hG : ∀ out : List Value, Srtd lt out → Stb lt out vs → G (.ref (s.heap.objs.size + 1)) { s with heap := sortedAll s.heap vs out.toArray }) : wpAny (model prog w) A (call (.builtin "sorted") [.ref t]) G E s := by
  refine Calls.call_function_entry kind_sorted plain_sorted entry_sorted (args_sorted1 _) ?_
  unfold Builtin.«sorted»
  refine wpAny_bind (m := checkCount "sorted" 1 1 _) (wpAny_pure (wpAny_bind (gather_tup ht hz (wpAny_bind (wpAny_newList ?_ hz)))))
  have sz : ((s.heap.push (seqObj "list" #[] 0)).update s.heap.objs.size (Obj.mapSeq (· ++ vs.toArray))).objs.size = s.heap.objs.size + 1 := by rw [Heap.size_update, size_push']
  have at1 : (((s.heap.push (seqObj "list" #[] 0)).update s.heap.objs.size (Obj.mapSeq (· ++ vs.toArray))).push (seqObj "list" vs.toArray 0)).get? (s.heap.objs.size + 1) = some (seqObj "list" vs.toArray 0) := sz ▸ Heap.get?_push_size _ rfl
  show wpAny _ _ _ _ _ ⟨((s.heap.push (seqObj "list" #[] 0)).update s.heap.objs.size (Obj.mapSeq (· ++ vs.toArray))).push (seqObj "list" vs.toArray 0), _, _, _, _⟩
  rw [sz]
  refine wpAny_bind (wpAny_holding (wpAny_call_entry slot_list_sort ⟨_, at1, rfl⟩ entry_list_sort (list_sort_ord O at1 hz (fun h2 => hS h2 _ _) fun out k1 k2 => ⟨_, rfl, wpAny_pure ⟨_, rfl, hG out k1 k2⟩⟩) (args_list_sort _)))
end
/-- sorted(t), t a tuple of whole numbers -/
def rSortedTup (K : PySem.W.Frag) : List V → Hp → VK → Prop := fun vs H Q => ∃ (a : Addr) (ns : List Int), vs = [V.ref a] ∧ SqT K H a (ns.map V.int) ∧
  ∀ (ms : List Int) (p : Addr), ms.Perm ns → ms.Pairwise (· ≤ ·) → H p = none → Q (.ref p) (upd H p (.lst (ms.map V.int)))
/-- xs.extend(t), t a tuple -/
def rExtendT (K : PySem.W.Frag) : V → List V → Hp → VK → Prop := fun x vs H Q => ∃ l b xs zs, x = .ref l ∧ vs = [.ref b] ∧ H l = some (.lst xs) ∧ SqT K H b zs ∧ xs.length + zs.length ≤ sizeLine ∧ Q .non (upd H l (.lst (xs ++ zs)))
section
variable {X : Cx}
theorem cr_sortedTup : CallR X (.builtin "sorted") (rSortedTup X.K) := by
  intro pins s σ H vs us Q I r h
  obtain ⟨a, ns, rfl, hs, q⟩ := h
  obtain ⟨its, rv, pl, hz⟩ := I.tuple hs
  rw [Vals.ref1 r]
  have hi := rv.ints
  rw [rv.length] at hz
  refine sorted_tup swo_int pl hz (fun h2 g a' => ints_sortable hi h2) fun out k1 k2 => ?_
  obtain ⟨j1, j2, j3⟩ := ints_out hi k1 k2
  obtain ⟨e, he⟩ := sortedAll_at s.heap its out.toArray
  have hl : ((out.map iv).map V.int).length ≤ sizeLine := by
    have z := j2.length_eq
    have y := rv.length
    rw [List.length_map] at y ⊢
    omega
  exact ⟨.ref _, _, I.laid (t' := s.toks) (o := .lst ((out.map iv).map V.int)) (fun _ _ => sortedAll_old) (Nat.le_succ _) ⟨hl, out, e, vals_of_ints j1, he⟩, rfl, q _ _ j2 j3 (I.hok.fresh (Nat.le_succ _))⟩
theorem mt_extendT : MtM X "list.extend" (rExtendT X.K) := by
  intro pins s σ H x vs v us Q I rx rv h
  obtain ⟨l, b, xs, zs, rfl, rfl, hH, hB, hz, q⟩ := h
  cases rx
  obtain ⟨u, rfl, ru⟩ := rv.one
  cases ru
  obtain ⟨z, its, n, r, hl, e⟩ := I.lstM hH
  obtain ⟨its2, r2, pl, z2⟩ := I.tuple hB
  obtain ⟨o, ho, hc, n2, hd⟩ := pl
  have l2 := r2.length
  have zs2 : its.toArray.size + its2.toArray.size ≤ sizeLine := by rw [List.size_toArray, List.size_toArray]; omega
  refine wpAny_call_entry F.slot_list_extend ⟨_, e, rfl⟩ F.entry_list_extend ?_ (F.args_list_extend_2 _ _)
  show wpAny _ _ (Builtin.List.listExtendWith (.ref l) (.ref b) .none) _ _ s
  unfold Builtin.List.listExtendWith
  refine wpAny_bind (wpAny_typeOf (T := "tuple") ⟨o, ho, hc⟩ ?_)
  have et : (Value.type "tuple" == Value.type "tuple") = true := rfl
  rw [if_pos (by rw [et]; simp)]
  refine wpAny_bind (listItems_at ho hd (wpAny_bind (listItems_at e rfl ?_)))
  rw [if_neg (by rw [notLongL zs2, Bool.and_false]; exact Bool.false_ne_true)]
  refine wpAny_bind (listUpdate_at e rfl (wpAny_pure ?_) (by omega) (by rw [Array.size_append]; omega))
  refine ⟨_, rfl, .non, _, I.lset (its' := its ++ its2) hH e (by simp) (r.append r2) ?_, rfl, q⟩
  rw [List.length_append]
  omega
end
theorem pi_tupK {X : Cx} (K : PySem.W.Frag) {tg l : Expr} {tl : TE} (hl : PE X l tl) (e : X.K = K := by rfl) : PI X tg l (iTup K tl) := by subst e; exact pi_tup hl
theorem pi_listK {X : Cx} (K : PySem.W.Frag) {tg l : Expr} {tl : TE} (hl : PE X l tl) (e : X.K = K := by rfl) : PI X tg l (iList K tl) := by subst e; exact pi_list hl
end L2

namespace My
open PySem PySem.Spec PyProof.Rows L2
/-! ### the row's text, the built-ins, the errors' classes -/
abbrev topS (i : Nat) : Stmt := PySem.Challenge.pw_heldbehind_k15_faults_of_stages.main.body.getD i (.Pass ⟨0, 0, 0, 0⟩)
structure Bl (mg : Str → Option Value) : Prop where
  isinstance : mg "isinstance" = none
  int : mg "int" = none
  bool : mg "bool" = none
  tuple : mg "tuple" = none
  len : mg "len" = none
  all : mg "all" = none
  enumerate : mg "enumerate" = none
  reversed : mg "reversed" = none
  sorted : mg "sorted" = none
  max : mg "max" = none
  min : mg "min" = none
  abs : mg "abs" = none
  range : mg "range" = none
  list : mg "list" = none
  repr : mg "repr" = none
  sum : mg "sum" = none
  any : mg "any" = none
  zip : mg "zip" = none
  str : mg "str" = none
  set : mg "set" = none
  dict : mg "dict" = none
structure Ex1 (K : PySem.W.Frag) (mg : Str → Option Value) (nm : Str) (C : Addr) : Prop where
  x : PySem.W.excIn K C [.type "ValueError", .type "Exception", .type "BaseException", .type "object"] "ValueError.__new__" = true
  g : mg nm = some (.ref C)
  k : PySem.W.keepIn K (.ref C) = true
  b : PySem.W.subIn K (.ref C) (.type "BaseException") = some true
  t : PySem.W.typeIn K (.ref C) = some (.type "type")
theorem passX {X : Cx} {E : XK} (tk : Takes X (fun cls d _ H => E cls d H)) : Passes (L2.CX X.prog X.w) X E := passes_call tk (fun _ _ _ _ h => h)
/-! ### what a value is -/
def tupAt (H : Hp) : V → Option (List V)
  | .ref a => match H a with
    | some (.tup xs) => some xs
    | _ => none
  | _ => none
def isInt : V → Bool
  | .int _ => true
  | _ => false
def isBl : V → Bool
  | .bl _ => true
  | _ => false
def isIdx (n : Int) : V → Bool
  | .int i => decide (0 ≤ i) && decide (i < n)
  | _ => false
inductive Vd (H : Hp) : V → Prop where
  | non : Vd H .non
  | bl (b : Bool) : Vd H (.bl b)
  | int (i : Int) : Vd H (.int i)
  | str (z : Str) : Vd H (.str z)
  | lst {a : Addr} {xs : List V} (h : H a = some (.lst xs)) : Vd H (.ref a)
  | tup {a : Addr} {xs : List V} (h : H a = some (.tup xs)) : Vd H (.ref a)
  | dK {a : Addr} {kvs : List (Key × V)} (h : H a = some (.dK kvs)) : Vd H (.ref a)
theorem Vd.same {H H' : Hp} {x : V} (v : Vd H x) (s : Same H H') : Vd H' x := by
  cases v with
  | non => exact .non
  | bl b => exact .bl b
  | int i => exact .int i
  | str z => exact .str z
  | lst h => exact .lst (s _ _ h)
  | tup h => exact .tup (s _ _ h)
  | dK h => exact .dK (s _ _ h)
theorem tupAt_tup {H : Hp} {a : Addr} {xs : List V} (h : H a = some (.tup xs)) : tupAt H (.ref a) = some xs := by simp only [tupAt, h]
theorem tupAt_lst {H : Hp} {a : Addr} {xs : List V} (h : H a = some (.lst xs)) : tupAt H (.ref a) = none := by simp only [tupAt, h]
theorem tupAt_dK {H : Hp} {a : Addr} {xs : List (Key × V)} (h : H a = some (.dK xs)) : tupAt H (.ref a) = none := by simp only [tupAt, h]
theorem Vd.ty {K : PySem.W.Frag} {H : Hp} {x : V} (v : Vd H x) : ∃ t : String, TyX K H x (.type t) ∧ kitB t "int" = some (isInt x || isBl x) ∧ kitB t "bool" = some (isBl x) ∧ kitB t "tuple" = some (tupAt H x).isSome := by
  cases v with
  | non => exact ⟨_, .base .non, (by decide +kernel : kitB "NoneType" "int" = some false), (by decide +kernel : kitB "NoneType" "bool" = some false), (by decide +kernel : kitB "NoneType" "tuple" = some false)⟩
  | bl b => exact ⟨_, .base (.bl b), (by decide +kernel : kitB "bool" "int" = some true), (by decide +kernel : kitB "bool" "bool" = some true), (by decide +kernel : kitB "bool" "tuple" = some false)⟩
  | int i => exact ⟨_, .base (.int i), (by decide +kernel : kitB "int" "int" = some true), (by decide +kernel : kitB "int" "bool" = some false), (by decide +kernel : kitB "int" "tuple" = some false)⟩
  | str z => exact ⟨_, .base (.str z), (by decide +kernel : kitB "str" "int" = some false), (by decide +kernel : kitB "str" "bool" = some false), (by decide +kernel : kitB "str" "tuple" = some false)⟩
  | lst h => exact ⟨_, .base (.lst h), (by decide +kernel : kitB "list" "int" = some false), (by decide +kernel : kitB "list" "bool" = some false), by rw [tupAt_lst h]; exact (by decide +kernel : kitB "list" "tuple" = some false)⟩
  | tup h => exact ⟨_, .base (.tup h), (by decide +kernel : kitB "tuple" "int" = some false), (by decide +kernel : kitB "tuple" "bool" = some false), by rw [tupAt_tup h]; exact (by decide +kernel : kitB "tuple" "tuple" = some true)⟩
  | dK h => exact ⟨_, .base (.dK h), (by decide +kernel : kitB "dict" "int" = some false), (by decide +kernel : kitB "dict" "bool" = some false), by rw [tupAt_dK h]; exact (by decide +kernel : kitB "dict" "tuple" = some false)⟩
/-! ### heldbehind.integers -/
def spIsInteger : Sp := fun vs H Q _ => ∃ x : V, vs = [x] ∧ Vd H x ∧ Q (.bl (isInt x)) H
def isBtw (n m : Int) : V → Bool
  | .int i => decide (n ≤ i) && decide (i ≤ m)
  | _ => false
theorem isBtw_idx (n : Int) (x : V) : isBtw 0 (n - 1) x = isIdx n x := by
  cases x with
  | int i =>
    show (decide (0 ≤ i) && decide (i ≤ n - 1)) = (decide (0 ≤ i) && decide (i < n))
    rw [show decide (i ≤ n - 1) = decide (i < n) from decide_eq_decide.mpr (by omega)]
  | _ => rfl
def spIsBetween : Sp := fun vs H Q _ => ∃ (x : V) (n m : Int), vs = [x, .int n, .int m] ∧ Vd H x ∧ Q (.bl (isBtw n m x)) H
def spIsIndex : Sp := fun vs H Q _ => ∃ (x : V) (n : Int), vs = [x, .int n] ∧ Vd H x ∧ Q (.bl (isIdx n x)) H
section
variable {P : Program} {w : World} {K : PySem.W.Frag} {mg : Str → Option Value} {base : Heap}
abbrev st_is_integer : Stmt := topS 5
abbrev N_is_integer : List Str := ["value"]
theorem sc_is_integer : FnScope N_is_integer ["value"] (defScope st_is_integer) := ⟨rfl, rfl, rfl, by decide +kernel, rfl, by decide +kernel, by decide +kernel⟩
theorem ok_is_integer (D : Df K mg "is_integer" st_is_integer ["value"]) (B : Bl mg) : Kn P w K mg base CX0 1 "is_integer" st_is_integer ["value"] spIsInteger := by
  refine D.ok sc_is_integer (fun vs H Q E h => ?_) (fun f cdv A outer s H vs Q E hr h => ?_)
  · obtain ⟨x, rfl, _⟩ := h; rfl
  obtain ⟨x, rfl, v, q⟩ := h
  refine ⟨_, ((pss_one (ps_ret (pe_and (pe_callB call_isi (by rfl) B.isinstance (by decide +kernel) (pa_cons (pv 0) (pa_cons (pe_bltn (v := .ty "int") (u := .type "int") (by rfl) B.int (by decide +kernel) rfl) pa_nil))) (pe_one (pe_not (pe_callB call_isi (by rfl) B.isinstance (by decide +kernel) (pa_cons (pv 0) (pa_cons (pe_bltn (v := .ty "bool") (u := .type "bool") (by rfl) B.bool (by decide +kernel) rfl) pa_nil))))))))), ?_⟩
  obtain ⟨t, ty, k1, k2, _⟩ := v.ty (K := K)
  refine ⟨_, rfl, _, _, _, _, _, rfl, .ty _, ty, kit_ty k1, _, rfl, ?_⟩
  cases e1 : isInt x with
  | true =>
    have e2 : isBl x = false := by cases x <;> first | rfl | cases e1
    rw [e2] at k2 ⊢
    refine iteT ⟨_, rfl, _, _, _, _, _, rfl, .ty _, ty, kit_ty k2, _, rfl, ?_⟩
    rw [e1] at q; exact q
  | false =>
    rw [e1] at q
    cases e2 : isBl x with
    | false => exact iteF q
    | true =>
      rw [e2] at k2
      exact iteT ⟨_, rfl, _, _, _, _, _, rfl, .ty _, ty, kit_ty k2, _, rfl, q⟩
abbrev st_is_between : Stmt := topS 6
abbrev N_is_between : List Str := ["value", "least", "greatest"]
theorem sc_is_between : FnScope N_is_between ["value", "least", "greatest"] (defScope st_is_between) := ⟨rfl, rfl, rfl, by decide +kernel, rfl, by decide +kernel, by decide +kernel⟩
theorem ok_is_between (D : Df K mg "is_between" st_is_between ["value", "least", "greatest"]) (B : Bl mg) (Kis_integer : Kn P w K mg base CX0 1 "is_integer" st_is_integer ["value"] spIsInteger) :
    Kn P w K mg base CX0 2 "is_between" st_is_between ["value", "least", "greatest"] spIsBetween := by
  refine D.ok sc_is_between (fun vs H Q E h => ?_) (fun f cdv A outer s H vs Q E hr h => ?_)
  · obtain ⟨x, n, m, rfl, _⟩ := h; rfl
  obtain ⟨x, n, m, rfl, v, q⟩ := h
  refine ⟨_, ((pss_one (ps_ret (pe_and (pe_callF Kis_integer (hr.mono (by decide)) pass0 (pa_cons (pv 0) pa_nil)) (pe_one (pe_chain op_le op_le (pv 1) (pv 0) (pv 2))))))), ?_⟩
  refine ⟨_, rfl, _, rfl, v, _, rfl, ?_⟩
  cases x with
  | int i =>
    refine iteT ⟨_, rfl, _, rfl, _, _, rfl, rfl, _, rfl, ?_⟩
    have q' : Q (.bl (decide (n ≤ i) && decide (i ≤ m))) H := q
    refine ite2 (fun c => ?_) (fun c => ?_)
    · rw [c, Bool.true_and] at q'
      exact ⟨_, rfl, _, _, rfl, rfl, q'⟩
    · rw [Bool.eq_false_iff.mpr c, Bool.false_and] at q'
      exact q'
  | _ => exact iteF q
abbrev st_is_index : Stmt := topS 7
abbrev N_is_index : List Str := ["value", "many"]
theorem sc_is_index : FnScope N_is_index ["value", "many"] (defScope st_is_index) := ⟨rfl, rfl, rfl, by decide +kernel, rfl, by decide +kernel, by decide +kernel⟩
theorem ok_is_index (D : Df K mg "is_index" st_is_index ["value", "many"]) (B : Bl mg) (Kis_between : Kn P w K mg base CX0 2 "is_between" st_is_between ["value", "least", "greatest"] spIsBetween) :
    Kn P w K mg base CX0 3 "is_index" st_is_index ["value", "many"] spIsIndex := by
  refine D.ok sc_is_index (fun vs H Q E h => ?_) (fun f cdv A outer s H vs Q E hr h => ?_)
  · obtain ⟨x, n, rfl, _⟩ := h; rfl
  obtain ⟨x, n, rfl, v, q⟩ := h
  refine ⟨_, ((pss_one (ps_ret (pe_callF Kis_between (hr.mono (by decide)) pass0 (pa_cons (pv 0) (pa_cons pe_int (pa_cons (pe_op op_sub (pv 1) pe_int) pa_nil))))))), ?_⟩
  refine ⟨_, rfl, _, rfl, _, _, rfl, rfl, x, 0, n - 1, rfl, v, ?_⟩
  rw [isBtw_idx]
  exact q
end

end My

namespace My
open PySem PySem.Spec PyProof.Rows L2
/-! ### forests as lists of holders -/
def hv : Option Nat → V
  | none => .non
  | some u => .int (u : Int)
abbrev Hs := List (Option Nat)
def nv (l : List Nat) : List V := l.map fun v : Nat => V.int (v : Int)
def kidsTo (hs : Hs) (u i : Nat) : List Nat := (List.range i).filter fun v => decide (hs[v]? = some (some u))
def rootsTo (hs : Hs) (i : Nat) : List Nat := (List.range i).filter fun v => decide (hs[v]? = some none)
def kids (hs : Hs) (u : Nat) : List Nat := kidsTo hs u hs.length
def roots (hs : Hs) : List Nat := rootsTo hs hs.length
theorem kidsTo_succ (hs : Hs) (u i : Nat) : kidsTo hs u (i + 1) = kidsTo hs u i ++ (if hs[i]? = some (some u) then [i] else []) := by
  unfold kidsTo
  rw [List.range_succ, List.filter_append]
  by_cases h : hs[i]? = some (some u) <;> simp [h]
theorem rootsTo_succ (hs : Hs) (i : Nat) : rootsTo hs (i + 1) = rootsTo hs i ++ (if hs[i]? = some none then [i] else []) := by
  unfold rootsTo
  rw [List.range_succ, List.filter_append]
  by_cases h : hs[i]? = some none <;> simp [h]
theorem mem_kids {hs : Hs} {u v : Nat} : v ∈ kids hs u ↔ hs[v]? = some (some u) := by
  unfold kids kidsTo
  rw [List.mem_filter, List.mem_range, decide_eq_true_eq]
  exact ⟨fun h => h.2, fun h => ⟨(List.getElem?_eq_some_iff.mp h).1, h⟩⟩
theorem mem_roots {hs : Hs} {v : Nat} : v ∈ roots hs ↔ hs[v]? = some none := by
  unfold roots rootsTo
  rw [List.mem_filter, List.mem_range, decide_eq_true_eq]
  exact ⟨fun h => h.2, fun h => ⟨(List.getElem?_eq_some_iff.mp h).1, h⟩⟩
theorem nodup_kids (hs : Hs) (u : Nat) : (kids hs u).Nodup := List.nodup_range.filter _
theorem nodup_roots (hs : Hs) : (roots hs).Nodup := List.nodup_range.filter _
theorem kidsTo_len (hs : Hs) (u i : Nat) : (kidsTo hs u i).length ≤ i := by
  have h := List.length_filter_le (fun v => decide (hs[v]? = some (some u))) (List.range i)
  rw [List.length_range] at h; exact h
theorem rootsTo_len (hs : Hs) (i : Nat) : (rootsTo hs i).length ≤ i := by
  have h := List.length_filter_le (fun v => decide (hs[v]? = some none)) (List.range i)
  rw [List.length_range] at h; exact h
theorem nv_append (a b : List Nat) : nv (a ++ b) = nv a ++ nv b := List.map_append
theorem nv_length (a : List Nat) : (nv a).length = a.length := List.length_map _
theorem nv_get {a : List Nat} {i v : Nat} (h : a[i]? = some v) : (nv a)[i]? = some (.int (v : Int)) := by
  unfold nv; rw [List.getElem?_map, h]; rfl
theorem hv_get {hs : Hs} {i : Nat} {x : V} (h : (hs.map hv)[i]? = some x) : ∃ o, hs[i]? = some o ∧ x = hv o := by
  rw [List.getElem?_map] at h
  cases e : hs[i]? with
  | none => rw [e] at h; cases h
  | some o => rw [e] at h; exact ⟨o, rfl, (Option.some.inj h).symm⟩
theorem hv_at {hs : Hs} {i : Nat} {o : Option Nat} (h : hs[i]? = some o) : (hs.map hv)[i]? = some (hv o) := by rw [List.getElem?_map, h]; rfl
theorem szl {n : Nat} (h : n ≤ 1000) : n < sizeLine := small1000 h
/-! ### heldbehind.forests: the private lists -/
def spWithout (K : PySem.W.Frag) : Sp := fun vs H Q _ => ∃ (a : Addr) (hs : Hs), vs = [.ref a] ∧ SqT K H a (hs.map hv) ∧ hs.length ≤ 1000 ∧
  ∀ p H', Same H H' → H p = none → H' p = some (.lst (nv (roots hs))) → Q (.ref p) H'
section
variable {P : Program} {w : World} {K : PySem.W.Frag} {mg : Str → Option Value} {base : Heap}
abbrev st__without_holder : Stmt := topS 12
abbrev N__without_holder : List Str := ["forest", "thing", "holder"]
theorem sc__without_holder : FnScope N__without_holder ["forest"] (defScope st__without_holder) := ⟨rfl, rfl, rfl, by decide +kernel, rfl, by decide +kernel, by decide +kernel⟩
theorem ok__without_holder (D : Df K mg "_without_holder" st__without_holder ["forest"]) (B : Bl mg) : Kn P w K mg base CX0 1 "_without_holder" st__without_holder ["forest"] (spWithout K) := by
  refine D.ok sc__without_holder (fun vs H Q E h => ?_) (fun f cdv A outer s H vs Q E hr h => ?_)
  · obtain ⟨a, hs, rfl, _⟩ := h; rfl
  obtain ⟨a, hs, rfl, hS, hn, q⟩ := h
  refine ⟨_, ((pss_one (ps_ret (pe_lc (own := [("thing", 1), ("holder", 2)]) (g := gTup K 2 (gCons (gName 1) (gCons (gName 2) gNil))) rfl sc__without_holder.nd (pi_enumT (by rfl) B.enumerate (pa_cons (pv 0) pa_nil)) (blkOk_by (N := N__without_holder) (sc := defScope st__without_holder) (own := [("thing", 1), ("holder", 2)]) (by decide +kernel)) (fun _ _ _ _ _ => by (refine pg_tup (n := 2) ?hc ?h ?hn ?hst; (case hc => rfl); (case hn => rfl); (case hst => rfl); case h => (refine pgs_cons ?g1 ?g2; (case g1 => exact (pg_name (i := 1) sc__without_holder.nd rfl (Or.inl rfl))); case g2 => (refine pgs_cons ?g1 ?g2; (case g1 => exact (pg_name (i := 2) sc__without_holder.nd rfl (Or.inl rfl))); case g2 => (exact pgs_nil))))) (fun _ _ _ _ _ => by exact (pts_one (pt_cmpR op_isN (pv 2) pe_non (nomark _)))) (fun _ _ _ _ _ => by exact (pv 1)))))), ?_⟩
  refine ⟨_, rfl, a, _, rfl, hS, fun D hD => lc_it (walk_enumT (xs := hs.map hv)) (fun i H' => Same H H' ∧ H' D = some (.lst (nv (rootsTo hs i)))) ⟨(Same.refl H).new hD, upd_same⟩ (fun i H' _ p => p.1.tseq hS) ?_ ?_⟩
  · rintro i x H1 H2 hi ⟨s1, hD1⟩ ⟨T, x1, x2, rfl, hT, rfl, e1, e2⟩
    have e1' := Option.some.inj e1; subst e1'
    obtain ⟨o, ho, rfl⟩ := hv_get e2
    have hDT : D ≠ T := ne_of_none hD1 hT
    refine ⟨T, _, rfl, SqT.of upd_same, rfl, _, _, rfl, _, _, rfl, rfl, rfl, _, rfl, rfl, _, rfl, ?_⟩
    have s2 : Same H (upd H1 T (.tup [.int (i : Int), hv o])) := s1.new hT
    have hi' : (rootsTo hs i).length ≤ i := rootsTo_len hs i
    have hil : i < hs.length := (List.getElem?_eq_some_iff.mp ho).1
    have hD2 : upd H1 T (.tup [.int (i : Int), hv o]) D = some (.lst (nv (rootsTo hs i))) := by rw [upd_ne hDT]; exact hD1
    refine ite2 (fun c => ?_) (fun c => ?_)
    · have eo : o = none := by
        cases o with
        | none => rfl
        | some u => exact absurd (of_decide_eq_true c) (by intro z; cases z)
      refine ⟨_, rfl, _, hD2, by rw [nv_length]; exact szl (by omega), s2.upd hD, ?_⟩
      rw [upd_same, rootsTo_succ, ho, eo, if_pos rfl, nv_append]; rfl
    · have eo : ¬ some o = some none := by intro z; cases z; exact c rfl
      refine ⟨s2, ?_⟩
      rw [hD2, rootsTo_succ, ho, if_neg eo, List.append_nil]
  · rintro H1 ⟨s1, hD1⟩
    refine q D H1 s1 hD ?_
    rw [hD1, List.length_map]; rfl
end

end My

namespace My
open PySem PySem.Spec PyProof.Rows L2
def InB (hs : Hs) : Prop := ∀ v u : Nat, hs[v]? = some (some u) → u < hs.length
structure HeldTo (H : Hp) (p : Addr) (as : List Addr) (hs : Hs) (i : Nat) : Prop where
  lst : H p = some (.lst (as.map V.ref))
  len : as.length = hs.length
  nd : as.Nodup
  at_ : ∀ (j : Nat) (c : Addr), as[j]? = some c → H c = some (.lst (nv (kidsTo hs j i)))
abbrev HeldAt (H : Hp) (p : Addr) (as : List Addr) (hs : Hs) : Prop := HeldTo H p as hs hs.length
theorem HeldTo.same {H H' : Hp} {p : Addr} {as : List Addr} {hs : Hs} {i : Nat} (h : HeldTo H p as hs i) (s : Same H H') : HeldTo H' p as hs i :=
  ⟨s _ _ h.lst, h.len, h.nd, fun j c e => s _ _ (h.at_ j c e)⟩
theorem nodup_at {as : List Addr} (nd : as.Nodup) {i j : Nat} {c : Addr} (h1 : as[i]? = some c) (h2 : as[j]? = some c) : i = j := by
  obtain ⟨l1, e1⟩ := List.getElem?_eq_some_iff.mp h1
  obtain ⟨l2, e2⟩ := List.getElem?_eq_some_iff.mp h2
  exact (List.getElem_inj nd).mp (e1.trans e2.symm)
/-- nothing is held by a thing beyond the turns: the turn of a thing without a holder -/
theorem HeldTo.skip {H : Hp} {p : Addr} {as : List Addr} {hs : Hs} {i : Nat} (h : HeldTo H p as hs i) (e : hs[i]? = some none) : HeldTo H p as hs (i + 1) :=
  ⟨h.lst, h.len, h.nd, fun j c q => by
    have z : ¬ hs[i]? = some (some j) := by rw [e]; intro w; cases w
    rw [kidsTo_succ, if_neg z, List.append_nil]; exact h.at_ j c q⟩
theorem HeldTo.put {H : Hp} {p c : Addr} {as : List Addr} {hs : Hs} {i u : Nat} (h : HeldTo H p as hs i) (e : hs[i]? = some (some u)) (hc : as[u]? = some c) :
    HeldTo (upd H c (.lst (nv (kidsTo hs u i) ++ [.int (i : Int)]))) p as hs (i + 1) := by
  have hcl := h.at_ u c hc
  have hpc : p ≠ c := by
    intro z
    have q := h.lst
    rw [z, hcl] at q
    have q2 := HO.lst.inj (Option.some.inj q)
    have hl : as ≠ [] := by intro w; rw [w] at hc; cases hc
    cases as with
    | nil => exact hl rfl
    | cons a0 r =>
      cases hk : kidsTo hs u i with
      | nil => rw [hk] at q2; cases q2
      | cons k0 kr => rw [hk] at q2; cases q2
  refine ⟨by rw [upd_ne hpc]; exact h.lst, h.len, h.nd, fun j c' q => ?_⟩
  by_cases hj : j = u
  · subst hj
    have ec : c' = c := Option.some.inj (q.symm.trans hc)
    subst ec
    rw [upd_same, kidsTo_succ, if_pos e, nv_append]; rfl
  · have ec : c' ≠ c := fun z => hj (nodup_at h.nd q (by rw [z]; exact hc))
    have z : ¬ hs[i]? = some (some j) := by rw [e]; intro w; cases w; exact hj rfl
    rw [upd_ne ec, kidsTo_succ, if_neg z, List.append_nil]; exact h.at_ j c' q
def spHeld (K : PySem.W.Frag) : Sp := fun vs H Q _ => ∃ (a : Addr) (hs : Hs), vs = [.ref a] ∧ SqT K H a (hs.map hv) ∧ hs.length ≤ 1000 ∧ InB hs ∧
  ∀ p as H', Same H H' → H p = none → (∀ c ∈ as, H c = none) → HeldAt H' p as hs → Q (.ref p) H'
section
variable {P : Program} {w : World} {K : PySem.W.Frag} {mg : Str → Option Value} {base : Heap}
abbrev st__held_lists : Stmt := topS 13
abbrev N__held_lists : List Str := ["forest", "held", "thing", "holder", "_"]
theorem sc__held_lists : FnScope N__held_lists ["forest"] (defScope st__held_lists) := ⟨rfl, rfl, rfl, by decide +kernel, rfl, by decide +kernel, by decide +kernel⟩
theorem ok__held_lists (D : Df K mg "_held_lists" st__held_lists ["forest"]) (B : Bl mg) : Kn P w K mg base CX0 1 "_held_lists" st__held_lists ["forest"] (spHeld K) := by
  refine D.ok sc__held_lists (fun vs H Q E h => ?_) (fun f cdv A outer s H vs Q E hr h => ?_)
  · obtain ⟨a, hs, rfl, _⟩ := h; rfl
  obtain ⟨a, hs, rfl, hS, hn, hin, q⟩ := h
  refine ⟨_, ((pss_cons (ps_setLc (i := 1) (own := [("_", 4)]) (g := gName 4) rfl sc__held_lists.nd rfl rfl (sw_true rfl rfl rfl (by decide +kernel)) (pi_tup (pv 0)) (blkOk_by (N := N__held_lists) (sc := defScope st__held_lists) (own := [("_", 4)]) (by decide +kernel)) (fun _ _ _ _ _ => by (exact (pg_name (i := 4) sc__held_lists.nd rfl (Or.inl rfl)))) (fun _ _ _ _ _ => by exact pts_nil) (fun _ _ _ _ _ => by exact (pe_lst pa_nil)))
      (pss_cons (ps_for PassesOwn.never rfl (pi_enumT (by rfl) B.enumerate (pa_cons (pv 0) pa_nil)) (pg_tup rfl (pgs_cons (pg_name (i := 2) sc__held_lists.nd rfl (Or.inl rfl)) (pgs_cons (pg_name (i := 3) sc__held_lists.nd rfl (Or.inl rfl)) pgs_nil))) (pss_one (ps_if (pt_cmpR op_notN (pv 3) pe_non (nomark _)) (pss_one (ps_expr (pe_bm PySem.F.plainAttrs_list PySem.F.slot_list_append PySem.F.type_list_append mt_append (pe_ix ix_list (pv 1) (pv 3) (fun _ _ => rfl)) (pa_cons (pv 2) pa_nil)))) pss_nil)))
      (pss_one (ps_ret (pv 1)))))), ?_⟩
  refine ⟨_, rfl, a, rfl, ⟨_, hS⟩, fun D hD => lc_it (walk_tup (xs := hs.map hv)) (fun i H' => Same H H' ∧ ∃ as : List Addr, as.length = i ∧ as.Nodup ∧ H' D = some (.lst (as.map V.ref)) ∧ ∀ c ∈ as, H' c = some (.lst []) ∧ H c = none ∧ c ≠ D)
    ⟨(Same.refl H).new hD, [], rfl, List.nodup_nil, upd_same, fun c hc => by cases hc⟩ (fun i H' _ p => p.1.tseq hS) ?_ ?_⟩
  · rintro i x H1 H2 hi ⟨s1, as, hlen, nd, hD1, hcs⟩ ⟨rfl, e1⟩
    rw [List.length_map] at hi
    refine ⟨rfl, ⟨by show 0 ≤ sizeLine; decide, fun p hp => ?_⟩⟩
    have hDp : D ≠ p := ne_of_none hD1 hp
    have hpn : H p = none := s1.free hp
    refine ⟨_, by rw [upd_ne hDp]; exact hD1, by rw [List.length_map]; exact szl (by omega), (s1.upd hpn).upd hD, as ++ [p], ?_, ?_, ?_, ?_⟩
    · rw [List.length_append, hlen]; rfl
    · refine List.nodup_append.mpr ⟨nd, by simp, fun x hx y hy => ?_⟩
      have ey : y = p := by simpa using hy
      rw [ey]
      exact ne_of_none (hcs x hx).1 hp
    · rw [upd_same, List.map_append]; rfl
    · intro c hc
      rcases List.mem_append.mp hc with hc | hc
      · obtain ⟨c1, c2, c3⟩ := hcs c hc
        exact ⟨by rw [upd_ne c3, upd_ne (ne_of_none c1 hp)]; exact c1, c2, c3⟩
      · have ec : c = p := by simpa using hc
        rw [ec]
        exact ⟨by rw [upd_ne hDp.symm, upd_same], hpn, hDp.symm⟩
  · rintro H1 ⟨s1, as, hlen, nd, hD1, hcs⟩
    rw [List.length_map] at hlen
    have h0 : HeldTo H1 D as hs 0 := ⟨hD1, hlen, nd, fun j c e => (hcs c (List.mem_of_getElem? e)).1⟩
    refine ⟨_, rfl, a, _, rfl, s1.tseq hS, for_it (walk_enumT (xs := hs.map hv)) (fun i σ H' => ∃ v2 v3, σ = [some (.ref a), some (.ref D), v2, v3, none] ∧ Same H H' ∧ HeldTo H' D as hs i)
      ⟨none, none, rfl, s1, h0⟩ (fun i σ H' _ p => by obtain ⟨_, _, _, p, _⟩ := p; exact p.tseq hS) ?_ ?_⟩
    · rintro i x σ H2 H3 hi ⟨v2, v3, rfl, s2, hh⟩ ⟨T, x1, x2, rfl, hT, rfl, e1, e2⟩
      have e1' := Option.some.inj e1; subst e1'
      obtain ⟨o, ho, rfl⟩ := hv_get e2
      have s3 : Same H2 (upd H2 T (.tup [.int (i : Int), hv o])) := (Same.refl _).new hT
      have hh3 := hh.same s3
      refine ⟨T, _, rfl, SqT.of upd_same, rfl, _, _, rfl, _, _, rfl, rfl, _, rfl, rfl, _, rfl, ?_⟩
      cases o with
      | none => exact iteF ⟨_, _, rfl, s2.trans s3, hh3.skip ho⟩
      | some u =>
        have hu := hin i u ho
        have hil : i < hs.length := (List.getElem?_eq_some_iff.mp ho).1
        obtain ⟨c, hc⟩ : ∃ c, as[u]? = some c := ⟨as[u]'(by rw [hlen]; exact hu), List.getElem?_eq_getElem _⟩
        have hc2 : (as.map V.ref)[u]? = some (.ref c) := by rw [List.getElem?_map, hc]; rfl
        have hcl := hh3.at_ u c hc
        have hk := kidsTo_len hs u i
        refine iteT ⟨_, rfl, _, rfl, D, _, _, _, rfl, rfl, SqL.of hh3.lst, atI_nat hc2, .inl ⟨rfl, _, SqL.of hcl⟩, _, rfl, c, _, _, rfl, rfl, hcl, by rw [nv_length]; exact szl (by omega), ?_⟩
        exact ⟨_, _, rfl, (s2.trans s3).upd (hcs c (List.mem_of_getElem? hc)).2.1, hh3.put ho hc⟩
    · rintro σ H2 ⟨v2, v3, rfl, s2, hh⟩
      rw [List.length_map] at hh
      exact ⟨_, rfl, q D as H2 s2 hD (fun c hc => (hcs c hc).2.1) hh⟩
end

end My

namespace My
open PySem PySem.Spec PyProof.Rows L2
theorem nodup_len : ∀ (n : Nat) (l : List Nat), l.Nodup → (∀ v ∈ l, v < n) → l.length ≤ n
  | 0, l, _, h => by
    cases l with
    | nil => exact Nat.le_refl _
    | cons a r => exact absurd (h a List.mem_cons_self) (Nat.not_lt_zero _)
  | n + 1, l, nd, h => by
    by_cases hm : n ∈ l
    · have h1 : (l.erase n).Nodup := nd.erase n
      have h2 : ∀ v ∈ l.erase n, v < n := fun v hv => by
        have h3 := h v (List.mem_of_mem_erase hv)
        have h4 : v ≠ n := fun e => by
          rw [e] at hv
          exact (List.Nodup.not_mem_erase nd) hv
        omega
      have ih := nodup_len n _ h1 h2
      have hl := List.length_erase_of_mem hm
      have hp := List.length_pos_of_mem hm
      omega
    · have ih := nodup_len n l nd fun v hv => by
        have h3 := h v hv
        have h4 : v ≠ n := fun e => hm (e ▸ hv)
        omega
      omega
/-- how far a walk has come: found, and what is waiting (its last one next) -/
structure WT (hs : Hs) (st : List Nat) (Rn : Nat → Prop) (found wait : List Nat) : Prop where
  nd : (found ++ wait).Nodup
  ok : ∀ v ∈ found ++ wait, v < hs.length ∧ Rn v ∧ (v ∈ st ∨ ∃ u ∈ found, hs[v]? = some (some u))
  sm : ∀ v ∈ st, v ∈ found ++ wait
  cl : ∀ v u : Nat, hs[v]? = some (some u) → u ∈ found → v ∈ found ++ wait
  od : ∀ i v : Nat, found[i]? = some v → v ∈ st ∨ ∃ j u : Nat, j < i ∧ found[j]? = some u ∧ hs[v]? = some (some u)
  pr : ∀ pre : Nat → List Nat, (∀ v, Rn v → pre v = v :: (kids hs v).flatMap pre) → found ++ wait.reverse.flatMap pre = st.flatMap pre
structure Starts (hs : Hs) (st : List Nat) (Rn : Nat → Prop) : Prop where
  nd : st.Nodup
  ok : ∀ s ∈ st, s < hs.length ∧ Rn s
  down : ∀ v u : Nat, hs[v]? = some (some u) → Rn u → Rn v
  no : ∀ s ∈ st, ∀ u : Nat, hs[s]? = some (some u) → ¬ Rn u
theorem WT.start {hs : Hs} {st : List Nat} {Rn : Nat → Prop} (S : Starts hs st Rn) : WT hs st Rn [] st.reverse where
  nd := by rw [List.nil_append]; exact (List.reverse_perm st).nodup_iff.mpr S.nd
  ok := fun v hv => by
    rw [List.nil_append, List.mem_reverse] at hv
    exact ⟨(S.ok v hv).1, (S.ok v hv).2, .inl hv⟩
  sm := fun v hv => by rw [List.nil_append, List.mem_reverse]; exact hv
  cl := fun v u _ hu => by cases hu
  od := fun i v e => by cases e
  pr := fun pre _ => by rw [List.nil_append, List.reverse_reverse]
theorem WT.step {hs : Hs} {st : List Nat} {Rn : Nat → Prop} {found w : List Nat} {t : Nat} (S : Starts hs st Rn) (h : WT hs st Rn found (w ++ [t])) : WT hs st Rn (found ++ [t]) (w ++ (kids hs t).reverse) := by
  have ht : t ∈ found ++ (w ++ [t]) := by simp
  have htf : t ∉ found := fun z => by
    have q := h.nd
    rw [List.nodup_append] at q
    exact q.2.2 t z t (by simp) rfl
  have hRt := (h.ok t ht).2.1
  have hno : ∀ v ∈ found ++ (w ++ [t]), hs[v]? ≠ some (some t) := fun v hv e => by
    rcases (h.ok v hv).2.2 with z | ⟨u, hu, z⟩
    · exact S.no v z t e hRt
    · rw [e] at z
      cases z
      exact htf hu
  have mem : ∀ v, v ∈ (found ++ [t]) ++ (w ++ (kids hs t).reverse) ↔ v ∈ found ++ (w ++ [t]) ∨ v ∈ kids hs t := fun v => by
    simp only [List.mem_append, List.mem_singleton, List.mem_reverse]
    constructor
    · rintro ((a | a) | (a | a))
      · exact .inl (.inl a)
      · exact .inl (.inr (.inr a))
      · exact .inl (.inr (.inl a))
      · exact .inr a
    · rintro ((a | (a | a)) | a)
      · exact .inl (.inl a)
      · exact .inr (.inl a)
      · exact .inl (.inr a)
      · exact .inr (.inr a)
  refine ⟨?_, fun v hv => ?_, fun v hv => (mem v).mpr (.inl (h.sm v hv)), fun v u e hu => ?_, fun i v e => ?_, fun pre hp => ?_⟩
  · have p : ((found ++ [t]) ++ (w ++ (kids hs t).reverse)).Perm ((found ++ (w ++ [t])) ++ kids hs t) := by
      have p1 : ((found ++ [t]) ++ w).Perm (found ++ (w ++ [t])) := by
        rw [List.append_assoc]
        exact List.Perm.append_left found List.perm_append_comm
      rw [← List.append_assoc]
      exact p1.append (List.reverse_perm _)
    refine p.nodup_iff.mpr (List.nodup_append.mpr ⟨h.nd, nodup_kids hs t, fun x hx y hy e => ?_⟩)
    subst e
    exact hno x hx (mem_kids.mp hy)
  · rcases (mem v).mp hv with z | z
    · obtain ⟨a, b, c⟩ := h.ok v z
      refine ⟨a, b, ?_⟩
      rcases c with c | ⟨u, hu, e⟩
      · exact .inl c
      · exact .inr ⟨u, List.mem_append_left _ hu, e⟩
    · have e := mem_kids.mp z
      exact ⟨(List.getElem?_eq_some_iff.mp e).1, S.down v t e hRt, .inr ⟨t, by simp, e⟩⟩
  · rcases List.mem_append.mp hu with z | z
    · exact (mem v).mpr (.inl (h.cl v u e z))
    · have eu : u = t := by simpa using z
      rw [eu] at e
      exact (mem v).mpr (.inr (mem_kids.mpr e))
  · by_cases hi : i < found.length
    · rw [List.getElem?_append_left hi] at e
      rcases h.od i v e with z | ⟨j, u, hj, e1, e2⟩
      · exact .inl z
      · exact .inr ⟨j, u, hj, by rw [List.getElem?_append_left (by omega)]; exact e1, e2⟩
    · have hi2 : found.length ≤ i := by omega
      rw [List.getElem?_append_right hi2] at e
      have hz : i - found.length = 0 := by
        cases hk : i - found.length with
        | zero => rfl
        | succ k => rw [hk] at e; cases e
      rw [hz] at e
      have ev : t = v := Option.some.inj e
      subst ev
      rcases (h.ok t ht).2.2 with z | ⟨u, hu, e2⟩
      · exact .inl z
      · obtain ⟨j, ej⟩ := List.getElem?_of_mem hu
        have hj := (List.getElem?_eq_some_iff.mp ej).1
        exact .inr ⟨j, u, by omega, by rw [List.getElem?_append_left hj]; exact ej, e2⟩
  · have q := h.pr pre hp
    rw [← q, List.reverse_append, List.reverse_append, List.reverse_reverse]
    show _ = found ++ (t :: w.reverse).flatMap pre
    rw [List.flatMap_cons, hp t hRt, List.flatMap_append]
    simp
theorem WT.room {hs : Hs} {st : List Nat} {Rn : Nat → Prop} {found w : List Nat} {t : Nat} (h : WT hs st Rn found (w ++ [t])) : found.length < hs.length ∧ (w.length + 1) ≤ hs.length := by
  have q := nodup_len hs.length _ h.nd fun v hv => (h.ok v hv).1
  rw [List.length_append, List.length_append] at q
  have e : [t].length = 1 := rfl
  omega
theorem WT.lens {hs : Hs} {st : List Nat} {Rn : Nat → Prop} {found wait : List Nat} (h : WT hs st Rn found wait) : found.length + wait.length ≤ hs.length := by
  have q := nodup_len hs.length _ h.nd fun v hv => (h.ok v hv).1
  rw [List.length_append] at q
  exact q
def spWalkT (K : PySem.W.Frag) : Sp := fun vs H Q _ => ∃ (p q : Addr) (as : List Addr) (hs : Hs) (st : List Nat) (Rn : Nat → Prop), vs = [.ref p, .ref q] ∧ HeldAt H p as hs ∧ SqL K H q (nv st) ∧ hs.length ≤ 1000 ∧ Starts hs st Rn ∧
  ∀ r l H', Same H H' → H r = none → H' r = some (.lst (nv l)) → WT hs st Rn l [] → Q (.ref r) H'
theorem snoc_of {α : Type} {l : List α} (h : 0 < l.length) : ∃ w t, l = w ++ [t] := by
  have hne : l ≠ [] := by
    intro e; subst e; exact absurd h (Nat.lt_irrefl 0)
  refine ⟨l.dropLast, l.getLast hne, ?_⟩
  exact (List.dropLast_concat_getLast _).symm
section
variable {P : Program} {w : World} {K : PySem.W.Frag} {mg : Str → Option Value} {base : Heap}
abbrev st__walk_through : Stmt := topS 14
abbrev N__walk_through : List Str := ["held", "starts", "found", "waiting", "thing"]
theorem sc__walk_through : FnScope N__walk_through ["held", "starts"] (defScope st__walk_through) := ⟨rfl, rfl, rfl, by decide +kernel, rfl, by decide +kernel, by decide +kernel⟩
theorem ok__walk_through (D : Df K mg "_walk_through" st__walk_through ["held", "starts"]) (B : Bl mg) : Kn P w K mg base CX0 1 "_walk_through" st__walk_through ["held", "starts"] (spWalkT K) := by
  refine D.ok sc__walk_through (fun vs H Q E h => ?_) (fun f cdv A outer s H vs Q E hr h => ?_)
  · obtain ⟨p, q, as, hs, st, Rn, rfl, _⟩ := h; rfl
  obtain ⟨p, q, as, hs, st, Rn, rfl, hA, hq, hn, S, k⟩ := h
  refine ⟨_, ((pss_cons (ps_set (i := 2) sc__walk_through.nd rfl (Or.inl rfl) (pe_lst pa_nil))
      (pss_cons (ps_set (i := 3) sc__walk_through.nd rfl (Or.inl rfl) (pe_revL (pv 1)))
      (pss_cons (ps_while PassesOwn.never (pt_cmpR op_gt (pe_callB call_len (by rfl) B.len (by decide +kernel) (pa_cons (pv 3) pa_nil)) pe_int (nomark _)) (pss_cons (ps_set (i := 4) sc__walk_through.nd rfl (Or.inl rfl) (pe_bm0 PySem.F.plainAttrs_list PySem.F.slot_list_pop PySem.F.type_list_pop mt_pop (pv 3)))
      (pss_cons (ps_expr (pe_bm PySem.F.plainAttrs_list PySem.F.slot_list_append PySem.F.type_list_append mt_append (pv 2) (pa_cons (pv 4) pa_nil)))
      (pss_one (ps_expr (pe_bm PySem.F.plainAttrs_list PySem.F.slot_list_extend PySem.F.type_list_extend mt_extend (pv 3) (pa_cons (pe_revL (pe_ix ix_list (pv 0) (pv 4) (fun _ _ => rfl))) pa_nil)))))))
      (pss_one (ps_ret (pv 2))))))), ?_⟩
  refine ⟨by show 0 ≤ sizeLine; decide, fun F hF => ?_⟩
  have s1 : Same H (upd H F (.lst [])) := (Same.refl H).new hF
  refine ⟨_, rfl, q, _, rfl, s1.seq hq, fun W hW => ?_⟩
  have hFW : F ≠ W := ne_of_none upd_same hW
  have hWn : H W = none := s1.free hW
  refine ⟨fun m σ H' => ∃ found wait v4, σ = [some (.ref p), some (.ref q), some (.ref F), some (.ref W), v4] ∧ Same H H' ∧ H' F = some (.lst (nv found)) ∧ H' W = some (.lst (nv wait)) ∧ WT hs st Rn found wait ∧ m = hs.length - found.length,
    ⟨_, [], st.reverse, none, rfl, s1.upd hWn, by rw [upd_ne hFW, upd_same]; rfl, ?_, WT.start S, rfl⟩, ?_⟩
  · rw [upd_same]
    unfold nv
    rw [List.map_reverse]
  · rintro m σ H' ⟨found, wait, v4, rfl, s2, hF2, hW2, hwt, rfl⟩
    refine ⟨_, rfl, _, _, rfl, .inl ⟨_, SqL.of hW2, rfl⟩, _, _, rfl, rfl, _, rfl, ?_⟩
    refine ite2 (fun c => ?_) (fun c => ?_)
    · have hpos : 0 < wait.length := by
        have c' := of_decide_eq_true c
        rw [nv_length] at c'
        omega
      obtain ⟨w', t, rfl⟩ := snoc_of hpos
      have hroom := hwt.room
      have hlens := (hwt.step S).lens
      rw [List.length_append, List.length_append, List.length_reverse] at hlens
      have h1 : [t].length = 1 := rfl
      refine ⟨fun σ' H' => ∃ m', m' < hs.length - found.length ∧ ∃ found wait v4, σ' = [some (.ref p), some (.ref q), some (.ref F), some (.ref W), v4] ∧ Same H H' ∧ H' F = some (.lst (nv found)) ∧ H' W = some (.lst (nv wait)) ∧ WT hs st Rn found wait ∧ m' = hs.length - found.length, fun _ _ h => h, ?_⟩
      -- thing = waiting.pop()
      refine ⟨_, rfl, .inl ⟨rfl, _, SqL.of hW2⟩, W, _, .int (t : Int), rfl, rfl, hW2, ?_, ?_⟩
      · rw [nv_append, List.length_append]
        show (nv w' ++ [V.int (t : Int)])[(nv w').length + 1 - 1]? = _
        simp
      have hW3 : upd H' W (.lst (nv (w' ++ [t])).dropLast) W = some (.lst (nv w')) := by
        rw [upd_same, nv_append]
        show some (HO.lst (nv w' ++ [V.int (t : Int)]).dropLast) = _
        rw [List.dropLast_concat]
      have hF3 : upd H' W (.lst (nv (w' ++ [t])).dropLast) F = some (.lst (nv found)) := by rw [upd_ne hFW]; exact hF2
      have s3 : Same H (upd H' W (.lst (nv (w' ++ [t])).dropLast)) := s2.upd hWn
      generalize upd H' W (.lst (nv (w' ++ [t])).dropLast) = H3 at hW3 hF3 s3 ⊢
      -- found.append(thing)
      refine ⟨_, rfl, .inl ⟨rfl, _, SqL.of hF3⟩, _, rfl, F, _, _, rfl, rfl, hF3, by rw [nv_length]; exact szl (by omega), ?_⟩
      have hF4 : upd H3 F (.lst (nv found ++ [V.int (t : Int)])) F = some (.lst (nv (found ++ [t]))) := by rw [upd_same, nv_append]; rfl
      have hW4 : upd H3 F (.lst (nv found ++ [V.int (t : Int)])) W = some (.lst (nv w')) := by rw [upd_ne hFW.symm]; exact hW3
      have s4 : Same H (upd H3 F (.lst (nv found ++ [V.int (t : Int)]))) := s3.upd hF
      generalize upd H3 F (.lst (nv found ++ [V.int (t : Int)])) = H4 at hF4 hW4 s4 ⊢
      -- waiting.extend(held[thing][::-1])
      have hA4 := hA.same s4
      have htl : t < hs.length := (hwt.ok t (by simp)).1
      obtain ⟨c2, hc2⟩ : ∃ c2, as[t]? = some c2 := ⟨as[t]'(by rw [hA.len]; exact htl), List.getElem?_eq_getElem _⟩
      have hc3 : (as.map V.ref)[t]? = some (.ref c2) := by rw [List.getElem?_map, hc2]; rfl
      refine ⟨_, rfl, .inl ⟨rfl, _, SqL.of hW4⟩, _, rfl, _, rfl, p, _, _, _, rfl, rfl, SqL.of hA4.lst, atI_nat hc3, c2, _, rfl, SqL.of (hA4.at_ t c2 hc2), fun R hR => ?_⟩
      have hWR : W ≠ R := ne_of_none hW4 hR
      have hFR : F ≠ R := ne_of_none hF4 hR
      refine ⟨W, R, _, _, rfl, rfl, by rw [upd_ne hWR]; exact hW4, upd_same, ?_, ?_⟩
      · rw [List.length_reverse, nv_length, nv_length]
        exact Nat.le_of_lt (szl (by show w'.length + (kids hs t).length ≤ 1000; omega))
      · refine ⟨_, ?_, found ++ [t], w' ++ (kids hs t).reverse, _, rfl, (s4.upd (s4.free hR)).upd hWn, by rw [upd_ne hFW, upd_ne hFR]; exact hF4, ?_, hwt.step S, rfl⟩
        · rw [List.length_append, h1]; omega
        · rw [upd_same, nv_append]
          congr 2
          unfold nv
          rw [List.map_reverse]; rfl
    · have hz : wait = [] := by
        cases wait with
        | nil => rfl
        | cons a r =>
          refine absurd (decide_eq_true ?_) c
          rw [nv_length, List.length_cons]; omega
      subst hz
      exact ⟨_, rfl, k F found H' s2 hF hF2 hwt⟩
end

end My

namespace My
open PySem PySem.Spec PyProof.Rows L2
inductive Rch (hs : Hs) : Nat → Prop where
  | root {v : Nat} (h : hs[v]? = some none) : Rch hs v
  | step {v u : Nat} (h : hs[v]? = some (some u)) (r : Rch hs u) : Rch hs v
/-- a forest as a list of holders -/
structure Fo (hs : Hs) : Prop where
  ne : hs ≠ []
  inb : InB hs
  all : ∀ v : Nat, v < hs.length → Rch hs v
theorem starts_roots (hs : Hs) : Starts hs (roots hs) (Rch hs) where
  nd := nodup_roots hs
  ok := fun s h => ⟨(List.getElem?_eq_some_iff.mp (mem_roots.mp h)).1, .root (mem_roots.mp h)⟩
  down := fun _ _ e r => .step e r
  no := fun s h u e => by rw [mem_roots.mp h] at e; cases e
theorem WT.all_found {hs : Hs} {l : List Nat} {Rn : Nat → Prop} (h : WT hs (roots hs) Rn l []) {v : Nat} (r : Rch hs v) : v ∈ l := by
  have z : ∀ w, w ∈ l ++ [] → w ∈ l := fun w q => by rw [List.append_nil] at q; exact q
  induction r with
  | root e => exact z _ (h.sm _ (mem_roots.mpr e))
  | step e _ ih => exact z _ (h.cl _ _ e ih)
theorem mem_of_full : ∀ (n : Nat) (l : List Nat), l.Nodup → (∀ v ∈ l, v < n) → l.length = n → ∀ v, v < n → v ∈ l := fun n l nd h e v hv => by
  refine Classical.byContradiction fun hm => ?_
  have q := nodup_len n (v :: l) (List.nodup_cons.mpr ⟨hm, nd⟩) fun w hw => by
    rcases List.mem_cons.mp hw with rfl | hw
    · exact hv
    · exact h w hw
  rw [List.length_cons] at q
  omega
theorem nodup_sub : ∀ (a l : List Nat), a.Nodup → (∀ v ∈ a, v ∈ l) → a.length ≤ l.length
  | [], l, _, _ => Nat.zero_le _
  | x :: r, l, nd, h => by
    have hx := h x List.mem_cons_self
    have ih := nodup_sub r (l.erase x) (List.nodup_cons.mp nd).2 fun v hv => by
      have hne : v ≠ x := fun e => (List.nodup_cons.mp nd).1 (e ▸ hv)
      exact (List.mem_erase_of_ne hne).mpr (h v (List.mem_cons_of_mem _ hv))
    have hl := List.length_erase_of_mem hx
    have hp := List.length_pos_of_mem hx
    rw [List.length_cons]
    omega
def holdOk (n : Int) : V → Bool
  | .non => true
  | x => isIdx n x
def toHold : V → Option Nat
  | .int i => some i.toNat
  | _ => none
theorem holds_of {n : Nat} : ∀ (xs : List V), (xs.all fun y => holdOk (n : Int) y) = true → xs = (xs.map toHold).map hv ∧ ∀ v u : Nat, (xs.map toHold)[v]? = some (some u) → u < n
  | [], _ => ⟨rfl, fun v u h => by simp at h⟩
  | x :: xs, h => by
    rw [List.all_cons, Bool.and_eq_true] at h
    obtain ⟨e, z⟩ := holds_of xs h.2
    have hx : x = hv (toHold x) ∧ ∀ u, toHold x = some u → u < n := by
      cases x with
      | non => exact ⟨rfl, fun u w => by cases w⟩
      | int i =>
        have c : (decide (0 ≤ i) && decide (i < (n : Int))) = true := h.1
        rw [Bool.and_eq_true, decide_eq_true_eq, decide_eq_true_eq] at c
        refine ⟨?_, fun u w => ?_⟩
        · show V.int i = V.int ((i.toNat : Nat) : Int)
          congr 1; omega
        · have w' := Option.some.inj w
          omega
      | _ => exact absurd (show false = true from h.1) Bool.false_ne_true
    refine ⟨?_, fun v u w => ?_⟩
    · rw [List.map_cons, List.map_cons, ← e, ← hx.1]
    · cases v with
      | zero => exact hx.2 u (Option.some.inj w)
      | succ v => exact z v u w
theorem holdOk_hv {hs : Hs} (h : InB hs) : ((hs.map hv).all fun y => holdOk (hs.length : Int) y) = true := by
  rw [List.all_eq_true]
  intro y hy
  obtain ⟨o, ho, rfl⟩ := List.mem_map.mp hy
  cases o with
  | none => rfl
  | some u =>
    obtain ⟨v, hv'⟩ := List.getElem?_of_mem ho
    have q := h v u hv'
    show (decide (0 ≤ (u : Int)) && decide ((u : Int) < (hs.length : Int))) = true
    rw [Bool.and_eq_true, decide_eq_true_eq, decide_eq_true_eq]
    omega
theorem hv_inj : ∀ {a b : Hs}, a.map hv = b.map hv → a = b
  | [], [], _ => rfl
  | [], _ :: _, h => by cases h
  | _ :: _, [], h => by cases h
  | x :: a, y :: b, h => by
    rw [List.map_cons, List.map_cons] at h
    injection h with h1 h2
    have e := hv_inj h2
    have e1 : x = y := by
      cases x with
      | none => cases y with
        | none => rfl
        | some u => cases h1
      | some v => cases y with
        | none => cases h1
        | some u =>
          have q := V.int.inj h1
          congr 1; omega
    rw [e, e1]
def IsF (H : Hp) (x : V) : Prop := ∃ hs : Hs, tupAt H x = some (hs.map hv) ∧ Fo hs
/-- what is_forest may be asked: a value whose tuple's items are told too -/
structure Askd (H : Hp) (x : V) : Prop where
  vd : Vd H x
  items : ∀ xs, tupAt H x = some xs → xs.length ≤ 1000 ∧ ∀ y ∈ xs, Vd H y
theorem tupAt_ref {H : Hp} {x : V} {xs : List V} (h : tupAt H x = some xs) : ∃ a, x = .ref a ∧ H a = some (.tup xs) := by
  cases x with
  | ref a =>
    refine ⟨a, rfl, ?_⟩
    cases e : H a with
    | none => simp only [tupAt, e] at h; cases h
    | some o =>
      cases o with
      | tup ys => simp only [tupAt, e] at h; rw [Option.some.inj h]
      | _ => simp only [tupAt, e] at h; cases h
  | _ => cases h
def spIsForest : Sp := fun vs H Q _ => ∃ x : V, vs = [x] ∧ Askd H x ∧ ∀ b H', Same H H' → (b = true ↔ IsF H x) → Q (.bl b) H'
section
variable {P : Program} {w : World} {K : PySem.W.Frag} {mg : Str → Option Value} {base : Heap}
abbrev st_is_forest : Stmt := topS 10
abbrev N_is_forest : List Str := ["value", "holder"]
theorem sc_is_forest : FnScope N_is_forest ["value"] (defScope st_is_forest) := ⟨rfl, rfl, rfl, by decide +kernel, rfl, by decide +kernel, by decide +kernel⟩
theorem ok_is_forest (D : Df K mg "is_forest" st_is_forest ["value"]) (B : Bl mg) (Kis_index : Kn P w K mg base CX0 3 "is_index" st_is_index ["value", "many"] spIsIndex)
    (K_without_holder : Kn P w K mg base CX0 1 "_without_holder" st__without_holder ["forest"] (spWithout K)) (K_held_lists : Kn P w K mg base CX0 1 "_held_lists" st__held_lists ["forest"] (spHeld K))
    (K_walk_through : Kn P w K mg base CX0 1 "_walk_through" st__walk_through ["held", "starts"] (spWalkT K)) : Kn P w K mg base CX0 4 "is_forest" st_is_forest ["value"] spIsForest := by
  refine D.ok sc_is_forest (fun vs H Q E h => ?_) (fun f cdv A outer s H vs Q E hr h => ?_)
  · obtain ⟨x, rfl, _⟩ := h; rfl
  obtain ⟨x, rfl, ask, q⟩ := h
  refine ⟨_, ((pss_cons (ps_if (PW.pt (pw_or (pt_not (pt_val (pe_callB call_isi (by rfl) B.isinstance (by decide +kernel) (pa_cons (pv 0) (pa_cons (pe_bltn (v := .ty "tuple") (u := .type "tuple") (by rfl) B.tuple (by decide +kernel) rfl) pa_nil))))) (pw_or1 (pt_cmpR op_eq (pe_callB call_len (by rfl) B.len (by decide +kernel) (pa_cons (pv 0) pa_nil)) pe_int (nomark _))))) (pss_one (ps_ret pe_bl)) pss_nil)
      (pss_cons (ps_if (pt_not (pt_val (pe_callB (cr_all rfl) (by rfl) B.all (by decide +kernel) (pa_cons (pe_lc (own := [("holder", 1)]) (g := gName 1) rfl sc_is_forest.nd (pi_tup (pv 0)) (blkOk_by (N := N_is_forest) (sc := defScope st_is_forest) (own := [("holder", 1)]) (by decide +kernel)) (fun _ _ _ _ _ => by (exact (pg_name (i := 1) sc_is_forest.nd rfl (Or.inl rfl)))) (fun _ _ _ _ _ => by exact pts_nil) (fun _ _ _ _ _ => by exact (pe_or (pe_cmpR op_isN (pv 1) pe_non (nomark _)) (pe_one (pe_callF Kis_index (hr.mono (by decide)) pass0 (pa_cons (pv 1) (pa_cons (pe_callB (call_lenK K) (by rfl) B.len (by decide +kernel) (pa_cons (pv 0) pa_nil)) pa_nil))))))) pa_nil)))) (pss_one (ps_ret pe_bl)) pss_nil)
      (pss_one (ps_ret (pe_cmpR op_eq (pe_callB call_len (by rfl) B.len (by decide +kernel) (pa_cons (pe_callF K_walk_through (hr.mono (by decide)) pass0 (pa_cons (pe_callF K_held_lists (hr.mono (by decide)) pass0 (pa_cons (pv 0) pa_nil)) (pa_cons (pe_callF K_without_holder (hr.mono (by decide)) pass0 (pa_cons (pv 0) pa_nil)) pa_nil))) pa_nil)) (pe_callB call_len (by rfl) B.len (by decide +kernel) (pa_cons (pv 0) pa_nil)) (nomark _))))))), ?_⟩
  obtain ⟨t, ty, _, _, k3⟩ := ask.vd.ty (K := K)
  refine ⟨_, rfl, _, _, _, _, _, rfl, .ty _, ty, kit_ty k3, _, rfl, ?_⟩
  have no : (¬ IsF H x) → ∀ H', Same H H' → Q (.bl false) H' := fun hn H' s' => q false H' s' ⟨fun z => absurd z Bool.false_ne_true, fun z => absurd z hn⟩
  cases e : tupAt H x with
  | none =>
    refine iteT (iteT ?_)
    exact no (fun ⟨hs, z, _⟩ => by rw [e] at z; cases z) H (Same.refl H)
  | some xs =>
    obtain ⟨a, rfl, ha⟩ := tupAt_ref e
    obtain ⟨hlen, hvd⟩ := ask.items xs e
    refine iteF ⟨_, rfl, _, _, rfl, .inr ⟨_, SqT.of ha, rfl⟩, rfl, _, rfl, ?_⟩
    refine ite2 (fun c => ?_) (fun c => ?_)
    · refine no (fun ⟨hs, z, fo⟩ => ?_) H (Same.refl H)
      rw [e] at z
      have z' := Option.some.inj z
      have c' := of_decide_eq_true c
      have c2 := V.int.inj c'
      rw [z', List.length_map] at c2
      exact fo.ne (List.eq_nil_of_length_eq_zero (by omega))
    · -- all([..])
      refine ⟨_, rfl, a, rfl, ⟨_, SqT.of ha⟩, fun L hL => lc_it (walk_tup (xs := xs)) (fun i H' => Same H H' ∧ H' L = some (.lst ((xs.take i).map fun y => V.bl (holdOk (xs.length : Int) y))))
        ⟨(Same.refl H).new hL, upd_same⟩ (fun i H' _ p => p.1.tseq (SqT.of ha)) ?_ ?_⟩
      · rintro i y H1 H2 hi ⟨s1, hL1⟩ ⟨rfl, e1⟩
        have hvy := (hvd y (List.mem_of_getElem? e1)).same s1
        have fin : ∃ acc, H2 L = some (.lst acc) ∧ acc.length < sizeLine ∧ (Same H (upd H2 L (.lst (acc ++ [V.bl (holdOk (xs.length : Int) y)]))) ∧ upd H2 L (.lst (acc ++ [V.bl (holdOk (xs.length : Int) y)])) L = some (.lst ((xs.take (i + 1)).map fun y => V.bl (holdOk (xs.length : Int) y)))) := by
          refine ⟨_, hL1, ?_, s1.upd hL, ?_⟩
          · rw [List.length_map, List.length_take]; exact szl (by omega)
          · rw [upd_same, List.take_add_one, e1]
            show _ = some (HO.lst (((xs.take i) ++ [y]).map _))
            rw [List.map_append]; rfl
        refine ⟨rfl, _, rfl, rfl, _, rfl, ?_⟩
        cases y with
        | non => exact iteT fin
        | _ =>
          refine iteF ⟨_, rfl, _, rfl, _, _, rfl, .inr ⟨_, s1.tseq (SqT.of ha), rfl⟩, _, _, rfl, hvy, ?_⟩
          exact fin
      · rintro H1 ⟨s1, hL1⟩
        rw [List.take_length] at hL1
        refine ⟨L, (xs.map fun y => holdOk (xs.length : Int) y), rfl, SqL.of (by rw [hL1, List.map_map]; rfl), _, rfl, ?_⟩
        have eall : (xs.map fun y => holdOk (xs.length : Int) y).all id = xs.all fun y => holdOk (xs.length : Int) y := by rw [List.all_map]; rfl
        rw [eall]
        cases ea : xs.all fun y => holdOk (xs.length : Int) y with
        | false =>
          refine iteT (no (fun ⟨hs, z, fo⟩ => ?_) H1 s1)
          rw [e] at z
          have z' := Option.some.inj z
          have w := holdOk_hv fo.inb
          rw [z', List.length_map, w] at ea
          cases ea
        | true =>
          refine iteF ?_
          obtain ⟨ex, hb⟩ := holds_of xs ea
          have hlh : (xs.map toHold).length = xs.length := List.length_map _
          rw [← hlh] at hb
          have hS1 : SqT K H1 a ((xs.map toHold).map hv) := by rw [← ex]; exact s1.tseq (SqT.of ha)
          generalize hhs : xs.map toHold = hs at ex hb hlh hS1
          have e' : tupAt H (.ref a) = some (hs.map hv) := by rw [e, ex]
          -- len(_walk_through(..)) == len(value)
          refine ⟨_, rfl, a, hs, rfl, hS1, by omega, hb, fun p as H2 s2 hp hpc hA => ?_⟩
          refine ⟨_, rfl, a, hs, rfl, s2.tseq hS1, by omega, fun p2 H3 s3 hp2 hr2 => ?_⟩
          refine ⟨p, p2, as, hs, roots hs, Rch hs, rfl, hA.same s3, SqL.of hr2, by omega, starts_roots hs, fun r l H4 s4 hr4 hl4 hwt => ?_⟩
          refine ⟨_, _, rfl, .inl ⟨_, SqL.of hl4, rfl⟩, _, rfl, _, _, rfl, .inr ⟨_, s4.tseq (s3.tseq (s2.tseq hS1)), rfl⟩, rfl, ?_⟩
          refine q _ _ (((s1.trans s2).trans s3).trans s4) ⟨fun z => ?_, fun z => ?_⟩
          · have z2 := V.int.inj (of_decide_eq_true z)
            rw [nv_length, List.length_map] at z2
            have c3 : ¬ V.int (xs.length : Int) = V.int 0 := fun w => c (decide_eq_true w)
            refine ⟨hs, e', ?_, hb, fun v hv' => ?_⟩
            · intro w
              rw [w] at hlh
              exact c3 (by rw [← hlh]; rfl)
            · have hl2 : l.length = hs.length := by omega
              have nd2 := hwt.nd
              rw [List.append_nil] at nd2
              have hlt : ∀ w ∈ l, w < hs.length := fun w hw => (hwt.ok w (by rw [List.append_nil]; exact hw)).1
              have hm := mem_of_full hs.length l nd2 hlt hl2 v hv'
              exact (hwt.ok v (by rw [List.append_nil]; exact hm)).2.1
          · obtain ⟨hs', z1, fo⟩ := z
            rw [e'] at z1
            have eh := hv_inj (Option.some.inj z1)
            subst eh
            refine decide_eq_true ?_
            rw [nv_length, List.length_map]
            have h1 := hwt.lens
            rw [List.length_nil] at h1
            have h2 : hs.length ≤ l.length := by
              have q2 := nodup_sub (List.range hs.length) l List.nodup_range fun v hv' => hwt.all_found (fo.all v (List.mem_range.mp hv'))
              rw [List.length_range] at q2; exact q2
            have h3 : l.length = hs.length := by omega
            rw [h3]
end

end My

namespace My
open PySem PySem.Spec PyProof.Rows L2
/-! ### the law's well of numbers -/
structure Well (H : Hp) (wl : Addr) (n : Nat) : Prop where
  ex : ∃ a b c : Int, H wl = some (.lst [.int a, .int b, .int c]) ∧ 0 ≤ a ∧ 0 ≤ b ∧ b.natAbs < 2 ^ 200 ∧ 0 ≤ c ∧ c ≤ (n : Int)
theorem Well.mono {H : Hp} {wl : Addr} {n m : Nat} (h : Well H wl n) (l : n ≤ m) : Well H wl m := by
  obtain ⟨a, b, c, e, h1, h2, h3, h4, h5⟩ := h.ex
  exact ⟨a, b, c, e, h1, h2, h3, h4, by omega⟩
theorem Well.same {H H' : Hp} {wl : Addr} {n : Nat} (h : Well H wl n) (s : Same H H') : Well H' wl n := by
  obtain ⟨a, b, c, e, r⟩ := h.ex
  exact ⟨a, b, c, s _ _ e, r⟩
theorem Well.here {H : Hp} {wl : Addr} {n : Nat} (h : Well H wl n) : ∃ l, H wl = some (.lst l) := by
  obtain ⟨a, b, c, e, r⟩ := h.ex
  exact ⟨_, e⟩
def spWell (K : PySem.W.Frag) : Sp := fun vs H Q _ => ∃ (a : Addr) (ns : List Int) (i : Nat), vs = [.ref a, .int (i : Int)] ∧ SqL K H a (ns.map V.int) ∧ i < 64 ∧ ∀ p H', Same H H' → H p = none → Well H' p 0 → Q (.ref p) H'
def spDraw : Sp := fun vs H Q _ => ∃ (wl : Addr) (n : Nat) (m : Int), vs = [.ref wl, .int m] ∧ Well H wl n ∧ n < 2 ^ 60 ∧ 1 ≤ m ∧ m.natAbs < 2 ^ 100 ∧ ∀ d H', 0 ≤ d → d < m → Keep wl H H' → Well H' wl (n + 1) → Q (.int d) H'
theorem mul_small {i j : Int} (h : -(2 ^ 64) < i ∧ i < 2 ^ 64) : CMul i j := .inl h
theorem mod_abs {x m : Int} {b : Nat} (h0 : 0 < m) (h : m.natAbs < 2 ^ b) : (x % m).natAbs < 2 ^ b := by
  have h1 := Int.emod_nonneg x (show m ≠ 0 by omega)
  have h2 := Int.emod_lt_of_pos x h0
  omega
theorem cpow10 {k : Int} (h0 : 0 ≤ k) (h : k ≤ 1000) : CPowW 10 k := by
  refine ⟨h0, ?_⟩
  have e : (Builtin.Int.intBits 10 : Int) = 4 := by decide
  have e2 : (2 : Int) ^ 27 = 134217728 := by decide
  rw [e, e2]; omega
section
variable {P : Program} {w : World} {K : PySem.W.Frag} {mg : Str → Option Value} {base : Heap}
abbrev st__law_draw : Stmt := topS 22
abbrev N__law_draw : List Str := ["well", "most", "digit", "blend"]
theorem sc__law_draw : FnScope N__law_draw ["well", "most"] (defScope st__law_draw) := ⟨rfl, rfl, rfl, by decide +kernel, rfl, by decide +kernel, by decide +kernel⟩
theorem ok__law_draw (D : Df K mg "_law_draw" st__law_draw ["well", "most"]) (B : Bl mg) : Kn P w K mg base CX0 1 "_law_draw" st__law_draw ["well", "most"] spDraw := by
  refine D.ok sc__law_draw (fun vs H Q E h => ?_) (fun f cdv A outer s H vs Q E hr h => ?_)
  · obtain ⟨wl, n, m, rfl, _⟩ := h; rfl
  obtain ⟨wl, n, m, rfl, hw, hn, h1, hm, q⟩ := h
  refine ⟨_, ((pss_cons (ps_if (pt_cmpR op_gt (pe_ix ix_list (pv 0) pe_int (fun _ _ => rfl)) pe_int (nomark _)) (pss_cons (ps_set (i := 2) sc__law_draw.nd rfl (Or.inl rfl) (pe_op op_mod (pe_callTy call_int1 (by rfl) B.int (by decide +kernel) (pa_cons (pe_ix ix_list (pv 0) pe_int (fun _ _ => rfl)) pa_nil)) (pv 1)))
      (pss_cons (ps_asg (pe_op op_fdivW (pe_ix ix_list (pv 0) pe_int (fun _ _ => rfl)) (pv 1)) (pg_sub (pv 0) pe_int set_list))
      (pss_one (ps_ret (pv 2))))) pss_nil)
      (pss_cons (ps_asg (pe_op op_add (pe_ix ix_list (pv 0) pe_int (fun _ _ => rfl)) pe_int) (pg_sub (pv 0) pe_int set_list))
      (pss_cons (ps_set (i := 3) sc__law_draw.nd rfl (Or.inl rfl) (pe_op op_mod (pe_op op_powW (pe_callTy call_int1 (by rfl) B.int (by decide +kernel) (pa_cons (pe_op op_add (pe_ix ix_list (pv 0) pe_int (fun _ _ => rfl)) (pe_op op_mul pe_int (pe_ix ix_list (pv 0) pe_int (fun _ _ => rfl)))) pa_nil)) pe_int) (pe_op op_add (pe_op op_powW pe_int pe_int) pe_int)))
      (pss_cons (ps_set (i := 3) sc__law_draw.nd rfl (Or.inl rfl) (pe_op op_mod (pe_op op_powW (pe_callTy call_int1 (by rfl) B.int (by decide +kernel) (pa_cons (pe_op op_add (pv 3) (pe_op op_mul pe_int (pe_ix ix_list (pv 0) pe_int (fun _ _ => rfl)))) pa_nil)) pe_int) (pe_op op_add (pe_op op_powW pe_int pe_int) pe_int)))
      (pss_one (ps_ret (pe_op op_mod (pe_callTy call_int1 (by rfl) B.int (by decide +kernel) (pa_cons (pe_op op_fdivW (pv 3) pe_int) pa_nil)) (pv 1))))))))), ?_⟩
  obtain ⟨a, b, c, e, ha, hb, hb2, hc, hc2⟩ := hw.ex
  have g0 : ∀ {H' : Hp} {x y z : V}, H' wl = some (.lst [x, y, z]) → SqL K H' wl [x, y, z] := fun h => SqL.of h
  -- if well[0] > 0
  refine ⟨_, rfl, wl, _, _, _, rfl, rfl, g0 e, rfl, _, _, rfl, rfl, _, rfl, ?_⟩
  refine ite2 (fun c1 => ?_) (fun c1 => ?_)
  · -- digit = int(well[0]) % most; well[0] = well[0] // most; return digit
    refine ⟨_, rfl, wl, _, _, _, rfl, rfl, g0 e, rfl, .inl ⟨_, rfl, _, rfl, _, _, rfl, rfl, by show (0 : Int) < m; omega, ?_⟩⟩
    refine ⟨_, rfl, wl, _, _, _, rfl, rfl, g0 e, rfl, _, rfl, _, _, rfl, rfl, wide_div (by omega) hm (by decide) (by decide), ?_⟩
    refine ⟨_, rfl, wl, _, _, 0, rfl, rfl, e, rfl, ?_⟩
    refine ⟨_, rfl, q _ _ (Int.emod_nonneg a (by omega)) (Int.emod_lt_of_pos a (by omega)) (Keep.upd _ _ _) ⟨a / m, b, c, upd_same, Int.ediv_nonneg ha (by omega), hb, hb2, hc, by omega⟩⟩
  · -- well[2] = well[2] + 1
    refine ⟨_, rfl, wl, _, _, _, rfl, rfl, g0 e, rfl, _, _, rfl, rfl, ?_⟩
    refine ⟨_, rfl, wl, _, _, 2, rfl, rfl, e, rfl, ?_⟩
    have e2 : upd H wl (.lst (([V.int a, V.int b, V.int c]).set 2 (V.int (c + 1)))) wl = some (.lst [V.int a, V.int b, V.int (c + 1)]) := upd_same
    have k2 : Keep wl H (upd H wl (.lst (([V.int a, V.int b, V.int c]).set 2 (V.int (c + 1))))) := Keep.upd _ _ _
    have w2 : Well (upd H wl (.lst (([V.int a, V.int b, V.int c]).set 2 (V.int (c + 1))))) wl (n + 1) := ⟨a, b, c + 1, e2, ha, hb, hb2, by omega, by omega⟩
    generalize upd H wl (.lst (([V.int a, V.int b, V.int c]).set 2 (V.int (c + 1)))) = H2 at e2 k2 w2 ⊢
    have p60 : (2 : Nat) ^ 60 = 1152921504606846976 := by decide
    have p64 : (2 : Int) ^ 64 = 18446744073709551616 := by decide
    have p200 : (2 : Nat) ^ 200 = 1606938044258990275541962092341162602522202993782792835301376 := by decide +kernel
    have p201 : (2 : Nat) ^ 201 = 3213876088517980551083924184682325205044405987565585670602752 := by decide +kernel
    have b1 : (b + 715827883 * (c + 1)).natAbs < 2 ^ 201 := by omega
    have m1 : (10 : Int) ^ (41 : Int).toNat + 109 = 100000000000000000000000000000000000000109 := by decide +kernel
    have m2 : (10 : Int) ^ (39 : Int).toNat + 3 = 1000000000000000000000000000000000000003 := by decide +kernel
    -- blend = int(well[1] + 715827883 * well[2]) ** 3 % (10 ** 41 + 109)
    refine ⟨_, rfl, wl, _, _, _, rfl, rfl, g0 e2, rfl, _, rfl, wl, _, _, _, rfl, rfl, g0 e2, rfl, _, _, rfl, rfl, mul_small ⟨by rw [p64]; decide, by rw [p64]; decide⟩, _, _, rfl, rfl, .inl ⟨_, rfl, _, _, rfl, rfl, cpow3 b1 (by decide) (by decide),
      _, _, rfl, rfl, cpow10 (by decide) (by decide), _, _, rfl, rfl, _, _, rfl, rfl, by rw [m1]; show (0 : Int) < 100000000000000000000000000000000000000109; decide, ?_⟩⟩
    rw [m1]
    have b2 : ∀ x : Int, 0 ≤ x → x < 100000000000000000000000000000000000000109 → (x + 198491317 * (c + 1)).natAbs < 2 ^ 201 := fun x h h' => by omega
    have b3 : ∀ z : Int, (z % 100000000000000000000000000000000000000109 + 198491317 * (c + 1)).natAbs < 2 ^ 201 := fun z => b2 _ (Int.emod_nonneg _ (by decide)) (Int.emod_lt_of_pos _ (by decide))
    -- blend = int(blend + 198491317 * well[2]) ** 3 % (10 ** 39 + 3)
    refine ⟨_, rfl, _, rfl, wl, _, _, _, rfl, rfl, g0 e2, rfl, _, _, rfl, rfl, mul_small ⟨by rw [p64]; decide, by rw [p64]; decide⟩, _, _, rfl, rfl, .inl ⟨_, rfl, _, _, rfl, rfl, cpow3 (b3 _) (by decide) (by decide),
      _, _, rfl, rfl, cpow10 (by decide) (by decide), _, _, rfl, rfl, _, _, rfl, rfl, by rw [m2]; show (0 : Int) < 1000000000000000000000000000000000000003; decide, ?_⟩⟩
    rw [m2]
    -- return int(blend // 1048576) % most
    refine ⟨_, rfl, _, _, rfl, rfl, ⟨by decide, by decide +kernel⟩, .inl ⟨_, rfl, _, rfl, _, _, rfl, rfl, by omega, ?_⟩⟩
    exact q _ _ (Int.emod_nonneg _ (by omega)) (Int.emod_lt_of_pos _ (by omega)) k2 w2
abbrev st__law_well : Stmt := topS 21
abbrev N__law_well : List Str := ["script", "at", "cell"]
theorem sc__law_well : FnScope N__law_well ["script", "at"] (defScope st__law_well) := ⟨rfl, rfl, rfl, by decide +kernel, rfl, by decide +kernel, by decide +kernel⟩
theorem ok__law_well (D : Df K mg "_law_well" st__law_well ["script", "at"]) (B : Bl mg) : Kn P w K mg base CX0 1 "_law_well" st__law_well ["script", "at"] (spWell K) := by
  refine D.ok sc__law_well (fun vs H Q E h => ?_) (fun f cdv A outer s H vs Q E hr h => ?_)
  · obtain ⟨a, ns, i, rfl, _⟩ := h; rfl
  obtain ⟨a, ns, i, rfl, hS, hi, q⟩ := h
  refine ⟨_, ((pss_cons (ps_set (i := 2) sc__law_well.nd rfl (Or.inl rfl) (pe_ifExp (pt_cmpR op_lt (pv 1) (pe_callB call_len (by rfl) B.len (by decide +kernel) (pa_cons (pv 0) pa_nil)) (nomark _)) (pe_ix ix_list (pv 0) (pv 1) (fun _ _ => rfl)) pe_int))
      (pss_one (ps_ret (pe_lst (pa_cons (pe_callB (call_max2 rfl) (by rfl) B.max (by decide +kernel) (pa_cons pe_int (pa_cons (pe_op op_sub (pe_callB call_abs (by rfl) B.abs (by decide +kernel) (pa_cons (pv 2) pa_nil)) (pe_op op_powW pe_int pe_int)) pa_nil))) (pa_cons (pe_op op_add (pe_op op_add (pe_op op_mul (pe_op op_mod (pe_callTy call_int1 (by rfl) B.int (by decide +kernel) (pa_cons (pv 2) pa_nil)) (pe_op op_add (pe_op op_powW pe_int pe_int) pe_int)) pe_int) (pe_op op_mul pe_int (pv 1))) pe_int) (pa_cons pe_int pa_nil)))))))), ?_⟩
  have p64 : (2 : Int) ^ 64 = 18446744073709551616 := by decide
  have m1 : (10 : Int) ^ (37 : Int).toNat + 141 = 10000000000000000000000000000000000141 := by decide +kernel
  have p200 : (2 : Nat) ^ 200 = 1606938044258990275541962092341162602522202993782792835301376 := by decide +kernel
  -- what follows once the cell is known
  have rest : ∀ cell : Int, (tRet (tLst (tCons (tCB (fun xs H Q => ∃ i j, xs = [V.int i, V.int j] ∧ Q (.int (if j > i then j else i)) H) (tCons (tC (.int 0)) (tCons (tOp (rI0 fun i j => .int (i - j)) (tCB (fun xs H Q => ∃ i, xs = [V.int i] ∧ Q (.int (if i < 0 then -i else i)) H) (tCons (tVar 2) tNil)) (tOp (rI CPowW fun i j => .int (i ^ j.toNat)) (tC (.int 10)) (tC (.int 18)))) tNil)))
      (tCons (tOp (rI0 fun i j => .int (i + j)) (tOp (rI0 fun i j => .int (i + j)) (tOp (rI CMul fun i j => .int (i * j)) (tOp (rI (fun _ j => 0 < j) fun i j => .int (i % j)) (tCB (fun xs H Q => (∃ i, xs = [V.int i] ∧ Q (.int i) H) ∨ ∃ k, xs = [V.bl k] ∧ Q (.int (if k then 1 else 0)) H) (tCons (tVar 2) tNil)) (tOp (rI0 fun i j => .int (i + j)) (tOp (rI CPowW fun i j => .int (i ^ j.toNat)) (tC (.int 10)) (tC (.int 37))) (tC (.int 141)))) (tC (.int 101))) (tOp (rI CMul fun i j => .int (i * j)) (tC (.int 67)) (tVar 1))) (tC (.int 41)))
        (tCons (tC (.int 0)) tNil))))) { nx := fun _ H' => Q .non H', rt := Q } [some (.ref a), some (.int (i : Int)), some (.int cell)] H := fun cell => by
    refine ⟨_, rfl, _, rfl, _, _, rfl, rfl, cpow10 (by decide) (by decide), _, _, rfl, rfl, _, _, rfl, ?_⟩
    refine ⟨_, rfl, .inl ⟨_, rfl, _, _, rfl, rfl, cpow10 (by decide) (by decide), _, _, rfl, rfl, _, _, rfl, rfl, by rw [m1]; show (0 : Int) < 10000000000000000000000000000000000141; decide, _, _, rfl, rfl, .inr ⟨by decide, by decide⟩, _, rfl, _, _, rfl, rfl, .inl ⟨by decide, by decide⟩, _, _, rfl, rfl, _, _, rfl, rfl, by show 3 ≤ sizeLine; decide, fun p hp => ?_⟩⟩
    rw [m1]
    have x0 : 0 ≤ cell % 10000000000000000000000000000000000141 := Int.emod_nonneg _ (by decide)
    have x1 : cell % 10000000000000000000000000000000000141 < 10000000000000000000000000000000000141 := Int.emod_lt_of_pos _ (by decide)
    refine q p _ ((Same.refl H).new hp) hp ⟨_, _, 0, upd_same, ?_, ?_, ?_, Int.le_refl _, Int.le_refl _⟩
    · split <;> omega
    · omega
    · omega
  refine ⟨_, rfl, _, rfl, _, _, rfl, .inl ⟨_, hS, rfl⟩, _, _, rfl, rfl, _, rfl, ?_⟩
  refine ite2 (fun c1 => ?_) (fun c1 => ?_)
  · have hl : i < (ns.map V.int).length := by
      have c2 := of_decide_eq_true c1
      omega
    have hl2 : i < ns.length := by rw [List.length_map] at hl; exact hl
    refine ⟨_, rfl, _, rfl, a, _, _, _, rfl, rfl, hS, atI_nat (v := V.int ns[i]) (by rw [List.getElem?_map, List.getElem?_eq_getElem hl2]; rfl), ?_⟩
    exact rest _
  · exact rest 0
end

end My

namespace My
open PySem PySem.Spec PyProof.Rows L2
/-! ### a drawn forest: the mathematics -/
theorem walk_range0 {n : Nat} : Walk (Itr 0 n) n (fun _ => True) (YFn fun i => .int (i : Int)) :=
  (walk_range (lo := 0)).mono (fun _ h => h) fun i H x H' _ _ y => ⟨y.1, by rw [y.2]; show V.int (0 + (i : Int)) = V.int (i : Int); rw [Int.zero_add]⟩
def LtF (l : Hs) : Prop := ∀ j u : Nat, l[j]? = some (some u) → u < j
theorem LtF.snoc {l : Hs} {o : Option Nat} (h : LtF l) (ho : ∀ u, o = some u → u < l.length) : LtF (l ++ [o]) := fun j u e => by
  by_cases hj : j < l.length
  · rw [List.getElem?_append_left hj] at e; exact h j u e
  · have hj2 : l.length ≤ j := by omega
    rw [List.getElem?_append_right hj2] at e
    by_cases hz : j - l.length = 0
    · rw [hz] at e
      have q := ho u (Option.some.inj e)
      omega
    · obtain ⟨k, hk⟩ := Nat.exists_eq_succ_of_ne_zero hz
      rw [hk] at e; cases e
theorem fo_plain {l : Hs} (hne : l ≠ []) (h : LtF l) : Fo l := by
  refine ⟨hne, fun v u e => ?_, fun v hv => ?_⟩
  · have h1 := h v u e
    have h2 := (List.getElem?_eq_some_iff.mp e).1
    omega
  · induction v using Nat.strongRecOn with
    | _ v ih =>
      cases e : l[v]? with
      | none => rw [List.getElem?_eq_none_iff] at e; omega
      | some o =>
        cases o with
        | none => exact .root e
        | some u =>
          have q := h v u e
          exact .step e (ih u q (by omega))
def ren (nm : List Nat) : Option Nat → Option Nat
  | none => none
  | some u => some (nm.getD u 0)
theorem fo_turned {l T : Hs} {nm : List Nat} (hne : l ≠ []) (h : LtF l) (hp : nm.Perm (List.range l.length)) (hT : T.length = l.length)
    (hr : ∀ (j v : Nat) (o : Option Nat), nm[j]? = some v → l[j]? = some o → T[v]? = some (ren nm o)) : Fo T := by
  have hlen : nm.length = l.length := by rw [hp.length_eq, List.length_range]
  have hat : ∀ j : Nat, j < l.length → ∃ v o, nm[j]? = some v ∧ l[j]? = some o ∧ v < l.length := fun j hj => by
    have h1 : j < nm.length := by omega
    refine ⟨nm[j], l[j], List.getElem?_eq_getElem h1, List.getElem?_eq_getElem hj, ?_⟩
    have q := hp.mem_iff.mp (List.getElem_mem h1)
    exact List.mem_range.mp q
  have back : ∀ v : Nat, v < l.length → ∃ j : Nat, nm[j]? = some v := fun v hv => by
    have q := hp.mem_iff.mpr (List.mem_range.mpr hv)
    exact List.getElem?_of_mem q
  have jl : ∀ {j v : Nat}, nm[j]? = some v → j < l.length := fun {j v} e => by
    have q := (List.getElem?_eq_some_iff.mp e).1
    omega
  have rc : ∀ j v : Nat, nm[j]? = some v → Rch T v := fun j => by
    induction j using Nat.strongRecOn with
    | _ j ih =>
      intro v e
      obtain ⟨v', o, e1, e2, e3⟩ := hat j (jl e)
      have ev : v' = v := Option.some.inj (e1.symm.trans e)
      subst ev
      have q := hr j v' o e e2
      cases o with
      | none => exact .root q
      | some u =>
        have hu := h j u e2
        obtain ⟨vu, ou, f1, f2, f3⟩ := hat u (Nat.lt_trans hu (jl e))
        have g : nm.getD u 0 = vu := by rw [List.getD_eq_getElem?_getD, f1]; rfl
        refine .step (u := vu) ?_ (ih u hu vu f1)
        rw [q]; show some (some (nm.getD u 0)) = _; rw [g]
  refine ⟨fun z => hne (List.eq_nil_of_length_eq_zero (by rw [z] at hT; exact hT.symm)), fun v u e => ?_, fun v hv => ?_⟩
  · have hv := (List.getElem?_eq_some_iff.mp e).1
    rw [hT] at hv
    obtain ⟨j, ej⟩ := back v hv
    obtain ⟨v', o, e1, e2, e3⟩ := hat j (jl ej)
    have q := hr j v o ej e2
    rw [q] at e
    cases o with
    | none => cases e
    | some w =>
      have hw := h j w e2
      obtain ⟨vu, ou, f1, f2, f3⟩ := hat w (Nat.lt_trans hw (jl ej))
      have g : nm.getD w 0 = vu := by rw [List.getD_eq_getElem?_getD, f1]; rfl
      have e4 : nm.getD w 0 = u := Option.some.inj (Option.some.inj e)
      rw [hT]; omega
  · rw [hT] at hv
    obtain ⟨j, ej⟩ := back v hv
    exact rc j v ej
theorem nv_erase : ∀ (l : List Nat) (k : Nat), nv (l.eraseIdx k) = (nv l).eraseIdx k
  | [], k => by simp [nv]
  | a :: r, 0 => rfl
  | a :: r, k + 1 => by
    have ih := nv_erase r k
    show V.int (a : Int) :: nv (r.eraseIdx k) = V.int (a : Int) :: (nv r).eraseIdx k
    rw [ih]
theorem nv_range (n : Nat) : rgV 0 (n : Int) = nv (List.range n) := by
  unfold rgV nv
  have e : ((n : Int) - 0).toNat = n := by omega
  rw [e]
  refine List.map_congr_left fun i _ => ?_
  show V.int (0 + (i : Int)) = V.int (i : Int)
  rw [Int.zero_add]
theorem ixN_nat {n j : Nat} (h : j < n) : ixN n (j : Int) = some j := by
  unfold ixN
  rw [if_pos (by omega), if_pos (by omega)]
  congr 1
theorem seq_nat {n j : Nat} (h : j < n) : seqIndex? (j : Int) n = some j := (ixN_seq (ixN_nat h)).1
theorem rep_non : ∀ k : Nat, (List.replicate k [V.non]).flatten = (List.replicate k (none : Option Nat)).map hv
  | 0 => rfl
  | k + 1 => by
    rw [List.replicate_succ, List.flatten_cons, rep_non k, List.replicate_succ, List.map_cons]; rfl
theorem erase_perm : ∀ (l : List Nat) (j : Nat) (h : j < l.length), (l[j] :: l.eraseIdx j).Perm l
  | a :: r, 0, _ => List.Perm.refl _
  | a :: r, j + 1, h => by
    have hj : j < r.length := by rw [List.length_cons] at h; omega
    have ih := erase_perm r j hj
    exact (List.Perm.swap a (r[j]'hj) (r.eraseIdx j)).trans (List.Perm.cons a ih)
/-- one of a few, by a drawn number -/
theorem pick {xs : List V} {d : Int} (h0 : 0 ≤ d) (h1 : d < (xs.length : Int)) : ∃ v, v ∈ xs ∧ atI xs d = some v := by
  have hl : d.toNat < xs.length := by omega
  refine ⟨xs[d.toNat], List.getElem_mem hl, ?_⟩
  have e : d = ((d.toNat : Nat) : Int) := by omega
  have q := atI_nat (List.getElem?_eq_getElem hl)
  rw [← e] at q; exact q
def OkV (k : Nat) (v : V) : Prop := ∃ o : Option Nat, v = hv o ∧ ∀ u, o = some u → u < k
theorem OkV.non (k : Nat) : OkV k .non := ⟨none, rfl, fun _ h => by cases h⟩
theorem OkV.int {k : Nat} {i : Int} (h0 : 0 ≤ i) (h1 : i < (k : Int)) : OkV k (.int i) := by
  refine ⟨some i.toNat, ?_, fun u h => ?_⟩
  · show V.int i = V.int ((i.toNat : Nat) : Int)
    congr 1; omega
  · have e := Option.some.inj h
    omega
/-- slots of the drawing def -/
abbrev slF (wl F : Addr) (m sz way : Int) (v5 v6 v7 v8 v9 : Option V) : L2.St := [some (.ref wl), some (.int m), some (.int sz), some (.int way), some (.ref F), v5, v6, v7, v8, v9]
def spLForest : Sp := fun vs H Q _ => ∃ (wl : Addr) (n : Nat) (m : Int), vs = [.ref wl, .int m] ∧ Well H wl n ∧ n < 2 ^ 50 ∧ 1 ≤ m ∧ m ≤ 60 ∧
  ∀ t hs H', Fo hs → (hs.length : Int) ≤ m → Keep wl H H' → Well H' wl (n + 400) → H t = none → H' t = some (.tup (hs.map hv)) → Q (.ref t) H'
section
variable {P : Program} {w : World} {K : PySem.W.Frag} {mg : Str → Option Value} {base : Heap}
abbrev st__law_forest : Stmt := topS 24
abbrev N__law_forest : List Str := ["well", "most", "size", "way", "found", "k", "some", "names", "left", "turned_here"]
theorem sc__law_forest : FnScope N__law_forest ["well", "most"] (defScope st__law_forest) := ⟨rfl, rfl, rfl, by decide +kernel, rfl, by decide +kernel, by decide +kernel⟩
theorem ok__law_forest (D : Df K mg "_law_forest" st__law_forest ["well", "most"]) (B : Bl mg) (K_law_draw : Kn P w K mg base CX0 1 "_law_draw" st__law_draw ["well", "most"] spDraw) :
    Kn P w K mg base CX0 3 "_law_forest" st__law_forest ["well", "most"] spLForest := by
  refine D.ok sc__law_forest (fun vs H Q E h => ?_) (fun f cdv A outer s H vs Q E hr h => ?_)
  · obtain ⟨wl, n, m, rfl, _⟩ := h; rfl
  obtain ⟨wl, n, m, rfl, hw, hn, hm1, hm2, q⟩ := h
  refine ⟨_, ((pss_cons (ps_set (i := 2) sc__law_forest.nd rfl (Or.inl rfl) (pe_op op_add pe_int (pe_callF K_law_draw (hr.mono (by decide)) pass0 (pa_cons (pv 0) (pa_cons (pv 1) pa_nil)))))
      (pss_cons (ps_set (i := 3) sc__law_forest.nd rfl (Or.inl rfl) (pe_callF K_law_draw (hr.mono (by decide)) pass0 (pa_cons (pv 0) (pa_cons pe_int pa_nil))))
      (pss_cons (ps_set (i := 4) sc__law_forest.nd rfl (Or.inl rfl) (pe_lst pa_nil))
      (pss_cons (ps_for PassesOwn.never rfl (pi_range1 (by rfl) B.range (pa_cons (pv 2) pa_nil)) (pg_name (i := 5) sc__law_forest.nd rfl (Or.inl rfl)) (C8.pss_cut (ps_set (i := 6) sc__law_forest.nd rfl (Or.inl rfl) (pe_ifExp (pt_cmpR op_gt (pv 5) pe_int (nomark _)) (pe_ix ix_list (pe_lst (pa_cons pe_non (pa_cons (pe_op op_sub (pv 5) pe_int) (pa_cons (pe_callF K_law_draw (hr.mono (by decide)) pass0 (pa_cons (pv 0) (pa_cons (pe_callB (call_max2 rfl) (by rfl) B.max (by decide +kernel) (pa_cons pe_int (pa_cons (pv 5) pa_nil))) pa_nil))) pa_nil)))) (pe_callF K_law_draw (hr.mono (by decide)) pass0 (pa_cons (pv 0) (pa_cons pe_int pa_nil))) (fun _ _ => rfl)) pe_non))
      (C8.pss_cut (ps_if (PW.pt (pw_and (pt_cmpR op_gt (pv 5) pe_int (nomark _)) (pw_and1 (pt_cmpR op_eq (pv 3) pe_int (nomark _))))) (pss_one (ps_set (i := 6) sc__law_forest.nd rfl (Or.inl rfl) (pe_ix ix_list (pe_lst (pa_cons (pe_op op_sub (pv 5) pe_int) (pa_cons (pe_callB (call_max2 rfl) (by rfl) B.max (by decide +kernel) (pa_cons pe_int (pa_cons (pe_op op_sub (pv 5) pe_int) pa_nil))) pa_nil))) (pe_callF K_law_draw (hr.mono (by decide)) pass0 (pa_cons (pv 0) (pa_cons pe_int pa_nil))) (fun _ _ => rfl)))) pss_nil)
      (C8.pss_cut (ps_if (PW.pt (pw_and (pt_cmpR op_gt (pv 5) pe_int (nomark _)) (pw_and1 (pt_cmpR op_eq (pv 3) pe_int (nomark _))))) (pss_one (ps_set (i := 6) sc__law_forest.nd rfl (Or.inl rfl) (pe_ix ix_list (pe_lst (pa_cons pe_int (pa_cons pe_int (pa_cons pe_non (pa_cons (pe_callF K_law_draw (hr.mono (by decide)) pass0 (pa_cons (pv 0) (pa_cons (pv 5) pa_nil))) pa_nil))))) (pe_callF K_law_draw (hr.mono (by decide)) pass0 (pa_cons (pv 0) (pa_cons pe_int pa_nil))) (fun _ _ => rfl)))) pss_nil)
      (pss_one (ps_expr (pe_bm PySem.F.plainAttrs_list PySem.F.slot_list_append PySem.F.type_list_append mt_append (pv 4) (pa_cons (pv 6) pa_nil))))))))
      (pss_cons (ps_if (pt_cmpR op_eq (pe_callF K_law_draw (hr.mono (by decide)) pass0 (pa_cons (pv 0) (pa_cons pe_int pa_nil))) pe_int (nomark _)) (pss_one (ps_ret (pe_callTy call_tuple_of (by rfl) B.tuple (by decide +kernel) (pa_cons (pv 4) pa_nil)))) pss_nil)
      (pss_cons (ps_par (i := 7) (j := 8) (by rfl) sc__law_forest.nd rfl rfl (by decide) rfl rfl (pa_cons (pe_lst pa_nil) (pa_cons (pe_listRg rfl (by rfl) B.list (prg_1 (by rfl) B.range (pv 2))) pa_nil)) (by rfl))
      (pss_cons (ps_for PassesOwn.never rfl (pi_range1 (by rfl) B.range (pa_cons (pv 2) pa_nil)) (pg_name (i := 5) sc__law_forest.nd rfl (Or.inl rfl)) (pss_one (ps_expr (pe_bm PySem.F.plainAttrs_list PySem.F.slot_list_append PySem.F.type_list_append mt_append (pv 7) (pa_cons (pe_bm PySem.F.plainAttrs_list PySem.F.slot_list_pop PySem.F.type_list_pop mt_popAt (pv 8) (pa_cons (pe_callF K_law_draw (hr.mono (by decide)) pass0 (pa_cons (pv 0) (pa_cons (pe_callB call_len (by rfl) B.len (by decide +kernel) (pa_cons (pv 8) pa_nil)) pa_nil))) pa_nil)) pa_nil)))))
      (pss_cons (ps_set (i := 9) sc__law_forest.nd rfl (Or.inl rfl) (pe_op op_rep (pe_lst (pa_cons pe_non pa_nil)) (pv 2)))
      (pss_cons (ps_for PassesOwn.never rfl (pi_range1 (by rfl) B.range (pa_cons (pv 2) pa_nil)) (pg_name (i := 5) sc__law_forest.nd rfl (Or.inl rfl)) (pss_one (ps_asg (pe_ifExp (pt_cmpR op_isN (pe_ix ix_list (pv 4) (pv 5) (fun _ _ => rfl)) pe_non (nomark _)) pe_non (pe_ix ix_list (pv 7) (pe_ix ix_list (pv 4) (pv 5) (fun _ _ => rfl)) (fun _ _ => rfl))) (pg_sub (pv 9) (pe_ix ix_list (pv 7) (pv 5) (fun _ _ => rfl)) set_list))))
      (pss_one (ps_ret (pe_callTy call_tuple_of (by rfl) B.tuple (by decide +kernel) (pa_cons (pv 9) pa_nil)))))))))))))), ?_⟩
  have p50 : (2 : Nat) ^ 50 = 1125899906842624 := by decide
  have p60 : (2 : Nat) ^ 60 = 1152921504606846976 := by decide
  have p100 : (2 : Nat) ^ 100 = 1267650600228229401496703205376 := by decide +kernel
  have p62 : (2 : Int) ^ 62 = 4611686018427387904 := by decide
  have p63 : (2 : Int) ^ 63 = 9223372036854775808 := by decide
  obtain ⟨wl0, hwl0⟩ := hw.here
  -- size = 1 + _law_draw(well, most); way = _law_draw(well, 4); found = []
  refine ⟨_, rfl, _, rfl, wl, n, _, rfl, hw, by omega, by omega, by omega, fun d0 H1 d00 d01 k1 w1 => ⟨_, _, rfl, rfl, ?_⟩⟩
  refine ⟨_, rfl, wl, n + 1, _, rfl, w1, by omega, by omega, by omega, fun way H2 _ _ k2 w2 => ?_⟩
  refine ⟨by show 0 ≤ sizeLine; decide, fun F hF2 => ?_⟩
  obtain ⟨sz, hsz⟩ : ∃ sz : Nat, 1 + d0 = (sz : Int) := ⟨(1 + d0).toNat, by omega⟩
  have hsz1 : 1 ≤ sz := by omega
  have hsz2 : (sz : Int) ≤ m := by omega
  have hsz3 : sz ≤ 60 := by omega
  have k02 := k1.trans k2
  have hFw : F ≠ wl := by
    obtain ⟨l2, e2⟩ := w2.here
    exact (ne_of_none e2 hF2).symm
  have hFn : H F = none := by
    cases eF : H F with
    | none => rfl
    | some o =>
      have z := k02 F o hFw eF
      rw [hF2] at z; cases z
  -- for k in range(size)
  refine ⟨_, rfl, _, rfl, by omega, by omega, for_it walk_range0 (fun i σ H' => ∃ v5 v6, σ = slF wl F m (1 + d0) way v5 v6 none none none ∧ Keep wl H H' ∧ Well H' wl (n + 2 + 5 * i) ∧ ∃ l : Hs, l.length = i ∧ LtF l ∧ H' F = some (.lst (l.map hv)))
    ⟨none, none, rfl, k02.new hF2, (w2.same ((Same.refl H2).new hF2)), [], rfl, fun j u e => (by cases e), upd_same⟩ (fun _ _ _ _ _ => trivial) ?_ ?_⟩
  · rintro i x σ H3 H4 hi ⟨v5, v6, rfl, k3, w3, l, hl, hlt, hF3⟩ ⟨rfl, rfl⟩
    have hi' : i < sz := by omega
    -- some = [None, k - 1, draw(max(1, k))][draw(3)] if k > 0 else None
    refine ⟨fun σ' H' => ∃ v6, OkV i v6 ∧ σ' = slF wl F m (1 + d0) way (some (.int (i : Int))) (some v6) none none none ∧ Keep wl H H' ∧ Well H' wl (n + 2 + 5 * i + 2) ∧ H' F = some (.lst (l.map hv)), ?_, ?_⟩
    · refine ⟨_, rfl, _, _, rfl, rfl, _, rfl, ?_⟩
      refine ite2 (fun c => ?_) (fun c => ?_)
      · have ci : (0 : Int) < (i : Int) := of_decide_eq_true c
        refine ⟨_, rfl, _, _, rfl, rfl, ?_⟩
        refine ⟨_, rfl, _, rfl, _, _, rfl, wl, _, _, rfl, w3, by omega, by split <;> omega, by split <;> omega, fun d H5 d0 d1 k5 w5 => ⟨by show 3 ≤ sizeLine; decide, fun L hL => ?_⟩⟩
        have w6 := w5.same ((Same.refl H5).new (o := .lst [.non, .int ((i : Int) - 1), .int d]) hL)
        refine ⟨_, rfl, wl, _, _, rfl, w6, by omega, by omega, by omega, fun d2 H6 e0 e1 k6 w6 => ?_⟩
        have hLw : L ≠ wl := by
          obtain ⟨l2, e2⟩ := w5.here
          exact (ne_of_none e2 hL).symm
        have hL6 : H6 L = some (.lst [.non, .int ((i : Int) - 1), .int d]) := k6 L _ hLw upd_same
        obtain ⟨v, hv1, hv2⟩ := pick (xs := [.non, .int ((i : Int) - 1), .int d]) e0 e1
        refine ⟨L, _, _, v, rfl, rfl, SqL.of hL6, hv2, v, ?_, rfl, (k3.trans (k5.new hL)).trans k6, w6, k6 F _ hFw ?_⟩
        · have d2' : d < (i : Int) := by
            split at d1 <;> omega
          simp only [List.mem_cons, List.not_mem_nil, or_false] at hv1
          rcases hv1 with rfl | rfl | rfl
          · exact .non i
          · exact .int (by omega) (by omega)
          · exact .int d0 d2'
        · have z := k5 F _ hFw hF3
          rw [upd_ne (ne_of_none z hL)]; exact z
      · exact ⟨.non, .non i, rfl, k3, w3.mono (by omega), hF3⟩
    · rintro σ' H5 ⟨v6, ok6, rfl, k5, w5, hF5⟩
      -- if k > 0 and way == 0
      refine ⟨fun σ' H' => ∃ v6, OkV i v6 ∧ σ' = slF wl F m (1 + d0) way (some (.int (i : Int))) (some v6) none none none ∧ Keep wl H H' ∧ Well H' wl (n + 2 + 5 * i + 3) ∧ H' F = some (.lst (l.map hv)), ?_, ?_⟩
      · refine ⟨_, rfl, _, _, rfl, rfl, _, rfl, ?_⟩
        refine ite2 (fun c => ?_) (fun c => ?_)
        · have ci : (0 : Int) < (i : Int) := of_decide_eq_true c
          refine ⟨_, rfl, rfl, _, rfl, ?_⟩
          refine ite2 (fun c2 => ?_) (fun c2 => ?_)
          · refine ⟨_, rfl, _, _, rfl, rfl, _, rfl, _, _, rfl, rfl, _, _, rfl, by show 2 ≤ sizeLine; decide, fun L hL => ?_⟩
            have w6 := w5.same ((Same.refl H5).new (o := .lst [.int ((i : Int) - 1), .int (if (i : Int) - 2 > 0 then (i : Int) - 2 else 0)]) hL)
            refine ⟨_, rfl, wl, _, _, rfl, w6, by omega, by omega, by omega, fun d2 H6 e0 e1 k6 w6 => ?_⟩
            have hLw : L ≠ wl := by
              obtain ⟨l2, e2⟩ := w5.here
              exact (ne_of_none e2 hL).symm
            have hL6 : H6 L = some (.lst [.int ((i : Int) - 1), .int (if (i : Int) - 2 > 0 then (i : Int) - 2 else 0)]) := k6 L _ hLw upd_same
            obtain ⟨v, hv1, hv2⟩ := pick (xs := [.int ((i : Int) - 1), .int (if (i : Int) - 2 > 0 then (i : Int) - 2 else 0)]) e0 e1
            refine ⟨L, _, _, v, rfl, rfl, SqL.of hL6, hv2, v, ?_, rfl, (k5.new hL).trans k6, w6, k6 F _ hFw ?_⟩
            · simp only [List.mem_cons, List.not_mem_nil, or_false] at hv1
              rcases hv1 with rfl | rfl
              · exact .int (by omega) (by omega)
              · exact .int (by split <;> omega) (by split <;> omega)
            · rw [upd_ne (ne_of_none hF5 hL)]; exact hF5
          · exact ⟨v6, ok6, rfl, k5, w5.mono (by omega), hF5⟩
        · exact ⟨v6, ok6, rfl, k5, w5.mono (by omega), hF5⟩
      · rintro σ' H6 ⟨v6, ok6, rfl, k6, w6, hF6⟩
        -- if k > 0 and way == 1
        refine ⟨fun σ' H' => ∃ v6, OkV i v6 ∧ σ' = slF wl F m (1 + d0) way (some (.int (i : Int))) (some v6) none none none ∧ Keep wl H H' ∧ Well H' wl (n + 2 + 5 * i + 5) ∧ H' F = some (.lst (l.map hv)), ?_, ?_⟩
        · refine ⟨_, rfl, _, _, rfl, rfl, _, rfl, ?_⟩
          refine ite2 (fun c => ?_) (fun c => ?_)
          · have ci : (0 : Int) < (i : Int) := of_decide_eq_true c
            refine ⟨_, rfl, rfl, _, rfl, ?_⟩
            refine ite2 (fun c2 => ?_) (fun c2 => ?_)
            · refine ⟨_, rfl, _, rfl, wl, _, _, rfl, w6, by omega, by omega, by omega, fun d H7 d0 d1 k7 w7 => ⟨by show 4 ≤ sizeLine; decide, fun L hL => ?_⟩⟩
              have w8 := w7.same ((Same.refl H7).new (o := .lst [.int 0, .int 0, .non, .int d]) hL)
              refine ⟨_, rfl, wl, _, _, rfl, w8, by omega, by omega, by omega, fun d2 H8 e0 e1 k8 w8 => ?_⟩
              have hLw : L ≠ wl := by
                obtain ⟨l2, e2⟩ := w7.here
                exact (ne_of_none e2 hL).symm
              have hL8 : H8 L = some (.lst [.int 0, .int 0, .non, .int d]) := k8 L _ hLw upd_same
              obtain ⟨v, hv1, hv2⟩ := pick (xs := [.int 0, .int 0, .non, .int d]) e0 e1
              refine ⟨L, _, _, v, rfl, rfl, SqL.of hL8, hv2, v, ?_, rfl, (k6.trans (k7.new hL)).trans k8, w8, k8 F _ hFw ?_⟩
              · simp only [List.mem_cons, List.not_mem_nil, or_false] at hv1
                rcases hv1 with rfl | rfl | rfl | rfl
                · exact .int (by omega) (by omega)
                · exact .int (by omega) (by omega)
                · exact .non i
                · exact .int d0 d1
              · have z := k7 F _ hFw hF6
                rw [upd_ne (ne_of_none z hL)]; exact z
            · exact ⟨v6, ok6, rfl, k6, w6.mono (by omega), hF6⟩
          · exact ⟨v6, ok6, rfl, k6, w6.mono (by omega), hF6⟩
        · rintro σ' H7 ⟨v6, ⟨o, rfl, ho⟩, rfl, k7, w7, hF7⟩
          -- found.append(some)
          refine ⟨_, rfl, .inl ⟨rfl, _, SqL.of hF7⟩, _, rfl, F, _, _, rfl, rfl, hF7, by rw [List.length_map]; exact szl (by omega), ?_⟩
          have kf : Keep wl H (upd H7 F (.lst (l.map hv ++ [hv o]))) := fun b u hb e => by
            rw [upd_ne (ne_of_none e hFn)]; exact k7 b u hb e
          refine ⟨_, _, rfl, kf, ?_, l ++ [o], by rw [List.length_append, hl]; rfl, hlt.snoc (by rw [hl]; exact ho), by rw [upd_same, List.map_append]; rfl⟩
          obtain ⟨a, b, c, e, r⟩ := w7.ex
          exact ⟨a, b, c, by rw [upd_ne hFw.symm]; exact e, r.1, r.2.1, r.2.2.1, r.2.2.2.1, by omega⟩
  · rintro σ H3 ⟨v5, v6, rfl, k3, w3, l, hl, hlt, hF3⟩
    have e0 : (1 + d0).toNat = sz := by omega
    rw [e0] at w3 hl
    have hlne : l ≠ [] := by
      intro z; rw [z] at hl; rw [← hl] at hsz1; exact absurd hsz1 (by decide)
    -- if _law_draw(well, 3) == 0: return tuple(found)
    refine ⟨_, rfl, wl, _, _, rfl, w3, by omega, by omega, by omega, fun d H4 _ _ k4 w4 => ?_⟩
    have hF4 := k4 F _ hFw hF3
    have k04 := k3.trans k4
    refine ⟨rfl, _, rfl, ?_⟩
    refine ite2 (fun c => ?_) (fun c => ?_)
    · refine ⟨_, rfl, F, _, rfl, .inl ⟨SqL.of hF4, fun t ht => ?_⟩⟩
      have w5 := w4.same ((Same.refl H4).new (o := .tup (l.map hv)) ht)
      have htn : H t = none := by
        cases et : H t with
        | none => rfl
        | some o =>
          by_cases htw : t = wl
          · obtain ⟨l2, e2⟩ := w4.here
            rw [htw, e2] at ht; cases ht
          · have z := k04 t o htw et
            rw [ht] at z; cases z
      refine q t l _ (fo_plain hlne hlt) (by omega) (k04.new ht) (w5.mono (by omega)) htn upd_same
    · -- names, left = [], list(range(size))
      refine ⟨by show 0 ≤ sizeLine; decide, fun N hN => ?_⟩
      refine ⟨_, rfl, _, rfl, RgOk.of_le (by omega) (by omega) (by omega) (by omega), fun L hL => ⟨_, _, rfl, ?_⟩⟩
      have hNn : H N = none := by
        cases et : H N with
        | none => rfl
        | some o =>
          by_cases htw : N = wl
          · obtain ⟨l2, e2⟩ := w4.here
            rw [htw, e2] at hN; cases hN
          · have z := k04 N o htw et
            rw [hN] at z; cases z
      have hNw : N ≠ wl := by
        obtain ⟨l2, e2⟩ := w4.here
        exact (ne_of_none e2 hN).symm
      have hNL : N ≠ L := ne_of_none upd_same hL
      have hNF : F ≠ N := ne_of_none hF4 hN
      have hL4 : H4 L = none := by rw [upd_ne hNL.symm] at hL; exact hL
      have hLw : L ≠ wl := by
        obtain ⟨l2, e2⟩ := w4.here
        exact (ne_of_none e2 hL4).symm
      have hFL : F ≠ L := ne_of_none hF4 hL4
      have hLn : H L = none := by
        cases et : H L with
        | none => rfl
        | some o =>
          have z := k04 L o hLw et
          rw [hL4] at z; cases z
      have kk : ∀ {H' : Hp} {a : Addr} {o : HO}, Keep wl H H' → H a = none → Keep wl H (upd H' a o) := fun {H' a o} k hn b u hb e => by
        rw [upd_ne (ne_of_none e hn)]; exact k b u hb e
      have ww : ∀ {H' : Hp} {a : Addr} {o : HO} {k : Nat}, Well H' wl k → a ≠ wl → Well (upd H' a o) wl k := fun {H' a o k} h hn => by
        obtain ⟨x, y, z, e, r⟩ := h.ex
        exact ⟨x, y, z, by rw [upd_ne hn.symm]; exact e, r⟩
      -- for k in range(size): names.append(left.pop(_law_draw(well, len(left))))
      refine ⟨_, rfl, _, rfl, by omega, by omega, for_it walk_range0 (fun i σ H' => ∃ v5, σ = slF wl F m (1 + d0) way v5 v6 (some (.ref N)) (some (.ref L)) none ∧ Keep wl H H' ∧ Well H' wl (n + 3 + 5 * sz + i) ∧ H' F = some (.lst (l.map hv)) ∧
          ∃ nm lf : List Nat, nm.length = i ∧ (nm ++ lf).Perm (List.range sz) ∧ H' N = some (.lst (nv nm)) ∧ H' L = some (.lst (nv lf)))
        ⟨v5, rfl, kk (kk k04 hNn) hLn, (ww (ww w4 hNw) hLw).mono (by omega), by rw [upd_ne hFL, upd_ne hNF]; exact hF4, [], List.range sz, rfl, List.Perm.refl _, by rw [upd_ne hNL, upd_same]; rfl, by rw [upd_same, hsz, nv_range]⟩ (fun _ _ _ _ _ => trivial) ?_ ?_⟩
      · rintro i x σ H5 H6 hi ⟨v5, rfl, k5, w5, hF5, nm, lf, hnm, hp, hN5, hL5⟩ ⟨rfl, rfl⟩
        have hi' : i < sz := by omega
        have hlf : nm.length + lf.length = sz := by
          have z := hp.length_eq
          rw [List.length_append, List.length_range] at z; exact z
        refine ⟨_, rfl, .inl ⟨rfl, _, SqL.of hN5⟩, ?_⟩
        refine ⟨_, rfl, .inl ⟨rfl, _, SqL.of hL5⟩, ?_⟩
        refine ⟨_, rfl, _, rfl, _, _, rfl, .inl ⟨_, SqL.of hL5, rfl⟩, wl, _, _, rfl, w5, by omega, by rw [nv_length]; omega, by rw [nv_length]; omega, fun d H6 d0 d1 k6 w6 => ?_⟩
        rw [nv_length] at d1
        obtain ⟨j, hj⟩ : ∃ j : Nat, d = (j : Int) := ⟨d.toNat, by omega⟩
        subst hj
        have hjl : j < lf.length := by omega
        have hL6 := k6 L _ hLw hL5
        have hN6 := k6 N _ hNw hN5
        have hF6 := k6 F _ hFw hF5
        refine ⟨L, _, _, j, _, rfl, rfl, hL6, by omega, by omega, by rw [nv_length]; exact seq_nat hjl, nv_get (List.getElem?_eq_getElem hjl), ?_⟩
        refine ⟨N, _, _, rfl, rfl, by rw [upd_ne hNL]; exact hN6, by rw [nv_length]; exact szl (by omega), ?_⟩
        refine ⟨_, rfl, kk (kk (k5.trans k6) hLn) hNn, (ww (ww w6 hLw) hNw).mono (by omega), by rw [upd_ne hNF, upd_ne hFL]; exact hF6, nm ++ [lf[j]], lf.eraseIdx j, by rw [List.length_append, hnm]; rfl, ?_, by rw [upd_same, nv_append]; rfl, by rw [upd_ne hNL.symm, upd_same, nv_erase]⟩
        have pe := erase_perm lf j hjl
        rw [List.append_assoc]
        exact (List.Perm.append_left nm pe).trans hp
      · rintro σ H5 ⟨v5, rfl, k5, w5, hF5, nm, lf, hnm, hp, hN5, hL5⟩
        rw [e0] at hnm w5
        have hlf : nm.length + lf.length = sz := by
          have z := hp.length_eq
          rw [List.length_append, List.length_range] at z; exact z
        have hlf0 : lf = [] := List.eq_nil_of_length_eq_zero (by omega)
        subst hlf0
        rw [List.append_nil] at hp
        -- turned_here = [None] * size
        refine ⟨by show 1 ≤ sizeLine; decide, fun O hO => ?_⟩
        refine ⟨_, rfl, O, _, _, rfl, rfl, upd_same, by omega, by omega, ?_, fun T hT => ?_⟩
        · show 1 * (1 + d0).toNat ≤ sizeLine
          rw [e0, Nat.one_mul]; exact Nat.le_of_lt (szl (by omega))
        have hT5 : H5 T = none := by
          have z := hT
          rw [upd_ne (ne_of_none upd_same hT).symm] at z; exact z
        have fresh : ∀ {a : Addr}, H5 a = none → H a = none ∧ a ≠ wl ∧ F ≠ a ∧ N ≠ a := fun {a} ha => by
          have h1 : a ≠ wl := by
            obtain ⟨l2, e2⟩ := w5.here
            exact (ne_of_none e2 ha).symm
          refine ⟨?_, h1, ne_of_none hF5 ha, ne_of_none hN5 ha⟩
          cases et : H a with
          | none => rfl
          | some o =>
            have z := k5 a o h1 et
            rw [ha] at z; cases z
        obtain ⟨o1, o2, o3, o4⟩ := fresh hO
        obtain ⟨t1, t2, t3, t4⟩ := fresh hT5
        have hnl : ∀ j : Nat, j < sz → ∃ v, nm[j]? = some v ∧ v < sz := fun j hj => by
          have h1 : j < nm.length := by omega
          exact ⟨nm[j], List.getElem?_eq_getElem h1, List.mem_range.mp (hp.mem_iff.mp (List.getElem_mem h1))⟩
        have hnd : nm.Nodup := hp.nodup_iff.mpr List.nodup_range
        -- for k in range(size): turned_here[names[k]] = ..
        refine ⟨_, rfl, _, rfl, by omega, by omega, for_it walk_range0 (fun i σ H' => ∃ v5, σ = slF wl F m (1 + d0) way v5 v6 (some (.ref N)) (some (.ref L)) (some (.ref T)) ∧ Keep wl H H' ∧ Well H' wl (n + 3 + 6 * sz) ∧ H' F = some (.lst (l.map hv)) ∧ H' N = some (.lst (nv nm)) ∧
            ∃ th : Hs, th.length = sz ∧ (∀ (j v : Nat) (o : Option Nat), j < i → nm[j]? = some v → l[j]? = some o → th[v]? = some (ren nm o)) ∧ H' T = some (.lst (th.map hv)))
          ⟨v5, rfl, kk (kk k5 o1) t1, (ww (ww w5 o2) t2).mono (by omega), by rw [upd_ne t3, upd_ne o3]; exact hF5, by rw [upd_ne t4, upd_ne o4]; exact hN5, List.replicate sz none, List.length_replicate, fun j v o hj => absurd hj (Nat.not_lt_zero j), by rw [upd_same, rep_non, e0]⟩ (fun _ _ _ _ _ => trivial) ?_ ?_⟩
        · rintro i x σ H6 H7 hi ⟨v5, rfl, k6, w6, hF6, hN6, th, hth, hr, hT6⟩ ⟨rfl, rfl⟩
          have hi' : i < sz := by omega
          have hil : i < l.length := by omega
          obtain ⟨v, ev, hv'⟩ := hnl i hi'
          have eo : l[i]? = some l[i] := List.getElem?_eq_getElem hil
          generalize l[i] = o at eo
          have fin : ∀ x : V, x = hv (ren nm o) → gSub (tVar 9) (tOp (rIxL K) (tVar 7) (tVar 5)) rSetL x (slF wl F m (1 + d0) way (some (.int (i : Int))) v6 (some (.ref N)) (some (.ref L)) (some (.ref T))) H7
              (fun σ H' => ∃ v5, σ = slF wl F m (1 + d0) way v5 v6 (some (.ref N)) (some (.ref L)) (some (.ref T)) ∧ Keep wl H H' ∧ Well H' wl (n + 3 + 6 * sz) ∧ H' F = some (.lst (l.map hv)) ∧ H' N = some (.lst (nv nm)) ∧
                ∃ th : Hs, th.length = sz ∧ (∀ (j v : Nat) (o : Option Nat), j < i + 1 → nm[j]? = some v → l[j]? = some o → th[v]? = some (ren nm o)) ∧ H' T = some (.lst (th.map hv))) := by
            rintro x rfl
            refine ⟨_, rfl, _, rfl, _, rfl, N, _, _, _, rfl, rfl, SqL.of hN6, atI_nat (nv_get ev), T, _, _, v, rfl, rfl, hT6, by rw [List.length_map, hth]; exact ixN_nat hv', ?_⟩
            refine ⟨_, rfl, kk k6 t1, ww w6 t2, by rw [upd_ne t3]; exact hF6, by rw [upd_ne t4]; exact hN6, th.set v (ren nm o), by rw [List.length_set]; exact hth, ?_, by rw [upd_same, List.map_set]⟩
            intro j v' o' hj e1 e2
            by_cases hji : j = i
            · subst hji
              have q1 : v' = v := Option.some.inj (e1.symm.trans ev)
              have q2 : o' = o := Option.some.inj (e2.symm.trans eo)
              subst q1 q2
              exact List.getElem?_set_self (by rw [hth]; exact hv')
            · have hne : v ≠ v' := fun z => hji (nodup_at hnd e1 (by rw [← z]; exact ev))
              rw [List.getElem?_set_ne hne]
              exact hr j v' o' (by omega) e1 e2
          refine ⟨_, rfl, _, rfl, F, _, _, _, rfl, rfl, SqL.of hF6, atI_nat (hv_at eo), rfl, _, rfl, ?_⟩
          cases o with
          | none => exact iteT (fin _ rfl)
          | some u =>
            have hu := hlt i u eo
            obtain ⟨vu, eu, _⟩ := hnl u (by omega)
            refine iteF ⟨_, rfl, _, rfl, _, rfl, F, _, _, _, rfl, rfl, SqL.of hF6, atI_nat (hv_at eo), N, _, _, _, rfl, rfl, SqL.of hN6, atI_nat (nv_get eu), fin _ ?_⟩
            show V.int (vu : Int) = V.int ((nm.getD u 0 : Nat) : Int)
            rw [List.getD_eq_getElem?_getD, eu]; rfl
        · rintro σ H6 ⟨v5, rfl, k6, w6, hF6, hN6, th, hth, hr, hT6⟩
          rw [e0] at hr
          refine ⟨_, rfl, T, _, rfl, .inl ⟨SqL.of hT6, fun t ht => ?_⟩⟩
          have w7 := w6.same ((Same.refl H6).new (o := .tup (th.map hv)) ht)
          have htn : H t = none := by
            have h1 : t ≠ wl := by
              obtain ⟨l2, e2⟩ := w6.here
              exact (ne_of_none e2 ht).symm
            cases et : H t with
            | none => rfl
            | some o =>
              have z := k6 t o h1 et
              rw [ht] at z; cases z
          refine q t th _ (fo_turned hlne hlt (by rw [hl]; exact hp) (by rw [hth, hl]) fun j v o e1 e2 => hr j v o ?_ e1 e2) (by omega) (k6.new ht) (w7.mono (by omega)) htn upd_same
          have z := (List.getElem?_eq_some_iff.mp e2).1
          omega
end

end My

namespace My
open PySem PySem.Spec PyProof.Rows L2
/-! ### what the functions of heldbehind.forests raise and hand back -/
def spCheckF (C : Addr) : Sp := fun vs H Q E => ∃ x : V, vs = [x] ∧ Askd H x ∧ (IsF H x → ∀ H', Same H H' → Q .non H') ∧ (¬ IsF H x → ∀ H', Same H H' → E (.ref C) none H')
def spCheckT (C : Addr) : Sp := fun vs H Q E => ∃ (a : Addr) (xs : List V) (y : V), vs = [.ref a, y] ∧ H a = some (.tup xs) ∧ Vd H y ∧ (isIdx (xs.length : Int) y = true → Q .non H) ∧ (isIdx (xs.length : Int) y = false → E (.ref C) none H)
/-- a function of a forest alone: R what its answer's list may be -/
def spOf (C : Addr) (R : Hs → List V → Prop) : Sp := fun vs H Q E => ∃ x : V, vs = [x] ∧ Askd H x ∧ (∀ hs : Hs, tupAt H x = some (hs.map hv) → hs.length ≤ 60) ∧ (¬ IsF H x → ∀ H', Same H H' → E (.ref C) none H') ∧
  ∀ hs : Hs, tupAt H x = some (hs.map hv) → Fo hs → ∀ r l H', R hs l → Same H H' → H r = none → H' r = some (.lst l) → Q (.ref r) H'
/-- a function of a forest and a thing -/
def spOf2 (C C2 : Addr) (R : Hs → Nat → List V → Prop) : Sp := fun vs H Q E => ∃ x y : V, vs = [x, y] ∧ Askd H x ∧ Vd H y ∧ (∀ hs : Hs, tupAt H x = some (hs.map hv) → hs.length ≤ 60) ∧ (¬ IsF H x → ∀ H', Same H H' → E (.ref C) none H') ∧
  (∀ hs : Hs, tupAt H x = some (hs.map hv) → Fo hs → isIdx (hs.length : Int) y = false → ∀ H', Same H H' → E (.ref C2) none H') ∧
  ∀ hs : Hs, tupAt H x = some (hs.map hv) → Fo hs → ∀ t : Nat, y = .int (t : Int) → t < hs.length → ∀ r l H', R hs t l → Same H H' → H r = none → H' r = some (.lst l) → Q (.ref r) H'
theorem tupAt_same {H H' : Hp} {x : V} {xs : List V} (h : tupAt H x = some xs) (s : Same H H') : tupAt H' x = some xs := by
  obtain ⟨a, rfl, ha⟩ := tupAt_ref h
  exact tupAt_tup (s _ _ ha)
theorem Askd.same {H H' : Hp} {x : V} (h : Askd H x) (s : Same H H') (hi : ∀ xs, tupAt H' x = some xs → tupAt H x = some xs) : Askd H' x :=
  ⟨h.vd.same s, fun xs e => ⟨(h.items xs (hi xs e)).1, fun y hy => ((h.items xs (hi xs e)).2 y hy).same s⟩⟩
theorem isIdx_true {n : Nat} {y : V} (h : isIdx (n : Int) y = true) : ∃ t : Nat, y = .int (t : Int) ∧ t < n := by
  cases y with
  | int i =>
    have c : (decide (0 ≤ i) && decide (i < (n : Int))) = true := h
    rw [Bool.and_eq_true, decide_eq_true_eq, decide_eq_true_eq] at c
    exact ⟨i.toNat, by congr 1; omega, by omega⟩
  | _ => cases h
theorem vd_hv {H : Hp} (o : Option Nat) : Vd H (hv o) := by
  cases o with
  | none => exact .non
  | some u => exact .int _
section
variable {P : Program} {w : World} {K : PySem.W.Frag} {mg : Str → Option Value} {base : Heap} {CF CT : Addr}
abbrev st_check_forest : Stmt := topS 11
abbrev N_check_forest : List Str := ["forest"]
theorem sc_check_forest : FnScope N_check_forest ["forest"] (defScope st_check_forest) := ⟨rfl, rfl, rfl, by decide +kernel, rfl, by decide +kernel, by decide +kernel⟩
theorem ok_check_forest (D : Df K mg "check_forest" st_check_forest ["forest"]) (B : Bl mg) (EInvalidForest : Ex1 K mg "InvalidForest" CF) (Kis_forest : Kn P w K mg base CX0 4 "is_forest" st_is_forest ["value"] spIsForest) :
    Kn P w K mg base (L2.CX P w) 5 "check_forest" st_check_forest ["forest"] (spCheckF CF) := by
  refine D.okX sc_check_forest (fun vs H Q E h => ?_) (fun f cdv A outer s H vs Q E hr h => ?_)
  · obtain ⟨x, rfl, _⟩ := h; rfl
  obtain ⟨x, rfl, ask, q1, q2⟩ := h
  refine ⟨_, ((pss_one (ps_if (pt_not (pt_val (pe_callF Kis_forest (hr.mono (by decide)) pass0 (pa_cons (pv 0) pa_nil)))) (pss_one (ps_raise rfl (takes_of rfl rfl rfl rfl) (pmk_own0 PySem.F.excBase_ValueError EInvalidForest.x EInvalidForest.g EInvalidForest.k (raises_own EInvalidForest.b EInvalidForest.t) rfl))) pss_nil))), ?_⟩
  refine ⟨_, rfl, x, rfl, ask, fun b H' s' hb => ⟨_, rfl, ?_⟩⟩
  cases b with
  | true => exact iteF (q1 (hb.mp rfl) H' s')
  | false => exact iteT (q2 (fun z => Bool.false_ne_true (hb.mpr z)) H' s')
end

end My

namespace My
open PySem PySem.Spec PyProof.Rows L2
/-! ### lists of naturals as data -/
def nD (l : List Nat) : List PyData := l.map fun v : Nat => PyData.int ((v : Nat) : Int)
theorem dp_nv {K : PySem.W.Frag} {H : Hp} : ∀ l : List Nat, DpAll K H (nv l) (nD l)
  | [] => .nil
  | v :: l => .cons (.int (v : Int)) (dp_nv l)
theorem lay_nD : ∀ l : List Nat, PyData.canLayAll0 (nD l) = true
  | [] => rfl
  | v :: l => by
    show PyData.canLayAll0 (PyData.int (v : Int) :: nD l) = true
    rw [PyData.canLayAll0, lay_nD l]; rfl
theorem deep_nD : ∀ l : List Nat, PyData.depthAll (nD l) = 0
  | [] => rfl
  | v :: l => by
    show PyData.depthAll (PyData.int (v : Int) :: nD l) = 0
    rw [PyData.depthAll, deep_nD l]; rfl
theorem shaped_nD (l : List Nat) : SeqAt.shaped (.list (nD l)) = true := by
  unfold SeqAt.shaped
  rw [PyData.canLay0, lay_nD, PyData.depth, deep_nD]; rfl
theorem eqv_nD : ∀ a b : List Nat, PyData.eqvAll (nD a) (nD b) = decide (a = b)
  | [], [] => rfl
  | [], _ :: _ => rfl
  | _ :: _, [] => rfl
  | x :: a, y :: b => by
    show PyData.eqvAll (PyData.int (x : Int) :: nD a) (PyData.int (y : Int) :: nD b) = _
    rw [PyData.eqvAll, eqv_nD a b, PyData.eqv]
    by_cases h : x = y
    · subst h
      by_cases h2 : a = b
      · subst h2; simp
      · simp [h2]
    · have h3 : ¬ ((x : Int) = (y : Int)) := by omega
      simp [h, h3]
theorem eqv_list (a b : List PyData) : PyData.eqv (.list a) (.list b) = PyData.eqvAll a b := by rw [PyData.eqv]
theorem flat_nv (l : List Nat) : (nv l).all flatV = true := by
  rw [List.all_eq_true]
  intro y hy
  obtain ⟨v, _, rfl⟩ := List.mem_map.mp hy
  rfl
theorem inV_nv (u : Nat) (l : List Nat) : inV (.int (u : Int)) (nv l) = decide (u ∈ l) := by
  unfold inV nv
  rw [List.any_map]
  induction l with
  | nil => rfl
  | cons v l ih =>
    rw [List.any_cons, ih]
    show ((v : Int) == (u : Int) || decide (u ∈ l)) = _
    by_cases h : v = u
    · subst h; simp
    · have h1 : ((v : Int) == (u : Int)) = false := beq_eq_false_iff_ne.mpr (by omega)
      have h2 : ¬ u = v := fun q => h q.symm
      rw [h1, Bool.false_or]
      simp [h2]

theorem askdF {H : Hp} {t : Addr} {hs : Hs} (ht : H t = some (.tup (hs.map hv))) (hl : hs.length ≤ 60) : Askd H (.ref t) := by
  refine ⟨.tup ht, fun xs e => ?_⟩
  rw [tupAt_tup ht] at e
  cases e
  refine ⟨by rw [List.length_map]; omega, fun y hy => ?_⟩
  obtain ⟨o, _, rfl⟩ := List.mem_map.mp hy
  exact vd_hv o

/-! ### stages: lists of tuples of things -/
def Lot (H : Hp) (x : V) (l : List Nat) : Prop := ∃ t, x = .ref t ∧ H t = some (.tup (nv l))
def LotsX (H : Hp) (xs : List V) (ls : List (List Nat)) : Prop := xs.length = ls.length ∧ ∀ (i : Nat) (x : V) (l : List Nat), xs[i]? = some x → ls[i]? = some l → Lot H x l
def Lots (H : Hp) (p : Addr) (ls : List (List Nat)) : Prop := ∃ xs, H p = some (.lst xs) ∧ LotsX H xs ls
theorem Lot.same {H H' : Hp} {x : V} {l : List Nat} (h : Lot H x l) (s : Same H H') : Lot H' x l := by
  obtain ⟨t, e, ht⟩ := h
  exact ⟨t, e, s _ _ ht⟩
theorem LotsX.same {H H' : Hp} {xs : List V} {ls : List (List Nat)} (h : LotsX H xs ls) (s : Same H H') : LotsX H' xs ls := ⟨h.1, fun i x l e1 e2 => (h.2 i x l e1 e2).same s⟩
theorem Lots.same {H H' : Hp} {p : Addr} {ls : List (List Nat)} (h : Lots H p ls) (s : Same H H') : Lots H' p ls := by
  obtain ⟨xs, e, hx⟩ := h
  exact ⟨xs, s _ _ e, hx.same s⟩
theorem LotsX.at {H : Hp} {xs : List V} {ls : List (List Nat)} (h : LotsX H xs ls) {i : Nat} {x : V} (e : xs[i]? = some x) : ∃ t l, ls[i]? = some l ∧ x = .ref t ∧ H t = some (.tup (nv l)) := by
  have lt := (List.getElem?_eq_some_iff.mp e).1
  obtain ⟨t, e1, ht⟩ := h.2 i x _ e (List.getElem?_eq_getElem (by rw [← h.1]; exact lt))
  exact ⟨t, _, List.getElem?_eq_getElem (by rw [← h.1]; exact lt), e1, ht⟩
theorem LotsX.of {H : Hp} {xs : List V} {ls : List (List Nat)} (h : LotsX H xs ls) {i : Nat} {l : List Nat} (e : ls[i]? = some l) : ∃ t, xs[i]? = some (.ref t) ∧ H t = some (.tup (nv l)) := by
  have lt := (List.getElem?_eq_some_iff.mp e).1
  have e2 : xs[i]? = some (xs[i]'(by rw [h.1]; exact lt)) := List.getElem?_eq_getElem (by rw [h.1]; exact lt)
  obtain ⟨t, e1, ht⟩ := h.2 i _ _ e2 e
  exact ⟨t, e1 ▸ e2, ht⟩
theorem LotsX.nil {H : Hp} : LotsX H [] [] := ⟨rfl, fun i x l e => by cases e⟩
theorem LotsX.snoc {H : Hp} {xs : List V} {ls : List (List Nat)} {x : V} {l : List Nat} (h : LotsX H xs ls) (hx : Lot H x l) : LotsX H (xs ++ [x]) (ls ++ [l]) := by
  refine ⟨by rw [List.length_append, List.length_append, h.1]; rfl, fun i y m e1 e2 => ?_⟩
  by_cases c : i < xs.length
  · rw [List.getElem?_append_left c] at e1
    rw [List.getElem?_append_left (by rw [← h.1]; exact c)] at e2
    exact h.2 i y m e1 e2
  · have lt := (List.getElem?_eq_some_iff.mp e1).1
    rw [List.length_append, List.length_singleton] at lt
    have ei : i = xs.length := by omega
    subst ei
    rw [List.getElem?_append_right (Nat.le_refl _), Nat.sub_self] at e1
    rw [h.1, List.getElem?_append_right (Nat.le_refl _), Nat.sub_self] at e2
    cases e1; cases e2
    exact hx
/-- the stages are right ones of n things -/
structure Stg (n : Nat) (ls : List (List Nat)) : Prop where
  ne : ∀ l ∈ ls, l ≠ []
  up : ∀ l ∈ ls, l.Pairwise (· < ·)
  nd : ls.flatten.Nodup
  lt : ∀ v ∈ ls.flatten, v < n
theorem Stg.size {n : Nat} {ls : List (List Nat)} (s : Stg n ls) : ls.flatten.length ≤ n := by
  have q := nodup_sub ls.flatten (List.range n) s.nd fun v hv => List.mem_range.mpr (s.lt v hv)
  rw [List.length_range] at q; exact q
theorem flat_ge : ∀ {ls : List (List Nat)}, (∀ l ∈ ls, l ≠ []) → ls.length ≤ ls.flatten.length
  | [], _ => Nat.le_refl _
  | l :: ls, h => by
    have a := flat_ge (ls := ls) fun m hm => h m (List.mem_cons_of_mem _ hm)
    have b : 0 < l.length := List.length_pos_iff.mpr (h l List.mem_cons_self)
    rw [List.flatten_cons, List.length_append, List.length_cons]
    omega
theorem Stg.many {n : Nat} {ls : List (List Nat)} (s : Stg n ls) : ls.length ≤ n := Nat.le_trans (flat_ge s.ne) s.size
theorem Stg.one {n : Nat} {ls : List (List Nat)} (s : Stg n ls) {l : List Nat} (h : l ∈ ls) : l.length ≤ n := by
  have q := s.size
  have a := (List.sublist_flatten_of_mem h).length_le
  omega
def spAscends : Sp := fun vs H Q _ => ∃ (t : Addr) (l : List Nat), vs = [.ref t] ∧ H t = some (.tup (nv l)) ∧ l.length ≤ 60 ∧ l ≠ [] ∧ l.Pairwise (· < ·) ∧ ∀ H', Same H H' → Q (.bl true) H'
def spDifferent : Sp := fun vs H Q _ => ∃ (p : Addr) (l : List Nat) (n : Nat), vs = [.ref p, .int (n : Int)] ∧ H p = some (.lst (nv l)) ∧ l.length ≤ 60 ∧ l.Nodup ∧ (∀ v ∈ l, v < n) ∧ ∀ H', Same H H' → Q (.bl true) H'
theorem dp_list {K : PySem.W.Frag} {H : Hp} {p : Addr} {l : List Nat} (h : H p = some (.lst (nv l))) : Dp K H (.ref p) (.list (nD l)) := .lst (SqL.of h) (dp_nv l)
theorem sorted_same : ∀ {ms ns : List Int}, ms.Perm ns → ms.Pairwise (· ≤ ·) → ns.Pairwise (· ≤ ·) → ms = ns := fun {ms ns} p h1 h2 =>
  List.Perm.eq_of_pairwise (fun a b _ _ x y => Int.le_antisymm x y) h1 h2 p
section
variable {P : Program} {w : World} {K : PySem.W.Frag} {mg : Str → Option Value} {base : Heap}
abbrev st__ascends : Stmt := topS 18
abbrev N__ascends : List Str := ["things"]
theorem sc__ascends : FnScope N__ascends ["things"] (defScope st__ascends) := ⟨rfl, rfl, rfl, by decide +kernel, rfl, by decide +kernel, by decide +kernel⟩
theorem ok__ascends (D : Df K mg "_ascends" st__ascends ["things"]) (B : Bl mg) : Kn P w K mg base CX0 1 "_ascends" st__ascends ["things"] spAscends := by
  refine D.ok sc__ascends (fun vs H Q E h => ?_) (fun f cdv A outer s H vs Q E hr h => ?_)
  · obtain ⟨t, l, rfl, _⟩ := h; rfl
  obtain ⟨t, l, rfl, ht, hl, hne, hup, q⟩ := h
  refine ⟨_, ((pss_one (ps_ret (pe_and (pe_cmpR op_gt (pe_callB call_len (by rfl) B.len (by decide +kernel) (pa_cons (pv 0) pa_nil)) pe_int (nomark _)) (pe_one (pe_cmpR (op_eqD hr.units) (pe_callTy call_list_of (by rfl) B.list (by decide +kernel) (pa_cons (pv 0) pa_nil)) (pe_callB cr_sortedTup (by rfl) B.sorted (by decide +kernel) (pa_cons (pv 0) pa_nil)) (nomark _))))))), ?_⟩
  have pos : 0 < l.length := List.length_pos_iff.mpr hne
  refine ⟨_, rfl, _, _, rfl, .inr ⟨_, SqT.of ht, rfl⟩, _, _, rfl, rfl, _, rfl, ?_⟩
  rw [nv_length]
  refine ite2 (fun _ => ?_) (fun c => absurd (decide_eq_true (p := (0 : Int) < (l.length : Int)) (by omega)) c)
  refine ⟨_, rfl, _, _, rfl, .inr (SqT.of ht), fun p hp => ?_⟩
  have s1 := (Same.refl H).new (o := .lst (nv l)) hp
  have o1 : upd H p (.lst (nv l)) p = some (.lst (nv l)) := upd_same
  generalize upd H p (.lst (nv l)) = H1 at s1 o1 ⊢
  refine ⟨_, rfl, _, l.map fun v : Nat => (v : Int), rfl, by rw [List.map_map]; exact SqT.of (s1 _ _ ht), fun ms p2 pm hs hp2 => ?_⟩
  have em : ms = l.map fun v : Nat => (v : Int) := sorted_same pm hs (List.pairwise_map.mpr (hup.imp fun {a b} h => by omega))
  subst em
  rw [List.map_map]
  have s2 := s1.new (o := .lst (nv l)) hp2
  have o2 : upd H1 p2 (.lst (nv l)) p2 = some (.lst (nv l)) := upd_same
  have o3 : upd H1 p2 (.lst (nv l)) p = some (.lst (nv l)) := (upd_ne (ne_of_none o1 hp2)).trans o1
  show ∃ d e, _
  refine ⟨_, _, dp_list o3, dp_list o2, shaped_nD l, shaped_nD l, ?_⟩
  rw [eqv_list, eqv_nD, decide_eq_true rfl]
  exact q _ s2
abbrev st_are_different : Stmt := topS 8
abbrev N_are_different : List Str := ["values", "many", "value"]
theorem sc_are_different : FnScope N_are_different ["values", "many"] (defScope st_are_different) := ⟨rfl, rfl, rfl, by decide +kernel, rfl, by decide +kernel, by decide +kernel⟩
theorem ok_are_different (D : Df K mg "are_different" st_are_different ["values", "many"]) (B : Bl mg) (Kis_index : Kn P w K mg base CX0 3 "is_index" st_is_index ["value", "many"] spIsIndex) :
    Kn P w K mg base CX0 4 "are_different" st_are_different ["values", "many"] spDifferent := by
  refine D.ok sc_are_different (fun vs H Q E h => ?_) (fun f cdv A outer s H vs Q E hr h => ?_)
  · obtain ⟨p, l, n, rfl, _⟩ := h; rfl
  obtain ⟨p, l, n, rfl, hp, hl, nd, hlt, q⟩ := h
  refine ⟨_, ((pss_one (ps_ret (pe_and (pe_callB (cr_all rfl) (by rfl) B.all (by decide +kernel) (pa_cons (pe_lc (own := [("value", 2)]) (g := gName 2) rfl sc_are_different.nd (pi_list (pv 0)) (blkOk_by (N := N_are_different) (sc := defScope st_are_different) (own := [("value", 2)]) (by decide +kernel)) (fun _ _ _ _ _ => by (exact (pg_name (i := 2) sc_are_different.nd rfl (Or.inl rfl)))) (fun _ _ _ _ _ => by exact pts_nil) (fun _ _ _ _ _ => by exact (pe_callF Kis_index (hr.mono (by decide)) pass0 (pa_cons (pv 2) (pa_cons (pv 1) pa_nil))))) pa_nil)) (pe_one (pe_cmpR op_eq (RZ.pe_lenSetI (by rfl) B.len (by rfl) B.set (pv 0)) (pe_callB call_len (by rfl) B.len (by decide +kernel) (pa_cons (pv 0) pa_nil)) (nomark _))))))), ?_⟩
  refine ⟨_, rfl, p, rfl, ⟨_, SqL.of hp⟩, fun L hL => lc_list (xs := nv l) (fun i H' => Same H H' ∧ H' L = some (.lst ((List.replicate i true).map V.bl))) ⟨(Same.refl H).new hL, upd_same⟩ (fun i H' _ z => SqL.of (z.1 _ _ hp)) ?_ ?_⟩
  · rintro i x H1 e ⟨s1, hL1⟩
    obtain ⟨v, ev, rfl⟩ := List.getElem?_map .. |>.symm.trans e |> Option.map_eq_some_iff.mp
    have hi : i < l.length := (List.getElem?_eq_some_iff.mp ev).1
    have hv' : isIdx (n : Int) (.int (v : Int)) = true := by
      have z := hlt v (List.mem_of_getElem? ev)
      show (decide ((0 : Int) ≤ v) && decide ((v : Int) < n)) = true
      rw [decide_eq_true (by omega), decide_eq_true (by omega)]; rfl
    refine ⟨rfl, _, rfl, _, rfl, _, _, rfl, .int _, _, hL1, ?_, s1.upd hL, ?_⟩
    · rw [List.length_map, List.length_replicate]; exact szl (by omega)
    · rw [upd_same, hv', List.replicate_succ', List.map_append]; rfl
  · rintro H1 ⟨s1, hL1⟩
    refine ⟨L, List.replicate (nv l).length true, rfl, SqL.of hL1, _, rfl, ?_⟩
    have ea : (List.replicate (nv l).length true).all id = true := by rw [List.all_eq_true]; intro b hb; exact (List.mem_replicate.mp hb).2
    rw [ea]
    refine iteT ⟨_, rfl, _, l.map fun v : Nat => (v : Int), rfl, by rw [List.map_map]; exact SqL.of (s1 _ _ hp), ?_, ?_, ?_⟩
    · exact List.Pairwise.map _ (fun a b h => by omega) nd
    · rw [List.length_map]; omega
    refine ⟨_, rfl, _, _, rfl, .inl ⟨_, SqL.of (s1 _ _ hp), rfl⟩, rfl, ?_⟩
    rw [List.length_map, nv_length]
    show Q (.bl (decide (V.int (l.length : Int) = V.int (l.length : Int)))) H1
    rw [decide_eq_true rfl]
    exact q H1 s1
end

end My

namespace My
open PySem PySem.Spec PyProof.Rows L2
/-! ### stages: are they right ones -/
def spStages : Sp := fun vs H Q _ => ∃ (p : Addr) (ls : List (List Nat)) (n : Nat), vs = [.ref p, .int (n : Int)] ∧ Lots H p ls ∧ Stg n ls ∧ n ≤ 60 ∧ ∀ H', Same H H' → Q (.bl true) H'
def spCheckS (C : Addr) : Sp := fun vs H Q _ => ∃ (a p : Addr) (hs : Hs) (ls : List (List Nat)), vs = [.ref a, .ref p] ∧ H a = some (.tup (hs.map hv)) ∧ Fo hs ∧ hs.length ≤ 60 ∧ Lots H p ls ∧ Stg hs.length ls ∧ ∀ H', Same H H' → Q .non H'
theorem all_true (n : Nat) : (List.replicate n true).all id = true := by rw [List.all_eq_true]; intro b hb; exact (List.mem_replicate.mp hb).2
theorem flat_len {ls : List (List Nat)} (i : Nat) : (ls.take i).flatten.length ≤ ls.flatten.length := by
  conv => rhs; rw [← List.take_append_drop i ls, List.flatten_append, List.length_append]
  omega
section
variable {P : Program} {w : World} {K : PySem.W.Frag} {mg : Str → Option Value} {base : Heap}
abbrev st_are_stages : Stmt := topS 16
abbrev N_are_stages : List Str := ["value", "many", "things", "stage", "thing"]
theorem sc_are_stages : FnScope N_are_stages ["value", "many"] (defScope st_are_stages) := ⟨rfl, rfl, rfl, by decide +kernel, rfl, by decide +kernel, by decide +kernel⟩
theorem ok_are_stages (D : Df K mg "are_stages" st_are_stages ["value", "many"]) (B : Bl mg) (K_ascends : Kn P w K mg base CX0 1 "_ascends" st__ascends ["things"] spAscends)
    (Kare_different : Kn P w K mg base CX0 4 "are_different" st_are_different ["values", "many"] spDifferent) : Kn P w K mg base CX0 5 "are_stages" st_are_stages ["value", "many"] spStages := by
  refine D.ok sc_are_stages (fun vs H Q E h => ?_) (fun f cdv A outer s H vs Q E hr h => ?_)
  · obtain ⟨p, ls, n, rfl, _⟩ := h; rfl
  obtain ⟨p, ls, n, rfl, hp, st, hn, q⟩ := h
  refine ⟨_, ((pss_cons (ps_if (PW.pt (pw_or (pt_not (pt_val (pe_callB call_isi (by rfl) B.isinstance (by decide +kernel) (pa_cons (pv 0) (pa_cons (pe_bltn (v := .ty "list") (u := .type "list") (by rfl) B.list (by decide +kernel) rfl) pa_nil))))) (pw_or1 (pt_not (pt_val (pe_callB (cr_all rfl) (by rfl) B.all (by decide +kernel) (pa_cons (pe_lc (own := [("stage", 3)]) (g := gName 3) rfl sc_are_stages.nd (pi_list (pv 0)) (blkOk_by (N := N_are_stages) (sc := defScope st_are_stages) (own := [("stage", 3)]) (by decide +kernel)) (fun _ _ _ _ _ => by (exact (pg_name (i := 3) sc_are_stages.nd rfl (Or.inl rfl)))) (fun _ _ _ _ _ => by exact pts_nil) (fun _ _ _ _ _ => by exact (pe_callB (call_isiK1 K) (by rfl) B.isinstance (by decide +kernel) (pa_cons (pv 3) (pa_cons (pe_bltn (v := .ty "tuple") (u := .type "tuple") (by rfl) B.tuple (by decide +kernel) rfl) pa_nil))))) pa_nil))))))) (pss_one (ps_ret pe_bl)) pss_nil)
      (pss_cons (ps_setLc2 (i := 2) (own := [("stage", 3), ("thing", 4)]) (vs1 := [4]) (g := gName 3) (g1 := gName 4) rfl sc_are_stages.nd rfl rfl (sw_true rfl rfl rfl (by decide +kernel)) (pi_list (pv 0)) (blkOk_by (N := N_are_stages) (sc := defScope st_are_stages) (own := [("stage", 3), ("thing", 4)]) (by decide +kernel)) (by decide) (fun _ _ _ _ _ => by (exact (pg_name (i := 3) sc_are_stages.nd rfl (Or.inl rfl)))) (fun _ _ _ _ _ => by exact pts_nil) (fun _ _ _ _ _ => by exact (pi_tupK K (pv 3))) (fun _ _ _ _ _ => by (exact (pg_name (i := 4) sc_are_stages.nd rfl (Or.inl rfl)))) (fun _ _ _ _ _ => by exact pts_nil) (fun _ _ _ _ _ => by exact (pv 4)))
      (pss_one (ps_ret (pe_and (pe_callF Kare_different (hr.mono (by decide)) pass0 (pa_cons (pv 2) (pa_cons (pv 1) pa_nil))) (pe_one (pe_callB (cr_all rfl) (by rfl) B.all (by decide +kernel) (pa_cons (pe_lc (own := [("stage", 3)]) (g := gName 3) rfl sc_are_stages.nd (pi_list (pv 0)) (blkOk_by (N := N_are_stages) (sc := defScope st_are_stages) (own := [("stage", 3)]) (by decide +kernel)) (fun _ _ _ _ _ => by (exact (pg_name (i := 3) sc_are_stages.nd rfl (Or.inl rfl)))) (fun _ _ _ _ _ => by exact pts_nil) (fun _ _ _ _ _ => by exact (pe_callF K_ascends (hr.mono (by decide)) pass0 (pa_cons (pv 3) pa_nil)))) pa_nil))))))))), ?_⟩
  have many := st.many
  have size := st.size
  obtain ⟨xs, hx, lx⟩ := hp
  refine ⟨_, rfl, _, _, _, _, _, rfl, .ty _, .base (.lst hx), kit_ty (by decide +kernel : kitB "list" "list" = some true), _, rfl, ?_⟩
  refine iteF ?_
  refine ⟨_, rfl, p, rfl, ⟨_, SqL.of hx⟩, fun L hL => lc_it (walk_list (xs := xs)) (fun i H' => Same H H' ∧ H' L = some (.lst ((List.replicate i true).map V.bl))) ⟨(Same.refl H).new hL, upd_same⟩ (fun i H' _ z => SqL.of (z.1 _ _ hx)) ?_ ?_⟩
  · rintro i y H1 H2 hi ⟨s1, hL1⟩ ⟨rfl, e1⟩
    obtain ⟨t, l, el, rfl, ht⟩ := (lx.same s1).at e1
    refine ⟨rfl, _, rfl, _, _, _, _, _, rfl, .ty _, .base (.tup ht), kit_ty (by decide +kernel : kitB "tuple" "tuple" = some true), _, hL1, ?_, s1.upd hL, ?_⟩
    · rw [List.length_map, List.length_replicate]; exact szl (by rw [← lx.1] at many; omega)
    · rw [upd_same, List.replicate_succ', List.map_append]; rfl
  rintro H1 ⟨s1, hL1⟩
  refine ⟨L, List.replicate xs.length true, rfl, SqL.of hL1, _, rfl, ?_⟩
  rw [all_true]
  refine iteF ?_
  refine ⟨_, rfl, p, rfl, ⟨_, SqL.of (s1 _ _ hx)⟩, fun D hD => ⟨fun i m H' => m = xs.length - i ∧ i ≤ xs.length ∧ Same H1 H' ∧ H' D = some (.lst (nv (ls.take i).flatten)), ⟨xs.length, by simp, Nat.zero_le _, (Same.refl H1).new hD, upd_same⟩, ?_⟩⟩
  rintro i m H2 ⟨rfl, hi, s2, hD2⟩
  by_cases hlt : i < xs.length
  · refine .inr ⟨(walk_list (xs := xs)).goes i H2 hlt (SqL.of (s2 _ _ (s1 _ _ hx))), fun H' => Same H1 H' ∧ H' D = some (.lst (nv (ls.take (i + 1)).flatten)), fun H' z => ⟨xs.length - (i + 1), by omega, rfl, hlt, z.1, z.2⟩, fun x H3 y => ?_⟩
    obtain ⟨rfl, e1⟩ := (walk_list (xs := xs)).yields i H2 x H3 hlt (SqL.of (s2 _ _ (s1 _ _ hx))) y
    obtain ⟨t, l, el, rfl, ht⟩ := lx.at e1
    have le1 := flat_len (ls := ls) (i + 1)
    have et : (ls.take (i + 1)).flatten = (ls.take i).flatten ++ l := by rw [List.take_add_one, el]; simp
    rw [et, List.length_append] at le1
    refine ⟨rfl, _, rfl, t, rfl, ⟨_, SqT.of (s2 _ _ (s1 _ _ ht))⟩, fun j k H' => k = l.length - j ∧ j ≤ l.length ∧ Same H1 H' ∧ H' D = some (.lst (nv ((ls.take i).flatten ++ l.take j))), ⟨l.length, by simp, Nat.zero_le _, s2, by rw [hD2, List.take_zero, List.append_nil]⟩, ?_⟩
    rintro j k H4 ⟨rfl, hj, s4, hD4⟩
    have hT4 : SqT K H4 t (nv l) := SqT.of (s4 _ _ (s1 _ _ ht))
    by_cases hlj : j < l.length
    · have hlj' : j < (nv l).length := by rw [nv_length]; exact hlj
      refine .inr ⟨(walk_tup (xs := nv l)).goes j H4 hlj' hT4, fun H' => Same H1 H' ∧ H' D = some (.lst (nv ((ls.take i).flatten ++ l.take (j + 1)))), fun H' z => ⟨l.length - (j + 1), by omega, rfl, hlj, z.1, z.2⟩, fun x H5 y => ?_⟩
      obtain ⟨rfl, e2⟩ := (walk_tup (xs := nv l)).yields j H4 x H5 hlj' hT4 y
      rw [nv_get (List.getElem?_eq_getElem hlj)] at e2
      cases e2
      refine ⟨rfl, _, rfl, _, hD4, ?_, s4.upd hD, ?_⟩
      · rw [nv_length, List.length_append, List.length_take]; exact szl (by omega)
      · rw [upd_same, List.take_add_one, List.getElem?_eq_getElem hlj, ← List.append_assoc, show (some l[j]).toList = [l[j]] from rfl, nv_append _ [l[j]]]; rfl
    · have ej : j = l.length := by omega
      subst ej
      refine .inl ⟨by have z := (walk_tup (xs := nv l)).stops H4 hT4; rw [nv_length] at z; exact z, s4, ?_⟩
      rw [hD4, et, List.take_length]
  · have ei : i = xs.length := by omega
    subst ei
    refine .inl ⟨(walk_list (xs := xs)).stops H2 (SqL.of (s2 _ _ (s1 _ _ hx))), ?_⟩
    rw [lx.1, List.take_length] at hD2
    have s12 := s1.trans s2
    refine ⟨_, rfl, _, rfl, D, ls.flatten, n, rfl, hD2, by omega, st.nd, st.lt, fun H3 s3 => ⟨_, rfl, iteT ?_⟩⟩
    have s13 := s12.trans s3
    refine ⟨_, rfl, p, rfl, ⟨_, SqL.of (s13 _ _ hx)⟩, fun L2 hL2 => lc_it (walk_list (xs := xs)) (fun i H' => Same H H' ∧ H' L2 = some (.lst ((List.replicate i true).map V.bl))) ⟨s13.new hL2, upd_same⟩ (fun i H' _ z => SqL.of (z.1 _ _ hx)) ?_ ?_⟩
    · rintro i y H4 H5 hi ⟨s4, hL4⟩ ⟨rfl, e1⟩
      obtain ⟨t, l, el, rfl, ht⟩ := lx.at e1
      have ml := List.mem_of_getElem? el
      refine ⟨rfl, _, rfl, t, l, rfl, s4 _ _ ht, ?_, st.ne l ml, st.up l ml, fun H6 s6 => ⟨_, s6 _ _ hL4, ?_, ?_, ?_⟩⟩
      · have z := st.one ml
        omega
      · rw [List.length_map, List.length_replicate]; exact szl (by rw [← lx.1] at many; omega)
      · exact (s4.trans s6).upd (s13.free hL2)
      · rw [upd_same, List.replicate_succ', List.map_append]; rfl
    · rintro H4 ⟨s4, hL4⟩
      refine ⟨L2, List.replicate xs.length true, rfl, SqL.of hL4, ?_⟩
      rw [all_true]
      exact q _ s4
theorem lots_p {H : Hp} {p : Addr} {ls : List (List Nat)} (h : Lots H p ls) : ∃ xs, H p = some (.lst xs) := by
  obtain ⟨xs, e, _⟩ := h
  exact ⟨xs, e⟩
abbrev st__check_stages : Stmt := topS 19
abbrev N__check_stages : List Str := ["forest", "stages"]
theorem sc__check_stages : FnScope N__check_stages ["forest", "stages"] (defScope st__check_stages) := ⟨rfl, rfl, rfl, by decide +kernel, rfl, by decide +kernel, by decide +kernel⟩
theorem ok__check_stages {CF CS : Addr} (D : Df K mg "_check_stages" st__check_stages ["forest", "stages"]) (B : Bl mg) (EInvalidStages : Ex1 K mg "InvalidStages" CS)
    (Kcheck_forest : Kn P w K mg base (L2.CX P w) 5 "check_forest" st_check_forest ["forest"] (spCheckF CF)) (Kare_stages : Kn P w K mg base CX0 5 "are_stages" st_are_stages ["value", "many"] spStages) :
    Kn P w K mg base (L2.CX P w) 6 "_check_stages" st__check_stages ["forest", "stages"] (spCheckS CS) := by
  refine D.okX sc__check_stages (fun vs H Q E h => ?_) (fun f cdv A outer s H vs Q E hr h => ?_)
  · obtain ⟨a, p, hs, ls, rfl, _⟩ := h; rfl
  obtain ⟨a, p, hs, ls, rfl, ha, fo, hl, hp, st, q⟩ := h
  refine ⟨_, ((pss_cons (ps_expr (pe_callF Kcheck_forest (hr.mono (by decide)) (passX (takes_of rfl rfl rfl rfl)) (pa_cons (pv 0) pa_nil)))
      (pss_one (ps_if (pt_not (pt_val (pe_callF Kare_stages (hr.mono (by decide)) pass0 (pa_cons (pv 1) (pa_cons (pe_callB call_len (by rfl) B.len (by decide +kernel) (pa_cons (pv 0) pa_nil)) pa_nil))))) (pss_one (ps_raise rfl (takes_of rfl rfl rfl rfl) (pmk_own0 PySem.F.excBase_ValueError EInvalidStages.x EInvalidStages.g EInvalidStages.k (raises_own EInvalidStages.b EInvalidStages.t) rfl))) pss_nil)))), ?_⟩
  have e : tupAt H (.ref a) = some (hs.map hv) := tupAt_tup ha
  refine ⟨_, rfl, _, rfl, askdF ha hl, fun _ H1 s1 => ?_, fun n => absurd ⟨hs, e, fo⟩ n⟩
  refine ⟨_, rfl, _, rfl, _, _, rfl, .inr ⟨_, SqT.of (s1 _ _ ha), rfl⟩, p, ls, hs.length, ?_, hp.same s1, st, hl, fun H2 s2 => ⟨_, rfl, iteF (q H2 (s1.trans s2))⟩⟩
  rw [List.length_map]; rfl
end

end My

namespace My
open PySem PySem.Spec PyProof.Rows L2
/-! ### the first stage that is wrong -/
/-- the things of l whose holder is not among those seen -/
def wrongIn (hs : Hs) (seen l : List Nat) : List Nat := l.filter fun v => match hs[v]? with
  | some (some u) => !decide (u ∈ seen)
  | _ => false
theorem wrongIn_snoc (hs : Hs) (seen l : List Nat) (v : Nat) : wrongIn hs seen (l ++ [v]) = wrongIn hs seen l ++ wrongIn hs seen [v] := List.filter_append _ _
theorem wrongIn_root {hs : Hs} {seen : List Nat} {v : Nat} (h : hs[v]? = some none) : wrongIn hs seen [v] = [] := by
  unfold wrongIn
  rw [List.filter_cons, h]; rfl
theorem wrongIn_in {hs : Hs} {seen : List Nat} {v u : Nat} (h : hs[v]? = some (some u)) (m : u ∈ seen) : wrongIn hs seen [v] = [] := by
  unfold wrongIn
  rw [List.filter_cons, h]; simp [m]
theorem wrongIn_out {hs : Hs} {seen : List Nat} {v u : Nat} (h : hs[v]? = some (some u)) (m : ¬ u ∈ seen) : wrongIn hs seen [v] = [v] := by
  unfold wrongIn
  rw [List.filter_cons, h]; simp [m]
theorem wrongIn_at {hs : Hs} {seen l : List Nat} {j : Nat} (hj : j < l.length) (h : wrongIn hs seen (l.take j) = []) (h2 : wrongIn hs seen [l[j]] = [l[j]]) : ∃ rest, wrongIn hs seen l = l[j] :: rest := by
  have e : l = l.take j ++ ([l[j]] ++ l.drop (j + 1)) := by
    have z := List.drop_eq_getElem_cons hj
    rw [List.singleton_append, ← z, List.take_append_drop]
  refine ⟨wrongIn hs seen (l.drop (j + 1)), ?_⟩
  conv => lhs; rw [e]
  show List.filter _ _ = _
  rw [List.filter_append, List.filter_append]
  show wrongIn hs seen _ ++ (wrongIn hs seen _ ++ wrongIn hs seen _) = _
  rw [h, h2]; rfl
/-- what stage_fault is to tell -/
def IsFault (hs : Hs) (ls : List (List Nat)) : Option (Nat × Nat) → Prop
  | none => ∀ (i : Nat) (l : List Nat), ls[i]? = some l → wrongIn hs (ls.take (i + 1)).flatten l = []
  | some (i, v) => (∀ (j : Nat) (m : List Nat), j < i → ls[j]? = some m → wrongIn hs (ls.take (j + 1)).flatten m = []) ∧ ∃ l rest, ls[i]? = some l ∧ wrongIn hs (ls.take (i + 1)).flatten l = v :: rest
theorem IsFault.same {hs : Hs} {ls : List (List Nat)} {r r' : Option (Nat × Nat)} (h : IsFault hs ls r) (h' : IsFault hs ls r') : r = r' := by
  cases r with
  | none =>
    cases r' with
    | none => rfl
    | some q =>
      obtain ⟨_, l, rest, e, w⟩ := h'
      have z := h _ l e
      rw [z] at w; cases w
  | some p =>
    obtain ⟨k1, l, rest, e, w⟩ := h
    cases r' with
    | none =>
      have z := h' _ l e
      rw [z] at w; cases w
    | some q =>
      obtain ⟨k2, l2, rest2, e2, w2⟩ := h'
      have c1 : ¬ p.1 < q.1 := fun c => by
        have z := k2 p.1 l c e
        rw [z] at w; cases w
      have c2 : ¬ q.1 < p.1 := fun c => by
        have z := k1 q.1 l2 c e2
        rw [z] at w2; cases w2
      have ei : p.1 = q.1 := by omega
      rw [ei] at e w
      rw [e] at e2; cases e2
      rw [w] at w2
      exact congrArg some (Prod.ext ei (List.cons.inj w2).1)
def FaultV (H : Hp) : Option (Nat × Nat) → V → Prop
  | none, v => v = .non
  | some (i, t), v => ∃ a, v = .ref a ∧ H a = some (.tup [.int (i : Int), .int (t : Int)])
def spFault : Sp := fun vs H Q _ => ∃ (a p : Addr) (hs : Hs) (ls : List (List Nat)), vs = [.ref a, .ref p] ∧ H a = some (.tup (hs.map hv)) ∧ Fo hs ∧ hs.length ≤ 60 ∧ Lots H p ls ∧ Stg hs.length ls ∧
  ∀ r v H', IsFault hs ls r → Same H H' → FaultV H' r v → Q v H'
/-- the dict has just these things as keys -/
def DoneK (kvs : List (Key × V)) (S : List Nat) : Prop := (∀ u : Nat, (valV kvs (Sum.inl (u : Int))).isSome = decide (u ∈ S)) ∧ kvs.length ≤ S.length
theorem DoneK.nil : DoneK [] [] := ⟨fun u => rfl, Nat.le_refl _⟩
theorem DoneK.put {kvs : List (Key × V)} {S : List Nat} (h : DoneK kvs S) (v : Nat) (y : V) : DoneK (putK kvs (Sum.inl (v : Int)) y) (S ++ [v]) := by
  refine ⟨fun u => ?_, ?_⟩
  · rw [valV_put]
    by_cases e : u = v
    · subst e
      rw [if_pos rfl]; simp
    · have n : ¬ (Sum.inl (u : Int) : Key) = Sum.inl (v : Int) := fun z => e (by have := Sum.inl.inj z; omega)
      rw [if_neg n, h.1 u]
      simp [e]
  · have z := length_putK kvs (Sum.inl (v : Int)) y
    rw [List.length_append, List.length_singleton]
    have y := h.2
    omega
section
variable {P : Program} {w : World} {K : PySem.W.Frag} {mg : Str → Option Value} {base : Heap}
abbrev st_stage_fault : Stmt := topS 17
abbrev N_stage_fault : List Str := ["forest", "stages", "done", "index", "stage", "thing"]
theorem sc_stage_fault : FnScope N_stage_fault ["forest", "stages"] (defScope st_stage_fault) := ⟨rfl, rfl, rfl, by decide +kernel, rfl, by decide +kernel, by decide +kernel⟩
theorem ok_stage_fault {CS : Addr} (D : Df K mg "stage_fault" st_stage_fault ["forest", "stages"]) (B : Bl mg)
    (K_check_stages : Kn P w K mg base (L2.CX P w) 6 "_check_stages" st__check_stages ["forest", "stages"] (spCheckS CS)) :
    Kn P w K mg base (L2.CX P w) 7 "stage_fault" st_stage_fault ["forest", "stages"] spFault := by
  refine D.okX sc_stage_fault (fun vs H Q E h => ?_) (fun f cdv A outer s H vs Q E hr h => ?_)
  · obtain ⟨a, p, hs, ls, rfl, _⟩ := h; rfl
  obtain ⟨a, p, hs, ls, rfl, ha, fo, hl, hp, st, q⟩ := h
  refine ⟨_, ((pss_cons (ps_expr (pe_callF K_check_stages (hr.mono (by decide)) (passX (takes_of rfl rfl rfl rfl)) (pa_cons (pv 0) (pa_cons (pv 1) pa_nil))))
      (pss_cons (ps_set (i := 2) sc_stage_fault.nd rfl (Or.inl rfl) pe_dnewK)
      (pss_cons (ps_for (passes_of rfl) rfl (pi_enum (by rfl) B.enumerate (pa_cons (pv 1) pa_nil)) (pg_tup rfl (pgs_cons (pg_name (i := 3) sc_stage_fault.nd rfl (Or.inl rfl)) (pgs_cons (pg_name (i := 4) sc_stage_fault.nd rfl (Or.inl rfl)) pgs_nil))) (pss_cons (ps_for (passes_of rfl) rfl (pi_tup (pv 4)) (pg_name (i := 5) sc_stage_fault.nd rfl (Or.inl rfl)) (pss_one (ps_dput (hu_of hr) (pv 2) (pv 5) pe_bl rfl)))
      (pss_one (ps_for (passes_of rfl) rfl (pi_tup (pv 4)) (pg_name (i := 5) sc_stage_fault.nd rfl (Or.inl rfl)) (pss_one (ps_if (PW.pt (pw_and (pt_cmpR op_notN (pe_ix ix_tup (pv 0) (pv 5) (fun _ _ => rfl)) pe_non (nomark _)) (pw_and1 (pt_cmp (pc_dnotin (hu_of hr) (pe_ix ix_tup (pv 0) (pv 5) (fun _ _ => rfl)) (pv 2)))))) (pss_one (ps_ret (pe_tup (pa_cons (pv 3) (pa_cons (pv 5) pa_nil))))) pss_nil))))))
      (pss_one (ps_ret pe_non)))))), ?_⟩
  have size := st.size
  refine ⟨_, rfl, _, rfl, a, p, hs, ls, rfl, ha, fo, hl, hp, st, fun H1 s1 => ?_⟩
  obtain ⟨xs, hx, lx⟩ := hp
  refine fun d hd => ?_
  have o1 : upd H1 d (.dK []) d = some (.dK []) := upd_same
  have s2 : Same H1 (upd H1 d (.dK [])) := (Same.refl H1).new hd
  generalize upd H1 d (.dK []) = H2 at o1 s2 ⊢
  have hd0 : H d = none := s1.free hd
  refine ⟨_, rfl, p, _, rfl, SqL.of (s2 _ _ (s1 _ _ hx)), for_it (walk_enum (xs := xs)) (fun i σ H' => ∃ v3 v4 v5, σ = [some (.ref a), some (.ref p), some (.ref d), v3, v4, v5] ∧ Same H H' ∧ (∃ kvs, H' d = some (.dK kvs) ∧ DoneK kvs (ls.take i).flatten) ∧
      ∀ (j : Nat) (m : List Nat), j < i → ls[j]? = some m → wrongIn hs (ls.take (j + 1)).flatten m = []) ⟨_, _, _, rfl, s1.trans s2, ⟨[], o1, .nil⟩, fun j m c => absurd c (Nat.not_lt_zero _)⟩ (fun i σ H' _ z => ?_) ?_ ?_⟩
  · obtain ⟨_, _, _, _, z, _⟩ := z
    exact SqL.of (z _ _ hx)
  · rintro i x σ H3 H4 hi ⟨v3, v4, v5, rfl, s3, ⟨kvs, hk, dk⟩, pre⟩ ⟨T, x1, x2, rfl, hT, rfl, e1, e2⟩
    have e1' := Option.some.inj e1; subst e1'
    obtain ⟨t, l, el, rfl, ht⟩ := lx.at e2
    have le1 := flat_len (ls := ls) (i + 1)
    have et : (ls.take (i + 1)).flatten = (ls.take i).flatten ++ l := by rw [List.take_add_one, el]; simp
    rw [et, List.length_append] at le1
    have s4 : Same H (upd H3 T (.tup [.int (i : Int), .ref t])) := s3.new hT
    have k4 : upd H3 T (.tup [.int (i : Int), .ref t]) d = some (.dK kvs) := (upd_ne (ne_of_none hk hT)).trans hk
    refine ⟨T, _, rfl, SqT.of upd_same, rfl, _, _, rfl, _, _, rfl, rfl, ?_⟩
    generalize upd H3 T (.tup [.int (i : Int), .ref t]) = H4 at s4 k4 ⊢
    refine ⟨_, rfl, t, rfl, ⟨_, SqT.of (s4 _ _ ht)⟩, for_it (walk_tup (xs := nv l)) (fun j σ H' => ∃ v5, σ = [some (.ref a), some (.ref p), some (.ref d), some (.int (i : Int)), some (.ref t), v5] ∧ Same H H' ∧ ∃ kvs, H' d = some (.dK kvs) ∧ DoneK kvs ((ls.take i).flatten ++ l.take j))
      ⟨_, rfl, s4, kvs, k4, by rw [List.take_zero, List.append_nil]; exact dk⟩ (fun j σ H' _ z => ?_) ?_ ?_⟩
    · obtain ⟨_, _, z, _⟩ := z
      exact SqT.of (z _ _ ht)
    · rintro j x σ H5 H6 hj ⟨v5, rfl, s5, kvs, hk5, dk5⟩ ⟨rfl, e3⟩
      rw [nv_length] at hj
      rw [nv_get (List.getElem?_eq_getElem hj)] at e3
      cases e3
      have z5 := dk5.2
      rw [List.length_append, List.length_take] at z5
      refine ⟨_, rfl, _, rfl, d, _, rfl, DPut.k (k := Sum.inl ((l[j] : Nat) : Int)) hk5 (szl (by omega)), ?_⟩
      refine ⟨_, rfl, s5.upd hd0, _, upd_same, ?_⟩
      rw [List.take_add_one, List.getElem?_eq_getElem hj, ← List.append_assoc]
      exact dk5.put _ _
    · rintro σ H5 ⟨v5, rfl, s5, kvs, hk5, dk5⟩
      rw [nv_length, List.take_length, ← et] at dk5
      refine ⟨_, rfl, t, rfl, ⟨_, SqT.of (s5 _ _ ht)⟩, for_it (walk_tup (xs := nv l)) (fun j σ H' => (∃ v5, σ = [some (.ref a), some (.ref p), some (.ref d), some (.int (i : Int)), some (.ref t), v5]) ∧ H' = H5 ∧ wrongIn hs (ls.take (i + 1)).flatten (l.take j) = [])
        ⟨⟨_, rfl⟩, rfl, rfl⟩ (fun j σ H' _ z => by rw [z.2.1]; exact SqT.of (s5 _ _ ht)) ?_ ?_⟩
      · rintro j x σ H6 H7 hj ⟨⟨v5, rfl⟩, rfl, wr⟩ ⟨rfl, e3⟩
        rw [nv_length] at hj
        rw [nv_get (List.getElem?_eq_getElem hj)] at e3
        cases e3
        have ml := List.mem_of_getElem? el
        have hv' : l[j] < hs.length := st.lt _ (List.mem_flatten.mpr ⟨l, ml, List.getElem_mem hj⟩)
        obtain ⟨o, ho⟩ : ∃ o, hs[l[j]]? = some o := ⟨_, List.getElem?_eq_getElem hv'⟩
        have next : wrongIn hs (ls.take (i + 1)).flatten [l[j]] = [] → wrongIn hs (ls.take (i + 1)).flatten (l.take (j + 1)) = [] := fun z => by
          have tk : l.take (j + 1) = l.take j ++ [l[j]] := by rw [List.take_add_one, List.getElem?_eq_getElem hj]; rfl
          rw [tk, wrongIn_snoc, wr, z]; rfl
        refine ⟨_, rfl, _, rfl, a, _, _, _, rfl, rfl, SqT.of (s5 _ _ ha), atI_nat (hv_at ho), rfl, _, rfl, ?_⟩
        cases o with
        | none => exact iteF ⟨⟨_, rfl⟩, rfl, next (wrongIn_root ho)⟩
        | some u =>
          refine iteT ⟨_, rfl, _, rfl, a, _, _, _, rfl, rfl, SqT.of (s5 _ _ ha), atI_nat (hv_at ho), _, rfl, d, _, rfl, DGet.k (k := Sum.inl (u : Int)) hk5, _, rfl, ?_⟩
          rw [dk5.1 u]
          by_cases m : u ∈ (ls.take (i + 1)).flatten
          · rw [decide_eq_true m]
            exact iteF ⟨⟨_, rfl⟩, rfl, next (wrongIn_in ho m)⟩
          · rw [decide_eq_false m]
            obtain ⟨rest, er⟩ := wrongIn_at hj wr (wrongIn_out ho m)
            refine iteT ⟨_, rfl, _, rfl, ⟨by show 2 ≤ sizeLine; decide, fun r hr2 => ?_⟩⟩
            exact q (some (i, l[j])) (.ref r) _ ⟨pre, l, rest, el, er⟩ (s5.new hr2) ⟨r, rfl, upd_same⟩
      · rintro σ H6 ⟨⟨v5, rfl⟩, rfl, wr⟩
        rw [nv_length, List.take_length] at wr
        refine ⟨_, _, _, rfl, s5, ⟨kvs, hk5, dk5⟩, fun j m c e => ?_⟩
        by_cases c2 : j < i
        · exact pre j m c2 e
        · have ej : j = i := by omega
          subst ej
          rw [el] at e; cases e
          exact wr
  · rintro σ H3 ⟨v3, v4, v5, rfl, s3, ⟨kvs, hk, dk⟩, pre⟩
    exact q none .non H3 (fun i l e => pre i l (by rw [lx.1]; exact (List.getElem?_eq_some_iff.mp e).1) e) s3 rfl
end

end My

namespace My
open PySem PySem.Spec PyProof.Rows L2
/-! ### the law's drawn stages -/
def spLFlat : Sp := fun vs H Q _ => ∃ (p : Addr) (ls : List (List Nat)), vs = [.ref p] ∧ Lots H p ls ∧ ls.flatten.length ≤ 1000 ∧ ∀ r H', Same H H' → H r = none → H' r = some (.lst (nv ls.flatten)) → Q (.ref r) H'
/-- a sequence of a forest, by the holders -/
def Behind (hs : Hs) (o : List Nat) : Prop := ∀ (i v u : Nat), o[i]? = some v → hs[v]? = some (some u) → u ∈ o.take i
def spLRow : Sp := fun vs H Q _ => ∃ (wl a : Addr) (n : Nat) (hs : Hs), vs = [.ref wl, .ref a] ∧ wl ≠ a ∧ Well H wl n ∧ n < 2 ^ 50 ∧ H a = some (.tup (hs.map hv)) ∧ Fo hs ∧ hs.length ≤ 60 ∧
  ∀ r o H', Keep wl H H' → Well H' wl (n + 60) → H r = none → o.Perm (List.range hs.length) → Behind hs o → H' r = some (.lst (nv o)) → Q (.ref r) H'
/-- a thing that can be next: its holder isn't left -/
def isFree (hs : Hs) (lf : List Nat) (v : Nat) : Bool := match hs[v]? with
  | some (some u) => !decide (u ∈ lf)
  | _ => true
theorem free_some {hs : Hs} (fo : Fo hs) {lf : List Nat} (hlt : ∀ v ∈ lf, v < hs.length) {v : Nat} (hv' : v ∈ lf) : ∃ x, x ∈ lf.filter (isFree hs lf) := by
  have key : ∀ v, Rch hs v → v ∈ lf → ∃ x, x ∈ lf.filter (isFree hs lf) := fun v r => by
    induction r with
    | root h => exact fun m => ⟨_, List.mem_filter.mpr ⟨m, by unfold isFree; rw [h]⟩⟩
    | @step v u h r ih =>
      intro m
      by_cases c : u ∈ lf
      · exact ih c
      · exact ⟨v, List.mem_filter.mpr ⟨m, by unfold isFree; rw [h]; simp [c]⟩⟩
  exact key v (fo.all v (hlt v hv')) hv'
theorem map_erase {α β : Type} (f : α → β) : ∀ (l : List α) (k : Nat), (l.eraseIdx k).map f = (l.map f).eraseIdx k
  | [], _ => rfl
  | _ :: _, 0 => rfl
  | x :: l, k + 1 => by
    show f x :: (l.eraseIdx k).map f = f x :: (l.map f).eraseIdx k
    rw [map_erase f l k]
theorem filter_take (p : Nat → Bool) (l : List Nat) (i : Nat) (h : i < l.length) : (l.take (i + 1)).filter p = (l.take i).filter p ++ (if p l[i] = true then [l[i]] else []) := by
  have tk : l.take (i + 1) = l.take i ++ [l[i]] := by rw [List.take_add_one, List.getElem?_eq_getElem h]; rfl
  rw [tk, List.filter_append]
  by_cases c : p l[i] = true <;> simp [c]
section
variable {P : Program} {w : World} {K : PySem.W.Frag} {mg : Str → Option Value} {base : Heap}
abbrev st__law_flat : Stmt := topS 27
abbrev N__law_flat : List Str := ["lots", "found", "lot"]
theorem sc__law_flat : FnScope N__law_flat ["lots"] (defScope st__law_flat) := ⟨rfl, rfl, rfl, by decide +kernel, rfl, by decide +kernel, by decide +kernel⟩
theorem ok__law_flat (D : Df K mg "_law_flat" st__law_flat ["lots"]) (B : Bl mg) : Kn P w K mg base CX0 1 "_law_flat" st__law_flat ["lots"] spLFlat := by
  refine D.ok sc__law_flat (fun vs H Q E h => ?_) (fun f cdv A outer s H vs Q E hr h => ?_)
  · obtain ⟨p, ls, rfl, _⟩ := h; rfl
  obtain ⟨p, ls, rfl, ⟨xs, hx, lx⟩, hl, q⟩ := h
  refine ⟨_, ((pss_cons (ps_set (i := 1) sc__law_flat.nd rfl (Or.inl rfl) (pe_lst pa_nil))
      (pss_cons (ps_for PassesOwn.never rfl (pi_list (pv 0)) (pg_name (i := 2) sc__law_flat.nd rfl (Or.inl rfl)) (pss_one (ps_expr (pe_bm PySem.F.plainAttrs_list PySem.F.slot_list_extend PySem.F.type_list_extend mt_extendT (pv 1) (pa_cons (pv 2) pa_nil)))))
      (pss_one (ps_ret (pv 1)))))), ?_⟩
  refine ⟨by show 0 ≤ sizeLine; decide, fun F hF => ?_⟩
  have s1 : Same H (upd H F (.lst [])) := (Same.refl H).new hF
  refine ⟨_, rfl, p, rfl, ⟨_, SqL.of (s1 _ _ hx)⟩, for_it (walk_list (xs := xs)) (fun i σ H' => ∃ v2, σ = [some (.ref p), some (.ref F), v2] ∧ Same H H' ∧ H' F = some (.lst (nv (ls.take i).flatten))) ⟨_, rfl, s1, upd_same⟩ (fun i σ H' _ z => ?_) ?_ ?_⟩
  · obtain ⟨_, _, z, _⟩ := z
    exact SqL.of (z _ _ hx)
  · rintro i x σ H1 H2 hi ⟨v2, rfl, s2, hF2⟩ ⟨rfl, e1⟩
    obtain ⟨t, l, el, rfl, ht⟩ := lx.at e1
    have le1 := flat_len (ls := ls) (i + 1)
    have et : (ls.take (i + 1)).flatten = (ls.take i).flatten ++ l := by rw [List.take_add_one, el]; simp
    rw [et, List.length_append] at le1
    refine ⟨_, rfl, .inl ⟨rfl, _, SqL.of hF2⟩, _, rfl, F, t, _, _, rfl, rfl, hF2, SqT.of (s2 _ _ ht), ?_, ⟨_, rfl, s2.upd hF, ?_⟩⟩
    · rw [nv_length, nv_length]; exact Nat.le_of_lt (szl (by omega))
    · rw [upd_same, et, nv_append]
  · rintro σ H1 ⟨v2, rfl, s2, hF2⟩
    rw [lx.1, List.take_length] at hF2
    exact ⟨_, rfl, q F H1 s2 hF hF2⟩
abbrev st__law_row : Stmt := topS 25
abbrev N__law_row : List Str := ["well", "plan", "row", "left", "some", "one"]
theorem sc__law_row : FnScope N__law_row ["well", "plan"] (defScope st__law_row) := ⟨rfl, rfl, rfl, by decide +kernel, rfl, by decide +kernel, by decide +kernel⟩
theorem ok__law_row (D : Df K mg "_law_row" st__law_row ["well", "plan"]) (B : Bl mg) (K_law_draw : Kn P w K mg base CX0 1 "_law_draw" st__law_draw ["well", "most"] spDraw) :
    Kn P w K mg base CX0 3 "_law_row" st__law_row ["well", "plan"] spLRow := by
  refine D.ok sc__law_row (fun vs H Q E h => ?_) (fun f cdv A outer s H vs Q E hr h => ?_)
  · obtain ⟨wl, a, n, hs, rfl, _⟩ := h; rfl
  obtain ⟨wl, a, n, hs, rfl, hwa, hw, hn, ha, fo, hl, q⟩ := h
  refine ⟨_, ((pss_cons (ps_asg (pe_tup (pa_cons (pe_lst pa_nil) (pa_cons (pe_listRg rfl (by rfl) B.list (prg_1 (by rfl) B.range (pe_callB call_len (by rfl) B.len (by decide +kernel) (pa_cons (pv 1) pa_nil)))) pa_nil))) (pg_tup rfl (pgs_cons (pg_name (i := 2) sc__law_row.nd rfl (Or.inl rfl)) (pgs_cons (pg_name (i := 3) sc__law_row.nd rfl (Or.inr rfl)) pgs_nil))))
      (pss_cons (ps_while PassesOwn.never (pt_cmpR (op_neD hr.units) (pv 3) (pe_lst pa_nil) (nomark _)) (pss_cons (ps_setLc (i := 4) (own := [("one", 5)]) (g := gName 5) rfl sc__law_row.nd rfl rfl (sw_true rfl rfl rfl (by decide +kernel)) (pi_list (pv 3)) (blkOk_by (N := N__law_row) (sc := defScope st__law_row) (own := [("one", 5)]) (by decide +kernel)) (fun _ _ _ _ _ => by (exact (pg_name (i := 5) sc__law_row.nd rfl (Or.inl rfl)))) (fun _ _ _ _ _ => by exact (pts_one (PW.pt (pw_or (pt_cmpR op_isN (pe_ix (ix_tupK K) (pv 1) (pv 5) (fun _ _ => rfl)) pe_non (nomark _)) (pw_or1 (pt_cmpR (op_notIn_seqK K) (pe_ix (ix_tupK K) (pv 1) (pv 5) (fun _ _ => rfl)) (pv 3) (by rfl))))))) (fun _ _ _ _ _ => by exact (pv 5)))
      (pss_cons (ps_set (i := 5) sc__law_row.nd rfl (Or.inl rfl) (pe_ix ix_list (pv 4) (pe_callF K_law_draw (hr.mono (by decide)) pass0 (pa_cons (pv 0) (pa_cons (pe_callB call_len (by rfl) B.len (by decide +kernel) (pa_cons (pv 4) pa_nil)) pa_nil))) (fun _ _ => rfl)))
      (pss_cons (ps_expr (pe_bm PySem.F.plainAttrs_list PySem.F.slot_list_append PySem.F.type_list_append mt_append (pv 2) (pa_cons (pv 5) pa_nil)))
      (pss_one (ps_expr (pe_bm PySem.F.plainAttrs_list PySem.F.slot_list_remove PySem.F.type_list_remove mt_remove (pv 3) (pa_cons (pv 5) pa_nil))))))))
      (pss_one (ps_ret (pv 2)))))), ?_⟩
  refine ⟨by show 0 ≤ sizeLine; decide, fun R hR => ?_⟩
  have s1 : Same H (upd H R (.lst [])) := (Same.refl H).new hR
  have r1 : upd H R (.lst []) R = some (.lst (nv [])) := upd_same
  generalize upd H R (.lst []) = H1 at s1 r1 ⊢
  refine ⟨_, rfl, _, _, rfl, .inr ⟨_, SqT.of (s1 _ _ ha), rfl⟩, ?_⟩
  rw [List.length_map]
  refine ⟨_, rfl, RgOk.of_le (by omega) (by omega) (by omega) (by omega), fun L hL => ?_⟩
  rw [nv_range]
  have s2 := s1.new (o := .lst (nv (List.range hs.length))) hL
  have r2 : upd H1 L (.lst (nv (List.range hs.length))) R = some (.lst (nv [])) := (upd_ne (ne_of_none r1 hL)).trans r1
  have l2 : upd H1 L (.lst (nv (List.range hs.length))) L = some (.lst (nv (List.range hs.length))) := upd_same
  generalize upd H1 L (.lst (nv (List.range hs.length))) = H2 at s2 r2 l2 ⊢
  refine ⟨by show 2 ≤ sizeLine; decide, fun T hT => ?_⟩
  have s3 := s2.new (o := .tup [.ref R, .ref L]) hT
  have r3 : upd H2 T (.tup [.ref R, .ref L]) R = some (.lst (nv [])) := (upd_ne (ne_of_none r2 hT)).trans r2
  have l3 : upd H2 T (.tup [.ref R, .ref L]) L = some (.lst (nv (List.range hs.length))) := (upd_ne (ne_of_none l2 hT)).trans l2
  refine ⟨T, _, rfl, SqT.of upd_same, rfl, _, _, rfl, _, _, rfl, rfl, ?_⟩
  generalize upd H2 T (.tup [.ref R, .ref L]) = H3 at s3 r3 l3 ⊢
  have hLn : H L = none := s1.free hL
  obtain ⟨wl0, hwl0⟩ := hw.here
  have nR : R ≠ wl := (ne_of_none hwl0 hR).symm
  have nL : L ≠ wl := (ne_of_none hwl0 hLn).symm
  have nRL : R ≠ L := ne_of_none r1 hL
  refine ⟨fun m σ H' => ∃ o lf v4 v5, σ = [some (.ref wl), some (.ref a), some (.ref R), some (.ref L), v4, v5] ∧ Keep wl H H' ∧ Well H' wl (n + o.length) ∧ H' R = some (.lst (nv o)) ∧ H' L = some (.lst (nv lf)) ∧ (o ++ lf).Perm (List.range hs.length) ∧ Behind hs o ∧ m = lf.length,
    ⟨_, [], List.range hs.length, _, _, rfl, s3.keep, hw.same s3, r3, l3, List.Perm.refl _, fun i v u e => (by cases e), rfl⟩, ?_⟩
  rintro m σ H4 ⟨o, lf, v4, v5, rfl, k4, w4, r4, l4, pm, bh, rfl⟩
  have plen := pm.length_eq
  rw [List.length_append, List.length_range] at plen
  refine ⟨_, rfl, ⟨by show 0 ≤ sizeLine; decide, fun Z hZ => ?_⟩⟩
  have s5 := (Same.refl H4).new (o := .lst []) hZ
  have z5 : upd H4 Z (.lst []) Z = some (.lst (nv [])) := upd_same
  generalize upd H4 Z (.lst []) = H5 at s5 z5 ⊢
  have k5 := k4.trans s5.keep
  have ha5 := k5 a _ hwa.symm ha
  refine ⟨_, _, dp_list (s5 _ _ l4), dp_list z5, shaped_nD lf, shaped_nD [], _, rfl, ?_⟩
  rw [eqv_list, eqv_nD]
  by_cases c : lf = []
  · subst c
    rw [decide_eq_true rfl]
    refine iteF ?_
    rw [List.append_nil] at pm
    exact ⟨_, rfl, q R o H5 k5 ((w4.same s5).mono (by omega)) hR pm bh (s5 _ _ r4)⟩
  · rw [decide_eq_false c]
    refine iteT ⟨fun σ' H' => ∃ o lf' v4 v5, σ' = [some (.ref wl), some (.ref a), some (.ref R), some (.ref L), v4, v5] ∧ Keep wl H H' ∧ Well H' wl (n + o.length) ∧ H' R = some (.lst (nv o)) ∧ H' L = some (.lst (nv lf')) ∧ (o ++ lf').Perm (List.range hs.length) ∧ Behind hs o ∧ lf'.length < lf.length,
      fun σ' H' ⟨o, lf', v4, v5, e1, e2, e3, e4, e5, e6, e7, e8⟩ => ⟨lf'.length, e8, o, lf', v4, v5, e1, e2, e3, e4, e5, e6, e7, rfl⟩, ?_⟩
    have l5 := s5 _ _ l4
    have r5 := s5 _ _ r4
    have w5 := w4.same s5
    have hlt : ∀ v ∈ lf, v < hs.length := fun v hv' => List.mem_range.mp (pm.mem_iff.mp (List.mem_append_right _ hv'))
    refine ⟨_, rfl, L, rfl, ⟨_, SqL.of l5⟩, fun S hS => lc_it (walk_list (xs := nv lf)) (fun i H' => Same H5 H' ∧ H' S = some (.lst (nv ((lf.take i).filter (isFree hs lf))))) ⟨(Same.refl H5).new hS, upd_same⟩ (fun i H' _ z => SqL.of (z.1 _ _ l5)) ?_ ?_⟩
    · rintro i x H6 H7 hi ⟨s6, f6⟩ ⟨rfl, e1⟩
      rw [nv_length] at hi
      rw [nv_get (List.getElem?_eq_getElem hi)] at e1
      cases e1
      obtain ⟨o2, ho⟩ : ∃ o, hs[lf[i]]? = some o := ⟨_, List.getElem?_eq_getElem (hlt _ (List.getElem_mem hi))⟩
      have ha6 := s6 _ _ ha5
      have lz : ((lf.take i).filter (isFree hs lf)).length ≤ lf.length := by
        have z := List.length_filter_le (isFree hs lf) (lf.take i)
        rw [List.length_take] at z; omega
      have yes : isFree hs lf lf[i] = true → ∃ acc, H7 S = some (.lst acc) ∧ acc.length < sizeLine ∧ (Same H5 (upd H7 S (.lst (acc ++ [V.int (lf[i] : Int)]))) ∧ upd H7 S (.lst (acc ++ [V.int (lf[i] : Int)])) S = some (.lst (nv ((lf.take (i + 1)).filter (isFree hs lf))))) := fun z => by
        refine ⟨_, f6, ?_, s6.upd hS, ?_⟩
        · rw [nv_length]; exact szl (by omega)
        · rw [upd_same, filter_take _ _ _ hi, if_pos z, nv_append]; rfl
      refine ⟨rfl, _, rfl, _, rfl, a, _, _, _, rfl, rfl, SqT.of ha6, atI_nat (hv_at ho), rfl, _, rfl, ?_⟩
      cases o2 with
      | none => exact iteT (iteT ⟨_, rfl, yes (by unfold isFree; rw [ho])⟩)
      | some u =>
        refine iteF ⟨_, rfl, _, rfl, a, _, _, _, rfl, rfl, SqT.of ha6, atI_nat (hv_at ho), _, rfl, L, _, rfl, .inl (SqL.of (s6 _ _ l5)), rfl, flat_nv lf, _, rfl, ?_⟩
        have ei : inV (hv (some u)) (nv lf) = decide (u ∈ lf) := inV_nv u lf
        rw [ei, if_pos rfl]
        by_cases m : u ∈ lf
        · rw [decide_eq_true m]
          refine iteF ⟨s6, ?_⟩
          have z : ¬ isFree hs lf lf[i] = true := by unfold isFree; rw [ho]; simp [m]
          rw [filter_take _ _ _ hi, if_neg z, List.append_nil]
          exact f6
        · rw [decide_eq_false m]
          exact iteT ⟨_, rfl, yes (by unfold isFree; rw [ho]; simp [m])⟩
    · rintro H6 ⟨s6, f6⟩
      rw [nv_length, List.take_length] at f6
      have k6 := k5.trans s6.keep
      have w6 := w5.same s6
      obtain ⟨v0, hv0⟩ := List.exists_mem_of_ne_nil lf c
      obtain ⟨x0, hx0⟩ := free_some fo hlt hv0
      have lz : (lf.filter (isFree hs lf)).length ≤ lf.length := List.length_filter_le _ _
      have lp : 0 < (lf.filter (isFree hs lf)).length := List.length_pos_of_mem hx0
      generalize hfr : lf.filter (isFree hs lf) = fr at f6 lz lp
      have p50 : (2 : Nat) ^ 50 = 1125899906842624 := by decide
      have p60 : (2 : Nat) ^ 60 = 1152921504606846976 := by decide
      have p100 : (2 : Nat) ^ 100 = 1267650600228229401496703205376 := by decide +kernel
      refine ⟨_, rfl, _, rfl, _, rfl, _, _, rfl, .inl ⟨_, SqL.of f6, rfl⟩, wl, n + o.length, _, rfl, w6, by omega, by rw [nv_length]; omega, by rw [nv_length]; omega, fun d H7 d0 d1 k7 w7 => ?_⟩
      rw [nv_length] at d1
      obtain ⟨dn, rfl⟩ : ∃ dn : Nat, d = (dn : Int) := ⟨d.toNat, by omega⟩
      have hdn : dn < fr.length := by omega
      have nS : S ≠ wl := (ne_of_none (w5.here.choose_spec) hS).symm
      have f7 := k7 S _ nS f6
      refine ⟨S, _, _, _, rfl, rfl, SqL.of f7, atI_nat (nv_get (List.getElem?_eq_getElem hdn)), ?_⟩
      have r7 := k7 R _ nR (s6 _ _ r5)
      have l7 := k7 L _ nL (s6 _ _ l5)
      refine ⟨_, rfl, .inl ⟨rfl, _, SqL.of r7⟩, _, rfl, R, _, _, rfl, rfl, r7, by rw [nv_length]; exact szl (by omega), ?_⟩
      have hm : fr[dn] ∈ lf ∧ isFree hs lf fr[dn] = true := by
        have z : fr[dn] ∈ lf.filter (isFree hs lf) := by rw [hfr]; exact List.getElem_mem hdn
        exact List.mem_filter.mp z
      generalize fr[dn] = v at hm ⊢
      obtain ⟨hm1, hm2⟩ := hm
      have k8 : Keep wl H (upd H7 R (.lst (nv o ++ [V.int (v : Int)]))) := fun b u hb e => by
        have nb : b ≠ R := fun z => by rw [z, hR] at e; cases e
        rw [upd_ne nb]; exact (k6.trans k7) b u hb e
      have l8 : upd H7 R (.lst (nv o ++ [V.int (v : Int)])) L = some (.lst (nv lf)) := (upd_ne nRL.symm).trans l7
      have r8 : upd H7 R (.lst (nv o ++ [V.int (v : Int)])) R = some (.lst (nv (o ++ [v]))) := by rw [upd_same, nv_append]; rfl
      have w8 : Well (upd H7 R (.lst (nv o ++ [V.int (v : Int)]))) wl (n + o.length + 1) := by
        obtain ⟨x, y, z, e, r⟩ := w7.ex
        exact ⟨x, y, z, (upd_ne nR.symm).trans e, r⟩
      generalize upd H7 R (.lst (nv o ++ [V.int (v : Int)])) = H8 at k8 l8 r8 w8 ⊢
      obtain ⟨j, ej⟩ := List.mem_iff_getElem?.mp hm1
      have hj : j < lf.length := (List.getElem?_eq_some_iff.mp ej).1
      have ej2 : lf[j] = v := (List.getElem?_eq_some_iff.mp ej).2
      have ndl : lf.Nodup := (List.nodup_append.mp (pm.nodup_iff.mpr List.nodup_range)).2.1
      refine ⟨_, rfl, .inl ⟨rfl, _, SqL.of l8⟩, _, rfl, L, lf.map fun v : Nat => (v : Int), (v : Int), j, rfl, rfl, by rw [List.map_map]; exact l8, by rw [List.getElem?_map, ej]; rfl, fun m hmj z => ?_, ?_⟩
      · rw [List.getElem?_map] at z
        obtain ⟨y, y1, y2⟩ := Option.map_eq_some_iff.mp z
        have y3 : y = v := by have := y2; omega
        rw [y3] at y1
        have := nodup_at ndl y1 ej
        omega
      have pe : (o ++ [v] ++ lf.eraseIdx j).Perm (List.range hs.length) := by
        refine List.Perm.trans ?_ pm
        rw [List.append_assoc]
        refine List.Perm.append_left o ?_
        have z := erase_perm lf j hj
        rw [ej2] at z
        exact z
      have el : (lf.eraseIdx j).length = lf.length - 1 := by rw [List.length_eraseIdx, if_pos hj]
      refine ⟨o ++ [v], lf.eraseIdx j, _, _, rfl, fun b u hb e => ?_, ?_, ?_, ?_, pe, ?_, by omega⟩
      · have nb : b ≠ L := fun z => by rw [z, hLn] at e; cases e
        rw [upd_ne nb]; exact k8 b u hb e
      · rw [List.length_append, List.length_singleton]
        obtain ⟨x, y, z, e, r⟩ := w8.ex
        exact ⟨x, y, z, (upd_ne nL.symm).trans e, by obtain ⟨r1, r2, r3, r4, r5⟩ := r; exact ⟨r1, r2, r3, r4, by omega⟩⟩
      · exact (upd_ne nRL).trans r8
      · rw [upd_same]
        rw [← map_erase, List.map_map]; rfl
      · intro i x u e1 e2
        by_cases ci : i < o.length
        · rw [List.getElem?_append_left ci] at e1
          rw [List.take_append_of_le_length (by omega)]
          exact bh i x u e1 e2
        · have z := (List.getElem?_eq_some_iff.mp e1).1
          rw [List.length_append, List.length_singleton] at z
          have ei : i = o.length := by omega
          subst ei
          rw [List.getElem?_append_right (Nat.le_refl _), Nat.sub_self] at e1
          cases e1
          rw [List.take_append_of_le_length (Nat.le_refl _), List.take_length]
          have mu := pm.mem_iff.mpr (List.mem_range.mpr (fo.inb _ _ e2))
          rcases List.mem_append.mp mu with mu | mu
          · exact mu
          · unfold isFree at hm2
            rw [e2] at hm2
            simp [mu] at hm2
end

end My

namespace My
open PySem PySem.Spec PyProof.Rows L2
/-! ### lots cut from the beginning of a row -/
structure LotOf (o : List Nat) (ls : List (List Nat)) : Prop where
  ne : ∀ l ∈ ls, l ≠ []
  up : ∀ l ∈ ls, l.Pairwise (· < ·)
  pm : ls.flatten.Perm (o.take ls.flatten.length)
theorem LotOf.nil {o : List Nat} : LotOf o [] := ⟨fun l h => absurd h List.not_mem_nil, fun l h => absurd h List.not_mem_nil, List.Perm.refl _⟩
theorem LotOf.snoc {o l : List Nat} {ls : List (List Nat)} (h : LotOf o ls) (ne : l ≠ []) (up : l.Pairwise (· < ·)) (pm : l.Perm ((o.drop ls.flatten.length).take l.length)) : LotOf o (ls ++ [l]) := by
  refine ⟨fun m hm => ?_, fun m hm => ?_, ?_⟩
  · rcases List.mem_append.mp hm with hm | hm
    · exact h.ne m hm
    · rw [List.mem_singleton.mp hm]; exact ne
  · rcases List.mem_append.mp hm with hm | hm
    · exact h.up m hm
    · rw [List.mem_singleton.mp hm]; exact up
  · rw [List.flatten_append, List.flatten_singleton, List.length_append, List.take_add]
    exact h.pm.append pm
theorem LotOf.singles (o : List Nat) (d : Nat) : LotOf o ((o.take d).map fun v => [v]) := by
  have e : ∀ l : List Nat, (l.map fun v => [v]).flatten = l := fun l => by
    induction l with
    | nil => rfl
    | cons v l ih => rw [List.map_cons, List.flatten_cons, ih]; rfl
  refine ⟨fun l hl => ?_, fun l hl => ?_, ?_⟩
  · obtain ⟨v, _, rfl⟩ := List.mem_map.mp hl
    exact List.cons_ne_nil _ _
  · obtain ⟨v, _, rfl⟩ := List.mem_map.mp hl
    exact List.pairwise_singleton _ _
  · rw [e, List.length_take]
    have z : o.take (min d o.length) = o.take d := by
      by_cases c : d ≤ o.length
      · rw [Nat.min_eq_left c]
      · rw [Nat.min_eq_right (by omega), List.take_of_length_le (Nat.le_refl _), List.take_of_length_le (by omega)]
    rw [z]
theorem LotOf.stg {n : Nat} {o : List Nat} {ls : List (List Nat)} (h : LotOf o ls) (nd : o.Nodup) (lt : ∀ v ∈ o, v < n) : Stg n ls :=
  ⟨h.ne, h.up, h.pm.nodup_iff.mpr ((List.take_sublist _ _).nodup nd), fun v hv => lt v (List.mem_of_mem_take (h.pm.mem_iff.mp hv))⟩
theorem cut_to (xs : List V) (d : Nat) : cutV xs none (some (d : Int)) = xs.take d := by
  unfold cutV
  rw [HT.sIx_nat, HT.sIx_none, List.drop_zero, Nat.sub_zero]
  by_cases c : d ≤ xs.length
  · rw [Nat.min_eq_left c]
  · rw [Nat.min_eq_right (by omega), List.take_of_length_le (Nat.le_refl _), List.take_of_length_le (by omega)]
theorem cut_from (xs : List V) (d : Nat) : cutV xs (some (d : Int)) none = xs.drop d := by
  unfold cutV
  rw [HT.sIx_nat, HT.sIx_none]
  by_cases c : d ≤ xs.length
  · rw [Nat.min_eq_left c, List.take_of_length_le (by rw [List.length_drop]; omega)]
  · rw [Nat.min_eq_right (by omega), List.drop_of_length_le (Nat.le_refl _), List.drop_of_length_le (by omega), List.take_nil]
theorem cut_mid (xs : List V) {i j : Nat} (h : i ≤ j) (hj : j ≤ xs.length) : cutV xs (some (i : Int)) (some (j : Int)) = (xs.drop i).take (j - i) := by
  unfold cutV
  rw [HT.sIx_nat, HT.sIx_nat, Nat.min_eq_left (by omega), Nat.min_eq_left (by omega)]
theorem nv_take (l : List Nat) (d : Nat) : (nv l).take d = nv (l.take d) := by unfold nv; rw [List.map_take]
theorem nv_drop (l : List Nat) (d : Nat) : (nv l).drop d = nv (l.drop d) := by unfold nv; rw [List.map_drop]
theorem LotsX.put {H : Hp} {xs ys : List V} {ls : List (List Nat)} {G : Addr} {o : HO} (h : LotsX H xs ls) (hG : H G = some (.lst ys)) : LotsX (upd H G o) xs ls := ⟨h.1, fun i x l e1 e2 => by
  obtain ⟨t, e, ht⟩ := h.2 i x l e1 e2
  have n : t ≠ G := fun z => by rw [z, hG] at ht; cases ht
  exact ⟨t, e, (upd_ne n).trans ht⟩⟩
theorem LotsX.keep {H H' : Hp} {xs : List V} {ls : List (List Nat)} {wl : Addr} (h : LotsX H xs ls) (k : Keep wl H H') {ys : List V} (hw : H wl = some (.lst ys)) : LotsX H' xs ls := ⟨h.1, fun i x l e1 e2 => by
  obtain ⟨t, e, ht⟩ := h.2 i x l e1 e2
  have n : t ≠ wl := fun z => by rw [z, hw] at ht; cases ht
  exact ⟨t, e, k t _ n ht⟩⟩
theorem keepNone {H H' : Hp} {wl G : Addr} {l : List V} (k : Keep wl H H') (hw : H' wl = some (.lst l)) (h : H' G = none) : H G = none := by
  cases e : H G with
  | none => rfl
  | some o =>
    have n : G ≠ wl := fun z => by rw [z, hw] at h; cases h
    have z := k G o n e
    rw [h] at z; cases z
theorem Well.put {H : Hp} {wl G : Addr} {n : Nat} {o : HO} (w : Well H wl n) (h : G ≠ wl) : Well (upd H G o) wl n := by
  obtain ⟨x, y, z, e, r⟩ := w.ex
  exact ⟨x, y, z, (upd_ne h.symm).trans e, r⟩
def spLLots : Sp := fun vs H Q _ => ∃ (wl r : Addr) (n : Nat) (o : List Nat), vs = [.ref wl, .ref r] ∧ wl ≠ r ∧ Well H wl n ∧ n < 2 ^ 50 ∧ H r = some (.lst (nv o)) ∧ o.Nodup ∧ 1 ≤ o.length ∧ o.length ≤ 60 ∧
  ∀ p ls H', Keep wl H H' → Well H' wl (n + 20) → H p = none → Lots H' p ls → LotOf o ls → Q (.ref p) H'
/-- ascending ints of naturals are naturals, ascending -/
theorem up_nat {ms : List Int} {l : List Nat} (pm : ms.Perm (l.map fun v : Nat => (v : Int))) (hs : ms.Pairwise (· ≤ ·)) (nd : l.Nodup) : ∃ ns : List Nat, ms = ns.map (fun v : Nat => (v : Int)) ∧ ns.Perm l ∧ ns.Pairwise (· < ·) := by
  have e : ms = (ms.map Int.toNat).map fun v : Nat => (v : Int) := by
    rw [List.map_map]
    conv => lhs; rw [← List.map_id ms]
    refine List.map_congr_left fun x hx => ?_
    obtain ⟨v, _, rfl⟩ := List.mem_map.mp (pm.mem_iff.mp hx)
    rfl
  have p2 : (ms.map Int.toNat).Perm l := by
    have z := pm.map Int.toNat
    rw [List.map_map] at z
    have y : l.map (Int.toNat ∘ fun v : Nat => (v : Int)) = l := by
      conv => rhs; rw [← List.map_id l]
      exact List.map_congr_left fun v _ => rfl
    rwa [y] at z
  refine ⟨ms.map Int.toNat, e, p2, ?_⟩
  generalize ms.map Int.toNat = ns at e p2
  rw [e] at hs
  have h1 : ns.Pairwise (· ≤ ·) := (List.pairwise_map.mp hs).imp fun {a b} h => by omega
  have h2 : ns.Nodup := p2.nodup_iff.mpr nd
  exact (h1.and h2).imp fun {a b} h => by have := h.1; have := h.2; omega

section
variable {P : Program} {w : World} {K : PySem.W.Frag} {mg : Str → Option Value} {base : Heap}
abbrev st__law_lots : Stmt := topS 26
abbrev N__law_lots : List Str := ["well", "row", "lots", "at", "k", "size", "one"]
theorem sc__law_lots : FnScope N__law_lots ["well", "row"] (defScope st__law_lots) := ⟨rfl, rfl, rfl, by decide +kernel, rfl, by decide +kernel, by decide +kernel⟩
theorem ok__law_lots (D : Df K mg "_law_lots" st__law_lots ["well", "row"]) (B : Bl mg) (K_law_draw : Kn P w K mg base CX0 1 "_law_draw" st__law_draw ["well", "most"] spDraw) :
    Kn P w K mg base CX0 3 "_law_lots" st__law_lots ["well", "row"] spLLots := by
  refine D.ok sc__law_lots (fun vs H Q E h => ?_) (fun f cdv A outer s H vs Q E hr h => ?_)
  · obtain ⟨wl, r, n, o, rfl, _⟩ := h; rfl
  obtain ⟨wl, r, n, o, rfl, hwr, hw, hn, ho, nd, hl1, hl2, q⟩ := h
  refine ⟨_, ((pss_cons (ps_par (i := 2) (j := 3) (by rfl) sc__law_lots.nd rfl rfl (by decide) rfl rfl (pa_cons (pe_lst pa_nil) (pa_cons pe_int pa_nil)) (by rfl))
      (pss_cons (ps_if (pt_cmpR op_eq (pe_callF K_law_draw (hr.mono (by decide)) pass0 (pa_cons (pv 0) (pa_cons pe_int pa_nil))) pe_int (nomark _)) (pss_one (ps_ret (pe_lc (own := [("one", 6)]) (g := gName 6) rfl sc__law_lots.nd (pi_list (pe_slice sl_list (pv 1) po_none (po_some (pe_callF K_law_draw (hr.mono (by decide)) pass0 (pa_cons (pv 0) (pa_cons (pe_op op_add (pe_callB call_len (by rfl) B.len (by decide +kernel) (pa_cons (pv 1) pa_nil)) pe_int) pa_nil)))))) (blkOk_by (N := N__law_lots) (sc := defScope st__law_lots) (own := [("one", 6)]) (by decide +kernel)) (fun _ _ _ _ _ => by (exact (pg_name (i := 6) sc__law_lots.nd rfl (Or.inl rfl)))) (fun _ _ _ _ _ => by exact pts_nil) (fun _ _ _ _ _ => by exact (pe_tup (pa_cons (pv 6) pa_nil)))))) pss_nil)
      (pss_cons (ps_for PassesOwn.never rfl (pi_range1 (by rfl) B.range (pa_cons (pe_callF K_law_draw (hr.mono (by decide)) pass0 (pa_cons (pv 0) (pa_cons pe_int pa_nil))) pa_nil)) (pg_name (i := 4) sc__law_lots.nd rfl (Or.inl rfl)) (pss_cons (ps_set (i := 5) sc__law_lots.nd rfl (Or.inl rfl) (pe_callB (call_min2 rfl) (by rfl) B.min (by decide +kernel) (pa_cons (pe_op op_sub (pe_callB call_len (by rfl) B.len (by decide +kernel) (pa_cons (pv 1) pa_nil)) (pv 3)) (pa_cons (pe_op op_add pe_int (pe_callF K_law_draw (hr.mono (by decide)) pass0 (pa_cons (pv 0) (pa_cons (pe_ix ix_list (pe_lst (pa_cons pe_int (pa_cons pe_int (pa_cons (pe_callB call_len (by rfl) B.len (by decide +kernel) (pa_cons (pv 1) pa_nil)) pa_nil)))) (pe_callF K_law_draw (hr.mono (by decide)) pass0 (pa_cons (pv 0) (pa_cons pe_int pa_nil))) (fun _ _ => rfl)) pa_nil)))) pa_nil))))
      (pss_one (ps_if (pt_cmpR op_gt (pv 5) pe_int (nomark _)) (pss_cons (ps_expr (pe_bm PySem.F.plainAttrs_list PySem.F.slot_list_append PySem.F.type_list_append mt_append (pv 2) (pa_cons (pe_callTy call_tuple_of (by rfl) B.tuple (by decide +kernel) (pa_cons (pe_callB cr_sorted (by rfl) B.sorted (by decide +kernel) (pa_cons (pe_slice sl_list (pv 1) (po_some (pv 3)) (po_some (pe_op op_add (pv 3) (pv 5)))) pa_nil)) pa_nil)) pa_nil)))
      (pss_one (ps_set (i := 3) sc__law_lots.nd rfl (Or.inl rfl) (pe_op op_add (pv 3) (pv 5))))) pss_nil))))
      (pss_one (ps_ret (pv 2))))))), ?_⟩
  have p50 : (2 : Nat) ^ 50 = 1125899906842624 := by decide
  have p60 : (2 : Nat) ^ 60 = 1152921504606846976 := by decide
  have p100 : (2 : Nat) ^ 100 = 1267650600228229401496703205376 := by decide +kernel
  obtain ⟨wl0, hwl0⟩ := hw.here
  refine ⟨by show 0 ≤ sizeLine; decide, fun F hF => ?_⟩
  have s1 : Same H (upd H F (.lst [])) := (Same.refl H).new hF
  have f1 : upd H F (.lst []) F = some (.lst []) := upd_same
  generalize upd H F (.lst []) = H1 at s1 f1 ⊢
  have nF : F ≠ wl := (ne_of_none hwl0 hF).symm
  -- if _law_draw(well, 6) == 0
  refine ⟨_, _, rfl, _, rfl, wl, n, _, rfl, hw.same s1, by omega, by omega, by omega, fun d H2 d0 d1 k2 w2 => ⟨rfl, _, rfl, ?_⟩⟩
  have k02 := s1.keep.trans k2
  have o2 := k02 r _ hwr.symm ho
  refine ite2 (fun c => ?_) (fun c => ?_)
  · refine ⟨_, rfl, ?_⟩
    dsimp only [tNoPart]
    refine ⟨_, rfl, _, rfl, _, _, rfl, .inl ⟨_, SqL.of o2, rfl⟩, _, _, rfl, rfl, wl, n + 1, _, rfl, w2, by omega, by rw [nv_length]; omega, by rw [nv_length]; omega, fun e H3 e0 e1 k3 w3 => ?_⟩
    obtain ⟨en, rfl⟩ : ∃ en : Nat, e = (en : Int) := ⟨e.toNat, by omega⟩
    have k03 := k02.trans k3
    have o3 := k03 r _ hwr.symm ho
    refine ⟨_, rfl, r, _, rfl, SqL.of o3, fun p hp => ?_⟩
    rw [cut_to, nv_take]
    have s4 := (Same.refl H3).new (o := .lst (nv (o.take en))) hp
    have p4 : upd H3 p (.lst (nv (o.take en))) p = some (.lst (nv (o.take en))) := upd_same
    generalize upd H3 p (.lst (nv (o.take en))) = H4 at s4 p4 ⊢
    refine ⟨p, rfl, ⟨_, SqL.of p4⟩, fun G hG => lc_it (walk_list (xs := nv (o.take en))) (fun i H' => Same H4 H' ∧ ∃ xs, H' G = some (.lst xs) ∧ LotsX H' xs (((o.take en).take i).map fun v => [v])) ⟨(Same.refl H4).new hG, [], upd_same, .nil⟩ (fun i H' _ z => SqL.of (z.1 _ _ p4)) ?_ ?_⟩
    · rintro i x H5 H6 hi ⟨s5, xs, g5, lx⟩ ⟨rfl, e1⟩
      rw [nv_length] at hi
      rw [nv_get (List.getElem?_eq_getElem hi)] at e1
      cases e1
      have hlen := lx.1
      rw [List.length_map, List.length_take] at hlen
      have hi2 := hi
      rw [List.length_take] at hi2
      refine ⟨rfl, _, rfl, ⟨by show 1 ≤ sizeLine; decide, fun T hT => ?_⟩⟩
      have s6 := s5.new (o := .tup [.int (((o.take en)[i] : Nat) : Int)]) hT
      have g6 : upd H6 T (.tup [.int (((o.take en)[i] : Nat) : Int)]) G = some (.lst xs) := (upd_ne (ne_of_none g5 hT)).trans g5
      have t6 : upd H6 T (.tup [.int (((o.take en)[i] : Nat) : Int)]) T = some (.tup (nv [(o.take en)[i]])) := upd_same
      have lx6 := lx.same ((Same.refl H6).new (o := .tup [.int (((o.take en)[i] : Nat) : Int)]) hT)
      generalize upd H6 T (.tup [.int (((o.take en)[i] : Nat) : Int)]) = H7 at s6 g6 t6 lx6 ⊢
      refine ⟨_, g6, szl (by omega), s6.upd hG, _, upd_same, ?_⟩
      have e2 : ((o.take en).take (i + 1)).map (fun v => [v]) = ((o.take en).take i).map (fun v => [v]) ++ [[(o.take en)[i]]] := by
        rw [List.take_add_one, List.getElem?_eq_getElem hi]; simp
      rw [e2]
      have nT : T ≠ G := fun z => by rw [z, g6] at t6; cases t6
      exact (lx6.put g6).snoc ⟨T, rfl, (upd_ne nT).trans t6⟩
    · rintro H5 ⟨s5, xs, g5, lx⟩
      rw [nv_length, List.take_length] at lx
      have k5 := (k03.trans s4.keep).trans s5.keep
      have w5 := (w3.same s4).same s5
      have hG0 : H G = none := keepNone (k03.trans s4.keep) ((w3.same s4).here.choose_spec) hG
      exact q G _ H5 k5 (w5.mono (by omega)) hG0 ⟨xs, g5, lx⟩ (.singles o en)
  · -- for k in range(_law_draw(well, 5))
    refine ⟨_, rfl, wl, n + 1, _, rfl, w2, by omega, by omega, by omega, fun e H3 e0 e1 k3 w3 => ?_⟩
    obtain ⟨en, rfl⟩ : ∃ en : Nat, e = (en : Int) := ⟨e.toNat, by omega⟩
    have k03 := k02.trans k3
    have f3 := k3 F _ nF (k2 F _ nF f1)
    refine ⟨_, rfl, by omega, by omega, for_it walk_range0 (fun i σ H' => ∃ v4 v5 at_ ls xs, σ = [some (.ref wl), some (.ref r), some (.ref F), some (.int ((at_ : Nat) : Int)), v4, v5, none] ∧ Keep wl H H' ∧ Well H' wl (n + 2 + 2 * i) ∧ H' F = some (.lst xs) ∧ LotsX H' xs ls ∧ LotOf o ls ∧ ls.flatten.length = at_ ∧ at_ ≤ o.length)
      ⟨_, _, 0, [], [], rfl, k03, w3, f3, .nil, .nil, rfl, Nat.zero_le _⟩ (fun _ _ _ _ _ => trivial) ?_ ?_⟩
    · rintro i x σ H4 H5 hi ⟨v4, v5, at_, ls, xs, rfl, k4, w4, f4, lx, lo, hat, hal⟩ ⟨rfl, rfl⟩
      have hi' : i < 5 := by omega
      have o4 := k4 r _ hwr.symm ho
      refine ⟨_, rfl, _, _, rfl, .inl ⟨_, SqL.of o4, rfl⟩, _, rfl, _, _, rfl, rfl, ?_⟩
      refine ⟨_, rfl, _, rfl, _, _, rfl, .inl ⟨_, SqL.of o4, rfl⟩, ⟨by show 3 ≤ sizeLine; decide, fun Z hZ => ?_⟩⟩
      have s5 := (Same.refl H5).new (o := .lst [.int 1, .int 3, .int ((nv o).length : Int)]) hZ
      have z5 : upd H5 Z (.lst [.int 1, .int 3, .int ((nv o).length : Int)]) Z = some (.lst [.int 1, .int 3, .int ((nv o).length : Int)]) := upd_same
      generalize upd H5 Z (.lst [.int 1, .int 3, .int ((nv o).length : Int)]) = H6 at s5 z5 ⊢
      have nZ : Z ≠ wl := (ne_of_none (w4.here.choose_spec) hZ).symm
      refine ⟨_, rfl, wl, n + 2 + 2 * i, _, rfl, w4.same s5, by omega, by omega, by omega, fun g H7 g0 g1 k7 w7 => ?_⟩
      have z7 := k7 Z _ nZ z5
      obtain ⟨mv, hm1, hm2⟩ := pick (xs := [V.int 1, .int 3, .int ((nv o).length : Int)]) g0 g1
      obtain ⟨m, rfl, hm3, hm4⟩ : ∃ m : Int, mv = .int m ∧ 1 ≤ m ∧ m ≤ 60 := by
        rcases List.mem_cons.mp hm1 with e | hm1
        · exact ⟨1, e, by omega, by omega⟩
        rcases List.mem_cons.mp hm1 with e | hm1
        · exact ⟨3, e, by omega, by omega⟩
        · exact ⟨_, List.mem_singleton.mp hm1, by rw [nv_length]; omega, by rw [nv_length]; omega⟩
      refine ⟨Z, _, _, _, rfl, rfl, SqL.of z7, hm2, wl, n + 2 + 2 * i + 1, _, rfl, w7, by omega, hm3, by omega, fun b H8 b0 b1 k8 w8 => ⟨_, _, rfl, rfl, _, _, rfl, ?_⟩⟩
      have k48 := (k4.trans s5.keep).trans (k7.trans k8)
      have o8 := k48 r _ hwr.symm ho
      have f8 := k8 F _ nF (k7 F _ nF (s5 _ _ f4))
      have lx8 := ((lx.same s5).keep k7 ((w4.same s5).here.choose_spec)).keep k8 (w7.here.choose_spec)
      rw [nv_length]
      obtain ⟨bn, rfl⟩ : ∃ bn : Nat, b = (bn : Int) := ⟨b.toNat, by omega⟩
      -- the size as a natural
      obtain ⟨sz, hsz, hsz2⟩ : ∃ sz : Nat, (if 1 + (bn : Int) < (o.length : Int) - (at_ : Int) then 1 + (bn : Int) else (o.length : Int) - (at_ : Int)) = (sz : Int) ∧ sz ≤ o.length - at_ := by
        refine ⟨min (1 + bn) (o.length - at_), ?_, by omega⟩
        split <;> omega
      rw [hsz]
      refine ⟨_, rfl, _, _, rfl, rfl, _, rfl, ?_⟩
      refine ite2 (fun c => ?_) (fun c => ?_)
      · have hpos : 0 < sz := by have := of_decide_eq_true c; omega
        have ec : cutV (nv o) (some (at_ : Int)) (some ((at_ : Int) + (sz : Int))) = nv ((o.drop at_).take sz) := by
          have z := cut_mid (nv o) (i := at_) (j := at_ + sz) (by omega) (by rw [nv_length]; omega)
          rw [show ((at_ : Int) + (sz : Int)) = ((at_ + sz : Nat) : Int) by omega, z, nv_drop, nv_take, Nat.add_sub_cancel_left]
        refine ⟨_, rfl, .inl ⟨rfl, _, SqL.of f8⟩, _, rfl, _, rfl, _, rfl, _, rfl, _, rfl, _, _, rfl, rfl, _, rfl, r, _, rfl, SqL.of o8, fun p hp => ?_⟩
        rw [ec]
        have s9 := (Same.refl H8).new (o := .lst (nv ((o.drop at_).take sz))) hp
        have p9 : upd H8 p (.lst (nv ((o.drop at_).take sz))) p = some (.lst (nv ((o.drop at_).take sz))) := upd_same
        generalize upd H8 p (.lst (nv ((o.drop at_).take sz))) = H9 at s9 p9 ⊢
        have hcl : ((o.drop at_).take sz).length = sz := by rw [List.length_take, List.length_drop]; omega
        have ndc : ((o.drop at_).take sz).Nodup := (List.take_sublist _ _).nodup ((List.drop_sublist _ _).nodup nd)
        refine ⟨p, ((o.drop at_).take sz).map fun v : Nat => (v : Int), rfl, by rw [List.map_map]; exact SqL.of p9, by rw [List.length_map]; omega, fun ms p2 pm rise hp2 => ?_⟩
        obtain ⟨ns, rfl, pn, up⟩ := up_nat pm rise ndc
        rw [List.map_map]
        have s10 := s9.new (o := .lst (nv ns)) hp2
        have p10 : upd H9 p2 (.lst (nv ns)) p2 = some (.lst (nv ns)) := upd_same
        generalize hH : upd H9 p2 (.lst (nv ns)) = H10 at s10 p10
        have hH' : upd H9 p2 (.lst (ns.map (V.int ∘ fun v : Nat => (v : Int)))) = H10 := hH
        rw [hH']
        refine ⟨p2, _, rfl, .inl ⟨SqL.of p10, fun t ht => ?_⟩⟩
        have s11 := s10.new (o := .tup (nv ns)) ht
        have t11 : upd H10 t (.tup (nv ns)) t = some (.tup (nv ns)) := upd_same
        generalize upd H10 t (.tup (nv ns)) = H11 at s11 t11 ⊢
        have f11 := s11 _ _ f8
        have nsl : ns.length = sz := pn.length_eq.trans hcl
        have lxl := lx8.1
        have lmany := flat_ge lo.ne
        refine ⟨F, _, _, rfl, rfl, f11, szl (by omega), ?_⟩
        have nT : t ≠ F := fun z => by rw [z, f11] at t11; cases t11
        refine ⟨_, rfl, _, rfl, _, _, rfl, rfl, ?_⟩
        refine ⟨_, _, at_ + sz, ls ++ [ns], xs ++ [.ref t], rfl, ?_, ((w8.same s11).put nF).mono (by omega), upd_same, ((lx8.same s11).put f11).snoc ⟨t, rfl, (upd_ne nT).trans t11⟩, lo.snoc ?_ up ?_, ?_, by omega⟩
        · intro b u hb e
          have nb : b ≠ F := fun z => by rw [z, hF] at e; cases e
          rw [upd_ne nb]; exact (k48.trans s11.keep) b u hb e
        · intro z; rw [z] at nsl; simp at nsl; omega
        · rw [hat, nsl]; exact pn
        · rw [List.flatten_append, List.flatten_singleton, List.length_append, hat, nsl]
      · exact ⟨_, _, at_, ls, xs, rfl, k48, w8.mono (by omega), f8, lx8, lo, hat, hal⟩
    · rintro σ H4 ⟨v4, v5, at_, ls, xs, rfl, k4, w4, f4, lx, lo, hat, hal⟩
      exact ⟨_, rfl, q F ls H4 k4 (w4.mono (by omega)) hF ⟨xs, f4, lx⟩ lo⟩
end

end My

namespace My
open PySem PySem.Spec PyProof.Rows L2
/-! ### lots that are bent: the mathematics -/
theorem flat_set {ls : List (List Nat)} {i : Nat} {l : List Nat} (h : ls[i]? = some l) : ls.flatten.Perm (l ++ (ls.eraseIdx i).flatten) ∧ ∀ m : List Nat, (ls.set i m).flatten.Perm (m ++ (ls.eraseIdx i).flatten) := by
  have hi := (List.getElem?_eq_some_iff.mp h).1
  have he := (List.getElem?_eq_some_iff.mp h).2
  have e1 : (ls.eraseIdx i).flatten = (ls.take i).flatten ++ (ls.drop (i + 1)).flatten := by rw [List.eraseIdx_eq_take_drop_succ, List.flatten_append]
  have key : ∀ (A B m : List Nat), (A ++ (m ++ B)).Perm (m ++ (A ++ B)) := fun A B m => by
    rw [← List.append_assoc, ← List.append_assoc]
    exact List.perm_append_comm.append_right B
  refine ⟨?_, fun m => ?_⟩
  · have e2 : ls.flatten = (ls.take i).flatten ++ (l ++ (ls.drop (i + 1)).flatten) := by
      conv => lhs; rw [← List.take_append_drop i ls, List.drop_eq_getElem_cons hi, List.flatten_append, List.flatten_cons, he]
    rw [e1, e2]
    exact key _ _ _
  · have e2 : (ls.set i m).flatten = (ls.take i).flatten ++ (m ++ (ls.drop (i + 1)).flatten) := by
      rw [List.set_eq_take_append_cons_drop, if_pos hi, List.flatten_append, List.flatten_cons]
    rw [e1, e2]
    exact key _ _ _
theorem Stg.setP {n i : Nat} {ls : List (List Nat)} {m : List Nat} (s : Stg n ls) (ne : m ≠ []) (up : m.Pairwise (· < ·)) (nd : (ls.set i m).flatten.Nodup) (lt : ∀ v ∈ (ls.set i m).flatten, v < n) : Stg n (ls.set i m) := by
  refine ⟨fun l hl => ?_, fun l hl => ?_, nd, lt⟩
  · rcases List.mem_or_eq_of_mem_set hl with h | h
    · exact s.ne l h
    · rw [h]; exact ne
  · rcases List.mem_or_eq_of_mem_set hl with h | h
    · exact s.up l h
    · rw [h]; exact up
theorem Stg.erase {n i : Nat} {ls : List (List Nat)} (s : Stg n ls) (hi : i < ls.length) : Stg n (ls.eraseIdx i) := by
  have p := (flat_set (List.getElem?_eq_getElem hi)).1
  refine ⟨fun l hl => s.ne l (List.mem_of_mem_eraseIdx hl), fun l hl => s.up l (List.mem_of_mem_eraseIdx hl), ?_, fun v hv => s.lt v (p.mem_iff.mpr (List.mem_append_right _ hv))⟩
  exact (List.nodup_append.mp (p.nodup_iff.mp s.nd)).2.1
theorem Stg.more {n i x : Nat} {ls : List (List Nat)} {l m : List Nat} (s : Stg n ls) (h : ls[i]? = some l) (hx : ¬ x ∈ ls.flatten) (hn : x < n) (pm : m.Perm (l ++ [x])) (up : m.Pairwise (· < ·)) : Stg n (ls.set i m) := by
  obtain ⟨p1, p2⟩ := flat_set h
  have p3 : (ls.set i m).flatten.Perm (x :: ls.flatten) := by
    refine (p2 m).trans ((pm.append_right _).trans ?_)
    rw [List.append_assoc, List.singleton_append]
    exact List.perm_middle.trans ((p1.symm).cons x)
  refine s.setP ?_ up (p3.nodup_iff.mpr (List.nodup_cons.mpr ⟨hx, s.nd⟩)) fun v hv => ?_
  · intro z; rw [z] at pm
    have := pm.length_eq
    rw [List.length_append] at this; simp at this
  · rcases List.mem_cons.mp (p3.mem_iff.mp hv) with e | e
    · rw [e]; exact hn
    · exact s.lt v e
theorem Stg.less {n i : Nat} {ls : List (List Nat)} {l m : List Nat} (s : Stg n ls) (h : ls[i]? = some l) (ne : m ≠ []) (sb : List.Sublist m l) : Stg n (ls.set i m) := by
  obtain ⟨p1, p2⟩ := flat_set h
  have sb2 := sb.append_right (ls.eraseIdx i).flatten
  refine s.setP ne ((s.up l (List.mem_of_getElem? h)).sublist sb) ((p2 m).nodup_iff.mpr (sb2.nodup (p1.nodup_iff.mp s.nd))) fun v hv => ?_
  exact s.lt v (p1.mem_iff.mpr (sb2.subset ((p2 m).mem_iff.mp hv)))
theorem Stg.swap {n i j : Nat} {ls : List (List Nat)} {l m : List Nat} (s : Stg n ls) (h : ls[i]? = some l) (h2 : ls[j]? = some m) : Stg n ((ls.set i m).set j l) := by
  have pf : ((ls.set i m).set j l).flatten.Perm ls.flatten := by
    by_cases c : i = j
    · subst c
      rw [h] at h2; cases h2
      rw [List.set_set]
      exact ((flat_set h).2 l).trans (flat_set h).1.symm
    · have h3 : (ls.set i m)[j]? = some m := by rw [List.getElem?_set_ne c]; exact h2
      obtain ⟨p1, p2⟩ := flat_set h
      obtain ⟨q1, q2⟩ := flat_set h3
      have r : ((ls.set i m).eraseIdx j).flatten.Perm (ls.eraseIdx i).flatten := (List.perm_append_left_iff m).mp (q1.symm.trans (p2 m))
      exact (q2 l).trans ((r.append_left l).trans p1.symm)
  have mem : ∀ x ∈ (ls.set i m).set j l, x ∈ ls := fun x hx => by
    rcases List.mem_or_eq_of_mem_set hx with e | e
    · rcases List.mem_or_eq_of_mem_set e with e | e
      · exact e
      · rw [e]; exact List.mem_of_getElem? h2
    · rw [e]; exact List.mem_of_getElem? h
  exact ⟨fun x hx => s.ne x (mem x hx), fun x hx => s.up x (mem x hx), pf.nodup_iff.mpr s.nd, fun v hv => s.lt v (pf.mem_iff.mp hv)⟩
theorem LotsX.set {H : Hp} {xs : List V} {ls : List (List Nat)} {x : V} {l : List Nat} (h : LotsX H xs ls) (i : Nat) (hx : Lot H x l) : LotsX H (xs.set i x) (ls.set i l) := by
  refine ⟨by rw [List.length_set, List.length_set, h.1], fun j y m e1 e2 => ?_⟩
  by_cases c : i = j
  · subst c
    have hi := (List.getElem?_eq_some_iff.mp e1).1
    have hi2 := (List.getElem?_eq_some_iff.mp e2).1
    rw [List.length_set] at hi hi2
    rw [List.getElem?_set_self hi] at e1
    rw [List.getElem?_set_self hi2] at e2
    cases e1; cases e2
    exact hx
  · rw [List.getElem?_set_ne c] at e1 e2
    exact h.2 j y m e1 e2
theorem LotsX.erase {H : Hp} {xs : List V} {ls : List (List Nat)} (h : LotsX H xs ls) (i : Nat) : LotsX H (xs.eraseIdx i) (ls.eraseIdx i) := by
  refine ⟨by rw [List.length_eraseIdx, List.length_eraseIdx, h.1], fun j y m e1 e2 => ?_⟩
  rw [List.getElem?_eraseIdx] at e1 e2
  by_cases c : j < i
  · rw [if_pos c] at e1 e2
    exact h.2 j y m e1 e2
  · rw [if_neg c] at e1 e2
    exact h.2 (j + 1) y m e1 e2
/-- lots as data -/
def lD (ls : List (List Nat)) : List PyData := ls.map fun l => PyData.tuple (nD l)
theorem dp_lots {K : PySem.W.Frag} {H : Hp} : ∀ {xs : List V} {ls : List (List Nat)}, LotsX H xs ls → DpAll K H xs (lD ls)
  | [], [], _ => .nil
  | [], _ :: _, h => by have := h.1; cases this
  | _ :: _, [], h => by have := h.1; cases this
  | x :: xs, l :: ls, h => by
    obtain ⟨t, e, ht⟩ := h.2 0 x l rfl rfl
    subst e
    exact .cons (.tup (SqT.of ht) (dp_nv l)) (dp_lots ⟨Nat.succ.inj h.1, fun i y m e1 e2 => h.2 (i + 1) y m e1 e2⟩)
theorem lay_lD : ∀ ls : List (List Nat), PyData.canLayAll0 (lD ls) = true
  | [] => rfl
  | l :: ls => by
    show PyData.canLayAll0 (PyData.tuple (nD l) :: lD ls) = true
    rw [PyData.canLayAll0, lay_lD ls, PyData.canLay0, lay_nD]; rfl
theorem deep_lD : ∀ ls : List (List Nat), PyData.depthAll (lD ls) ≤ 1
  | [] => Nat.zero_le _
  | l :: ls => by
    show PyData.depthAll (PyData.tuple (nD l) :: lD ls) ≤ 1
    rw [PyData.depthAll, PyData.depth, deep_nD]
    exact Nat.max_le.mpr ⟨Nat.le_refl _, deep_lD ls⟩
theorem shaped_lD (ls : List (List Nat)) : SeqAt.shaped (.list (lD ls)) = true := by
  unfold SeqAt.shaped
  have d := deep_lD ls
  rw [PyData.canLay0, lay_lD, PyData.depth, Bool.true_and, decide_eq_true_eq]
  omega
theorem eqv_lD (ls : List (List Nat)) : PyData.eqv (.list (lD ls)) (.list (nD [])) = decide (ls = []) := by
  rw [eqv_list]
  cases ls with
  | nil => rfl
  | cons l ls => rfl

end My

namespace My
open PySem PySem.Spec PyProof.Rows L2
/-! ### parts of tuples, tuples put together -/
theorem cut_whole (xs : List V) {lo hi : Option Int} (h : HT.sIx xs.length 0 lo = 0 ∧ HT.sIx xs.length xs.length hi = xs.length) : cutV xs lo hi = xs := by
  unfold cutV
  rw [h.1, h.2, List.drop_zero, Nat.sub_zero, List.take_length]
theorem cut_mem {xs : List V} {lo hi : Option Int} {y : V} (h : y ∈ cutV xs lo hi) : y ∈ xs := List.mem_of_mem_drop (List.mem_of_mem_take h)
theorem cut_lo (xs : List V) (d : Nat) : (cutV xs none (some (d : Int))).length ≤ d := by
  unfold cutV
  rw [HT.sIx_nat, HT.sIx_none, List.length_take]
  omega
theorem cut_hi (xs : List V) (d : Nat) : (cutV xs (some (d : Int)) none).length ≤ xs.length - d := by
  unfold cutV
  rw [HT.sIx_nat, HT.sIx_none, List.length_take, List.length_drop]
  omega
theorem slA {K : PySem.W.Frag} {H : Hp} {t : Addr} {xs : List V} {lo hi : Option Int} {Q : VK} (h : H t = some (.tup xs)) (q : ∀ p H', Same H H' → H' p = some (.tup (cutV xs lo hi)) → Q (.ref p) H') : rSlA K (.ref t) lo hi H Q :=
  ⟨t, xs, rfl, SqT.of h, fun c => q t H (Same.refl H) (by rw [cut_whole xs c]; exact h), fun _ p hp => q p _ ((Same.refl H).new hp) upd_same⟩
theorem catA {K : PySem.W.Frag} {H : Hp} {a b : Addr} {xs ys : List V} {Q : VK} (ha : H a = some (.tup xs)) (hb : H b = some (.tup ys)) (hz : xs.length + ys.length ≤ 1000) (q : ∀ p H', Same H H' → H' p = some (.tup (xs ++ ys)) → Q (.ref p) H') : rCatA K (.ref a) (.ref b) H Q := by
  refine ⟨a, b, xs, ys, rfl, rfl, SqT.of ha, SqT.of hb, Nat.le_of_lt (szl hz), fun e => ?_, fun _ e => ?_, fun _ _ p hp => q p _ ((Same.refl H).new hp) upd_same⟩
  · subst e; exact q b H (Same.refl H) hb
  · subst e; exact q a H (Same.refl H) (by rw [List.append_nil]; exact ha)

/-! ### lots that are bent -/
theorem notin_succ (S : List Nat) (i : Nat) : (List.range (i + 1)).filter (fun v => decide (¬ v ∈ S)) = (List.range i).filter (fun v => decide (¬ v ∈ S)) ++ (if i ∈ S then [] else [i]) := by
  rw [List.range_succ, List.filter_append]
  by_cases c : i ∈ S <;> simp [c]
def spLBent : Sp := fun vs H Q _ => ∃ (wl p : Addr) (n : Nat) (m : Nat) (ls : List (List Nat)), vs = [.ref wl, .ref p, .int (n : Int)] ∧ wl ≠ p ∧ Well H wl m ∧ m < 2 ^ 50 ∧ Lots H p ls ∧ Stg n ls ∧ n ≤ 60 ∧
  ∀ p' ls' H', Keep wl H H' → Well H' wl (m + 5) → H p' = none → Lots H' p' ls' → Stg n ls' → Q (.ref p') H'
section
variable {P : Program} {w : World} {K : PySem.W.Frag} {mg : Str → Option Value} {base : Heap}
abbrev st__law_bent : Stmt := topS 28
abbrev N__law_bent : List Str := ["well", "lots", "size", "way", "pick", "mate", "fresh", "found", "cut", "one"]
theorem sc__law_bent : FnScope N__law_bent ["well", "lots", "size"] (defScope st__law_bent) := ⟨rfl, rfl, rfl, by decide +kernel, rfl, by decide +kernel, by decide +kernel⟩
theorem ok__law_bent (D : Df K mg "_law_bent" st__law_bent ["well", "lots", "size"]) (B : Bl mg) (K_law_draw : Kn P w K mg base CX0 1 "_law_draw" st__law_draw ["well", "most"] spDraw)
    (K_law_flat : Kn P w K mg base CX0 1 "_law_flat" st__law_flat ["lots"] spLFlat) :
    Kn P w K mg base CX0 3 "_law_bent" st__law_bent ["well", "lots", "size"] spLBent := by
  refine D.ok sc__law_bent (fun vs H Q E h => ?_) (fun f cdv A outer s H vs Q E hr h => ?_)
  · obtain ⟨wl, p, n, m, ls, rfl, _⟩ := h; rfl
  obtain ⟨wl, p, n, m, ls, rfl, hwp, hw, hm, ⟨xs, hx, lx⟩, st, hn, q⟩ := h
  refine ⟨_, ((pss_cons (ps_if (pt_cmpR (op_eqD hr.units) (pv 1) (pe_lst pa_nil) (nomark _)) (pss_one (ps_ret (pe_lst pa_nil))) pss_nil)
      (pss_cons (ps_par3 (i := 3) (j := 4) (l := 5) (by rfl) sc__law_bent.nd rfl rfl rfl (by decide) (by decide) (by decide) rfl rfl rfl (pa_cons (pe_callF K_law_draw (hr.mono (by decide)) pass0 (pa_cons (pv 0) (pa_cons pe_int pa_nil))) (pa_cons (pe_callF K_law_draw (hr.mono (by decide)) pass0 (pa_cons (pv 0) (pa_cons (pe_callB call_len (by rfl) B.len (by decide +kernel) (pa_cons (pv 1) pa_nil)) pa_nil))) (pa_cons (pe_callF K_law_draw (hr.mono (by decide)) pass0 (pa_cons (pv 0) (pa_cons (pe_callB call_len (by rfl) B.len (by decide +kernel) (pa_cons (pv 1) pa_nil)) pa_nil))) pa_nil))) (by rfl))
      (pss_cons (ps_setLc (i := 6) (own := [("one", 9)]) (g := gName 9) rfl sc__law_bent.nd rfl rfl (sw_true rfl rfl rfl (by decide +kernel)) (pi_range1 (by rfl) B.range (pa_cons (pv 2) pa_nil)) (blkOk_by (N := N__law_bent) (sc := defScope st__law_bent) (own := [("one", 9)]) (by decide +kernel)) (fun _ _ _ _ _ => by (exact (pg_name (i := 9) sc__law_bent.nd rfl (Or.inl rfl)))) (fun _ _ _ _ _ => by exact (pts_one (pt_cmpR (op_notIn_seqK K) (pv 9) (pe_callF K_law_flat (hr.mono (by decide)) pass0 (pa_cons (pv 1) pa_nil)) (by rfl)))) (fun _ _ _ _ _ => by exact (pv 9)))
      (pss_cons (ps_set (i := 7) sc__law_bent.nd rfl (Or.inl rfl) (pe_callTy call_list_of (by rfl) B.list (by decide +kernel) (pa_cons (pv 1) pa_nil)))
      (pss_cons (ps_if (pt_cmpR op_eq (pv 3) pe_int (nomark _)) (pss_one (ps_ret (pe_op op_cat (pe_slice sl_list (pv 1) po_none (po_some (pv 4))) (pe_slice sl_list (pv 1) (po_some (pe_op op_add (pv 4) pe_int)) po_none)))) pss_nil)
      (C8.pss_cut (ps_if (pt_cmpR op_eq (pv 3) pe_int (nomark _)) (pss_cons (ps_asg (pe_ix ix_list (pv 1) (pv 5) (fun _ _ => rfl)) (pg_sub (pv 7) (pv 4) set_list))
      (pss_one (ps_asg (pe_ix ix_list (pv 1) (pv 4) (fun _ _ => rfl)) (pg_sub (pv 7) (pv 5) set_list)))) pss_nil)
      (C8.pss_cut (ps_if (PW.pt (pw_and (pt_cmpR op_eq (pv 3) pe_int (nomark _)) (pw_and1 (pt_cmpR (op_neD hr.units) (pv 6) (pe_lst pa_nil) (nomark _))))) (pss_one (ps_asg (pe_callTy call_tuple_of (by rfl) B.tuple (by decide +kernel) (pa_cons (pe_callB cr_sortedTup (by rfl) B.sorted (by decide +kernel) (pa_cons (pe_op op_catA (pe_ix ix_list (pv 1) (pv 4) (fun _ _ => rfl)) (pe_tup (pa_cons (pe_ix ix_list (pv 6) (pe_callF K_law_draw (hr.mono (by decide)) pass0 (pa_cons (pv 0) (pa_cons (pe_callB call_len (by rfl) B.len (by decide +kernel) (pa_cons (pv 6) pa_nil)) pa_nil))) (fun _ _ => rfl)) pa_nil))) pa_nil)) pa_nil)) (pg_sub (pv 7) (pv 4) set_list))) pss_nil)
      (C8.pss_cut (ps_if (PW.pt (pw_and (pt_cmpR op_eq (pv 3) pe_int (nomark _)) (pw_and1 (pt_cmpR op_gt (pe_callB call_len (by rfl) B.len (by decide +kernel) (pa_cons (pe_ix ix_list (pv 1) (pv 4) (fun _ _ => rfl)) pa_nil)) pe_int (nomark _))))) (pss_cons (ps_set (i := 8) sc__law_bent.nd rfl (Or.inl rfl) (pe_callF K_law_draw (hr.mono (by decide)) pass0 (pa_cons (pv 0) (pa_cons (pe_callB call_len (by rfl) B.len (by decide +kernel) (pa_cons (pe_ix ix_list (pv 1) (pv 4) (fun _ _ => rfl)) pa_nil)) pa_nil))))
      (pss_one (ps_asg (pe_op op_catA (pe_slice sl_tupA (pe_ix ix_list (pv 1) (pv 4) (fun _ _ => rfl)) po_none (po_some (pv 8))) (pe_slice sl_tupA (pe_ix ix_list (pv 1) (pv 4) (fun _ _ => rfl)) (po_some (pe_op op_add (pv 8) pe_int)) po_none)) (pg_sub (pv 7) (pv 4) set_list)))) pss_nil)
      (pss_one (ps_ret (pv 7)))))))))))), ?_⟩
  have p50 : (2 : Nat) ^ 50 = 1125899906842624 := by decide
  have p60 : (2 : Nat) ^ 60 = 1152921504606846976 := by decide
  have p100 : (2 : Nat) ^ 100 = 1267650600228229401496703205376 := by decide +kernel
  have size := st.size
  have many := st.many
  obtain ⟨wl0, hwl0⟩ := hw.here
  -- if lots == []: return []
  refine ⟨_, rfl, ⟨by show 0 ≤ sizeLine; decide, fun Z hZ => ?_⟩⟩
  have s1 := (Same.refl H).new (o := .lst []) hZ
  have z1 : upd H Z (.lst []) Z = some (.lst (nv [])) := upd_same
  generalize upd H Z (.lst []) = H1 at s1 z1 ⊢
  refine ⟨_, _, .lst (SqL.of (s1 _ _ hx)) (dp_lots (lx.same s1)), dp_list z1, shaped_lD ls, shaped_nD [], _, rfl, ?_⟩
  rw [eqv_lD]
  by_cases c0 : ls = []
  · rw [decide_eq_true c0]
    refine iteT ⟨by show 0 ≤ sizeLine; decide, fun Y hY => ?_⟩
    exact q Y [] _ (s1.keep.new hY) ((hw.same (s1.new hY)).mono (by omega)) (s1.free hY) ⟨[], upd_same, .nil⟩ ⟨fun l h => absurd h List.not_mem_nil, fun l h => absurd h List.not_mem_nil, List.nodup_nil, fun v h => absurd h List.not_mem_nil⟩
  rw [decide_eq_false c0]
  refine iteF ?_
  have pos : 0 < ls.length := List.length_pos_iff.mpr c0
  have hx1 := s1 _ _ hx
  -- way, pick, mate
  refine ⟨_, rfl, wl, m, _, rfl, hw.same s1, by omega, by omega, by omega, fun way H2 y0 y1 k2 w2 => ?_⟩
  have hx2 := k2 p _ hwp.symm hx1
  refine ⟨_, rfl, _, rfl, _, _, rfl, .inl ⟨_, SqL.of hx2, rfl⟩, wl, m + 1, _, rfl, w2, by omega, by rw [lx.1]; omega, by rw [lx.1]; omega, fun pick H3 i0 i1 k3 w3 => ?_⟩
  have hx3 := k3 p _ hwp.symm hx2
  refine ⟨_, rfl, _, rfl, _, _, rfl, .inl ⟨_, SqL.of hx3, rfl⟩, wl, m + 2, _, rfl, w3, by omega, by rw [lx.1]; omega, by rw [lx.1]; omega, fun mate H4 j0 j1 k4 w4 => ?_⟩
  have k04 : Keep wl H H4 := s1.keep.trans (k2.trans (k3.trans k4))
  rw [lx.1] at i1 j1
  obtain ⟨pk, rfl⟩ : ∃ pk : Nat, pick = (pk : Int) := ⟨pick.toNat, by omega⟩
  obtain ⟨mt, rfl⟩ : ∃ mt : Nat, mate = (mt : Int) := ⟨mate.toNat, by omega⟩
  have hpk : pk < ls.length := by omega
  have hmt : mt < ls.length := by omega
  have hx4 := k4 p _ hwp.symm hx3
  have lx4 := lx.keep k04 hwl0
  refine ⟨_, _, _, rfl, ?_⟩
  -- fresh
  refine ⟨_, rfl, _, rfl, by omega, by omega, fun L hL => lc_it walk_range0 (fun i H' => Same H4 H' ∧ H' L = some (.lst (nv ((List.range i).filter fun v => decide (¬ v ∈ ls.flatten))))) ⟨(Same.refl H4).new hL, upd_same⟩ (fun _ _ _ _ => trivial) ?_ ?_⟩
  · rintro i x H5 H6 hi ⟨s5, l5⟩ ⟨rfl, rfl⟩
    have lz := List.length_filter_le (fun v => decide (¬ v ∈ ls.flatten)) (List.range i)
    rw [List.length_range] at lz
    have hi2 : i < 60 := by omega
    refine ⟨rfl, _, rfl, _, rfl, p, ls, rfl, ⟨xs, s5 _ _ hx4, lx4.same s5⟩, by omega, fun r H7 s7 hr7 o7 => ⟨r, _, rfl, .inl (SqL.of o7), rfl, flat_nv _, _, rfl, ?_⟩⟩
    have ei : inV (.int (i : Int)) (nv ls.flatten) = decide (i ∈ ls.flatten) := inV_nv i _
    rw [ei, if_pos rfl]
    have er : (List.range (i + 1)).filter (fun v => decide (¬ v ∈ ls.flatten)) = (List.range i).filter (fun v => decide (¬ v ∈ ls.flatten)) ++ (if i ∈ ls.flatten then [] else [i]) := notin_succ _ _
    by_cases c : i ∈ ls.flatten
    · rw [decide_eq_true c]
      refine iteF ⟨s5.trans s7, ?_⟩
      rw [er, if_pos c, List.append_nil]
      exact s7 _ _ l5
    · rw [decide_eq_false c]
      refine iteT ⟨_, rfl, _, s7 _ _ l5, by rw [nv_length]; exact szl (by omega), (s5.trans s7).upd hL, ?_⟩
      rw [upd_same, er, if_neg c, nv_append]; rfl
  rintro H5 ⟨s5, l5⟩
  obtain ⟨fr, hfr⟩ : ∃ fr, (List.range n).filter (fun v => decide (¬ v ∈ ls.flatten)) = fr := ⟨_, rfl⟩
  replace l5 : H5 L = some (.lst (nv fr)) := by rw [← hfr]; exact l5
  have hfr1 : ∀ v ∈ fr, v < n ∧ ¬ v ∈ ls.flatten := fun v hv' => by
    rw [← hfr] at hv'
    have z := List.mem_filter.mp hv'
    exact ⟨List.mem_range.mp z.1, of_decide_eq_true z.2⟩
  have hfr2 : fr.length ≤ n := by
    rw [← hfr]
    have z := List.length_filter_le (fun v => decide (¬ v ∈ ls.flatten)) (List.range n)
    rw [List.length_range] at z; exact z
  have k05 := k04.trans s5.keep
  have w5 := w4.same s5
  have hx5 := s5 _ _ hx4
  have lx5 := lx4.same s5
  have nL : L ≠ wl := (ne_of_none (w4.here.choose_spec) hL).symm
  have hL0 : H L = none := keepNone k04 (w4.here.choose_spec) hL
  -- found = list(lots)
  refine ⟨_, rfl, p, _, rfl, .inl (SqL.of hx5), fun F hF => ?_⟩
  have s6 := (Same.refl H5).new (o := .lst xs) hF
  have f6 : upd H5 F (.lst xs) F = some (.lst xs) := upd_same
  have hF0 : H F = none := keepNone k05 (w5.here.choose_spec) hF
  have nF : F ≠ wl := (ne_of_none (w5.here.choose_spec) hF).symm
  generalize upd H5 F (.lst xs) = H6 at s6 f6 ⊢
  have k06 := k05.trans s6.keep
  have w6 := w5.same s6
  have hx6 := s6 _ _ hx5
  have lx6 := lx5.same s6
  have l6 := s6 _ _ l5
  have nFp : F ≠ p := (ne_of_none hx5 hF).symm
  have nFL : F ≠ L := (ne_of_none l5 hF).symm
  -- if way == 0: return lots[:pick] + lots[pick + 1:]
  refine ⟨_, rfl, rfl, _, rfl, ?_⟩
  refine ite2 (fun c => ?_) (fun c => ?_)
  · refine ⟨_, rfl, ?_⟩
    dsimp only [tNoPart]
    refine ⟨_, rfl, _, rfl, p, _, rfl, SqL.of hx6, fun A hA => ?_⟩
    rw [cut_to]
    have s7 := (Same.refl H6).new (o := .lst (xs.take pk)) hA
    have a7 : upd H6 A (.lst (xs.take pk)) A = some (.lst (xs.take pk)) := upd_same
    generalize upd H6 A (.lst (xs.take pk)) = H7 at s7 a7 ⊢
    refine ⟨_, rfl, _, rfl, _, _, rfl, rfl, _, rfl, p, _, rfl, SqL.of (s7 _ _ hx6), fun B' hB => ?_⟩
    rw [show ((pk : Int) + 1) = ((pk + 1 : Nat) : Int) by omega, cut_from]
    have s8 := s7.new (o := .lst (xs.drop (pk + 1))) hB
    have a8 : upd H7 B' (.lst (xs.drop (pk + 1))) A = some (.lst (xs.take pk)) := (upd_ne (ne_of_none a7 hB)).trans a7
    have b8 : upd H7 B' (.lst (xs.drop (pk + 1))) B' = some (.lst (xs.drop (pk + 1))) := upd_same
    generalize upd H7 B' (.lst (xs.drop (pk + 1))) = H8 at s8 a8 b8 ⊢
    refine ⟨A, B', _, _, rfl, rfl, a8, b8, Nat.le_of_lt (szl ?_), fun C hC => ?_⟩
    · rw [List.length_take, List.length_drop, lx.1]; omega
    have s9 := s8.new (o := .lst (xs.take pk ++ xs.drop (pk + 1))) hC
    rw [← List.eraseIdx_eq_take_drop_succ] at s9 ⊢
    refine q C (ls.eraseIdx pk) _ (k06.trans s9.keep) ((w6.same s9).mono (by omega)) (keepNone (k06.trans s8.keep) ((w6.same s8).here.choose_spec) hC) ⟨_, upd_same, ?_⟩ (st.erase hpk)
    exact (lx6.same s9).erase pk
  -- if way == 1
  have hgx : ∀ i : Nat, i < ls.length → ∃ t l, ls[i]? = some l ∧ xs[i]? = some (.ref t) ∧ H t = some (.tup (nv l)) := fun i hi => by
    obtain ⟨t, e1, e2⟩ := lx.of (List.getElem?_eq_getElem hi)
    exact ⟨t, _, List.getElem?_eq_getElem hi, e1, e2⟩
  obtain ⟨tp, lp, elp, exp', htp⟩ := hgx pk hpk
  obtain ⟨tm, lm, elm, exm, htm⟩ := hgx mt hmt
  have nwt : ∀ {t : Addr} {l : List V}, H t = some (.tup l) → t ≠ wl := fun h z => by rw [z, hwl0] at h; cases h
  refine ⟨fun σ' H' => ∃ v8 ys ls', σ' = [some (.ref wl), some (.ref p), some (.int (n : Int)), some (.int way), some (.int (pk : Int)), some (.int (mt : Int)), some (.ref L), some (.ref F), v8, none] ∧ Keep wl H H' ∧ Well H' wl (m + 3) ∧ H' F = some (.lst ys) ∧ H' L = some (.lst (nv fr)) ∧ LotsX H' ys ls' ∧ Stg n ls' ∧ (way = 1 ∨ (ys = xs ∧ ls' = ls)), ?_, ?_⟩
  · refine ⟨_, rfl, rfl, _, rfl, ?_⟩
    refine ite2 (fun c2 => ?_) (fun c2 => ?_)
    · have ew : way = 1 := V.int.inj (of_decide_eq_true c2)
      refine ⟨_, rfl, _, rfl, p, _, _, _, rfl, rfl, SqL.of hx6, atI_nat exm, _, rfl, _, rfl, F, _, _, pk, rfl, rfl, f6, ixN_nat (by rw [lx.1]; exact hpk), ?_⟩
      have s7k : Keep F H6 (upd H6 F (.lst (xs.set pk (.ref tm)))) := Keep.upd _ _ _
      have f7 : upd H6 F (.lst (xs.set pk (.ref tm))) F = some (.lst (xs.set pk (.ref tm))) := upd_same
      have w7 : Well (upd H6 F (.lst (xs.set pk (.ref tm)))) wl (m + 3) := w6.put nF
      have lx7 := lx6.put (o := .lst (xs.set pk (.ref tm))) f6
      generalize upd H6 F (.lst (xs.set pk (.ref tm))) = H7 at s7k f7 w7 lx7 ⊢
      refine ⟨_, rfl, _, rfl, p, _, _, _, rfl, rfl, SqL.of (s7k p _ nFp.symm hx6), atI_nat exp', _, rfl, _, rfl, F, _, _, mt, rfl, rfl, f7, ixN_nat (by rw [List.length_set, lx.1]; exact hmt), ?_⟩
      have lx8 := lx7.put (o := .lst ((xs.set pk (.ref tm)).set mt (.ref tp))) f7
      have hput : ∀ (t : Addr) (l : List Nat), H t = some (.tup (nv l)) → Lot (upd H7 F (.lst ((xs.set pk (.ref tm)).set mt (.ref tp)))) (.ref t) l := fun t l ht => by
        have n1 : t ≠ F := fun z => by rw [z, hF0] at ht; cases ht
        exact ⟨t, rfl, (upd_ne n1).trans (s7k t _ n1 (k06 t _ (nwt ht) ht))⟩
      refine ⟨_, _, (ls.set pk lm).set mt lp, rfl, ?_, w7.put nF, upd_same, (upd_ne nFL.symm).trans (s7k L _ nFL.symm l6), (lx8.set pk (hput tm lm htm)).set mt (hput tp lp htp), st.swap elp elm, .inl ew⟩
      intro b u hb e
      have nb : b ≠ F := fun z => by rw [z, hF0] at e; cases e
      rw [upd_ne nb]; exact s7k b u nb (k06 b u hb e)
    · exact ⟨_, xs, ls, rfl, k06, w6, f6, l6, lx6, st, .inr ⟨rfl, rfl⟩⟩
  rintro σ' H7 ⟨v8, ys, ls', rfl, k7, w7, f7, l7, lx7, st7, alt⟩
  -- if way == 2 and fresh != []
  refine ⟨fun σ' H' => ∃ v8 ys ls', σ' = [some (.ref wl), some (.ref p), some (.int (n : Int)), some (.int way), some (.int (pk : Int)), some (.int (mt : Int)), some (.ref L), some (.ref F), v8, none] ∧ Keep wl H H' ∧ Well H' wl (m + 4) ∧ H' F = some (.lst ys) ∧ LotsX H' ys ls' ∧ Stg n ls' ∧ (way = 1 ∨ way = 2 ∨ (ys = xs ∧ ls' = ls)), ?_, ?_⟩
  · refine ⟨_, rfl, rfl, _, rfl, ?_⟩
    refine ite2 (fun c2 => ?_) (fun c2 => ?_)
    · have ew : way = 2 := V.int.inj (of_decide_eq_true c2)
      obtain ⟨rfl, rfl⟩ : ys = xs ∧ ls' = ls := by
        rcases alt with e | e
        · omega
        · exact e
      refine ⟨_, rfl, ⟨by show 0 ≤ sizeLine; decide, fun Y hY => ?_⟩⟩
      have s8 := (Same.refl H7).new (o := .lst []) hY
      have y8 : upd H7 Y (.lst []) Y = some (.lst (nv [])) := upd_same
      generalize upd H7 Y (.lst []) = H8 at s8 y8 ⊢
      refine ⟨_, _, dp_list (s8 _ _ l7), dp_list y8, shaped_nD fr, shaped_nD [], _, rfl, ?_⟩
      rw [eqv_list, eqv_nD]
      have k8 := k7.trans s8.keep
      have w8 := w7.same s8
      have f8 := s8 _ _ f7
      have l8 := s8 _ _ l7
      by_cases cf : fr = []
      · rw [decide_eq_true cf]
        exact iteF ⟨_, _, _, rfl, k8, w8.mono (by omega), f8, lx7.same s8, st7, .inr (.inr ⟨rfl, rfl⟩)⟩
      rw [decide_eq_false cf]
      have fpos : 0 < fr.length := List.length_pos_iff.mpr cf
      have hx8 := k8 p _ hwp.symm hx
      refine iteT ⟨_, rfl, _, rfl, p, _, _, _, rfl, rfl, SqL.of hx8, atI_nat exp', _, rfl, _, rfl, _, rfl, _, _, rfl, .inl ⟨_, SqL.of l8, rfl⟩, wl, m + 3, _, rfl, w8, by omega, by rw [nv_length]; omega, by rw [nv_length]; omega, fun d H9 d0 d1 k9 w9 => ?_⟩
      obtain ⟨dn, rfl⟩ : ∃ dn : Nat, d = (dn : Int) := ⟨d.toNat, by omega⟩
      rw [nv_length] at d1
      have hdn : dn < fr.length := by omega
      have k09 := k8.trans k9
      have l9 := k9 L _ nL l8
      have f9 := k9 F _ nF f8
      have lx9 := (lx7.same s8).keep k9 (w8.here.choose_spec)
      obtain ⟨hx1', hx2'⟩ := hfr1 _ (List.getElem_mem hdn)
      refine ⟨L, _, _, _, rfl, rfl, SqL.of l9, atI_nat (nv_get (List.getElem?_eq_getElem hdn)), ⟨by show 1 ≤ sizeLine; decide, fun T hT => ?_⟩⟩
      generalize fr[dn] = x at hx1' hx2' ⊢
      have s10 := (Same.refl H9).new (o := .tup [.int (x : Int)]) hT
      have t10 : upd H9 T (.tup [.int (x : Int)]) T = some (.tup (nv [x])) := upd_same
      generalize upd H9 T (.tup [.int (x : Int)]) = H10 at s10 t10 ⊢
      have htp10 := s10 _ _ (k09 tp _ (nwt htp) htp)
      have mlp := List.mem_of_getElem? elp
      have llp := st.one mlp
      refine catA htp10 t10 (by rw [nv_length, nv_length]; simp; omega) (fun c H11 s11 hc => ?_)
      rw [← nv_append] at hc
      have ndx : (lp ++ [x]).Nodup := by
        refine List.nodup_append.mpr ⟨(st.up lp mlp).imp (fun {a b} h => by omega), by simp, fun a ha b hb => ?_⟩
        rw [List.mem_singleton.mp hb]
        intro z
        rw [z] at ha
        exact hx2' (List.mem_flatten.mpr ⟨lp, mlp, ha⟩)
      refine ⟨c, (lp ++ [x]).map fun v : Nat => (v : Int), rfl, by rw [List.map_map]; exact SqT.of hc, fun ms p2 pm rise hp2 => ?_⟩
      obtain ⟨ns, rfl, pn, up⟩ := up_nat pm rise ndx
      rw [List.map_map]
      have s12 := s11.new (o := .lst (nv ns)) hp2
      have p12 : upd H11 p2 (.lst (nv ns)) p2 = some (.lst (nv ns)) := upd_same
      generalize hH : upd H11 p2 (.lst (nv ns)) = H12 at s12 p12
      have hH' : upd H11 p2 (.lst (ns.map (V.int ∘ fun v : Nat => (v : Int)))) = H12 := hH
      rw [hH']
      refine ⟨p2, _, rfl, .inl ⟨SqL.of p12, fun t ht => ?_⟩⟩
      have s13 := s12.new (o := .tup (nv ns)) ht
      have t13 : upd H12 t (.tup (nv ns)) t = some (.tup (nv ns)) := upd_same
      generalize upd H12 t (.tup (nv ns)) = H13 at s13 t13 ⊢
      have s913 := s10.trans s13
      have f13 := s913 _ _ f9
      refine ⟨_, rfl, _, rfl, F, _, _, pk, rfl, rfl, f13, ixN_nat (by rw [lx.1]; exact hpk), ?_⟩
      have nT : t ≠ F := fun z => by rw [z, f13] at t13; cases t13
      refine ⟨_, _, _, rfl, ?_, ((w9.same s913).put nF).mono (by omega), upd_same, ((lx9.same s913).put f13).set pk ⟨t, rfl, (upd_ne nT).trans t13⟩, st.more elp hx2' hx1' pn up, .inr (.inl ew)⟩
      intro b u hb e
      have nb : b ≠ F := fun z => by rw [z, hF0] at e; cases e
      rw [upd_ne nb]; exact s913 b u (k09 b u hb e)
    · refine ⟨_, ys, ls', rfl, k7, w7.mono (by omega), f7, lx7, st7, ?_⟩
      rcases alt with e | e
      · exact .inl e
      · exact .inr (.inr e)
  rintro σ' H8 ⟨v8, ys2, ls2, rfl, k8, w8, f8, lx8, st8, alt2⟩
  -- if way == 3 and len(lots[pick]) > 1
  refine ⟨fun σ' H' => ∃ v8 ys ls', σ' = [some (.ref wl), some (.ref p), some (.int (n : Int)), some (.int way), some (.int (pk : Int)), some (.int (mt : Int)), some (.ref L), some (.ref F), v8, none] ∧ Keep wl H H' ∧ Well H' wl (m + 5) ∧ H' F = some (.lst ys) ∧ LotsX H' ys ls' ∧ Stg n ls', ?_, ?_⟩
  · refine ⟨_, rfl, rfl, _, rfl, ?_⟩
    refine ite2 (fun c2 => ?_) (fun c2 => ?_)
    · have ew : way = 3 := V.int.inj (of_decide_eq_true c2)
      obtain ⟨rfl, rfl⟩ : ys2 = xs ∧ ls2 = ls := by
        rcases alt2 with e | e | e
        · omega
        · omega
        · exact e
      have hx8 := k8 p _ hwp.symm hx
      have htp8 := k8 tp _ (nwt htp) htp
      have mlp := List.mem_of_getElem? elp
      have llp := st.one mlp
      refine ⟨_, rfl, _, rfl, p, _, _, _, rfl, rfl, SqL.of hx8, atI_nat exp', _, _, rfl, .inr ⟨_, SqT.of htp8, rfl⟩, _, _, rfl, rfl, _, rfl, ?_⟩
      rw [nv_length]
      refine ite2 (fun c3 => ?_) (fun c3 => ?_)
      · have hlen : (1 : Int) < (lp.length : Int) := of_decide_eq_true c3
        refine ⟨_, rfl, _, rfl, _, rfl, p, _, _, _, rfl, rfl, SqL.of hx8, atI_nat exp', _, _, rfl, .inr ⟨_, SqT.of htp8, rfl⟩, wl, m + 4, _, rfl, w8, by omega, by rw [nv_length]; omega, by rw [nv_length]; omega, fun d H9 d0 d1 k9 w9 => ?_⟩
        rw [nv_length] at d1
        obtain ⟨dn, rfl⟩ : ∃ dn : Nat, d = (dn : Int) := ⟨d.toNat, by omega⟩
        have hdn : dn < lp.length := by omega
        have k09 := k8.trans k9
        have hx9 := k9 p _ hwp.symm hx8
        have htp9 := k9 tp _ (nwt htp) htp8
        have f9 := k9 F _ nF f8
        have lx9 := lx8.keep k9 (w8.here.choose_spec)
        dsimp only [tNoPart]
        refine ⟨_, rfl, _, rfl, p, _, _, _, rfl, rfl, SqL.of hx9, atI_nat exp', _, rfl, _, rfl, ?_⟩
        refine slA htp9 (fun a1 H10 s10 h10 => ?_)
        rw [cut_to, nv_take] at h10
        refine ⟨_, rfl, _, rfl, p, _, _, _, rfl, rfl, SqL.of (s10 _ _ hx9), atI_nat exp', _, rfl, _, _, rfl, rfl, _, rfl, ?_⟩
        dsimp only [tNoPart]
        refine slA (s10 _ _ htp9) (fun a2 H11 s11 h11 => ?_)
        rw [show ((dn : Int) + 1) = ((dn + 1 : Nat) : Int) by omega, cut_from, nv_drop] at h11
        have elen : (lp.take dn).length + (lp.drop (dn + 1)).length = lp.length - 1 := by rw [List.length_take, List.length_drop]; omega
        refine catA (s11 _ _ h10) h11 (by rw [nv_length, nv_length]; omega) (fun t H12 s12 t12 => ?_)
        rw [← nv_append, ← List.eraseIdx_eq_take_drop_succ] at t12
        have s912 := (s10.trans s11).trans s12
        have f12 := s912 _ _ f9
        refine ⟨_, rfl, _, rfl, F, _, _, pk, rfl, rfl, f12, ixN_nat (by rw [lx.1]; exact hpk), ?_⟩
        have nT : t ≠ F := fun z => by rw [z, f12] at t12; cases t12
        refine ⟨_, _, _, rfl, ?_, (w9.same s912).put nF, upd_same, ((lx9.same s912).put f12).set pk ⟨t, rfl, (upd_ne nT).trans t12⟩, st.less elp ?_ (List.eraseIdx_sublist _ _)⟩
        · intro b u hb e
          have nb : b ≠ F := fun z => by rw [z, hF0] at e; cases e
          rw [upd_ne nb]; exact s912 b u (k09 b u hb e)
        · intro z
          have z2 := congrArg List.length z
          rw [List.length_eraseIdx, if_pos hdn] at z2
          simp at z2; omega
      · exact ⟨_, _, _, rfl, k8, w8.mono (by omega), f8, lx8, st8⟩
    · exact ⟨_, ys2, ls2, rfl, k8, w8.mono (by omega), f8, lx8, st8⟩
  rintro σ' H9 ⟨v9, ys3, ls3, rfl, k9, w9, f9, lx9, st9⟩
  exact ⟨_, rfl, q F ls3 H9 k9 w9 hF0 ⟨ys3, f9, lx9⟩ st9⟩
end

end My

namespace My
open PySem PySem.Spec PyProof.Rows L2
/-! ### the law's own fault -/
def spLFault : Sp := fun vs H Q _ => ∃ (a p : Addr) (hs : Hs) (ls : List (List Nat)), vs = [.ref a, .ref p] ∧ H a = some (.tup (hs.map hv)) ∧ hs.length ≤ 60 ∧ Lots H p ls ∧ Stg hs.length ls ∧
  ∀ r v H', IsFault hs ls r → Same H H' → FaultV H' r v → Q v H'
theorem wrong_step {hs : Hs} {seen l : List Nat} {j : Nat} (hj : j < l.length) : wrongIn hs seen (l.take (j + 1)) = wrongIn hs seen (l.take j) ++ wrongIn hs seen [l[j]] := by
  have tk : l.take (j + 1) = l.take j ++ [l[j]] := by rw [List.take_add_one, List.getElem?_eq_getElem hj]; rfl
  rw [tk, wrongIn_snoc]
theorem wrong_len (hs : Hs) (seen l : List Nat) : (wrongIn hs seen l).length ≤ l.length := List.length_filter_le _ _
theorem wrong_first {hs : Hs} {seen l rest : List Nat} {v : Nat} {m : Int} (up : l.Pairwise (· < ·)) (e : wrongIn hs seen l = v :: rest) (hm : m ∈ (wrongIn hs seen l).map fun v : Nat => (v : Int)) (hle : ∀ x ∈ (wrongIn hs seen l).map (fun v : Nat => (v : Int)), m ≤ x) : m = (v : Int) := by
  have up2 : (wrongIn hs seen l).Pairwise (· < ·) := up.sublist List.filter_sublist
  rw [e] at hm hle up2
  have h1 := hle (v : Int) (List.mem_map.mpr ⟨v, List.mem_cons_self, rfl⟩)
  obtain ⟨u, hu, rfl⟩ := List.mem_map.mp hm
  rcases List.mem_cons.mp hu with z | z
  · rw [z]
  · have := (List.pairwise_cons.mp up2).1 u z
    omega
section
variable {P : Program} {w : World} {K : PySem.W.Frag} {mg : Str → Option Value} {base : Heap}
abbrev st__law_fault : Stmt := topS 29
abbrev N__law_fault : List Str := ["plan", "lots", "seen", "at", "lot", "wrong", "one"]
theorem sc__law_fault : FnScope N__law_fault ["plan", "lots"] (defScope st__law_fault) := ⟨rfl, rfl, rfl, by decide +kernel, rfl, by decide +kernel, by decide +kernel⟩
theorem ok__law_fault (D : Df K mg "_law_fault" st__law_fault ["plan", "lots"]) (B : Bl mg) : Kn P w K mg base CX0 1 "_law_fault" st__law_fault ["plan", "lots"] spLFault := by
  refine D.ok sc__law_fault (fun vs H Q E h => ?_) (fun f cdv A outer s H vs Q E hr h => ?_)
  · obtain ⟨a, p, hs, ls, rfl, _⟩ := h; rfl
  obtain ⟨a, p, hs, ls, rfl, ha, hl, ⟨xs, hx, lx⟩, st, q⟩ := h
  refine ⟨_, ((pss_cons (ps_set (i := 2) sc__law_fault.nd rfl (Or.inr rfl) (pe_lst pa_nil))
      (pss_cons (ps_for PassesOwn.never rfl (pi_enum (by rfl) B.enumerate (pa_cons (pv 1) pa_nil)) (pg_tup rfl (pgs_cons (pg_name (i := 3) sc__law_fault.nd rfl (Or.inl rfl)) (pgs_cons (pg_name (i := 4) sc__law_fault.nd rfl (Or.inl rfl)) pgs_nil))) (pss_cons (ps_expr (pe_bm PySem.F.plainAttrs_list PySem.F.slot_list_extend PySem.F.type_list_extend mt_extendT (pv 2) (pa_cons (pv 4) pa_nil)))
      (pss_cons (ps_setLc (i := 5) (own := [("one", 6)]) (g := gName 6) rfl sc__law_fault.nd rfl rfl (sw_true rfl rfl rfl (by decide +kernel)) (pi_tup (pv 4)) (blkOk_by (N := N__law_fault) (sc := defScope st__law_fault) (own := [("one", 6)]) (by decide +kernel)) (fun _ _ _ _ _ => by (exact (pg_name (i := 6) sc__law_fault.nd rfl (Or.inl rfl)))) (fun _ _ _ _ _ => by exact (pts_one (PW.pt (pw_and (pt_cmpR op_notN (pe_ix (ix_tupK K) (pv 0) (pv 6) (fun _ _ => rfl)) pe_non (nomark _)) (pw_and1 (pt_cmpR (op_notIn_seqK K) (pe_ix (ix_tupK K) (pv 0) (pv 6) (fun _ _ => rfl)) (pv 2) (by rfl))))))) (fun _ _ _ _ _ => by exact (pv 6)))
      (pss_one (ps_if (pt_cmpR (op_neD hr.units) (pv 5) (pe_lst pa_nil) (nomark _)) (pss_one (ps_ret (pe_tup (pa_cons (pv 3) (pa_cons (pe_callB (cr_min rfl) (by rfl) B.min (by decide +kernel) (pa_cons (pv 5) pa_nil)) pa_nil))))) pss_nil)))))
      (pss_one (ps_ret pe_non))))), ?_⟩
  have size := st.size
  refine ⟨by show 0 ≤ sizeLine; decide, fun S hS => ?_⟩
  have s1 := (Same.refl H).new (o := .lst []) hS
  have o1 : upd H S (.lst []) S = some (.lst (nv [])) := upd_same
  generalize upd H S (.lst []) = H1 at s1 o1 ⊢
  refine ⟨_, rfl, p, _, rfl, SqL.of (s1 _ _ hx), for_it (walk_enum (xs := xs)) (fun i σ H' => ∃ v3 v4 v5, σ = [some (.ref a), some (.ref p), some (.ref S), v3, v4, v5, none] ∧ Same H H' ∧ H' S = some (.lst (nv (ls.take i).flatten)) ∧
      ∀ (j : Nat) (m : List Nat), j < i → ls[j]? = some m → wrongIn hs (ls.take (j + 1)).flatten m = []) ⟨_, _, _, rfl, s1, o1, fun j m c => absurd c (Nat.not_lt_zero _)⟩ (fun i σ H' _ z => ?_) ?_ ?_⟩
  · obtain ⟨_, _, _, _, z, _⟩ := z
    exact SqL.of (z _ _ hx)
  · rintro i x σ H2 H3 hi ⟨v3, v4, v5, rfl, s2, k2, pre⟩ ⟨T, x1, x2, rfl, hT, rfl, e1, e2⟩
    have e1' := Option.some.inj e1; subst e1'
    obtain ⟨t, l, el, rfl, ht⟩ := lx.at e2
    have le1 := flat_len (ls := ls) (i + 1)
    have et : (ls.take (i + 1)).flatten = (ls.take i).flatten ++ l := by rw [List.take_add_one, el]; simp
    rw [et, List.length_append] at le1
    have ml := List.mem_of_getElem? el
    have s4 : Same H (upd H2 T (.tup [.int (i : Int), .ref t])) := s2.new hT
    have k4 : upd H2 T (.tup [.int (i : Int), .ref t]) S = some (.lst (nv (ls.take i).flatten)) := (upd_ne (ne_of_none k2 hT)).trans k2
    refine ⟨T, _, rfl, SqT.of upd_same, rfl, _, _, rfl, _, _, rfl, rfl, ?_⟩
    generalize upd H2 T (.tup [.int (i : Int), .ref t]) = H4 at s4 k4 ⊢
    refine ⟨_, rfl, .inl ⟨rfl, _, SqL.of k4⟩, _, rfl, S, t, _, _, rfl, rfl, k4, SqT.of (s4 _ _ ht), by rw [nv_length, nv_length]; exact Nat.le_of_lt (szl (by omega)), ?_⟩
    have s5 : Same H (upd H4 S (.lst (nv (ls.take i).flatten ++ nv l))) := s4.upd hS
    have k5 : upd H4 S (.lst (nv (ls.take i).flatten ++ nv l)) S = some (.lst (nv (ls.take (i + 1)).flatten)) := by rw [upd_same, et, nv_append]
    generalize upd H4 S (.lst (nv (ls.take i).flatten ++ nv l)) = H5 at s5 k5 ⊢
    have llt : ∀ v ∈ l, v < hs.length := fun v hv' => st.lt _ (List.mem_flatten.mpr ⟨l, ml, hv'⟩)
    refine ⟨_, rfl, t, rfl, ⟨_, SqT.of (s5 _ _ ht)⟩, fun W hW => lc_it (walk_tup (xs := nv l)) (fun j H' => Same H5 H' ∧ H' W = some (.lst (nv (wrongIn hs (ls.take (i + 1)).flatten (l.take j))))) ⟨(Same.refl H5).new hW, upd_same⟩ (fun j H' _ z => SqT.of (z.1 _ _ (s5 _ _ ht))) ?_ ?_⟩
    · rintro j x H6 H7 hj ⟨s6, w6⟩ ⟨rfl, e3⟩
      rw [nv_length] at hj
      rw [nv_get (List.getElem?_eq_getElem hj)] at e3
      cases e3
      obtain ⟨o, ho⟩ : ∃ o, hs[l[j]]? = some o := ⟨_, List.getElem?_eq_getElem (llt _ (List.getElem_mem hj))⟩
      have wl := wrong_len hs (ls.take (i + 1)).flatten (l.take j)
      rw [List.length_take] at wl
      have ha6 := s6 _ _ (s5 _ _ ha)
      have no : wrongIn hs (ls.take (i + 1)).flatten [l[j]] = [] → Same H5 H7 ∧ H7 W = some (.lst (nv (wrongIn hs (ls.take (i + 1)).flatten (l.take (j + 1))))) := fun z => ⟨s6, by rw [wrong_step hj, z, List.append_nil]; exact w6⟩
      refine ⟨rfl, _, rfl, _, rfl, a, _, _, _, rfl, rfl, SqT.of ha6, atI_nat (hv_at ho), rfl, _, rfl, ?_⟩
      cases o with
      | none => exact iteF (no (wrongIn_root ho))
      | some u =>
        refine iteT ⟨_, rfl, _, rfl, a, _, _, _, rfl, rfl, SqT.of ha6, atI_nat (hv_at ho), _, rfl, S, _, rfl, .inl (SqL.of (s6 _ _ k5)), rfl, flat_nv _, _, rfl, ?_⟩
        have ei : inV (hv (some u)) (nv (ls.take (i + 1)).flatten) = decide (u ∈ (ls.take (i + 1)).flatten) := inV_nv u _
        rw [ei, if_pos rfl]
        by_cases m : u ∈ (ls.take (i + 1)).flatten
        · rw [decide_eq_true m]
          exact iteF (no (wrongIn_in ho m))
        · rw [decide_eq_false m]
          refine iteT ⟨_, rfl, _, w6, by rw [nv_length]; exact szl (by omega), s6.upd hW, ?_⟩
          rw [upd_same, wrong_step hj, wrongIn_out ho m, nv_append]; rfl
    rintro H6 ⟨s6, w6⟩
    rw [nv_length, List.take_length] at w6
    have s16 := s5.trans s6
    refine ⟨_, rfl, ⟨by show 0 ≤ sizeLine; decide, fun Z hZ => ?_⟩⟩
    have s7 := s16.new (o := .lst []) hZ
    have z7 : upd H6 Z (.lst []) Z = some (.lst (nv [])) := upd_same
    have w7 : upd H6 Z (.lst []) W = some (.lst (nv (wrongIn hs (ls.take (i + 1)).flatten l))) := (upd_ne (ne_of_none w6 hZ)).trans w6
    have k7 : upd H6 Z (.lst []) S = some (.lst (nv (ls.take (i + 1)).flatten)) := (upd_ne (ne_of_none (s6 _ _ k5) hZ)).trans (s6 _ _ k5)
    generalize upd H6 Z (.lst []) = H7 at s7 z7 w7 k7 ⊢
    refine ⟨_, _, dp_list w7, dp_list z7, shaped_nD _, shaped_nD [], _, rfl, ?_⟩
    rw [eqv_list, eqv_nD]
    cases ew : wrongIn hs (ls.take (i + 1)).flatten l with
    | nil =>
      rw [decide_eq_true rfl]
      refine iteF ⟨_, _, _, rfl, s7, k7, fun j m c e => ?_⟩
      by_cases c2 : j < i
      · exact pre j m c2 e
      · have ej : j = i := by omega
        subst ej
        rw [el] at e; cases e
        exact ew
    | cons v rest =>
      rw [decide_eq_false (by intro z; cases z)]
      refine iteT ⟨_, rfl, _, rfl, W, (wrongIn hs (ls.take (i + 1)).flatten l).map fun v : Nat => (v : Int), rfl, by rw [List.map_map]; exact SqL.of w7, by rw [List.length_map, ew]; exact Nat.succ_pos _, fun m hm hle => ?_⟩
      have em := wrong_first (st.up l ml) ew hm hle
      subst em
      refine ⟨by show 2 ≤ sizeLine; decide, fun r hr2 => ?_⟩
      exact q (some (i, v)) (.ref r) _ ⟨pre, l, rest, el, ew⟩ (s7.new hr2) ⟨r, rfl, upd_same⟩
  · rintro σ H3 ⟨v3, v4, v5, rfl, s3, k3, pre⟩
    exact q none .non H3 (fun i l e => pre i l (by rw [lx.1]; exact (List.getElem?_eq_some_iff.mp e).1) e) s3 rfl
end

end My

namespace My
open PySem PySem.Spec PyProof.Rows L2
/-! ### what a value reads as, further on -/
theorem tupAt_sameV {H H' : Hp} {x : V} (v : Vd H x) (s : Same H H') : tupAt H' x = tupAt H x := by
  cases v with
  | lst h => rw [tupAt_lst h, tupAt_lst (s _ _ h)]
  | tup h => rw [tupAt_tup h, tupAt_tup (s _ _ h)]
  | dK h => rw [tupAt_dK h, tupAt_dK (s _ _ h)]
  | _ => rfl
theorem Askd.sameV {H H' : Hp} {x : V} (k : Askd H x) (s : Same H H') : Askd H' x :=
  ⟨k.vd.same s, fun xs e => by
    rw [tupAt_sameV k.vd s] at e
    exact ⟨(k.items xs e).1, fun y hy => ((k.items xs e).2 y hy).same s⟩⟩
theorem isF_same {H H' : Hp} {x : V} (v : Vd H x) (s : Same H H') : IsF H' x ↔ IsF H x := by
  unfold IsF
  rw [tupAt_sameV v s]
mutual
theorem Rp.same {z : Bool} {H H' : Hp} (s : Same H H') : ∀ (d : PyData) (x : V), Rp z H x d → Rp z H' x d
  | .none, _, h => by cases h; exact .non
  | .bool b, _, h => by cases h; exact .bl b
  | .int i, _, h => by cases h; exact .int i
  | .str x, _, h => by cases h; exact .str x
  | .list ds, _, h => by
    cases h with
    | lst e n r => exact .lst (s _ _ e) n (Rps.same s ds _ r)
  | .tuple ds, _, h => by
    cases h with
    | tup e r => exact .tup (s _ _ e) (Rps.same s ds _ r)
  | .dict _, _, h => by
    cases h with
    | dct y e => exact .dct y (s _ _ e)
theorem Rps.same {z : Bool} {H H' : Hp} (s : Same H H') : ∀ (ds : List PyData) (xs : List V), Rps z H xs ds → Rps z H' xs ds
  | [], _, h => by cases h; exact .nil
  | d :: ds, _, h => by
    cases h with
    | cons a r => exact .cons (Rp.same s d _ a) (Rps.same s ds _ r)
end
theorem shows_of {d : PyData} (h1 : d.showable = true) (h2 : d.leavesShort 100 = true) (h3 : d.bulk ≤ 100000) (h4 : d.depth ≤ 60) : Shows d := by
  refine ⟨h1, ?_, h4⟩
  have z := PyData.shown_le_bulk 100 (by decide) d h2
  rw [sizeLine_eq]
  omega
structure Small (d : PyData) : Prop where
  ok : d.showable = true
  short : d.leavesShort 100 = true
  bulk : d.bulk ≤ 10
  deep : d.depth ≤ 3
theorem small_all : ∀ ds : List PyData, (∀ d ∈ ds, Small d) → PyData.showableAll ds = true ∧ PyData.leavesShortAll 100 ds = true ∧ PyData.bulkAll ds ≤ 11 * ds.length ∧ PyData.depthAll ds ≤ 3
  | [], _ => ⟨rfl, rfl, Nat.le_refl _, Nat.zero_le _⟩
  | d :: ds, h => by
    obtain ⟨a, b, c, e⟩ := small_all ds fun x hx => h x (List.mem_cons_of_mem _ hx)
    have k := h d List.mem_cons_self
    refine ⟨by rw [PyData.showableAll, k.ok, a]; rfl, by rw [PyData.leavesShortAll, k.short, b]; rfl, ?_, ?_⟩
    · rw [PyData.bulkAll, List.length_cons]
      have := k.bulk
      omega
    · rw [PyData.depthAll]
      exact Nat.max_le.mpr ⟨k.deep, e⟩
theorem shows_tuple {ds : List PyData} (h : ∀ d ∈ ds, Small d) (hl : ds.length ≤ 1000) : Shows (.tuple ds) := by
  obtain ⟨a, b, c, e⟩ := small_all ds h
  exact shows_of (by rw [PyData.showable]; exact a) (by rw [PyData.leavesShort]; exact b) (by rw [PyData.bulk]; omega) (by rw [PyData.depth]; omega)
theorem shows_list {ds : List PyData} (h : ∀ d ∈ ds, Small d) (hl : ds.length ≤ 1000) : Shows (.list ds) := by
  obtain ⟨a, b, c, e⟩ := small_all ds h
  exact shows_of (by rw [PyData.showable]; exact a) (by rw [PyData.leavesShort]; exact b) (by rw [PyData.bulk]; omega) (by rw [PyData.depth]; omega)
theorem small_int {i : Int} (h : i.natAbs < 10 ^ 12) : Small (.int i) := by
  refine ⟨?_, ?_, Nat.zero_le _, Nat.zero_le _⟩
  · have z : i.natAbs < 2 ^ 1920 := Nat.lt_trans h (by decide +kernel)
    exact decide_eq_true (PySem.Flt.log2_lt_of (by decide) z)
  · exact decide_eq_true (Nat.le_trans (PyData.shown_int_le h) (by decide))
theorem small_non : Small .none := ⟨rfl, rfl, Nat.zero_le _, Nat.zero_le _⟩
theorem small_bl (b : Bool) : Small (.bool b) := ⟨rfl, rfl, Nat.zero_le _, Nat.zero_le _⟩

def hD : Option Nat → PyData
  | none => .none
  | some u => .int (u : Int)
theorem rps_hv {z : Bool} {H : Hp} : ∀ hs : Hs, Rps z H (hs.map hv) (hs.map hD)
  | [] => .nil
  | none :: hs => .cons .non (rps_hv hs)
  | some u :: hs => .cons (.int (u : Int)) (rps_hv hs)
theorem small_hD {hs : Hs} (ib : InB hs) (hl : hs.length ≤ 60) : ∀ d ∈ hs.map hD, Small d := fun d hd => by
  obtain ⟨o, ho, rfl⟩ := List.mem_map.mp hd
  obtain ⟨v, e⟩ := List.getElem?_of_mem ho
  cases o with
  | none => exact small_non
  | some u =>
    have q := ib v u e
    exact small_int (by have z : (10 : Nat) ^ 12 = 1000000000000 := by decide
                        omega)

def spLaw (K : PySem.W.Frag) : Sp := fun vs H Q _ => ∃ (a : Addr) (ns : List Int), vs = [.ref a] ∧ SqL K H a (ns.map V.int) ∧ ns.length ≤ 63 ∧ ∀ H', Q (.bl true) H'
theorem Well.ne {H : Hp} {wl p : Addr} {n : Nat} (w : Well H wl n) (h : H p = none) : p ≠ wl := by
  obtain ⟨l, e⟩ := w.here
  exact (ne_of_none e h).symm
theorem thenK {H H1 H2 : Hp} {wl : Addr} (s : Same H H1) (hn : H wl = none) (k : Keep wl H1 H2) : Same H H2 := fun b o e => k b o (ne_of_none e hn) (s b o e)
theorem isF_fo {H : Hp} {x : V} {hs : Hs} (e : tupAt H x = some (hs.map hv)) (h : IsF H x) : Fo hs := by
  obtain ⟨hs', e', fo⟩ := h
  rw [e] at e'
  rw [hv_inj (Option.some.inj e')]; exact fo
/-- values that are no forests: by what their tuple is -/
theorem noF_none {H : Hp} {x : V} (h : tupAt H x = none) : ¬ IsF H x := fun ⟨hs, e, _⟩ => by rw [h] at e; cases e
theorem noF_nil {H : Hp} {x : V} (h : tupAt H x = some []) : ¬ IsF H x := fun ⟨hs, e, fo⟩ => by
  rw [h] at e
  have z := Option.some.inj e
  cases hs with
  | nil => exact fo.ne rfl
  | cons o r => cases z
theorem noF_odd {H : Hp} {x : V} {xs : List V} {y : V} (h : tupAt H x = some (xs ++ [y])) (hy : ∀ o, y ≠ hv o) : ¬ IsF H x := fun ⟨hs, e, fo⟩ => by
  rw [h] at e
  have z := Option.some.inj e
  have hm : y ∈ hs.map hv := by rw [← z]; simp
  obtain ⟨o, _, ho⟩ := List.mem_map.mp hm
  exact hy o ho.symm
theorem snoc_hs {hs hs' : Hs} {o : Option Nat} (h : hs.map hv ++ [hv o] = hs'.map hv) : hs' = hs ++ [o] := by
  have e : (hs ++ [o]).map hv = hs'.map hv := by rw [List.map_append]; exact h
  exact (hv_inj e).symm
theorem noF_self {H : Hp} {x : V} {hs : Hs} (h : tupAt H x = some (hs.map hv ++ [.int (hs.length : Int)])) : ¬ IsF H x := fun ⟨hs', e, fo⟩ => by
  rw [h] at e
  have z := snoc_hs (o := some hs.length) (Option.some.inj e)
  subst z
  have hat : (hs ++ [some hs.length])[hs.length]? = some (some hs.length) := by
    rw [List.getElem?_append_right (Nat.le_refl _), Nat.sub_self]; rfl
  have no : ∀ v, Rch (hs ++ [some hs.length]) v → v ≠ hs.length := fun v r => by
    induction r with
    | root h1 => intro e1; rw [e1, hat] at h1; cases h1
    | step h1 _ ih =>
      intro e1
      rw [e1, hat] at h1
      cases h1
      exact ih rfl
  exact no hs.length (fo.all hs.length (by rw [List.length_append]; exact Nat.lt_succ_self _)) rfl
theorem noF_far {H : Hp} {x : V} {hs : Hs} (h : tupAt H x = some (hs.map hv ++ [.int ((hs.length : Int) + 1)])) : ¬ IsF H x := fun ⟨hs', e, fo⟩ => by
  rw [h] at e
  have z := snoc_hs (o := some (hs.length + 1)) (Option.some.inj e)
  subst z
  have hat : (hs ++ [some (hs.length + 1)])[hs.length]? = some (some (hs.length + 1)) := by
    rw [List.getElem?_append_right (Nat.le_refl _), Nat.sub_self]; rfl
  have q := fo.inb _ _ hat
  rw [List.length_append] at q
  exact Nat.lt_irrefl _ q
theorem askd_tup {H : Hp} {a : Addr} {xs : List V} (h : H a = some (.tup xs)) (hl : xs.length ≤ 1000) (hv' : ∀ y ∈ xs, Vd H y) : Askd H (.ref a) :=
  ⟨.tup h, fun ys e => by rw [tupAt_tup h] at e; cases e; exact ⟨hl, hv'⟩⟩
theorem askd_no {H : Hp} {x : V} (v : Vd H x) (h : tupAt H x = none) : Askd H x := ⟨v, fun ys e => by rw [h] at e; cases e⟩
theorem hv_ne_str (z : Str) (o : Option Nat) : V.str z ≠ hv o := by cases o <;> (intro e; cases e)
theorem hv_ne_bl (z : Bool) (o : Option Nat) : V.bl z ≠ hv o := by cases o <;> (intro e; cases e)
abbrev slL (a t : Addr) (at' : Int) (wl : Addr) (x : V) (way : Int) (y : V) (due : Str) (v7 v8 : Option V) : L2.St := [some (.ref a), some (.int at'), some (.ref wl), some x, some (.int way), some y, some (.str due), v7, v8]

/-! ### equal values of the same kinds -/
theorem ix_seqK {X : Cx} (K : PySem.W.Frag) (e : X.K = K := by rfl) : IxR X (rIx K) := by subst e; exact ix_seq
theorem Rps.len {z : Bool} {H : Hp} : ∀ {xs : List V} {ds : List PyData}, Rps z H xs ds → xs.length = ds.length
  | _, _, .nil => rfl
  | _, _, .cons _ r => by rw [List.length_cons, List.length_cons, Rps.len r]
theorem Rps.at {z : Bool} {H : Hp} : ∀ {xs : List V} {ds : List PyData} {k : Nat} {x : V}, Rps z H xs ds → xs[k]? = some x → ∃ d, ds[k]? = some d ∧ Rp z H x d
  | _, _, 0, x, .cons h _, e => by cases e; exact ⟨_, rfl, h⟩
  | _, _, k + 1, x, .cons _ r, e => by
    have z := Rps.at (k := k) (x := x) r e
    exact z
theorem depth_at : ∀ {ds : List PyData} {k : Nat} {d : PyData}, ds[k]? = some d → d.depth ≤ PyData.depthAll ds
  | d :: _, 0, _, e => by cases e; rw [PyData.depthAll]; exact Nat.le_max_left _ _
  | _ :: ds, k + 1, _, e => by rw [PyData.depthAll]; exact Nat.le_trans (depth_at (ds := ds) e) (Nat.le_max_right _ _)
mutual
def shortD : PyData → Bool
  | .list ds => decide (ds.length ≤ 1000) && shortDs ds
  | .tuple ds => decide (ds.length ≤ 1000) && shortDs ds
  | .none => true
  | .bool _ => true
  | .int _ => true
  | .str _ => true
  | .dict _ => false
def shortDs : List PyData → Bool
  | [] => true
  | d :: ds => shortD d && shortDs ds
end
theorem short_at : ∀ {ds : List PyData} {k : Nat} {d : PyData}, shortDs ds = true → ds[k]? = some d → shortD d = true
  | d :: _, 0, _, h, e => by
    cases e
    rw [shortDs, Bool.and_eq_true] at h
    exact h.1
  | _ :: ds, k + 1, _, h, e => by
    rw [shortDs, Bool.and_eq_true] at h
    exact short_at (ds := ds) h.2 e
def spSame (n : Nat) : Sp := fun vs H Q _ => ∃ (x y : V) (d : PyData), vs = [x, y] ∧ Rp false H x d ∧ Rp false H y d ∧ d.depth < n ∧ shortD d = true ∧ ∀ H', Same H H' → Q (.bl true) H'
section
variable {P : Program} {w : World} {K : PySem.W.Frag} {mg : Str → Option Value} {base : Heap}
abbrev st__law_same : Stmt := topS 23
abbrev N__law_same : List Str := ["found", "due", "k"]
theorem sc__law_same : FnScope N__law_same ["found", "due"] (defScope st__law_same) := ⟨rfl, rfl, rfl, by decide +kernel, rfl, by decide +kernel, by decide +kernel⟩
theorem ok__law_same (D : Df K mg "_law_same" st__law_same ["found", "due"]) (B : Bl mg) : ∀ n : Nat, Kn P w K mg base CX0 n "_law_same" st__law_same ["found", "due"] (spSame n)
  | 0 => by
    obtain ⟨f, fd, F, g, b, e⟩ := D.ex
    exact ⟨f, fd, ⟨fun _ _ _ _ h => (by obtain ⟨_, _, _, _, _, _, h, _⟩ := h; omega), fun _ _ _ _ _ _ _ _ _ _ _ _ _ h => (by obtain ⟨_, _, _, _, _, _, h, _⟩ := h; omega)⟩, g, F.kp, b, e⟩
  | n + 1 => by
    have K_law_same := ok__law_same D B n
    refine D.ok sc__law_same (fun vs H Q E h => ?_) (fun f cdv A outer s H vs Q E hr h => ?_)
    · obtain ⟨x, y, d, rfl, _⟩ := h; rfl
    obtain ⟨x, y, d, rfl, hx, hy, hd, hs, q⟩ := h
    refine ⟨_, ((pss_cons (ps_if (PW.pt (pw_or (pt_val (pe_callB call_isi (by rfl) B.isinstance (by decide +kernel) (pa_cons (pv 0) (pa_cons (pe_bltn (v := .ty "bool") (u := .type "bool") (by rfl) B.bool (by decide +kernel) rfl) pa_nil)))) (pw_or1 (pt_val (pe_callB call_isi (by rfl) B.isinstance (by decide +kernel) (pa_cons (pv 1) (pa_cons (pe_bltn (v := .ty "bool") (u := .type "bool") (by rfl) B.bool (by decide +kernel) rfl) pa_nil))))))) (pss_one (ps_ret (pe_and (pe_callB call_isi (by rfl) B.isinstance (by decide +kernel) (pa_cons (pv 0) (pa_cons (pe_bltn (v := .ty "bool") (u := .type "bool") (by rfl) B.bool (by decide +kernel) rfl) pa_nil))) (pe_and (pe_callB call_isi (by rfl) B.isinstance (by decide +kernel) (pa_cons (pv 1) (pa_cons (pe_bltn (v := .ty "bool") (u := .type "bool") (by rfl) B.bool (by decide +kernel) rfl) pa_nil))) (pe_one (pe_cmpR op_eq (pv 0) (pv 1) (nomark _))))))) pss_nil)
      (pss_cons (ps_if (pt_cmpR op_ne (pe_callB call_isi (by rfl) B.isinstance (by decide +kernel) (pa_cons (pv 0) (pa_cons (pe_bltn (v := .ty "list") (u := .type "list") (by rfl) B.list (by decide +kernel) rfl) pa_nil))) (pe_callB call_isi (by rfl) B.isinstance (by decide +kernel) (pa_cons (pv 1) (pa_cons (pe_bltn (v := .ty "list") (u := .type "list") (by rfl) B.list (by decide +kernel) rfl) pa_nil))) (nomark _)) (pss_one (ps_ret pe_bl)) pss_nil)
      (pss_cons (ps_if (PW.pt (pw_and (pt_val (pe_callB call_isiT (by rfl) B.isinstance (by decide +kernel) (pa_cons (pv 0) (pa_cons (pe_tup (pa_cons (pe_bltn (v := .ty "list") (u := .type "list") (by rfl) B.list (by decide +kernel) rfl) (pa_cons (pe_bltn (v := .ty "tuple") (u := .type "tuple") (by rfl) B.tuple (by decide +kernel) rfl) pa_nil))) pa_nil)))) (pw_and1 (pt_val (pe_callB call_isiT (by rfl) B.isinstance (by decide +kernel) (pa_cons (pv 1) (pa_cons (pe_tup (pa_cons (pe_bltn (v := .ty "list") (u := .type "list") (by rfl) B.list (by decide +kernel) rfl) (pa_cons (pe_bltn (v := .ty "tuple") (u := .type "tuple") (by rfl) B.tuple (by decide +kernel) rfl) pa_nil))) pa_nil))))))) (pss_cons (ps_if (pt_cmpR op_ne (pe_callB call_len (by rfl) B.len (by decide +kernel) (pa_cons (pv 0) pa_nil)) (pe_callB call_len (by rfl) B.len (by decide +kernel) (pa_cons (pv 1) pa_nil)) (nomark _)) (pss_one (ps_ret pe_bl)) pss_nil)
      (pss_one (ps_ret (pe_cmpR (op_eqD hr.units) (pe_lc (own := [("k", 2)]) (g := gName 2) rfl sc__law_same.nd (pi_range1 (by rfl) B.range (pa_cons (pe_callB call_len (by rfl) B.len (by decide +kernel) (pa_cons (pv 1) pa_nil)) pa_nil)) (blkOk_by (N := N__law_same) (sc := defScope st__law_same) (own := [("k", 2)]) (by decide +kernel)) (fun _ _ _ _ _ => by (exact (pg_name (i := 2) sc__law_same.nd rfl (Or.inl rfl)))) (fun _ _ _ _ _ => by exact (pts_one (pt_not (pt_val (pe_callF K_law_same hr pass0 (pa_cons (pe_ix (ix_seqK K) (pv 0) (pv 2) (fun _ _ => rfl)) (pa_cons (pe_ix (ix_seqK K) (pv 1) (pv 2) (fun _ _ => rfl)) pa_nil))))))) (fun _ _ _ _ _ => by exact (pv 2))) (pe_lst pa_nil) (nomark _))))) pss_nil)
      (pss_one (ps_ret (pe_and (pe_cmpR op_eq (pv 0) (pv 1) (nomark _)) (pe_one (pe_cmpR op_eq (pe_callB call_isi (by rfl) B.isinstance (by decide +kernel) (pa_cons (pv 0) (pa_cons (pe_bltn (v := .ty "int") (u := .type "int") (by rfl) B.int (by decide +kernel) rfl) pa_nil))) (pe_callB call_isi (by rfl) B.isinstance (by decide +kernel) (pa_cons (pv 1) (pa_cons (pe_bltn (v := .ty "int") (u := .type "int") (by rfl) B.int (by decide +kernel) rfl) pa_nil))) (nomark _)))))))))), ?_⟩
    obtain ⟨t, tx, ty, bi, bb, bl, bt, k1, k2, k3, k4, hk⟩ : ∃ t : String, (∀ H', Same H H' → TyX K H' x (.type t)) ∧ (∀ H', Same H H' → TyX K H' y (.type t)) ∧ ∃ bi bb bl bt : Bool, kitB t "int" = some bi ∧ kitB t "bool" = some bb ∧ kitB t "list" = some bl ∧ kitB t "tuple" = some bt ∧
        ((bb = true ∧ x = y ∧ scal x y = true) ∨ (bb = false ∧ bl = false ∧ bt = false ∧ x = y ∧ scal x y = true) ∨
          (bb = false ∧ (bl || bt) = true ∧ ∃ (a b : Addr) (xs ys : List V) (ds : List PyData), x = .ref a ∧ y = .ref b ∧ ((H a = some (.lst xs) ∧ H b = some (.lst ys)) ∨ (H a = some (.tup xs) ∧ H b = some (.tup ys))) ∧
            Rps false H xs ds ∧ Rps false H ys ds ∧ PyData.depthAll ds < n ∧ shortDs ds = true ∧ ds.length ≤ 1000)) := by
      cases hx with
      | non =>
        cases hy
        exact ⟨_, fun _ _ => .base .non, fun _ _ => .base .non, _, _, _, _, (by decide +kernel : kitB "NoneType" "int" = some false), (by decide +kernel : kitB "NoneType" "bool" = some false), (by decide +kernel : kitB "NoneType" "list" = some false), (by decide +kernel : kitB "NoneType" "tuple" = some false), .inr (.inl ⟨rfl, rfl, rfl, rfl, rfl⟩)⟩
      | bl b =>
        cases hy
        exact ⟨_, fun _ _ => .base (.bl b), fun _ _ => .base (.bl b), _, _, _, _, (by decide +kernel : kitB "bool" "int" = some true), (by decide +kernel : kitB "bool" "bool" = some true), (by decide +kernel : kitB "bool" "list" = some false), (by decide +kernel : kitB "bool" "tuple" = some false), .inl ⟨rfl, rfl, rfl⟩⟩
      | int i =>
        cases hy
        exact ⟨_, fun _ _ => .base (.int i), fun _ _ => .base (.int i), _, _, _, _, (by decide +kernel : kitB "int" "int" = some true), (by decide +kernel : kitB "int" "bool" = some false), (by decide +kernel : kitB "int" "list" = some false), (by decide +kernel : kitB "int" "tuple" = some false), .inr (.inl ⟨rfl, rfl, rfl, rfl, rfl⟩)⟩
      | str z =>
        cases hy
        exact ⟨_, fun _ _ => .base (.str z), fun _ _ => .base (.str z), _, _, _, _, (by decide +kernel : kitB "str" "int" = some false), (by decide +kernel : kitB "str" "bool" = some false), (by decide +kernel : kitB "str" "list" = some false), (by decide +kernel : kitB "str" "tuple" = some false), .inr (.inl ⟨rfl, rfl, rfl, rfl, rfl⟩)⟩
      | lst ea _ r1 =>
        cases hy with
        | lst eb _ r2 =>
          rw [shortD, Bool.and_eq_true, decide_eq_true_eq] at hs
          rw [PyData.depth] at hd
          exact ⟨_, fun _ s => .base (.lst (s _ _ ea)), fun _ s => .base (.lst (s _ _ eb)), _, _, _, _, (by decide +kernel : kitB "list" "int" = some false), (by decide +kernel : kitB "list" "bool" = some false), (by decide +kernel : kitB "list" "list" = some true), (by decide +kernel : kitB "list" "tuple" = some false),
            .inr (.inr ⟨rfl, rfl, _, _, _, _, _, rfl, rfl, .inl ⟨ea, eb⟩, r1, r2, by omega, hs.2, hs.1⟩)⟩
      | tup ea r1 =>
        cases hy with
        | tup eb r2 =>
          rw [shortD, Bool.and_eq_true, decide_eq_true_eq] at hs
          rw [PyData.depth] at hd
          exact ⟨_, fun _ s => .base (.tup (s _ _ ea)), fun _ s => .base (.tup (s _ _ eb)), _, _, _, _, (by decide +kernel : kitB "tuple" "int" = some false), (by decide +kernel : kitB "tuple" "bool" = some false), (by decide +kernel : kitB "tuple" "list" = some false), (by decide +kernel : kitB "tuple" "tuple" = some true),
            .inr (.inr ⟨rfl, rfl, _, _, _, _, _, rfl, rfl, .inr ⟨ea, eb⟩, r1, r2, by omega, hs.2, hs.1⟩)⟩
      | dct z _ => cases z
    have r0 := Same.refl H
    refine ⟨_, rfl, _, _, _, _, _, rfl, .ty _, tx _ r0, kit_ty k2, _, rfl, ?_⟩
    rcases hk with ⟨rfl, rfl, sc⟩ | ⟨rfl, rfl, rfl, rfl, sc⟩ | ⟨rfl, hb, a, b, xs, ys, ds, rfl, rfl, hab, r1, r2, dn, sh, ln⟩
    · -- two bools
      refine iteT (iteT ⟨_, rfl, _, _, _, _, _, rfl, .ty _, tx _ r0, kit_ty k2, _, rfl, iteT ⟨_, rfl, _, _, _, _, _, rfl, .ty _, ty _ r0, kit_ty k2, _, rfl, iteT ⟨_, rfl, _, rfl, sc, ?_⟩⟩⟩)
      rw [decide_eq_true rfl]
      exact q H r0
    · -- values without parts
      refine iteF ⟨_, rfl, _, _, _, _, _, rfl, .ty _, ty _ r0, kit_ty k2, _, rfl, iteF ?_⟩
      refine ⟨_, rfl, _, _, _, _, _, rfl, .ty _, tx _ r0, kit_ty k3, _, rfl, _, _, _, _, _, rfl, .ty _, ty _ r0, kit_ty k3, rfl, _, rfl, iteF ?_⟩
      refine ⟨_, rfl, by show 2 ≤ sizeLine; decide, fun p hp => ⟨_, p, _, _, _, _, rfl, upd_same, .cons (.ty _) (.cons (.ty _) .nil), tx _ (r0.new hp), kitAny_cons (kit_ty k3) (fun _ => kitAny_cons (kit_ty k4) (fun _ => kitAny_nil) (fun z => Bool.noConfusion z)) (fun z => Bool.noConfusion z), _, rfl, iteF (iteF ?_)⟩⟩
      have s1 := r0.new (o := .tup [.ty "list", .ty "tuple"]) hp
      refine ⟨_, rfl, _, rfl, sc, true, by rw [decide_eq_true rfl], iteT ⟨_, rfl, _, _, _, _, _, rfl, .ty _, tx _ s1, kit_ty k1, _, rfl, _, _, _, _, _, rfl, .ty _, ty _ s1, kit_ty k1, rfl, ?_⟩⟩
      rw [decide_eq_true rfl]
      exact q _ s1
    · -- two lists, two tuples
      refine iteF ⟨_, rfl, _, _, _, _, _, rfl, .ty _, ty _ r0, kit_ty k2, _, rfl, iteF ?_⟩
      refine ⟨_, rfl, _, _, _, _, _, rfl, .ty _, tx _ r0, kit_ty k3, _, rfl, _, _, _, _, _, rfl, .ty _, ty _ r0, kit_ty k3, ?_⟩
      refine ⟨by cases bl <;> rfl, false, by rw [decide_eq_true rfl]; rfl, iteF ?_⟩
      have any : PySem.W.kitAny K (.type t) [.type "list", .type "tuple"] = some true := by
        refine kitAny_cons (kit_ty k3) (fun z => ?_) (fun _ => rfl)
        subst z
        have z2 : bt = true := hb
        subst z2
        exact kitAny_cons (kit_ty k4) (fun z => Bool.noConfusion z) (fun _ => rfl)
      refine ⟨_, rfl, by show 2 ≤ sizeLine; decide, fun p hp => ?_⟩
      have s1 := r0.new (o := .tup [.ty "list", .ty "tuple"]) hp
      have op : upd H p (.tup [.ty "list", .ty "tuple"]) p = some (.tup [.ty "list", .ty "tuple"]) := upd_same
      generalize upd H p (.tup [.ty "list", .ty "tuple"]) = H1 at s1 op ⊢
      refine ⟨_, p, _, _, _, _, rfl, op, .cons (.ty _) (.cons (.ty _) .nil), tx _ s1, any, _, rfl, iteT ?_⟩
      refine ⟨_, rfl, by show 2 ≤ sizeLine; decide, fun p2 hp2 => ?_⟩
      have s2 := s1.new (o := .tup [.ty "list", .ty "tuple"]) hp2
      have op2 : upd H1 p2 (.tup [.ty "list", .ty "tuple"]) p2 = some (.tup [.ty "list", .ty "tuple"]) := upd_same
      generalize upd H1 p2 (.tup [.ty "list", .ty "tuple"]) = H2 at s2 op2 ⊢
      refine ⟨_, p2, _, _, _, _, rfl, op2, .cons (.ty _) (.cons (.ty _) .nil), ty _ s2, any, _, rfl, iteT ?_⟩
      have l1 := Rps.len r1
      have l2 := Rps.len r2
      have lenA : ∀ H', Same H H' → LenV K (.ref a) H' ds.length := fun H' s' => by
        rcases hab with ⟨ea, eb⟩ | ⟨ea, eb⟩
        · exact .inl ⟨xs, SqL.of (s' _ _ ea), l1.symm⟩
        · exact .inr ⟨xs, SqT.of (s' _ _ ea), l1.symm⟩
      have lenB : ∀ H', Same H H' → LenV K (.ref b) H' ds.length := fun H' s' => by
        rcases hab with ⟨ea, eb⟩ | ⟨ea, eb⟩
        · exact .inl ⟨ys, SqL.of (s' _ _ eb), l2.symm⟩
        · exact .inr ⟨ys, SqT.of (s' _ _ eb), l2.symm⟩
      have ixA : ∀ (H' : Hp) (k : Nat) (v : V) (Q' : VK), Same H H' → xs[k]? = some v → Q' v H' → rIx K (.ref a) (.int (k : Int)) H' Q' := fun H' k v Q' s' e z => by
        rcases hab with ⟨ea, eb⟩ | ⟨ea, eb⟩
        · exact .inl ⟨a, xs, _, v, rfl, rfl, SqL.of (s' _ _ ea), atI_nat e, z⟩
        · exact .inr (.inl ⟨a, xs, _, v, rfl, rfl, SqT.of (s' _ _ ea), atI_nat e, z⟩)
      have ixB : ∀ (H' : Hp) (k : Nat) (v : V) (Q' : VK), Same H H' → ys[k]? = some v → Q' v H' → rIx K (.ref b) (.int (k : Int)) H' Q' := fun H' k v Q' s' e z => by
        rcases hab with ⟨ea, eb⟩ | ⟨ea, eb⟩
        · exact .inl ⟨b, ys, _, v, rfl, rfl, SqL.of (s' _ _ eb), atI_nat e, z⟩
        · exact .inr (.inl ⟨b, ys, _, v, rfl, rfl, SqT.of (s' _ _ eb), atI_nat e, z⟩)
      refine ⟨_, rfl, _, _, rfl, lenA _ s2, _, rfl, _, _, rfl, lenB _ s2, rfl, false, by rw [decide_eq_true rfl]; rfl, iteF ?_⟩
      refine ⟨_, rfl, _, _, rfl, lenB _ s2, _, rfl, by omega, by omega, fun D hD => lc_it walk_range0 (fun k H' => Same H H' ∧ H' D = some (.lst [])) ⟨s2.new hD, upd_same⟩ (fun _ _ _ _ => trivial) ?_ ?_⟩
      · rintro k x' Ha Hb hk ⟨sa, hD1⟩ ⟨rfl, rfl⟩
        have hk' : k < ds.length := hk
        obtain ⟨x1, e1⟩ : ∃ x1, xs[k]? = some x1 := ⟨_, List.getElem?_eq_getElem (by omega)⟩
        obtain ⟨y1, e2⟩ : ∃ y1, ys[k]? = some y1 := ⟨_, List.getElem?_eq_getElem (by omega)⟩
        obtain ⟨d1, e3, h1⟩ := Rps.at r1 e1
        obtain ⟨d2, e4, h2⟩ := Rps.at r2 e2
        have e5 : d2 = d1 := Option.some.inj (e4.symm.trans e3)
        subst e5
        refine ⟨rfl, _, rfl, _, rfl, ixA _ _ _ _ sa e1 ⟨_, rfl, _, rfl, ixB _ _ _ _ sa e2 ⟨x1, y1, d2, rfl, Rp.same sa _ _ h1, Rp.same sa _ _ h2, Nat.lt_of_le_of_lt (depth_at e3) dn, short_at sh e3, fun Hc sc => ⟨_, rfl, iteF ⟨sa.trans sc, sc _ _ hD1⟩⟩⟩⟩⟩
      · rintro Hb ⟨sb, hD1⟩
        refine ⟨by show 0 ≤ sizeLine; decide, fun M hM => ⟨.list [], .list [], .lst (SqL.of (by rw [upd_ne (ne_of_none hD1 hM)]; exact hD1)) .nil, .lst (SqL.of upd_same) .nil, by decide +kernel, by decide +kernel, ?_⟩⟩
        exact q _ (sb.new hM)
end

end My

namespace My
open PySem PySem.Spec PyProof.Rows L2
/-! ### faults as data; the law's test of one forest -/
def faultD : Option (Nat × Nat) → PyData
  | none => .none
  | some (i, t) => .tuple [.int (i : Int), .int (t : Int)]
theorem fault_rp {H : Hp} {v : V} : ∀ {r : Option (Nat × Nat)}, FaultV H r v → Rp false H v (faultD r)
  | none, h => by
    have e : v = .non := h
    rw [e]; exact .non
  | some (i, t), h => by
    obtain ⟨a, e, ha⟩ := h
    rw [e]; exact .tup ha (.cons (.int _) (.cons (.int _) .nil))
theorem faultV_same {H H' : Hp} {v : V} (s : Same H H') : ∀ {r : Option (Nat × Nat)}, FaultV H r v → FaultV H' r v
  | none, h => h
  | some (i, t), h => by
    obtain ⟨a, e, ha⟩ := h
    exact ⟨a, e, s _ _ ha⟩
theorem fault_deep : ∀ r : Option (Nat × Nat), (faultD r).depth < 3
  | none => by show 0 < 3; decide
  | some (i, t) => by show 1 < 3; decide
theorem fault_short : ∀ r : Option (Nat × Nat), shortD (faultD r) = true
  | none => rfl
  | some (i, t) => rfl
structure Mid (d : PyData) : Prop where
  ok : d.showable = true
  short : d.leavesShort 100 = true
  bulk : d.bulk ≤ 700
  deep : d.depth ≤ 10
theorem mid_all : ∀ ds : List PyData, (∀ d ∈ ds, Mid d) → PyData.showableAll ds = true ∧ PyData.leavesShortAll 100 ds = true ∧ PyData.bulkAll ds ≤ 701 * ds.length ∧ PyData.depthAll ds ≤ 10
  | [], _ => ⟨rfl, rfl, Nat.le_refl _, Nat.zero_le _⟩
  | d :: ds, h => by
    obtain ⟨a, b, c, e⟩ := mid_all ds fun x hx => h x (List.mem_cons_of_mem _ hx)
    have k := h d List.mem_cons_self
    have kb := k.bulk
    have kd := k.deep
    refine ⟨by rw [PyData.showableAll, k.ok, a]; rfl, by rw [PyData.leavesShortAll, k.short, b]; rfl, ?_, ?_⟩
    · rw [PyData.bulkAll, List.length_cons]; omega
    · rw [PyData.depthAll]; omega
theorem mid_tuple {ds : List PyData} (h : ∀ d ∈ ds, Small d) (hl : ds.length ≤ 60) : Mid (.tuple ds) := by
  obtain ⟨a, b, c, e⟩ := small_all ds h
  exact ⟨by rw [PyData.showable]; exact a, by rw [PyData.leavesShort]; exact b, by rw [PyData.bulk]; omega, by rw [PyData.depth]; omega⟩
theorem shows_two {hs : Hs} {ls : List (List Nat)} (ib : InB hs) (hl : hs.length ≤ 60) (st : Stg hs.length ls) : Shows (.list [.tuple (hs.map hD), .list (lD ls)]) := by
  have m1 : Mid (.tuple (hs.map hD)) := mid_tuple (small_hD ib hl) (by rw [List.length_map]; exact hl)
  have m2 : ∀ d ∈ lD ls, Mid d := fun d hd => by
    obtain ⟨l, ml, rfl⟩ := List.mem_map.mp hd
    refine mid_tuple (fun x hx => ?_) (by unfold nD; rw [List.length_map]; have := st.one ml; omega)
    obtain ⟨v, mv, rfl⟩ := List.mem_map.mp hx
    have := st.lt v (List.mem_flatten.mpr ⟨l, ml, mv⟩)
    refine small_int ?_
    have e : (10 : Nat) ^ 12 = 1000000000000 := by decide
    rw [e, Int.natAbs_natCast]; omega
  obtain ⟨a, b, c, e⟩ := mid_all _ m2
  have many := st.many
  have ll : (lD ls).length = ls.length := List.length_map _
  have b1 := m1.bulk
  have d1 := m1.deep
  refine shows_of ?_ ?_ ?_ ?_
  · rw [PyData.showable, PyData.showableAll, PyData.showableAll, PyData.showableAll, m1.ok, PyData.showable, a]; rfl
  · rw [PyData.leavesShort, PyData.leavesShortAll, PyData.leavesShortAll, PyData.leavesShortAll, m1.short, PyData.leavesShort, b]; rfl
  · have b2 : (PyData.list (lD ls)).bulk = PyData.bulkAll (lD ls) := by rw [PyData.bulk]
    rw [PyData.bulk, PyData.bulkAll, PyData.bulkAll, PyData.bulkAll, b2]
    omega
  · rw [PyData.depth, PyData.depthAll, PyData.depthAll, PyData.depthAll]
    have e2 : (PyData.list (lD ls)).depth = 1 + PyData.depthAll (lD ls) := by rw [PyData.depth]; omega
    omega
theorem rps_nv {z : Bool} {H : Hp} : ∀ l : List Nat, Rps z H (nv l) (nD l)
  | [] => .nil
  | v :: l => .cons (.int (v : Int)) (rps_nv l)
theorem rps_lots {H : Hp} : ∀ {xs : List V} {ls : List (List Nat)}, LotsX H xs ls → Rps false H xs (lD ls)
  | [], [], _ => .nil
  | [], _ :: _, h => by have := h.1; cases this
  | _ :: _, [], h => by have := h.1; cases this
  | x :: xs, l :: ls, h => by
    obtain ⟨t, e, ht⟩ := h.2 0 x l rfl rfl
    subst e
    exact .cons (.tup ht (rps_nv l)) (rps_lots ⟨Nat.succ.inj h.1, fun i y m e1 e2 => h.2 (i + 1) y m e1 e2⟩)
def spRight15 : Sp := fun vs H Q _ => ∃ (wl : Addr) (n : Nat) (m : Int), vs = [.ref wl, .int m] ∧ Well H wl n ∧ n < 2 ^ 40 ∧ 1 ≤ m ∧ m ≤ 60 ∧ ∀ H', Keep wl H H' → Well H' wl (n + 500) → Q (.bl true) H'
section
variable {P : Program} {w : World} {K : PySem.W.Frag} {mg : Str → Option Value} {base : Heap}
theorem kb_stage_fault_stages_forest : KwB "stage_fault" st_stage_fault ["forest", "stages"] ["stages", "forest"] (fun us ws => us ++ ws.reverse) (fun us ws => us ++ ws.reverse) :=
  ⟨fun _ _ _ _ _ _ us ws hl => by
    rw [List.length_append, List.length_reverse] at hl
    rcases us with _ | ⟨u1, _ | ⟨u2, us⟩⟩
    · have h : ws.length = 2 := by rw [List.length_nil] at hl; have z : ([("forest" : Str), "stages"]).length = 2 := rfl; omega
      exact match ws, h with | [_, _], _ => rfl
    · have h : ws.length = 1 := by rw [List.length_cons, List.length_nil] at hl; have z : ([("forest" : Str), "stages"]).length = 2 := rfl; omega
      exact match ws, h with | [_], _ => rfl
    · rw [List.length_cons, List.length_cons] at hl
      have z : ([("forest" : Str), "stages"]).length = 2 := rfl
      have h : ws.length = 0 := by omega
      have h2 : us.length = 0 := by omega
      exact match us, ws, h2, h with | [], [], _, _ => rfl, fun a b => a.append b.reverse⟩
abbrev st__law_right : Stmt := topS 30
abbrev N__law_right : List Str := ["well", "most", "plan", "lots", "lap", "before", "due"]
theorem sc__law_right : FnScope N__law_right ["well", "most"] (defScope st__law_right) := ⟨rfl, rfl, rfl, by decide +kernel, rfl, by decide +kernel, by decide +kernel⟩
theorem ok__law_right (D : Df K mg "_law_right" st__law_right ["well", "most"]) (B : Bl mg) (K_law_draw : Kn P w K mg base CX0 1 "_law_draw" st__law_draw ["well", "most"] spDraw)
    (K_law_forest : Kn P w K mg base CX0 3 "_law_forest" st__law_forest ["well", "most"] spLForest) (K_law_row : Kn P w K mg base CX0 3 "_law_row" st__law_row ["well", "plan"] spLRow)
    (K_law_lots : Kn P w K mg base CX0 3 "_law_lots" st__law_lots ["well", "row"] spLLots) (K_law_bent : Kn P w K mg base CX0 3 "_law_bent" st__law_bent ["well", "lots", "size"] spLBent)
    (K_law_fault : Kn P w K mg base CX0 1 "_law_fault" st__law_fault ["plan", "lots"] spLFault) (K_law_same : Kn P w K mg base CX0 3 "_law_same" st__law_same ["found", "due"] (spSame 3))
    (Kstage_fault : Kn P w K mg base (L2.CX P w) 7 "stage_fault" st_stage_fault ["forest", "stages"] spFault) :
    KnQ P w K mg base 9 "_law_right" st__law_right ["well", "most"] spRight15 := by
  refine D.okQ sc__law_right (fun vs H Q E h => ?_) (fun f cdv A outer s H vs Q E hr hq h => ?_)
  · obtain ⟨wl, n, m, rfl, _⟩ := h; rfl
  obtain ⟨wl, n, m, rfl, hw, hn, hm1, hm2, q⟩ := h
  refine ⟨_, ((pss_cons (ps_set (i := 2) sc__law_right.nd rfl (Or.inl rfl) (pe_callF K_law_forest (hr.mono (by decide)) pass0 (pa_cons (pv 0) (pa_cons (pv 1) pa_nil))))
      (pss_cons (ps_set (i := 3) sc__law_right.nd rfl (Or.inl rfl) (pe_callF K_law_lots (hr.mono (by decide)) pass0 (pa_cons (pv 0) (pa_cons (pe_callF K_law_row (hr.mono (by decide)) pass0 (pa_cons (pv 0) (pa_cons (pv 2) pa_nil))) pa_nil))))
      (pss_cons (ps_for PassesOwn.never rfl (pi_range1 (by rfl) B.range (pa_cons (pe_callF K_law_draw (hr.mono (by decide)) pass0 (pa_cons (pv 0) (pa_cons pe_int pa_nil))) pa_nil)) (pg_name (i := 4) sc__law_right.nd rfl (Or.inl rfl)) (pss_one (ps_set (i := 3) sc__law_right.nd rfl (Or.inl rfl) (pe_callF K_law_bent (hr.mono (by decide)) pass0 (pa_cons (pv 0) (pa_cons (pv 3) (pa_cons (pe_callB call_len (by rfl) B.len (by decide +kernel) (pa_cons (pv 2) pa_nil)) pa_nil)))))))
      (pss_cons (ps_par (i := 5) (j := 6) (by rfl) sc__law_right.nd rfl rfl (by decide) rfl rfl (pa_cons (pe_callB (call_repr hr hq) (by rfl) B.repr (by decide +kernel) (pa_cons (pe_lst (pa_cons (pv 2) (pa_cons (pv 3) pa_nil))) pa_nil)) (pa_cons (pe_callF K_law_fault (hr.mono (by decide)) pass0 (pa_cons (pv 2) (pa_cons (pv 3) pa_nil))) pa_nil)) (by rfl))
      (pss_cons (ps_if (pt_not (pt_val (pe_callF K_law_same (hr.mono (by decide)) pass0 (pa_cons (pe_callF Kstage_fault (hr.mono (by decide)) passL (pa_cons (pv 2) (pa_cons (pv 3) pa_nil))) (pa_cons (pv 6) pa_nil))))) (pss_one (ps_ret pe_bl)) pss_nil)
      (pss_one (ps_ret (pe_and (pe_callF K_law_same (hr.mono (by decide)) pass0 (pa_cons (pe_callFK0 Kstage_fault (hr.mono (by decide)) kb_stage_fault_stages_forest passL (pk_cons (pv 3) (pk_cons (pv 2) pk_nil))) (pa_cons (pv 6) pa_nil))) (pe_one (pe_cmpR op_eq (pe_callB (call_repr hr hq) (by rfl) B.repr (by decide +kernel) (pa_cons (pe_lst (pa_cons (pv 2) (pa_cons (pv 3) pa_nil))) pa_nil)) (pv 5) (nomark _)))))))))))), ?_⟩
  have p40 : (2 : Nat) ^ 40 = 1099511627776 := by decide
  have p50 : (2 : Nat) ^ 50 = 1125899906842624 := by decide
  have p60 : (2 : Nat) ^ 60 = 1152921504606846976 := by decide
  have p100 : (2 : Nat) ^ 100 = 1267650600228229401496703205376 := by decide +kernel
  -- plan, lots
  refine ⟨_, rfl, _, rfl, wl, n, m, rfl, hw, by omega, hm1, hm2, fun t hs H1 fo hl k1 w1 ht hT => ?_⟩
  have hl60 : hs.length ≤ 60 := by omega
  have ntw : t ≠ wl := by
    obtain ⟨l, e⟩ := hw.here
    exact (ne_of_none e ht).symm
  refine ⟨_, rfl, _, rfl, _, rfl, wl, t, n + 400, hs, rfl, ntw.symm, w1, by omega, hT, fo, hl60, fun r o H2 k2 w2 hr2 pm bh hR => ?_⟩
  have nrw : r ≠ wl := by
    obtain ⟨l, e⟩ := w1.here
    exact (ne_of_none e hr2).symm
  have ndo : o.Nodup := pm.nodup_iff.mpr List.nodup_range
  have lo := pm.length_eq
  rw [List.length_range] at lo
  have hn1 : 1 ≤ hs.length := by
    rcases hs with _ | ⟨_, _⟩
    · exact absurd rfl fo.ne
    · exact Nat.succ_le_succ (Nat.zero_le _)
  refine ⟨wl, r, n + 460, o, rfl, nrw.symm, w2, by omega, hR, ndo, by omega, by omega, fun p ls H3 k3 w3 hp3 lots3 lof => ?_⟩
  have st3 : Stg hs.length ls := lof.stg ndo fun v hv' => List.mem_range.mp (pm.mem_iff.mp hv')
  have k13 := (k1.trans k2).trans k3
  have hT3 := k3 _ _ ntw (k2 _ _ ntw hT)
  have npw : p ≠ wl := by
    obtain ⟨l, e⟩ := w2.here
    exact (ne_of_none e hp3).symm
  -- for lap in range(_law_draw(well, 3))
  refine ⟨_, rfl, wl, n + 480, 3, rfl, w3, by omega, by decide, by decide, fun d H4 d0 d1 k4 w4 => ?_⟩
  have lots4 : Lots H4 p ls := by
    obtain ⟨xs, hx, lx⟩ := lots3
    exact ⟨xs, k4 _ _ npw hx, lx.keep k4 (w3.here.choose_spec)⟩
  refine ⟨_, rfl, by omega, by omega, for_it walk_range0 (fun i σ H' => ∃ p ls v4, σ = [some (.ref wl), some (.int m), some (.ref t), some (.ref p), v4, none, none] ∧ p ≠ wl ∧ Keep wl H H' ∧ Well H' wl (n + 481 + 5 * i) ∧ H' t = some (.tup (hs.map hv)) ∧ Lots H' p ls ∧ Stg hs.length ls)
    ⟨p, ls, _, rfl, npw, k13.trans k4, w4, k4 _ _ ntw hT3, lots4, st3⟩ (fun _ _ _ _ _ => trivial) ?_ ?_⟩
  · rintro i x σ H5 H6 hi ⟨p, ls, v4, rfl, npw, k5, w5, hT5, lots5, st5⟩ ⟨rfl, rfl⟩
    have hi3 : i < 3 := by omega
    refine ⟨_, rfl, _, rfl, _, rfl, _, _, rfl, .inr ⟨_, SqT.of hT5, rfl⟩, wl, p, hs.length, n + 481 + 5 * i, ls, ?_, npw.symm, w5, by omega, lots5, st5, hl60, fun p' ls' H7 k7 w7 hp7 lots7 st7 => ?_⟩
    · rw [List.length_map]; rfl
    · have npw' : p' ≠ wl := by
        obtain ⟨l, e⟩ := w5.here
        exact (ne_of_none e hp7).symm
      exact ⟨p', ls', _, rfl, npw', k5.trans k7, w7.mono (by omega), k7 _ _ ntw hT5, lots7, st7⟩
  rintro σ H5 ⟨p, ls, v4, rfl, npw, k5, w5, hT5, lots5, st5⟩
  have w5' : Well H5 wl (n + 500) := w5.mono (by omega)
  have sh := shows_two fo.inb hl60 st5
  have rp : ∀ {H' : Hp} {Z : Addr}, Same H5 H' → H' Z = some (.lst [.ref t, .ref p]) → Rp false H' (.ref Z) (.list [.tuple (hs.map hD), .list (lD ls)]) := fun {H' Z} s e => by
    obtain ⟨xs, hx, lx⟩ := lots5
    exact .lst e (fun z => by cases z) (.cons (.tup (s _ _ hT5) (rps_hv hs)) (.cons (.lst (s _ _ hx) (fun z => by cases z) (rps_lots (lx.same s))) .nil))
  -- before, due
  refine ⟨_, rfl, _, rfl, ⟨by show 2 ≤ sizeLine; decide, fun Z hZ => ?_⟩⟩
  have s6 := (Same.refl H5).new (o := .lst [.ref t, .ref p]) hZ
  have z6 : upd H5 Z (.lst [.ref t, .ref p]) Z = some (.lst [.ref t, .ref p]) := upd_same
  generalize upd H5 Z (.lst [.ref t, .ref p]) = H6 at s6 z6 ⊢
  refine ⟨false, _, _, rfl, rp s6 z6, sh, ?_⟩
  refine ⟨_, rfl, _, rfl, t, p, hs, ls, rfl, s6 _ _ hT5, hl60, lots5.same s6, st5, fun r7 v7 H7 is7 s7 fv7 => ⟨_, _, rfl, ?_⟩⟩
  have s67 := s6.trans s7
  refine ⟨_, rfl, _, rfl, t, p, hs, ls, rfl, s67 _ _ hT5, fo, hl60, lots5.same s67, st5, fun r8 v8 H8 is8 s8 fv8 => ⟨_, rfl, ?_⟩⟩
  have e8 := is8.same is7
  subst e8
  have s68 := s67.trans s8
  refine ⟨v8, v7, faultD r8, rfl, fault_rp fv8, fault_rp (faultV_same s8 fv7), fault_deep r8, fault_short r8, fun H9 s9 => ⟨_, rfl, iteF ?_⟩⟩
  have s69 := s68.trans s9
  refine ⟨_, rfl, _, rfl, t, p, hs, ls, rfl, s69 _ _ hT5, fo, hl60, lots5.same s69, st5, fun r10 v10 H10 is10 s10 fv10 => ⟨_, rfl, ?_⟩⟩
  have e10 := is10.same is8
  subst e10
  have s610 := s69.trans s10
  refine ⟨v10, v7, faultD r10, rfl, fault_rp fv10, fault_rp (faultV_same ((s8.trans s9).trans s10) fv7), fault_deep r10, fault_short r10, fun H11 s11 => ⟨_, rfl, iteT ?_⟩⟩
  have s611 := s610.trans s11
  refine ⟨_, rfl, _, rfl, ⟨by show 2 ≤ sizeLine; decide, fun Y hY => ?_⟩⟩
  have s12 := s611.new (o := .lst [.ref t, .ref p]) hY
  have y12 : upd H11 Y (.lst [.ref t, .ref p]) Y = some (.lst [.ref t, .ref p]) := upd_same
  generalize upd H11 Y (.lst [.ref t, .ref p]) = H12 at s12 y12 ⊢
  refine ⟨false, _, _, rfl, rp s12 y12, sh, _, rfl, rfl, ?_⟩
  rw [decide_eq_true rfl]
  exact q H12 (k5.trans s12.keep) (w5'.same s12)
end

end My

namespace My
open PySem PySem.Spec PyProof.Rows L2
/-! ### facts about a heap, kept together -/
structure Kp (H0 H : Hp) (L : List (Addr × HO)) : Prop where
  same : Same H0 H
  has : ∀ q ∈ L, H q.1 = some q.2
theorem Kp.start {H : Hp} : Kp H H [] := ⟨Same.refl H, fun _ h => absurd h List.not_mem_nil⟩
theorem Kp.new {H0 H : Hp} {L : List (Addr × HO)} {p : Addr} {o : HO} (k : Kp H0 H L) (hp : H p = none) : Kp H0 (upd H p o) ((p, o) :: L) := ⟨k.same.new hp, fun q hq => by
  rcases List.mem_cons.mp hq with rfl | hq
  · exact upd_same
  · exact (upd_ne (ne_of_none (k.has q hq) hp)).trans (k.has q hq)⟩
theorem ne_of_hold {H : Hp} {L : List (Addr × HO)} {p : Addr} (h : ∀ q ∈ L, H q.1 = some q.2) (hp : H p = none) : ∀ q ∈ L, q.1 ≠ p := fun q hq => ne_of_none (h q hq) hp
theorem Kp.at {H0 H : Hp} {L : List (Addr × HO)} {p : Addr} {o : HO} (k : Kp H0 H L) (i : Nat) (e : L[i]? = some (p, o) := by rfl) : H p = some o := k.has _ (List.mem_of_getElem? e)
theorem Kp.to {H0 H H' : Hp} {L : List (Addr × HO)} (k : Kp H0 H L) (s : Same H H') : Kp H0 H' L := ⟨k.same.trans s, fun q hq => s _ _ (k.has q hq)⟩
theorem Kp.add {H0 H : Hp} {L : List (Addr × HO)} {p : Addr} {o : HO} (k : Kp H0 H L) (h : H p = some o) : Kp H0 H ((p, o) :: L) := ⟨k.same, fun q hq => by
  rcases List.mem_cons.mp hq with rfl | hq
  · exact h
  · exact k.has q hq⟩

def fiveH : Hs := [none, some 0, some 0, some 1, none]
theorem fo_five : Fo fiveH := fo_plain (by intro z; cases z) fun j u e => by
  rcases j with _ | _ | _ | _ | _ | j
  · cases e
  · cases e; decide
  · cases e; decide
  · cases e; decide
  · cases e
  · cases e
def faultB (hs : Hs) (ls : List (List Nat)) : Option (Nat × Nat) → Bool
  | none => (List.range ls.length).all fun i => (wrongIn hs (ls.take (i + 1)).flatten (ls.getD i [])).isEmpty
  | some (i, v) => (List.range i).all (fun j => (wrongIn hs (ls.take (j + 1)).flatten (ls.getD j [])).isEmpty) && decide (i < ls.length) && decide ((wrongIn hs (ls.take (i + 1)).flatten (ls.getD i [])).head? = some v)
theorem faultB_is {hs : Hs} {ls : List (List Nat)} : ∀ {r : Option (Nat × Nat)}, faultB hs ls r = true → IsFault hs ls r
  | none, h => fun i l e => by
    have z := List.all_eq_true.mp h i (List.mem_range.mpr (List.getElem?_eq_some_iff.mp e).1)
    rw [List.getD_eq_getElem?_getD, e] at z
    exact List.isEmpty_iff.mp z
  | some (i, v), h => by
    have h' : ((List.range i).all (fun j => (wrongIn hs (ls.take (j + 1)).flatten (ls.getD j [])).isEmpty) && decide (i < ls.length) && decide ((wrongIn hs (ls.take (i + 1)).flatten (ls.getD i [])).head? = some v)) = true := h
    rw [Bool.and_eq_true, Bool.and_eq_true, decide_eq_true_eq, decide_eq_true_eq] at h'
    obtain ⟨⟨h1, h2⟩, h3⟩ := h'
    refine ⟨fun j m c e => ?_, ls[i], ?_⟩
    · have z := List.all_eq_true.mp h1 j (List.mem_range.mpr c)
      rw [List.getD_eq_getElem?_getD, e] at z
      exact List.isEmpty_iff.mp z
    · rw [List.getD_eq_getElem?_getD, List.getElem?_eq_getElem h2] at h3
      obtain ⟨rest, er⟩ := List.head?_eq_some_iff.mp h3
      exact ⟨rest, List.getElem?_eq_getElem h2, er⟩
def someL : List (List (List Nat)) := [[], [[0], [3, 4]], [[1]], [[3], [0, 1]], [[0, 1, 3], [4], [2]], [[4], [2, 3]], [[0, 3], [2, 4]]]
def dueL : List (Option (Nat × Nat)) := [none, some (1, 3), some (0, 1), some (0, 3), none, some (1, 2), some (0, 3)]
theorem fixed7 : ∀ i : Nat, i < 7 → ∃ ls r, someL[i]? = some ls ∧ dueL[i]? = some r ∧ Stg fiveH.length ls ∧ IsFault fiveH ls r
  | 0, _ => ⟨_, _, rfl, rfl, ⟨by decide, by decide, by decide, by decide⟩, faultB_is (by decide)⟩
  | 1, _ => ⟨_, _, rfl, rfl, ⟨by decide, by decide, by decide, by decide⟩, faultB_is (by decide)⟩
  | 2, _ => ⟨_, _, rfl, rfl, ⟨by decide, by decide, by decide, by decide⟩, faultB_is (by decide)⟩
  | 3, _ => ⟨_, _, rfl, rfl, ⟨by decide, by decide, by decide, by decide⟩, faultB_is (by decide)⟩
  | 4, _ => ⟨_, _, rfl, rfl, ⟨by decide, by decide, by decide, by decide⟩, faultB_is (by decide)⟩
  | 5, _ => ⟨_, _, rfl, rfl, ⟨by decide, by decide, by decide, by decide⟩, faultB_is (by decide)⟩
  | 6, _ => ⟨_, _, rfl, rfl, ⟨by decide, by decide, by decide, by decide⟩, faultB_is (by decide)⟩
  | k + 7, h => by omega
def FaultsX (H : Hp) (vs : List V) (rs : List (Option (Nat × Nat))) : Prop := vs.length = rs.length ∧ ∀ (i : Nat) (v : V) (r : Option (Nat × Nat)), vs[i]? = some v → rs[i]? = some r → FaultV H r v
theorem FaultsX.same {H H' : Hp} {vs : List V} {rs : List (Option (Nat × Nat))} (h : FaultsX H vs rs) (s : Same H H') : FaultsX H' vs rs := ⟨h.1, fun i v r e1 e2 => faultV_same s (h.2 i v r e1 e2)⟩
theorem faultV_put {H : Hp} {v : V} {G : Addr} {ys : List V} {o : HO} (hG : H G = some (.lst ys)) : ∀ {r : Option (Nat × Nat)}, FaultV H r v → FaultV (upd H G o) r v
  | none, h => h
  | some (i, t), h => by
    obtain ⟨a, e, ha⟩ := h
    have n : a ≠ G := fun z => by rw [z, hG] at ha; cases ha
    exact ⟨a, e, (upd_ne n).trans ha⟩
theorem FaultsX.grow {H : Hp} {vs : List V} {rs : List (Option (Nat × Nat))} {v : V} {r : Option (Nat × Nat)} {G : Addr} {ys : List V} {o : HO} (h : FaultsX H vs rs) (hG : H G = some (.lst ys)) (hv' : FaultV H r v) : FaultsX (upd H G o) (vs ++ [v]) (rs ++ [r]) := by
  refine ⟨by rw [List.length_append, List.length_append, h.1]; rfl, fun i y q e1 e2 => ?_⟩
  by_cases c : i < vs.length
  · rw [List.getElem?_append_left c] at e1
    rw [List.getElem?_append_left (by rw [← h.1]; exact c)] at e2
    exact faultV_put hG (h.2 i y q e1 e2)
  · have lt := (List.getElem?_eq_some_iff.mp e1).1
    rw [List.length_append, List.length_singleton] at lt
    have ei : i = vs.length := by omega
    subst ei
    rw [List.getElem?_append_right (Nat.le_refl _), Nat.sub_self] at e1
    rw [h.1, List.getElem?_append_right (Nat.le_refl _), Nat.sub_self] at e2
    cases e1; cases e2
    exact faultV_put hG hv'
theorem FaultsX.rps {H : Hp} : ∀ {vs : List V} {rs : List (Option (Nat × Nat))}, FaultsX H vs rs → Rps false H vs (rs.map faultD)
  | [], [], _ => .nil
  | [], _ :: _, h => by have := h.1; cases this
  | _ :: _, [], h => by have := h.1; cases this
  | v :: vs, r :: rs, h => .cons (fault_rp (h.2 0 v r rfl rfl)) (FaultsX.rps ⟨Nat.succ.inj h.1, fun i y q e1 e2 => h.2 (i + 1) y q e1 e2⟩)
theorem lots0 {H : Hp} {p : Addr} (h : H p = some (.lst [])) : Lots H p [] := ⟨[], h, .nil⟩
theorem lots1 {H : Hp} {p a : Addr} {l : List Nat} (h : H p = some (.lst [.ref a])) (ha : H a = some (.tup (nv l))) : Lots H p [l] := ⟨_, h, LotsX.nil.snoc ⟨a, rfl, ha⟩⟩
theorem lots2 {H : Hp} {p a b : Addr} {l m : List Nat} (h : H p = some (.lst [.ref a, .ref b])) (ha : H a = some (.tup (nv l))) (hb : H b = some (.tup (nv m))) : Lots H p [l, m] := ⟨_, h, (LotsX.nil.snoc ⟨a, rfl, ha⟩).snoc ⟨b, rfl, hb⟩⟩
theorem lots3 {H : Hp} {p a b c : Addr} {l m n : List Nat} (h : H p = some (.lst [.ref a, .ref b, .ref c])) (ha : H a = some (.tup (nv l))) (hb : H b = some (.tup (nv m))) (hc : H c = some (.tup (nv n))) : Lots H p [l, m, n] := ⟨_, h, ((LotsX.nil.snoc ⟨a, rfl, ha⟩).snoc ⟨b, rfl, hb⟩).snoc ⟨c, rfl, hc⟩⟩
section
variable {P : Program} {w : World} {K : PySem.W.Frag} {mg : Str → Option Value} {base : Heap}
abbrev st_law : Stmt := topS 31
abbrev N_law : List Str := ["script", "at", "well", "most", "plan", "some", "found", "lots"]
theorem sc_law : FnScope N_law ["script"] (defScope st_law) := ⟨rfl, rfl, rfl, by decide +kernel, rfl, by decide +kernel, by decide +kernel⟩
theorem ok_law {f : Addr} {fd : FuncData} (F : Fun K "law" "law" st_law f fd) (B : Bl mg) (K_law_well : Kn P w K mg base CX0 1 "_law_well" st__law_well ["script", "at"] (spWell K))
    (K_law_right : KnQ P w K mg base 9 "_law_right" st__law_right ["well", "most"] spRight15) (K_law_same : Kn P w K mg base CX0 3 "_law_same" st__law_same ["found", "due"] (spSame 3))
    (Kstage_fault : Kn P w K mg base (L2.CX P w) 7 "stage_fault" st_stage_fault ["forest", "stages"] spFault) :
    Qui P w K mg base 11 f fd ["script"] (spLaw K) := by
  refine F.quiet sc_law (fun vs H Q E h => ?_) (fun cdv A outer s H vs Q E hr hq h => ?_)
  · obtain ⟨a, ns, rfl, _⟩ := h; rfl
  obtain ⟨a, ns, rfl, hS, hns, q⟩ := h
  refine ⟨_, ((pss_cons (ps_for PassesOwn.never rfl (pi_range1 (by rfl) B.range (pa_cons (pe_callB (call_max2 rfl) (by rfl) B.max (by decide +kernel) (pa_cons pe_int (pa_cons (pe_callB (call_min2 rfl) (by rfl) B.min (by decide +kernel) (pa_cons pe_int (pa_cons (pe_callB call_len (by rfl) B.len (by decide +kernel) (pa_cons (pv 0) pa_nil)) pa_nil))) pa_nil))) pa_nil)) (pg_name (i := 1) sc_law.nd rfl (Or.inl rfl)) (pss_cons (ps_set (i := 2) sc_law.nd rfl (Or.inl rfl) (pe_callF K_law_well (hr.mono (by decide)) pass0 (pa_cons (pv 0) (pa_cons (pv 1) pa_nil))))
      (pss_one (ps_for PassesOwn.never rfl (pi_tup (pe_tup (pa_cons pe_int (pa_cons pe_int (pa_cons pe_int (pa_cons (pe_ix ix_list (pe_lst (pa_cons pe_int (pa_cons pe_int pa_nil))) (pe_callTy call_int1 (by rfl) B.int (by decide +kernel) (pa_cons (pe_cmpR op_lt (pv 1) pe_int (nomark _)) pa_nil)) (fun _ _ => rfl)) pa_nil)))))) (pg_name (i := 3) sc_law.nd rfl (Or.inl rfl)) (pss_one (ps_if (pt_not (pt_val (pe_callQ (E := fun _ _ _ => False) K_law_right (hr.mono (by decide)) hq (pa_cons (pv 2) (pa_cons (pv 3) pa_nil))))) (pss_one (ps_ret pe_bl)) pss_nil))))))
      (pss_cons (ps_set (i := 4) sc_law.nd rfl (Or.inr rfl) (pe_tup (pa_cons pe_non (pa_cons pe_int (pa_cons pe_int (pa_cons pe_int (pa_cons pe_non pa_nil)))))))
      (pss_cons (ps_set (i := 5) sc_law.nd rfl (Or.inl rfl) (pe_lst (pa_cons (pe_lst pa_nil) (pa_cons (pe_lst (pa_cons (pe_tup (pa_cons pe_int pa_nil)) (pa_cons (pe_tup (pa_cons pe_int (pa_cons pe_int pa_nil))) pa_nil))) (pa_cons (pe_lst (pa_cons (pe_tup (pa_cons pe_int pa_nil)) pa_nil)) (pa_cons (pe_lst (pa_cons (pe_tup (pa_cons pe_int pa_nil)) (pa_cons (pe_tup (pa_cons pe_int (pa_cons pe_int pa_nil))) pa_nil))) (pa_cons (pe_lst (pa_cons (pe_tup (pa_cons pe_int (pa_cons pe_int (pa_cons pe_int pa_nil)))) (pa_cons (pe_tup (pa_cons pe_int pa_nil)) (pa_cons (pe_tup (pa_cons pe_int pa_nil)) pa_nil)))) (pa_cons (pe_lst (pa_cons (pe_tup (pa_cons pe_int pa_nil)) (pa_cons (pe_tup (pa_cons pe_int (pa_cons pe_int pa_nil))) pa_nil))) (pa_cons (pe_lst (pa_cons (pe_tup (pa_cons pe_int (pa_cons pe_int pa_nil))) (pa_cons (pe_tup (pa_cons pe_int (pa_cons pe_int pa_nil))) pa_nil))) pa_nil)))))))))
      (pss_cons (ps_setLc (i := 6) (own := [("lots", 7)]) (g := gName 7) rfl sc_law.nd rfl rfl (sw_true rfl rfl rfl (by decide +kernel)) (pi_list (pv 5)) (blkOk_by (N := N_law) (sc := defScope st_law) (own := [("lots", 7)]) (by decide +kernel)) (fun _ _ _ _ _ => by (exact (pg_name (i := 7) sc_law.nd rfl (Or.inl rfl)))) (fun _ _ _ _ _ => by exact pts_nil) (fun _ _ _ _ _ => by exact (pe_callF Kstage_fault (hr.mono (by decide)) passL (pa_cons (pv 4) (pa_cons (pv 7) pa_nil)))))
      (pss_one (ps_ret (pe_callF K_law_same (hr.mono (by decide)) pass0 (pa_cons (pv 6) (pa_cons (pe_lst (pa_cons pe_non (pa_cons (pe_tup (pa_cons pe_int (pa_cons pe_int pa_nil))) (pa_cons (pe_tup (pa_cons pe_int (pa_cons pe_int pa_nil))) (pa_cons (pe_tup (pa_cons pe_int (pa_cons pe_int pa_nil))) (pa_cons pe_non (pa_cons (pe_tup (pa_cons pe_int (pa_cons pe_int pa_nil))) (pa_cons (pe_tup (pa_cons pe_int (pa_cons pe_int pa_nil))) pa_nil)))))))) pa_nil)))))))))), ?_⟩
  have p40 : (2 : Nat) ^ 40 = 1099511627776 := by decide
  have lns : (ns.map V.int).length = ns.length := List.length_map _
  refine ⟨_, rfl, _, _, rfl, .inl ⟨_, hS, rfl⟩, _, _, rfl, _, _, rfl, _, rfl, by split <;> omega, by split <;> (try split) <;> omega, for_it walk_range0 (fun i σ H' => (∃ v1 v2 v3, σ = [some (.ref a), v1, v2, v3, none, none, none, none]) ∧ Same H H')
    ⟨⟨none, none, none, rfl⟩, Same.refl H⟩ (fun _ _ _ _ _ => trivial) ?_ ?_⟩
  · rintro i x σ H1 H1' hi ⟨⟨v1, v2, v3, rfl⟩, s1⟩ ⟨rfl, rfl⟩
    have hi64 : i < 64 := by split at hi <;> (try split at hi) <;> omega
    clear hi
    refine ⟨_, rfl, _, rfl, a, ns, i, rfl, s1.seq hS, hi64, fun wl H2 s2 hwl w2 => ?_⟩
    have hwn : H wl = none := s1.free hwl
    have s12 := s1.trans s2
    clear s1 s2 hwl
    -- for most in (3, 7, 12, [20, 60][int(at < 6)])
    refine ⟨by show 2 ≤ sizeLine; decide, fun L hL => ?_⟩
    have s3 := (Same.refl H2).new (o := .lst [.int 20, .int 60]) hL
    have oL : upd H2 L (.lst [.int 20, .int 60]) L = some (.lst [.int 20, .int 60]) := upd_same
    generalize upd H2 L (.lst [.int 20, .int 60]) = H3 at s3 oL ⊢
    refine ⟨_, rfl, _, _, rfl, rfl, .inr ⟨_, rfl, ?_⟩⟩
    obtain ⟨m4, hm4, e4⟩ : ∃ m : Int, (1 ≤ m ∧ m ≤ 60) ∧ atI [V.int 20, .int 60] (if decide ((i : Int) < 6) = true then 1 else 0) = some (.int m) := by
      by_cases c : (i : Int) < 6
      · exact ⟨60, by decide, by rw [if_pos (decide_eq_true c)]; rfl⟩
      · exact ⟨20, by decide, by rw [if_neg (fun z => c (of_decide_eq_true z))]; rfl⟩
    refine ⟨L, _, _, _, rfl, rfl, SqL.of oL, e4, ⟨by show 4 ≤ sizeLine; decide, fun T hT => ?_⟩⟩
    have s4 := s3.new (o := .tup [.int 3, .int 7, .int 12, .int m4]) hT
    have oT : upd H3 T (.tup [.int 3, .int 7, .int 12, .int m4]) T = some (.tup [.int 3, .int 7, .int 12, .int m4]) := upd_same
    generalize upd H3 T (.tup [.int 3, .int 7, .int 12, .int m4]) = H4 at s4 oT ⊢
    have nT : T ≠ wl := by
      obtain ⟨l, e⟩ := (w2.same s3).here
      exact (ne_of_none e hT).symm
    refine ⟨T, rfl, ⟨_, SqT.of oT⟩, for_it (walk_tup (xs := [V.int 3, .int 7, .int 12, .int m4])) (fun j σ H' => (∃ v3, σ = [some (.ref a), some (.int (i : Int)), some (.ref wl), v3, none, none, none, none]) ∧ Keep wl H4 H' ∧ Well H' wl (500 * j)) ⟨⟨_, rfl⟩, Keep.refl _ _, w2.same s4⟩ (fun j σ H' _ z => SqT.of (z.2.1 _ _ nT oT)) ?_ ?_⟩
    · rintro j x σ H5 H6 hj ⟨⟨v3, rfl⟩, k5, w5⟩ ⟨rfl, e5⟩
      have hj4 : j < 4 := hj
      obtain ⟨m, rfl, hm1, hm2⟩ : ∃ m : Int, x = .int m ∧ 1 ≤ m ∧ m ≤ 60 := by
        have mx := List.mem_of_getElem? e5
        simp only [List.mem_cons, List.not_mem_nil, or_false] at mx
        rcases mx with rfl | rfl | rfl | rfl
        · exact ⟨3, rfl, by decide, by decide⟩
        · exact ⟨7, rfl, by decide, by decide⟩
        · exact ⟨12, rfl, by decide, by decide⟩
        · exact ⟨m4, rfl, hm4.1, hm4.2⟩
      refine ⟨_, rfl, _, rfl, wl, 500 * j, m, rfl, w5, by omega, hm1, hm2, fun H7 k7 w7 => ⟨_, rfl, iteF ⟨⟨_, rfl⟩, k5.trans k7, w7.mono (by omega)⟩⟩⟩
    · rintro σ H5 ⟨⟨v3, rfl⟩, k5, w5⟩
      exact ⟨⟨_, _, _, rfl⟩, thenK (s12.trans s4) hwn k5⟩
  · rintro σ H1 ⟨⟨v1, v2, v3, rfl⟩, s1⟩
    -- plan
    refine ⟨by show 5 ≤ sizeLine; decide, fun F hF => ?_⟩
    have k := (Kp.start (H := H1)).new (o := .tup [.non, .int 0, .int 0, .int 1, .non]) hF
    generalize upd H1 F (.tup [.non, .int 0, .int 0, .int 1, .non]) = G at k ⊢
    refine ⟨by show 0 ≤ sizeLine; decide, fun b1 gb1 => ?_⟩
    have k := k.new (o := .lst []) gb1
    generalize upd G b1 (.lst []) = G at k ⊢
    refine ⟨by show 1 ≤ sizeLine; decide, fun c1 gc1 => ?_⟩
    have k := k.new (o := .tup [.int 0]) gc1
    generalize upd G c1 (.tup [.int 0]) = G at k ⊢
    refine ⟨by show 2 ≤ sizeLine; decide, fun c2 gc2 => ?_⟩
    have k := k.new (o := .tup [.int 3, .int 4]) gc2
    generalize upd G c2 (.tup [.int 3, .int 4]) = G at k ⊢
    refine ⟨by show 2 ≤ sizeLine; decide, fun b2 gb2 => ?_⟩
    have k := k.new (o := .lst [.ref c1, .ref c2]) gb2
    generalize upd G b2 (.lst [.ref c1, .ref c2]) = G at k ⊢
    refine ⟨by show 1 ≤ sizeLine; decide, fun c3 gc3 => ?_⟩
    have k := k.new (o := .tup [.int 1]) gc3
    generalize upd G c3 (.tup [.int 1]) = G at k ⊢
    refine ⟨by show 1 ≤ sizeLine; decide, fun b3 gb3 => ?_⟩
    have k := k.new (o := .lst [.ref c3]) gb3
    generalize upd G b3 (.lst [.ref c3]) = G at k ⊢
    refine ⟨by show 1 ≤ sizeLine; decide, fun c4 gc4 => ?_⟩
    have k := k.new (o := .tup [.int 3]) gc4
    generalize upd G c4 (.tup [.int 3]) = G at k ⊢
    refine ⟨by show 2 ≤ sizeLine; decide, fun c5 gc5 => ?_⟩
    have k := k.new (o := .tup [.int 0, .int 1]) gc5
    generalize upd G c5 (.tup [.int 0, .int 1]) = G at k ⊢
    refine ⟨by show 2 ≤ sizeLine; decide, fun b4 gb4 => ?_⟩
    have k := k.new (o := .lst [.ref c4, .ref c5]) gb4
    generalize upd G b4 (.lst [.ref c4, .ref c5]) = G at k ⊢
    refine ⟨by show 3 ≤ sizeLine; decide, fun c6 gc6 => ?_⟩
    have k := k.new (o := .tup [.int 0, .int 1, .int 3]) gc6
    generalize upd G c6 (.tup [.int 0, .int 1, .int 3]) = G at k ⊢
    refine ⟨by show 1 ≤ sizeLine; decide, fun c7 gc7 => ?_⟩
    have k := k.new (o := .tup [.int 4]) gc7
    generalize upd G c7 (.tup [.int 4]) = G at k ⊢
    refine ⟨by show 1 ≤ sizeLine; decide, fun c8 gc8 => ?_⟩
    have k := k.new (o := .tup [.int 2]) gc8
    generalize upd G c8 (.tup [.int 2]) = G at k ⊢
    refine ⟨by show 3 ≤ sizeLine; decide, fun b5 gb5 => ?_⟩
    have k := k.new (o := .lst [.ref c6, .ref c7, .ref c8]) gb5
    generalize upd G b5 (.lst [.ref c6, .ref c7, .ref c8]) = G at k ⊢
    refine ⟨by show 1 ≤ sizeLine; decide, fun c9 gc9 => ?_⟩
    have k := k.new (o := .tup [.int 4]) gc9
    generalize upd G c9 (.tup [.int 4]) = G at k ⊢
    refine ⟨by show 2 ≤ sizeLine; decide, fun c10 gc10 => ?_⟩
    have k := k.new (o := .tup [.int 2, .int 3]) gc10
    generalize upd G c10 (.tup [.int 2, .int 3]) = G at k ⊢
    refine ⟨by show 2 ≤ sizeLine; decide, fun b6 gb6 => ?_⟩
    have k := k.new (o := .lst [.ref c9, .ref c10]) gb6
    generalize upd G b6 (.lst [.ref c9, .ref c10]) = G at k ⊢
    refine ⟨by show 2 ≤ sizeLine; decide, fun c11 gc11 => ?_⟩
    have k := k.new (o := .tup [.int 0, .int 3]) gc11
    generalize upd G c11 (.tup [.int 0, .int 3]) = G at k ⊢
    refine ⟨by show 2 ≤ sizeLine; decide, fun c12 gc12 => ?_⟩
    have k := k.new (o := .tup [.int 2, .int 4]) gc12
    generalize upd G c12 (.tup [.int 2, .int 4]) = G at k ⊢
    refine ⟨by show 2 ≤ sizeLine; decide, fun b7 gb7 => ?_⟩
    have k := k.new (o := .lst [.ref c11, .ref c12]) gb7
    generalize upd G b7 (.lst [.ref c11, .ref c12]) = G at k ⊢
    refine ⟨by show 7 ≤ sizeLine; decide, fun S gS => ?_⟩
    have k := k.new (o := .lst [.ref b1, .ref b2, .ref b3, .ref b4, .ref b5, .ref b6, .ref b7]) gS
    generalize upd G S (.lst [.ref b1, .ref b2, .ref b3, .ref b4, .ref b5, .ref b6, .ref b7]) = G at k ⊢
    have oF : G F = some (.tup (fiveH.map hv)) := k.at 20
    have oS : G S = some (.lst [.ref b1, .ref b2, .ref b3, .ref b4, .ref b5, .ref b6, .ref b7]) := k.at 0
    have all7 : ∀ (i : Nat) (x : V), ([.ref b1, .ref b2, .ref b3, .ref b4, .ref b5, .ref b6, .ref b7] : List V)[i]? = some x → ∃ p ls, x = .ref p ∧ someL[i]? = some ls ∧ Lots G p ls := fun i x e => by
      match i, e with
      | 0, e => cases e; exact ⟨b1, _, rfl, rfl, lots0 (k.at 19)⟩
      | 1, e => cases e; exact ⟨b2, _, rfl, rfl, lots2 (k.at 16) (k.at 18) (k.at 17)⟩
      | 2, e => cases e; exact ⟨b3, _, rfl, rfl, lots1 (k.at 14) (k.at 15)⟩
      | 3, e => cases e; exact ⟨b4, _, rfl, rfl, lots2 (k.at 11) (k.at 13) (k.at 12)⟩
      | 4, e => cases e; exact ⟨b5, _, rfl, rfl, lots3 (k.at 7) (k.at 10) (k.at 9) (k.at 8)⟩
      | 5, e => cases e; exact ⟨b6, _, rfl, rfl, lots2 (k.at 4) (k.at 6) (k.at 5)⟩
      | 6, e => cases e; exact ⟨b7, _, rfl, rfl, lots2 (k.at 1) (k.at 3) (k.at 2)⟩
      | k + 7, e => cases e
    -- found
    refine ⟨_, rfl, S, rfl, ⟨_, SqL.of oS⟩, fun D hD => lc_it (walk_list (xs := [.ref b1, .ref b2, .ref b3, .ref b4, .ref b5, .ref b6, .ref b7])) (fun i H' => Same G H' ∧ ∃ vs, H' D = some (.lst vs) ∧ FaultsX H' vs (dueL.take i)) ⟨(Same.refl G).new hD, [], upd_same, rfl, fun i v r e => by cases e⟩ (fun i H' _ z => SqL.of (z.1 _ _ oS)) ?_ ?_⟩
    · rintro i x Ha Hb hi ⟨sa, vs, oD, fx⟩ ⟨rfl, e1⟩
      have hi7 : i < 7 := hi
      obtain ⟨p, ls, rfl, e2, lt⟩ := all7 i x e1
      obtain ⟨ls', r, e3, e4, st, isf⟩ := fixed7 i hi7
      rw [e2] at e3; cases e3
      refine ⟨rfl, _, rfl, _, rfl, F, p, fiveH, ls, rfl, sa _ _ oF, fo_five, by decide, lt.same sa, st, fun r2 v Hc isf2 sc fv => ?_⟩
      have er := isf2.same isf
      subst er
      have oDc := sc _ _ oD
      have lv := fx.1
      rw [List.length_take] at lv
      have l7 : dueL.length = 7 := rfl
      refine ⟨_, oDc, szl (by omega), (sa.trans sc).upd hD, vs ++ [v], upd_same, ?_⟩
      have et : dueL.take (i + 1) = dueL.take i ++ [r2] := by rw [List.take_add_one, e4]; rfl
      rw [et]
      exact (fx.same sc).grow oDc fv
    rintro H2 ⟨s2, vs, oD, fx⟩
    have fx7 : FaultsX H2 vs dueL := fx
    have m := Kp.start (H := H2)
    refine ⟨_, rfl, by show 2 ≤ sizeLine; decide, fun d1 gd1 => ?_⟩
    have m := m.new (o := .tup [.int 1, .int 3]) gd1
    generalize upd H2 d1 (.tup [.int 1, .int 3]) = G at m ⊢
    refine ⟨by show 2 ≤ sizeLine; decide, fun d2 gd2 => ?_⟩
    have m := m.new (o := .tup [.int 0, .int 1]) gd2
    generalize upd G d2 (.tup [.int 0, .int 1]) = G at m ⊢
    refine ⟨by show 2 ≤ sizeLine; decide, fun d3 gd3 => ?_⟩
    have m := m.new (o := .tup [.int 0, .int 3]) gd3
    generalize upd G d3 (.tup [.int 0, .int 3]) = G at m ⊢
    refine ⟨by show 2 ≤ sizeLine; decide, fun d4 gd4 => ?_⟩
    have m := m.new (o := .tup [.int 1, .int 2]) gd4
    generalize upd G d4 (.tup [.int 1, .int 2]) = G at m ⊢
    refine ⟨by show 2 ≤ sizeLine; decide, fun d5 gd5 => ?_⟩
    have m := m.new (o := .tup [.int 0, .int 3]) gd5
    generalize upd G d5 (.tup [.int 0, .int 3]) = G at m ⊢
    refine ⟨by show 7 ≤ sizeLine; decide, fun E2 gE => ?_⟩
    have m := m.new (o := .lst [.non, .ref d1, .ref d2, .ref d3, .non, .ref d4, .ref d5]) gE
    generalize upd G E2 (.lst [.non, .ref d1, .ref d2, .ref d3, .non, .ref d4, .ref d5]) = G at m ⊢
    refine ⟨.ref D, .ref E2, .list (dueL.map faultD), rfl, .lst (m.same _ _ oD) (fun z => by cases z) (fx7.same m.same).rps, .lst (m.at 0) (fun z => by cases z) (.cons .non (.cons (.tup (m.at 5) (.cons (.int _) (.cons (.int _) .nil))) (.cons (.tup (m.at 4) (.cons (.int _) (.cons (.int _) .nil))) (.cons (.tup (m.at 3) (.cons (.int _) (.cons (.int _) .nil))) (.cons .non (.cons (.tup (m.at 2) (.cons (.int _) (.cons (.int _) .nil))) (.cons (.tup (m.at 1) (.cons (.int _) (.cons (.int _) .nil))) .nil))))))), by decide, rfl, fun H3 s3 => q H3⟩
end

end My

namespace My
open PySem PySem.Spec PyProof.Rows L2
theorem all_mk {l : PySem.W.OpenLaw} {w : World} {K : PySem.W.Frag} {h : Heap} {mg : Str → Option Value} {fa f0 f1 f2 f3 f4 f5 f6 f7 f8 f9 f10 f11 f12 f13 f14 f15 f16 f17 f18 f19 f20 f21 f22 f23 C0 C1 : Addr} (X : K.In h) (G : h.Ns mainGlobals mg) (hfa : mg "law" = some (.ref fa))
    {od0 an0 od1 an1 od2 an2 od3 an3 od4 an4 od5 an5 od6 an6 od7 an7 od8 an8 od9 an9 od10 an10 od11 an11 od12 an12 od13 an13 od14 an14 od15 an15 od16 an16 od17 an17 od18 an18 od19 an19 od20 an20 od21 an21 od22 an22 od23 an23 : Option Addr} {sl0 sl1 sl2 sl3 sl4 sl5 sl6 sl7 sl8 sl9 sl10 sl11 sl12 sl13 sl14 sl15 sl16 sl17 sl18 sl19 sl20 sl21 sl22 sl23 : Array (Option Value)} {oc0 kV0 dc0 pm0 cd0 ct0 oc1 kV1 dc1 pm1 cd1 ct1 oc2 kV2 dc2 pm2 cd2 ct2 oc3 kV3 dc3 pm3 cd3 ct3 oc4 kV4 dc4 pm4 cd4 ct4 oc5 kV5 dc5 pm5 cd5 ct5 oc6 kV6 dc6 pm6 cd6 ct6 oc7 kV7 dc7 pm7 cd7 ct7 oc8 kV8 dc8 pm8 cd8 ct8 oc9 kV9 dc9 pm9 cd9 ct9 oc10 kV10 dc10 pm10 cd10 ct10 oc11 kV11 dc11 pm11 cd11 ct11 oc12 kV12 dc12 pm12 cd12 ct12 oc13 kV13 dc13 pm13 cd13 ct13 oc14 kV14 dc14 pm14 cd14 ct14 oc15 kV15 dc15 pm15 cd15 ct15 oc16 kV16 dc16 pm16 cd16 ct16 oc17 kV17 dc17 pm17 cd17 ct17 oc18 kV18 dc18 pm18 cd18 ct18 oc19 kV19 dc19 pm19 cd19 ct19 oc20 kV20 dc20 pm20 cd20 ct20 oc21 kV21 dc21 pm21 cd21 ct21 oc22 kV22 dc22 pm22 cd22 ct22 oc23 kV23 dc23 pm23 cd23 ct23 : Value}
    (a0 : PySem.W.nsIn K mainGlobals "is_integer" = some (some (.ref f0)))
    (l0 : K.lookup f0 = some ⟨oc0, od0, .func (PySem.W.fnOf "is_integer" "is_integer" (defArgs st_is_integer) (defBody st_is_integer) (defScope st_is_integer) .none kV0 dc0 pm0 an0 cd0 ct0), sl0⟩)
    (c0 : PySem.W.codeIn K cd0 "is_integer" = true)
    (k0 : PySem.W.keepIn K (.ref f0) = true)
    (a1 : PySem.W.nsIn K mainGlobals "is_between" = some (some (.ref f1)))
    (l1 : K.lookup f1 = some ⟨oc1, od1, .func (PySem.W.fnOf "is_between" "is_between" (defArgs st_is_between) (defBody st_is_between) (defScope st_is_between) .none kV1 dc1 pm1 an1 cd1 ct1), sl1⟩)
    (c1 : PySem.W.codeIn K cd1 "is_between" = true)
    (k1 : PySem.W.keepIn K (.ref f1) = true)
    (a2 : PySem.W.nsIn K mainGlobals "is_index" = some (some (.ref f2)))
    (l2 : K.lookup f2 = some ⟨oc2, od2, .func (PySem.W.fnOf "is_index" "is_index" (defArgs st_is_index) (defBody st_is_index) (defScope st_is_index) .none kV2 dc2 pm2 an2 cd2 ct2), sl2⟩)
    (c2 : PySem.W.codeIn K cd2 "is_index" = true)
    (k2 : PySem.W.keepIn K (.ref f2) = true)
    (a3 : PySem.W.nsIn K mainGlobals "is_forest" = some (some (.ref f3)))
    (l3 : K.lookup f3 = some ⟨oc3, od3, .func (PySem.W.fnOf "is_forest" "is_forest" (defArgs st_is_forest) (defBody st_is_forest) (defScope st_is_forest) .none kV3 dc3 pm3 an3 cd3 ct3), sl3⟩)
    (c3 : PySem.W.codeIn K cd3 "is_forest" = true)
    (k3 : PySem.W.keepIn K (.ref f3) = true)
    (a4 : PySem.W.nsIn K mainGlobals "check_forest" = some (some (.ref f4)))
    (l4 : K.lookup f4 = some ⟨oc4, od4, .func (PySem.W.fnOf "check_forest" "check_forest" (defArgs st_check_forest) (defBody st_check_forest) (defScope st_check_forest) .none kV4 dc4 pm4 an4 cd4 ct4), sl4⟩)
    (c4 : PySem.W.codeIn K cd4 "check_forest" = true)
    (k4 : PySem.W.keepIn K (.ref f4) = true)
    (a5 : PySem.W.nsIn K mainGlobals "_without_holder" = some (some (.ref f5)))
    (l5 : K.lookup f5 = some ⟨oc5, od5, .func (PySem.W.fnOf "_without_holder" "_without_holder" (defArgs st__without_holder) (defBody st__without_holder) (defScope st__without_holder) .none kV5 dc5 pm5 an5 cd5 ct5), sl5⟩)
    (c5 : PySem.W.codeIn K cd5 "_without_holder" = true)
    (k5 : PySem.W.keepIn K (.ref f5) = true)
    (a6 : PySem.W.nsIn K mainGlobals "_held_lists" = some (some (.ref f6)))
    (l6 : K.lookup f6 = some ⟨oc6, od6, .func (PySem.W.fnOf "_held_lists" "_held_lists" (defArgs st__held_lists) (defBody st__held_lists) (defScope st__held_lists) .none kV6 dc6 pm6 an6 cd6 ct6), sl6⟩)
    (c6 : PySem.W.codeIn K cd6 "_held_lists" = true)
    (k6 : PySem.W.keepIn K (.ref f6) = true)
    (a7 : PySem.W.nsIn K mainGlobals "_walk_through" = some (some (.ref f7)))
    (l7 : K.lookup f7 = some ⟨oc7, od7, .func (PySem.W.fnOf "_walk_through" "_walk_through" (defArgs st__walk_through) (defBody st__walk_through) (defScope st__walk_through) .none kV7 dc7 pm7 an7 cd7 ct7), sl7⟩)
    (c7 : PySem.W.codeIn K cd7 "_walk_through" = true)
    (k7 : PySem.W.keepIn K (.ref f7) = true)
    (a8 : PySem.W.nsIn K mainGlobals "are_stages" = some (some (.ref f8)))
    (l8 : K.lookup f8 = some ⟨oc8, od8, .func (PySem.W.fnOf "are_stages" "are_stages" (defArgs st_are_stages) (defBody st_are_stages) (defScope st_are_stages) .none kV8 dc8 pm8 an8 cd8 ct8), sl8⟩)
    (c8 : PySem.W.codeIn K cd8 "are_stages" = true)
    (k8 : PySem.W.keepIn K (.ref f8) = true)
    (a9 : PySem.W.nsIn K mainGlobals "are_different" = some (some (.ref f9)))
    (l9 : K.lookup f9 = some ⟨oc9, od9, .func (PySem.W.fnOf "are_different" "are_different" (defArgs st_are_different) (defBody st_are_different) (defScope st_are_different) .none kV9 dc9 pm9 an9 cd9 ct9), sl9⟩)
    (c9 : PySem.W.codeIn K cd9 "are_different" = true)
    (k9 : PySem.W.keepIn K (.ref f9) = true)
    (a10 : PySem.W.nsIn K mainGlobals "stage_fault" = some (some (.ref f10)))
    (l10 : K.lookup f10 = some ⟨oc10, od10, .func (PySem.W.fnOf "stage_fault" "stage_fault" (defArgs st_stage_fault) (defBody st_stage_fault) (defScope st_stage_fault) .none kV10 dc10 pm10 an10 cd10 ct10), sl10⟩)
    (c10 : PySem.W.codeIn K cd10 "stage_fault" = true)
    (k10 : PySem.W.keepIn K (.ref f10) = true)
    (a11 : PySem.W.nsIn K mainGlobals "_ascends" = some (some (.ref f11)))
    (l11 : K.lookup f11 = some ⟨oc11, od11, .func (PySem.W.fnOf "_ascends" "_ascends" (defArgs st__ascends) (defBody st__ascends) (defScope st__ascends) .none kV11 dc11 pm11 an11 cd11 ct11), sl11⟩)
    (c11 : PySem.W.codeIn K cd11 "_ascends" = true)
    (k11 : PySem.W.keepIn K (.ref f11) = true)
    (a12 : PySem.W.nsIn K mainGlobals "_check_stages" = some (some (.ref f12)))
    (l12 : K.lookup f12 = some ⟨oc12, od12, .func (PySem.W.fnOf "_check_stages" "_check_stages" (defArgs st__check_stages) (defBody st__check_stages) (defScope st__check_stages) .none kV12 dc12 pm12 an12 cd12 ct12), sl12⟩)
    (c12 : PySem.W.codeIn K cd12 "_check_stages" = true)
    (k12 : PySem.W.keepIn K (.ref f12) = true)
    (a13 : PySem.W.nsIn K mainGlobals "_law_well" = some (some (.ref f13)))
    (l13 : K.lookup f13 = some ⟨oc13, od13, .func (PySem.W.fnOf "_law_well" "_law_well" (defArgs st__law_well) (defBody st__law_well) (defScope st__law_well) .none kV13 dc13 pm13 an13 cd13 ct13), sl13⟩)
    (c13 : PySem.W.codeIn K cd13 "_law_well" = true)
    (k13 : PySem.W.keepIn K (.ref f13) = true)
    (a14 : PySem.W.nsIn K mainGlobals "_law_draw" = some (some (.ref f14)))
    (l14 : K.lookup f14 = some ⟨oc14, od14, .func (PySem.W.fnOf "_law_draw" "_law_draw" (defArgs st__law_draw) (defBody st__law_draw) (defScope st__law_draw) .none kV14 dc14 pm14 an14 cd14 ct14), sl14⟩)
    (c14 : PySem.W.codeIn K cd14 "_law_draw" = true)
    (k14 : PySem.W.keepIn K (.ref f14) = true)
    (a15 : PySem.W.nsIn K mainGlobals "_law_same" = some (some (.ref f15)))
    (l15 : K.lookup f15 = some ⟨oc15, od15, .func (PySem.W.fnOf "_law_same" "_law_same" (defArgs st__law_same) (defBody st__law_same) (defScope st__law_same) .none kV15 dc15 pm15 an15 cd15 ct15), sl15⟩)
    (c15 : PySem.W.codeIn K cd15 "_law_same" = true)
    (k15 : PySem.W.keepIn K (.ref f15) = true)
    (a16 : PySem.W.nsIn K mainGlobals "_law_forest" = some (some (.ref f16)))
    (l16 : K.lookup f16 = some ⟨oc16, od16, .func (PySem.W.fnOf "_law_forest" "_law_forest" (defArgs st__law_forest) (defBody st__law_forest) (defScope st__law_forest) .none kV16 dc16 pm16 an16 cd16 ct16), sl16⟩)
    (c16 : PySem.W.codeIn K cd16 "_law_forest" = true)
    (k16 : PySem.W.keepIn K (.ref f16) = true)
    (a17 : PySem.W.nsIn K mainGlobals "_law_row" = some (some (.ref f17)))
    (l17 : K.lookup f17 = some ⟨oc17, od17, .func (PySem.W.fnOf "_law_row" "_law_row" (defArgs st__law_row) (defBody st__law_row) (defScope st__law_row) .none kV17 dc17 pm17 an17 cd17 ct17), sl17⟩)
    (c17 : PySem.W.codeIn K cd17 "_law_row" = true)
    (k17 : PySem.W.keepIn K (.ref f17) = true)
    (a18 : PySem.W.nsIn K mainGlobals "_law_lots" = some (some (.ref f18)))
    (l18 : K.lookup f18 = some ⟨oc18, od18, .func (PySem.W.fnOf "_law_lots" "_law_lots" (defArgs st__law_lots) (defBody st__law_lots) (defScope st__law_lots) .none kV18 dc18 pm18 an18 cd18 ct18), sl18⟩)
    (c18 : PySem.W.codeIn K cd18 "_law_lots" = true)
    (k18 : PySem.W.keepIn K (.ref f18) = true)
    (a19 : PySem.W.nsIn K mainGlobals "_law_flat" = some (some (.ref f19)))
    (l19 : K.lookup f19 = some ⟨oc19, od19, .func (PySem.W.fnOf "_law_flat" "_law_flat" (defArgs st__law_flat) (defBody st__law_flat) (defScope st__law_flat) .none kV19 dc19 pm19 an19 cd19 ct19), sl19⟩)
    (c19 : PySem.W.codeIn K cd19 "_law_flat" = true)
    (k19 : PySem.W.keepIn K (.ref f19) = true)
    (a20 : PySem.W.nsIn K mainGlobals "_law_bent" = some (some (.ref f20)))
    (l20 : K.lookup f20 = some ⟨oc20, od20, .func (PySem.W.fnOf "_law_bent" "_law_bent" (defArgs st__law_bent) (defBody st__law_bent) (defScope st__law_bent) .none kV20 dc20 pm20 an20 cd20 ct20), sl20⟩)
    (c20 : PySem.W.codeIn K cd20 "_law_bent" = true)
    (k20 : PySem.W.keepIn K (.ref f20) = true)
    (a21 : PySem.W.nsIn K mainGlobals "_law_fault" = some (some (.ref f21)))
    (l21 : K.lookup f21 = some ⟨oc21, od21, .func (PySem.W.fnOf "_law_fault" "_law_fault" (defArgs st__law_fault) (defBody st__law_fault) (defScope st__law_fault) .none kV21 dc21 pm21 an21 cd21 ct21), sl21⟩)
    (c21 : PySem.W.codeIn K cd21 "_law_fault" = true)
    (k21 : PySem.W.keepIn K (.ref f21) = true)
    (a22 : PySem.W.nsIn K mainGlobals "_law_right" = some (some (.ref f22)))
    (l22 : K.lookup f22 = some ⟨oc22, od22, .func (PySem.W.fnOf "_law_right" "_law_right" (defArgs st__law_right) (defBody st__law_right) (defScope st__law_right) .none kV22 dc22 pm22 an22 cd22 ct22), sl22⟩)
    (c22 : PySem.W.codeIn K cd22 "_law_right" = true)
    (k22 : PySem.W.keepIn K (.ref f22) = true)
    (a23 : PySem.W.nsIn K mainGlobals "law" = some (some (.ref f23)))
    (l23 : K.lookup f23 = some ⟨oc23, od23, .func (PySem.W.fnOf "law" "law" (defArgs st_law) (defBody st_law) (defScope st_law) .none kV23 dc23 pm23 an23 cd23 ct23), sl23⟩)
    (c23 : PySem.W.codeIn K cd23 "law" = true)
    (k23 : PySem.W.keepIn K (.ref f23) = true)
    (z_isinstance : PySem.W.nsIn K mainGlobals "isinstance" = some none)
    (z_int : PySem.W.nsIn K mainGlobals "int" = some none)
    (z_bool : PySem.W.nsIn K mainGlobals "bool" = some none)
    (z_tuple : PySem.W.nsIn K mainGlobals "tuple" = some none)
    (z_len : PySem.W.nsIn K mainGlobals "len" = some none)
    (z_all : PySem.W.nsIn K mainGlobals "all" = some none)
    (z_enumerate : PySem.W.nsIn K mainGlobals "enumerate" = some none)
    (z_reversed : PySem.W.nsIn K mainGlobals "reversed" = some none)
    (z_sorted : PySem.W.nsIn K mainGlobals "sorted" = some none)
    (z_max : PySem.W.nsIn K mainGlobals "max" = some none)
    (z_min : PySem.W.nsIn K mainGlobals "min" = some none)
    (z_abs : PySem.W.nsIn K mainGlobals "abs" = some none)
    (z_range : PySem.W.nsIn K mainGlobals "range" = some none)
    (z_list : PySem.W.nsIn K mainGlobals "list" = some none)
    (z_repr : PySem.W.nsIn K mainGlobals "repr" = some none)
    (z_sum : PySem.W.nsIn K mainGlobals "sum" = some none)
    (z_any : PySem.W.nsIn K mainGlobals "any" = some none)
    (z_zip : PySem.W.nsIn K mainGlobals "zip" = some none)
    (z_str : PySem.W.nsIn K mainGlobals "str" = some none)
    (z_set : PySem.W.nsIn K mainGlobals "set" = some none)
    (z_dict : PySem.W.nsIn K mainGlobals "dict" = some none)
    (g_0 : PySem.W.nsIn K mainGlobals "InvalidForest" = some (some (.ref C0)))
    (x_0 : PySem.W.excIn K C0 [.type "ValueError", .type "Exception", .type "BaseException", .type "object"] "ValueError.__new__" = true)
    (k_0 : PySem.W.keepIn K (.ref C0) = true)
    (b_0 : PySem.W.subIn K (.ref C0) (.type "BaseException") = some true)
    (t_0 : PySem.W.typeIn K (.ref C0) = some (.type "type"))
    (ga_0 : PySem.W.findIn K (.ref C0) "__getattribute__" = some (some (.builtin "BaseException.__getattribute__")))
    (gt_0 : PySem.W.findIn K (.ref C0) "__getattr__" = some none)
    (hd_0 : PySem.W.hasDictIn K C0 = true)
    (hc_0 : PySem.W.findIn K (.ref C0) "__class__" = some (some (.builtin "object.__class__")))
    (hm_0 : PySem.W.mroIn K C0 (.type "object") = some true)
    (v_0 : PySem.W.kitOne K (.ref C0) (.type "ValueError") = some true)
    (y_0_0 : PySem.W.kitOne K (.ref C0) (.ref C0) = some true)
    (y_0_1 : PySem.W.kitOne K (.ref C0) (.ref C1) = some false)
    (g_1 : PySem.W.nsIn K mainGlobals "InvalidStages" = some (some (.ref C1)))
    (x_1 : PySem.W.excIn K C1 [.type "ValueError", .type "Exception", .type "BaseException", .type "object"] "ValueError.__new__" = true)
    (k_1 : PySem.W.keepIn K (.ref C1) = true)
    (b_1 : PySem.W.subIn K (.ref C1) (.type "BaseException") = some true)
    (t_1 : PySem.W.typeIn K (.ref C1) = some (.type "type"))
    (ga_1 : PySem.W.findIn K (.ref C1) "__getattribute__" = some (some (.builtin "BaseException.__getattribute__")))
    (gt_1 : PySem.W.findIn K (.ref C1) "__getattr__" = some none)
    (hd_1 : PySem.W.hasDictIn K C1 = true)
    (hc_1 : PySem.W.findIn K (.ref C1) "__class__" = some (some (.builtin "object.__class__")))
    (hm_1 : PySem.W.mroIn K C1 (.type "object") = some true)
    (v_1 : PySem.W.kitOne K (.ref C1) (.type "ValueError") = some true)
    (y_1_0 : PySem.W.kitOne K (.ref C1) (.ref C0) = some false)
    (y_1_1 : PySem.W.kitOne K (.ref C1) (.ref C1) = some true)
    (sn : PySem.W.specialIn K (.builtin "object.__class__") "__get__" = some (some (.builtin "getset_descriptor.__get__")))
    (st : PySem.W.takesIn K (.builtin "object.__class__") = some true) :
    ∃ fd : FuncData, (∀ (s : Shared) (v : Value), BindsTo s fd ⟨[v], []⟩ [("script", v)]) ∧ ∀ base : Heap, K.In base → base.Ns mainGlobals mg → Qui l.prog w K mg base 11 fa fd ["script"] (spLaw K) := by
  have e := hfa.symm.trans (PySem.W.mg_of X G a23)
  cases e
  have D_is_integer : Df K mg "is_integer" st_is_integer ["value"] := Df.mk' l0 c0 k0 (PySem.W.mg_of X G a0) fun _ _ _ _ _ _ us hl => match us, hl with | [_], _ => rfl
  have D_is_between : Df K mg "is_between" st_is_between ["value", "least", "greatest"] := Df.mk' l1 c1 k1 (PySem.W.mg_of X G a1) fun _ _ _ _ _ _ us hl => match us, hl with | [_, _, _], _ => rfl
  have D_is_index : Df K mg "is_index" st_is_index ["value", "many"] := Df.mk' l2 c2 k2 (PySem.W.mg_of X G a2) fun _ _ _ _ _ _ us hl => match us, hl with | [_, _], _ => rfl
  have D_is_forest : Df K mg "is_forest" st_is_forest ["value"] := Df.mk' l3 c3 k3 (PySem.W.mg_of X G a3) fun _ _ _ _ _ _ us hl => match us, hl with | [_], _ => rfl
  have D_check_forest : Df K mg "check_forest" st_check_forest ["forest"] := Df.mk' l4 c4 k4 (PySem.W.mg_of X G a4) fun _ _ _ _ _ _ us hl => match us, hl with | [_], _ => rfl
  have D__without_holder : Df K mg "_without_holder" st__without_holder ["forest"] := Df.mk' l5 c5 k5 (PySem.W.mg_of X G a5) fun _ _ _ _ _ _ us hl => match us, hl with | [_], _ => rfl
  have D__held_lists : Df K mg "_held_lists" st__held_lists ["forest"] := Df.mk' l6 c6 k6 (PySem.W.mg_of X G a6) fun _ _ _ _ _ _ us hl => match us, hl with | [_], _ => rfl
  have D__walk_through : Df K mg "_walk_through" st__walk_through ["held", "starts"] := Df.mk' l7 c7 k7 (PySem.W.mg_of X G a7) fun _ _ _ _ _ _ us hl => match us, hl with | [_, _], _ => rfl
  have D_are_stages : Df K mg "are_stages" st_are_stages ["value", "many"] := Df.mk' l8 c8 k8 (PySem.W.mg_of X G a8) fun _ _ _ _ _ _ us hl => match us, hl with | [_, _], _ => rfl
  have D_are_different : Df K mg "are_different" st_are_different ["values", "many"] := Df.mk' l9 c9 k9 (PySem.W.mg_of X G a9) fun _ _ _ _ _ _ us hl => match us, hl with | [_, _], _ => rfl
  have D_stage_fault : Df K mg "stage_fault" st_stage_fault ["forest", "stages"] := Df.mk' l10 c10 k10 (PySem.W.mg_of X G a10) fun _ _ _ _ _ _ us hl => match us, hl with | [_, _], _ => rfl
  have D__ascends : Df K mg "_ascends" st__ascends ["things"] := Df.mk' l11 c11 k11 (PySem.W.mg_of X G a11) fun _ _ _ _ _ _ us hl => match us, hl with | [_], _ => rfl
  have D__check_stages : Df K mg "_check_stages" st__check_stages ["forest", "stages"] := Df.mk' l12 c12 k12 (PySem.W.mg_of X G a12) fun _ _ _ _ _ _ us hl => match us, hl with | [_, _], _ => rfl
  have D__law_well : Df K mg "_law_well" st__law_well ["script", "at"] := Df.mk' l13 c13 k13 (PySem.W.mg_of X G a13) fun _ _ _ _ _ _ us hl => match us, hl with | [_, _], _ => rfl
  have D__law_draw : Df K mg "_law_draw" st__law_draw ["well", "most"] := Df.mk' l14 c14 k14 (PySem.W.mg_of X G a14) fun _ _ _ _ _ _ us hl => match us, hl with | [_, _], _ => rfl
  have D__law_same : Df K mg "_law_same" st__law_same ["found", "due"] := Df.mk' l15 c15 k15 (PySem.W.mg_of X G a15) fun _ _ _ _ _ _ us hl => match us, hl with | [_, _], _ => rfl
  have D__law_forest : Df K mg "_law_forest" st__law_forest ["well", "most"] := Df.mk' l16 c16 k16 (PySem.W.mg_of X G a16) fun _ _ _ _ _ _ us hl => match us, hl with | [_, _], _ => rfl
  have D__law_row : Df K mg "_law_row" st__law_row ["well", "plan"] := Df.mk' l17 c17 k17 (PySem.W.mg_of X G a17) fun _ _ _ _ _ _ us hl => match us, hl with | [_, _], _ => rfl
  have D__law_lots : Df K mg "_law_lots" st__law_lots ["well", "row"] := Df.mk' l18 c18 k18 (PySem.W.mg_of X G a18) fun _ _ _ _ _ _ us hl => match us, hl with | [_, _], _ => rfl
  have D__law_flat : Df K mg "_law_flat" st__law_flat ["lots"] := Df.mk' l19 c19 k19 (PySem.W.mg_of X G a19) fun _ _ _ _ _ _ us hl => match us, hl with | [_], _ => rfl
  have D__law_bent : Df K mg "_law_bent" st__law_bent ["well", "lots", "size"] := Df.mk' l20 c20 k20 (PySem.W.mg_of X G a20) fun _ _ _ _ _ _ us hl => match us, hl with | [_, _, _], _ => rfl
  have D__law_fault : Df K mg "_law_fault" st__law_fault ["plan", "lots"] := Df.mk' l21 c21 k21 (PySem.W.mg_of X G a21) fun _ _ _ _ _ _ us hl => match us, hl with | [_, _], _ => rfl
  have D__law_right : Df K mg "_law_right" st__law_right ["well", "most"] := Df.mk' l22 c22 k22 (PySem.W.mg_of X G a22) fun _ _ _ _ _ _ us hl => match us, hl with | [_, _], _ => rfl
  have B : Bl mg := ⟨PySem.W.mg_none_of X G z_isinstance, PySem.W.mg_none_of X G z_int, PySem.W.mg_none_of X G z_bool, PySem.W.mg_none_of X G z_tuple, PySem.W.mg_none_of X G z_len, PySem.W.mg_none_of X G z_all, PySem.W.mg_none_of X G z_enumerate, PySem.W.mg_none_of X G z_reversed, PySem.W.mg_none_of X G z_sorted, PySem.W.mg_none_of X G z_max, PySem.W.mg_none_of X G z_min, PySem.W.mg_none_of X G z_abs, PySem.W.mg_none_of X G z_range, PySem.W.mg_none_of X G z_list, PySem.W.mg_none_of X G z_repr, PySem.W.mg_none_of X G z_sum, PySem.W.mg_none_of X G z_any, PySem.W.mg_none_of X G z_zip, PySem.W.mg_none_of X G z_str, PySem.W.mg_none_of X G z_set, PySem.W.mg_none_of X G z_dict⟩
  have E_InvalidForest : Ex1 K mg "InvalidForest" C0 := ⟨x_0, PySem.W.mg_of X G g_0, k_0, b_0, t_0⟩
  have X_InvalidForest : ExcC K C0 := ⟨ga_0, gt_0, b_0, hd_0, hc_0, sn, st, hm_0⟩
  have E_InvalidStages : Ex1 K mg "InvalidStages" C1 := ⟨x_1, PySem.W.mg_of X G g_1, k_1, b_1, t_1⟩
  have X_InvalidStages : ExcC K C1 := ⟨ga_1, gt_1, b_1, hd_1, hc_1, sn, st, hm_1⟩
  refine ⟨PySem.W.fnOf "law" "law" (defArgs st_law) (defBody st_law) (defScope st_law) .none kV23 dc23 pm23 an23 cd23 ct23, fun s v => .of_eq rfl, fun base _ _ => ?_⟩
  have Kis_integer := ok_is_integer (P := l.prog) (w := w) (base := base) D_is_integer B
  have Kis_between := ok_is_between D_is_between B Kis_integer
  have Kis_index := ok_is_index D_is_index B Kis_between
  have Kwo := ok__without_holder (P := l.prog) (w := w) (base := base) D__without_holder B
  have Khl := ok__held_lists (P := l.prog) (w := w) (base := base) D__held_lists B
  have Kwt := ok__walk_through (P := l.prog) (w := w) (base := base) D__walk_through B
  have Kis_forest := ok_is_forest D_is_forest B Kis_index Kwo Khl Kwt
  have Kcf := ok_check_forest D_check_forest B E_InvalidForest Kis_forest
  have Kascends := ok__ascends (P := l.prog) (w := w) (base := base) D__ascends B
  have Kdifferent := ok_are_different D_are_different B Kis_index
  have Kstages := ok_are_stages D_are_stages B Kascends Kdifferent
  have Kchecks := ok__check_stages D__check_stages B E_InvalidStages Kcf Kstages
  have Kfault := ok_stage_fault D_stage_fault B Kchecks
  have Kdraw := ok__law_draw (P := l.prog) (w := w) (base := base) D__law_draw B
  have Kwell := ok__law_well (P := l.prog) (w := w) (base := base) D__law_well B
  have Kforest := ok__law_forest D__law_forest B Kdraw
  have Ksame3 := ok__law_same (P := l.prog) (w := w) (base := base) D__law_same B 3
  have Krow := ok__law_row D__law_row B Kdraw
  have Klots := ok__law_lots D__law_lots B Kdraw
  have Kflat := ok__law_flat (P := l.prog) (w := w) (base := base) D__law_flat B
  have Kbent := ok__law_bent D__law_bent B Kdraw Kflat
  have Klfault := ok__law_fault (P := l.prog) (w := w) (base := base) D__law_fault B
  have Kright := ok__law_right D__law_right B Kdraw Kforest Krow Klots Kbent Klfault Ksame3 Kfault
  exact ok_law (fun_mk (st := st_law) l23 c23 k23) B Kwell Kright Ksame3 Kfault
theorem walkL {l : PySem.W.OpenLaw} {q : Program} {loose : List Str} {XP : (Str → Option Value) → Heap → Prop} {YP : World → Heap → Prop} {d : DefRec} {K : Params → PySem.W.Frag} (hn : l.most = some 63) (hdf : d.params.defaults = []) (hY : ∀ (w : World) (h : Heap), YP w h → (K w.params).In h)
    (F : ∀ (w : World) (mg : Str → Option Value) (fa : Addr) (h : Heap), (K w.params).In h → h.Ns mainGlobals mg → mg d.name = some (.ref fa) → ∃ fd : FuncData, (∀ (s : Shared) (u : Value), BindsTo s fd ⟨[u], []⟩ [("script", u)]) ∧ ∀ base : Heap, (K w.params).In base → base.Ns mainGlobals mg → Qui l.prog w (K w.params) mg base 11 fa fd ["script"] (spLaw (K w.params))) :
    PySem.W.WalkO q loose XP YP l.row.toRowW d [] (fun f vs => PySem.call f vs) :=
  L2.walk_ofQ (n := 63) (k := 11) (x := "script") (sp := fun w => spLaw (K w.params)) hn (by decide) hdf ⟨rfl, by decide, by decide⟩ hY F fun _ _ a ns hl _ hS => ⟨a, ns, rfl, hS, hl, fun _ => rfl⟩
end My
open PySem PySem.W PyProof.Rows
set_option maxRecDepth 100000 in
set_option maxHeartbeats 0 in
theorem PySem.Challenge.cw_heldbehind_k15_faults_of_stages_holds : PySem.Challenge.rw_heldbehind_k15_faults_of_stages.Holds := by
  w_on; o_law; k_head; (case hw => w_witness2)
  k_fill
  refine My.walkL (l := PySem.Challenge.rw_heldbehind_k15_faults_of_stages) rfl rfl (fun w h Y => PySem.W.kIn_of Y) ?F
  case F =>
    intro w mg fa h KX G hmg
    refine' My.all_mk KX G hmg ?a0 ?l0 ?c0 ?k0 ?a1 ?l1 ?c1 ?k1 ?a2 ?l2 ?c2 ?k2 ?a3 ?l3 ?c3 ?k3 ?a4 ?l4 ?c4 ?k4 ?a5 ?l5 ?c5 ?k5 ?a6 ?l6 ?c6 ?k6 ?a7 ?l7 ?c7 ?k7 ?a8 ?l8 ?c8 ?k8 ?a9 ?l9 ?c9 ?k9 ?a10 ?l10 ?c10 ?k10 ?a11 ?l11 ?c11 ?k11 ?a12 ?l12 ?c12 ?k12 ?a13 ?l13 ?c13 ?k13 ?a14 ?l14 ?c14 ?k14 ?a15 ?l15 ?c15 ?k15 ?a16 ?l16 ?c16 ?k16 ?a17 ?l17 ?c17 ?k17 ?a18 ?l18 ?c18 ?k18 ?a19 ?l19 ?c19 ?k19 ?a20 ?l20 ?c20 ?k20 ?a21 ?l21 ?c21 ?k21 ?a22 ?l22 ?c22 ?k22 ?a23 ?l23 ?c23 ?k23 ?z_isinstance ?z_int ?z_bool ?z_tuple ?z_len ?z_all ?z_enumerate ?z_reversed ?z_sorted ?z_max ?z_min ?z_abs ?z_range ?z_list ?z_repr ?z_sum ?z_any ?z_zip ?z_str ?z_set ?z_dict ?g_0 ?x_0 ?k_0 ?b_0 ?t_0 ?ga_0 ?gt_0 ?hd_0 ?hc_0 ?hm_0 ?v_0 ?y_0_0 ?y_0_1 ?g_1 ?x_1 ?k_1 ?b_1 ?t_1 ?ga_1 ?gt_1 ?hd_1 ?hc_1 ?hm_1 ?v_1 ?y_1_0 ?y_1_1 ?sn ?st
    (case a0 => first | k_is | rfl)
    (case a1 => first | k_is | rfl)
    (case a2 => first | k_is | rfl)
    (case a3 => first | k_is | rfl)
    (case a4 => first | k_is | rfl)
    (case a5 => first | k_is | rfl)
    (case a6 => first | k_is | rfl)
    (case a7 => first | k_is | rfl)
    (case a8 => first | k_is | rfl)
    (case a9 => first | k_is | rfl)
    (case a10 => first | k_is | rfl)
    (case a11 => first | k_is | rfl)
    (case a12 => first | k_is | rfl)
    (case a13 => first | k_is | rfl)
    (case a14 => first | k_is | rfl)
    (case a15 => first | k_is | rfl)
    (case a16 => first | k_is | rfl)
    (case a17 => first | k_is | rfl)
    (case a18 => first | k_is | rfl)
    (case a19 => first | k_is | rfl)
    (case a20 => first | k_is | rfl)
    (case a21 => first | k_is | rfl)
    (case a22 => first | k_is | rfl)
    (case a23 => first | k_is | rfl)
    (case g_0 => first | k_is | rfl)
    (case g_1 => first | k_is | rfl)
    (case l0 => first | k_is | rfl)
    (case c0 => first | k_is | rfl)
    (case k0 => first | k_is | rfl)
    (case l1 => first | k_is | rfl)
    (case c1 => first | k_is | rfl)
    (case k1 => first | k_is | rfl)
    (case l2 => first | k_is | rfl)
    (case c2 => first | k_is | rfl)
    (case k2 => first | k_is | rfl)
    (case l3 => first | k_is | rfl)
    (case c3 => first | k_is | rfl)
    (case k3 => first | k_is | rfl)
    (case l4 => first | k_is | rfl)
    (case c4 => first | k_is | rfl)
    (case k4 => first | k_is | rfl)
    (case l5 => first | k_is | rfl)
    (case c5 => first | k_is | rfl)
    (case k5 => first | k_is | rfl)
    (case l6 => first | k_is | rfl)
    (case c6 => first | k_is | rfl)
    (case k6 => first | k_is | rfl)
    (case l7 => first | k_is | rfl)
    (case c7 => first | k_is | rfl)
    (case k7 => first | k_is | rfl)
    (case l8 => first | k_is | rfl)
    (case c8 => first | k_is | rfl)
    (case k8 => first | k_is | rfl)
    (case l9 => first | k_is | rfl)
    (case c9 => first | k_is | rfl)
    (case k9 => first | k_is | rfl)
    (case l10 => first | k_is | rfl)
    (case c10 => first | k_is | rfl)
    (case k10 => first | k_is | rfl)
    (case l11 => first | k_is | rfl)
    (case c11 => first | k_is | rfl)
    (case k11 => first | k_is | rfl)
    (case l12 => first | k_is | rfl)
    (case c12 => first | k_is | rfl)
    (case k12 => first | k_is | rfl)
    (case l13 => first | k_is | rfl)
    (case c13 => first | k_is | rfl)
    (case k13 => first | k_is | rfl)
    (case l14 => first | k_is | rfl)
    (case c14 => first | k_is | rfl)
    (case k14 => first | k_is | rfl)
    (case l15 => first | k_is | rfl)
    (case c15 => first | k_is | rfl)
    (case k15 => first | k_is | rfl)
    (case l16 => first | k_is | rfl)
    (case c16 => first | k_is | rfl)
    (case k16 => first | k_is | rfl)
    (case l17 => first | k_is | rfl)
    (case c17 => first | k_is | rfl)
    (case k17 => first | k_is | rfl)
    (case l18 => first | k_is | rfl)
    (case c18 => first | k_is | rfl)
    (case k18 => first | k_is | rfl)
    (case l19 => first | k_is | rfl)
    (case c19 => first | k_is | rfl)
    (case k19 => first | k_is | rfl)
    (case l20 => first | k_is | rfl)
    (case c20 => first | k_is | rfl)
    (case k20 => first | k_is | rfl)
    (case l21 => first | k_is | rfl)
    (case c21 => first | k_is | rfl)
    (case k21 => first | k_is | rfl)
    (case l22 => first | k_is | rfl)
    (case c22 => first | k_is | rfl)
    (case k22 => first | k_is | rfl)
    (case l23 => first | k_is | rfl)
    (case c23 => first | k_is | rfl)
    (case k23 => first | k_is | rfl)
    (case z_isinstance => first | k_is | rfl)
    (case z_int => first | k_is | rfl)
    (case z_bool => first | k_is | rfl)
    (case z_tuple => first | k_is | rfl)
    (case z_len => first | k_is | rfl)
    (case z_all => first | k_is | rfl)
    (case z_enumerate => first | k_is | rfl)
    (case z_reversed => first | k_is | rfl)
    (case z_sorted => first | k_is | rfl)
    (case z_max => first | k_is | rfl)
    (case z_min => first | k_is | rfl)
    (case z_abs => first | k_is | rfl)
    (case z_range => first | k_is | rfl)
    (case z_list => first | k_is | rfl)
    (case z_repr => first | k_is | rfl)
    (case z_sum => first | k_is | rfl)
    (case z_any => first | k_is | rfl)
    (case z_zip => first | k_is | rfl)
    (case z_str => first | k_is | rfl)
    (case z_set => first | k_is | rfl)
    (case z_dict => first | k_is | rfl)
    (case x_0 => first | k_exc | rfl)
    (case k_0 => first | k_is | rfl)
    (case b_0 => first | k_is | rfl)
    (case t_0 => first | k_is | rfl)
    (case ga_0 => first | k_is | rfl)
    (case gt_0 => first | k_is | rfl)
    (case hd_0 => first | k_is | rfl)
    (case hc_0 => first | k_is | rfl)
    (case hm_0 => first | k_is | rfl)
    (case v_0 => first | k_is | rfl)
    (case y_0_0 => first | k_is | rfl)
    (case y_0_1 => first | k_is | rfl)
    (case x_1 => first | k_exc | rfl)
    (case k_1 => first | k_is | rfl)
    (case b_1 => first | k_is | rfl)
    (case t_1 => first | k_is | rfl)
    (case ga_1 => first | k_is | rfl)
    (case gt_1 => first | k_is | rfl)
    (case hd_1 => first | k_is | rfl)
    (case hc_1 => first | k_is | rfl)
    (case hm_1 => first | k_is | rfl)
    (case v_1 => first | k_is | rfl)
    (case y_1_0 => first | k_is | rfl)
    (case y_1_1 => first | k_is | rfl)
    (case sn => first | k_is | rfl)
    (case st => first | k_is | rfl)
