import PyProof.Rows.All
import Wide.All
import OpenK.AllK
import Wide.FinOn
import KE.GoesMore
import KE.GoesEnum
import HandS.Base
import HandS.Call
import HandS.List
import HandS.Comp
import HandS.Dict
import HandS.Iter
import HandS.Walk
import HandS.Exc
import HandS.ExcOwn
import Flt.Len
import HandS.ForMost
import HandS.ForExc
import HandS.Wide
import HandS.IsInst
import HandS.ExcIs
import HandS.Conv
import HandS.TupAny
import HandS.SetFor
import HandS.Style
import HandS.CallSlots
import HandS.Codes
import PyProof.ReprBulk
import PyProof.ReprRoads
import HandS.Gcd
import HandS.Zip
import HandS.TupMul
import KE.KMathGC
import HandS.SortInts
import HandS.DictComp
import KE.KDictCopyH
import HandS.TryOnly
import HandS.NoneIn
import HandS.TupSets
import HandS.SetBool
import HandS.Deep
import KE.SortData
import HandS.DictTup
import PyProof.Rows.TupDisplay
import HandS.Nested
import HandS.EndTab
import KE.DataCmp
import KE.KEqDict
import PySem.Challenge.RW_heldbehind_k32_errors_of_told_lists
set_option Elab.async false
set_option linter.all false
set_option maxRecDepth 100000
set_option maxHeartbeats 4000000
/-! Z0: rules of my own beside the hand layer: enumerate over a tuple, powers of great ints, an own error without arguments, list.count of flat items. -/
namespace L2
open PySem PySem.Spec PyProof.Rows
/-! ### enumerate(tuple) -/
theorem zen_new (t : Addr) (items : Array Value) :
    Meets (Builtin.«enumerate.__new__» ⟨[.type "enumerate", .ref t], []⟩) (fun _ R s => s.heap.IsTuple t items ∧
      R (.ok (.ret (.ref (s.heap.push { cls := .type "tuple_iterator", data := .fields #[.ref t, .int 0 0] }).objs.size)))
        { s with heap := (s.heap.push { cls := .type "tuple_iterator", data := .fields #[.ref t, .int 0 0] }).push { cls := .type "enumerate", data := .fields #[.none, .bool false, .ref s.heap.objs.size, rawInt 0, .none, .none] } }) :=
  .of_wp fun prog w A R s hs => by
    obtain ⟨hp, g, d, tk, os⟩ := s; obtain ⟨ht, hs⟩ := hs
    have hsb := sub_enumerate
    have q1 : ∀ {A' : Around} {E : Value → Shared → Prop} {Q : Value → Shared → Prop}, Q (.ref hp.objs.size) ⟨hp.push { cls := .type "tuple_iterator", data := .fields #[.ref t, .int 0 0] }, g, d, tk, os⟩ → wpAny (model prog w) A' (pyIter (.ref t)) Q E ⟨hp, g, d, tk, os⟩ :=
      fun q => wpAny_pyIter_tuple (s := ⟨hp, g, d, tk, os⟩) ht q
    wp_walk using q1
    refine wpAny_stack_any fun st => wpAny_pure ?_
    split
    · rename_i c _ _ _ _ _
      cases hce : (c == Value.type "enumerate")
      · wp_walk using q1
        exact ⟨_, rfl, hs⟩
      · wp_walk using q1
        exact ⟨_, rfl, hs⟩
    · wp_walk using q1
      exact ⟨_, rfl, hs⟩
section
variable {prog : Program} {w : World} {A : Around} {E : Value → Shared → Prop} {s : Shared}
theorem zen_call {t : Addr} {items : Array Value} {Q : Value → Shared → Prop} (ht : s.heap.IsTuple t items)
    (h : ∀ h', IsEnum h' (s.heap.objs.size + 1) s.heap.objs.size 0 .none → h'.IsTupleIter s.heap.objs.size t 0 →
      (∀ b o, s.heap.get? b = some o → h'.get? b = some o) → Q (.ref (s.heap.objs.size + 1)) { s with heap := h' }) :
    wpAny (model prog w) A (call (.type "enumerate") [.ref t]) Q E s := by
  refine callType_new F.called_enumerate (by decide) (F.typeCall_enumerate_1 _) (F.newCall_enumerate_1 _) (fun obj => F.args_object_init_2 obj _) F.entry_enumerate_new (zen_new t items) ⟨ht, ?_⟩
  have hz : (s.heap.push { cls := .type "tuple_iterator", data := .fields #[.ref t, .int 0 0] }).objs.size = s.heap.objs.size + 1 := Heap.size_push ..
  show _ ∧ _
  rw [hz]
  have he := Heap.get?_push_size (s.heap.push { cls := .type "tuple_iterator", data := .fields #[.ref t, .int 0 0] }) (o := { cls := .type "enumerate", data := .fields #[.none, .bool false, .ref s.heap.objs.size, rawInt 0, .none, .none] }) rfl
  rw [hz] at he
  refine ⟨⟨_, he, rfl⟩, h _ he ⟨_, Heap.get?_push_of_some _ (Heap.get?_push_size _ rfl), rfl, rfl⟩ fun b o e => Heap.get?_push_of_some _ (Heap.get?_push_of_some _ e)⟩
end
/-- the tuple at a as it stands at each turn, each item in a new pair -/
def IteT (K : PySem.W.Frag) (a : Addr) : It :=
  ⟨fun i H => ∃ (xs : List V) (x : V), SqT K H a xs ∧ xs[i]? = some x, fun i H v H' => ∃ T x, v = .ref T ∧ H T = none ∧ H' = upd H T (.tup [.int (i : Nat), x]) ∧ ∀ ys, SqT K H a ys → ys[i]? = some x, fun i H => ∃ xs : List V, SqT K H a xs ∧ xs.length = i⟩
theorem zen_turn {P : Program} {w : World} {K : PySem.W.Frag} {elts : List Expr} {kk : Nat} {tpos : Pos} (a e it : Addr) :
    Turn P w K (.Tuple elts kk tpos) (IteT K a) [e, it] e (fun i h => (∃ old, IsEnum h e it ((i : Nat) : Int) old) ∧ h.IsTupleIter it a i ∧ e ≠ it) where
  mem := by simp
  obj := fun i h st b hb => by
    obtain ⟨⟨old, he⟩, ⟨o, ho, hc, hd⟩, _⟩ := st
    have e' : b = e ∨ b = it := by simpa using hb
    rcases e' with z | z
    · exact ⟨_, by rw [z]; exact he, fun v q => by cases q⟩
    · exact ⟨o, by rw [z]; exact ho, fun v q => by rw [hd] at q; cases q⟩
  keep := fun i h h' st k => let ⟨⟨old, he⟩, hi, hne⟩ := st; ⟨⟨old, k e (by simp) _ he⟩, hi.at fun o q => k it (by simp) o q, hne⟩
  item := by
    intro X hP hw hK hc i pins s σ H E I hf st hg
    subst hP hw hK
    obtain ⟨⟨old, he⟩, hit, hne⟩ := st
    obtain ⟨xs, x, hq, hx⟩ := hg
    obtain ⟨its, rv, p, hz⟩ := I.tuple hq
    obtain ⟨u, hu, ru⟩ := rv.get hx
    have hel : e < s.heap.objs.size := Heap.lt_size he
    have hil : it < s.heap.objs.size := by obtain ⟨_, q, _⟩ := hit; exact Heap.lt_size q
    have hai : a ≠ it := by
      intro z
      obtain ⟨o1, q1, c1, _⟩ := p
      obtain ⟨o2, q2, c2, _⟩ := hit
      rw [z, q2] at q1
      cases q1
      rw [c2] at c1
      exact absurd c1 (by decide)
    have hae : a ≠ e := by
      intro z
      obtain ⟨o1, q1, c1, _⟩ := p
      rw [z] at q1
      have q3 := he.symm.trans q1
      cases q3
      have c2 : ("enumerate" : String) = "tuple" := Value.type.inj c1
      exact absurd c2 (by decide)
    have hlt : i < its.toArray.size := by
      have := (List.getElem?_eq_some_iff.mp hu).1
      simpa using this
    have D := Draws.tuple (prog := X.prog) (w := X.w) (A := X.A.in1) (I.ok.hd hc) it a hai its.toArray
    refine wpAny_pyNext_enum_itemD D he ⟨hit, p⟩ hlt hne (by simp [hne, Ne.symm hae]) fun y h' tk hy ho hst hT hsz hk => ?_
    have ey : y = u := by
      have q4 : its[i]? = some y := by simpa using hy
      rw [hu] at q4
      exact (Option.some.inj q4).symm
    subst ey
    refine ⟨_, rfl, wpAny_letOwnedTupleGo_enum (s := { s with heap := h', toks := tk + 1 }) ho fun h'' he' sb => ?_⟩
    have hT2 : h''.get? s.heap.objs.size = some { cls := .type "tuple", data := .seq #[.int i tk, y] } := (sb.2 _ (Nat.ne_of_gt hel)).trans hT
    have new : ObjOk X.prog X.w (upd H s.heap.objs.size (.tup [.int (i : Nat), x])) h'' s.heap.objs.size (.tup [.int (i : Nat), x]) :=
      ⟨by show 2 ≤ sizeLine; decide, [.int i tk, y], .cons ⟨_, rfl⟩ (.cons ru .nil), ⟨_, hT2, rfl, _, rfl⟩⟩
    have I1 : Inv X pins σ (upd H s.heap.objs.size (.tup [.int (i : Nat), x])) { s with heap := h'', toks := tk + 1 } :=
      I.turnedNew (ch := [e, it]) (fun b ob hb q => (sb.2 b (fun z => hb (by simp [z]))).trans (hk b ob (fun z => hb (by simp [z])) (fun z => hb (by simp [z])) q)) hf (Nat.le_refl _) new
    refine ⟨.ref s.heap.objs.size, _, I1, rfl, ⟨_, x, rfl, I.hok.fresh (Nat.le_refl _), rfl, fun ys hy => by rw [I.tuple_inj hy hq]; exact hx⟩, ⟨⟨y, ?_⟩, hst.1.at fun o q => (sb.2 it (Ne.symm hne)).trans q, hne⟩, fun b hb => ?_⟩
    · have e1 : ((i + 1 : Nat) : Int) = (i : Int) + 1 := by omega
      rw [e1]; exact he'
    · have hb' : b < s.heap.objs.size := by
        rcases (by simpa using hb : b = e ∨ b = it) with z | z
        · rw [z]; exact hel
        · rw [z]; exact hil
      rw [upd_ne (Nat.ne_of_lt hb')]; exact (hf b hb).1
  done := by
    intro X hP hw hK hc i pins s σ H E I hf st hg
    subst hP hw hK
    obtain ⟨⟨old, he⟩, hit, hne⟩ := st
    obtain ⟨xs, hq, hx⟩ := hg
    obtain ⟨its, rv, p, hz⟩ := I.tuple hq
    obtain ⟨f0, f1, f2, f3, f4, f5⟩ := hf it (by simp)
    have hl := rv.length
    have hai : a ≠ it := by
      intro z
      obtain ⟨o1, q1, c1, _⟩ := p
      obtain ⟨o2, q2, c2, _⟩ := hit
      rw [z, q2] at q1; cases q1
      rw [c2] at c1
      exact absurd c1 (by decide)
    have hn : its.toArray.size = i := by simp only [List.size_toArray]; omega
    have D := Draws.tuple (prog := X.prog) (w := X.w) (A := X.A.in1) (I.ok.hd hc) it a hai its.toArray
    rw [hn] at D
    exact wpAny_pyNext_enum_endD D he ⟨hit, p⟩ fun h' eb => ⟨rfl, I.turned (t' := s.toks) (fun b o hb q => eb b o hb q) f0 f1 f3 f4 f5⟩
  self := fun A i s Q E st h => let ⟨⟨_, he⟩, _⟩ := st; wpAny_pyIter_enum he h
def iEnumT (K : PySem.W.Frag) (ta : TA) : TI := fun σ H R => ta σ H fun vs H1 => ∃ a xs, vs = [.ref a] ∧ SqT K H1 a xs ∧ R (IteT K a) H1
theorem pi_enumT {X : Cx} {e : Expr} {ta : TA} {p pos tpos : Pos} {elts : List Expr} {kk : Nat} (hg : Gl X "enumerate") (hm : X.mg "enumerate" = none) (ha : PA X [e] ta) (hs : starEach [e] X.env = [(false, eval e X.env)] := by rfl) :
    PI X (.Tuple elts kk tpos) (.Call (.Name "enumerate" p) [e] [] pos) (iEnumT X.K ta) := by
  refine ⟨fun pins s σ H R I h => Call_ (ld_blt I hg hm boot_enumerate (PyProof.Rows.callWith_type1 (thn (ha.run pos pins s σ H _ I h) fun us s1 ⟨vs, H1, I1, r1, q1⟩ => ?_) hs rfl))⟩
  obtain ⟨a, xs, ex, hq, q⟩ := q1
  subst ex
  cases r1 with
  | cons r rr =>
    cases rr; cases r
    obtain ⟨its, rv, p', hz⟩ := I1.tuple hq
    refine zen_call p' fun h' he hit hk => wpAny_pyIter_enum he ?_
    have I2 : Inv X pins σ H1 { s1 with heap := h' } := I1.kept (t' := s1.toks) hk
    refine ⟨s1.heap.objs.size + 1, [s1.heap.objs.size + 1, s1.heap.objs.size], _, _, H1, rfl, I2, zen_turn a (s1.heap.objs.size + 1) s1.heap.objs.size, ⟨⟨.none, he⟩, hit, Nat.succ_ne_self _⟩, fun b hb => ?_, q⟩
    have hle : s1.heap.objs.size ≤ b := by
      rcases (by simpa using hb : b = s1.heap.objs.size + 1 ∨ b = s1.heap.objs.size) with z | z
      · rw [z]; exact Nat.le_add_right _ _
      · rw [z]; exact Nat.le_refl _
    exact I1.fpOk hle (I1.hok.fresh hle)
theorem walk_enumT {K : PySem.W.Frag} {a : Addr} {xs : List V} : Walk (IteT K a) xs.length (fun H => SqT K H a xs) (YPair (fun i => some (.int (i : Nat))) (fun i => xs[i]?)) := by
  refine ⟨fun i _ hi q => ⟨xs, xs[i], q, by simp [hi]⟩, fun _ q => ⟨xs, q, rfl⟩, fun i H v H' _ q ⟨T, x, h1, h2, h3, h4⟩ => ⟨T, .int (i : Nat), x, h1, h2, h3, rfl, h4 xs q⟩⟩
/-! ### powers -/
def CPowW (i j : Int) : Prop := 0 ≤ j ∧ (Builtin.Int.intBits i : Int) * j ≤ 2 ^ 27
theorem op_powW {X : Cx} : OpR X (binaryOp .Pow) (rI CPowW fun i j => .int (i ^ j.toNat)) := opI fun _ _ _ _ _ _ _ hc q => pow_int hc.1 hc.2 q
theorem cpow3 {i : Int} {b : Nat} (h : i.natAbs < 2 ^ b) (hb : 0 < b) (h9 : b ≤ 9000) : CPowW i 3 := by
  refine ⟨by decide, ?_⟩
  have z : Builtin.Int.intBits i ≤ b := by
    unfold Builtin.Int.intBits
    have y := PySem.Flt.log2_lt_of hb h
    split <;> omega
  have e : (2 : Int) ^ 27 = 134217728 := by decide
  rw [e]; omega
/-! ### an own error without arguments -/
theorem pmk_own0 {X : Cx} {C : Addr} {bmB : List Value} {B newId initId : String} {x : Str} {p pos : Pos} (F : ExcBaseFacts B newId initId bmB) (q : PySem.W.excIn X.K C bmB newId = true) (gC : X.mg x = some (.ref C)) (kC : PySem.W.keepIn X.K (.ref C) = true) (r : Raises X (.ref C)) (hg : Gl X x)
    (hdb : (x == ("__debug__" : Str)) = false := by decide) : PMk X (.Call (.Name x p) [] [] pos) (fun _ H Q => Q (.ref C) none H) := by
  intro pins s σ H Q I h
  refine wpAny_Call_Name_kw (ld_glob I hg gC ?_ hdb)
  refine PySem.W.callWith_K0 I.kIn kC ?_
  obtain ⟨bm, N, nm, qn, bs, hdct, sn, sub, ab, col, dd, k0, k1, k2, k3, k5, mN, hC, hN, hni, T⟩ := exc_obj I.kIn q
  exact wpAny_call_exc_subT F T hC hN hni (fun h' e hm => mk_of I hm r h (I.hok.gone hm.new)) (Nat.zero_le _)
/-! ### list.count of flat items -/
def cntV (y : V) (xs : List V) : Nat := xs.countP fun z => eqV z y
theorem count_eqU {x : V} : ∀ {xs : List V} {us : List Value}, Vals xs us → xs.all flatV = true → us.countP (eqU x) = cntV x xs
  | _, _, .nil, _ => rfl
  | y :: xs, u :: us, .cons r t, f => by
    rw [List.all_cons, Bool.and_eq_true] at f
    unfold cntV
    rw [List.countP_cons, List.countP_cons, eqU_of r f.1, count_eqU t f.2]; rfl
def rCntV (K : PySem.W.Frag) : V → List V → Hp → VK → Prop := fun x xs H Q => ∃ (a : Addr) (ys : List V) (y : V), x = .ref a ∧ xs = [y] ∧ SqL K H a ys ∧ flatV y = true ∧ ys.all flatV = true ∧ Q (.int (cntV y ys : Nat)) H
theorem mt_lcountV {X : Cx} : MtR X "list.count" (rCntV X.K) := by
  intro pins s σ H x xs v us Q I rx rxs h
  obtain ⟨a, ys, y, rfl, rfl, hs, fy, fys, q⟩ := h
  cases rx
  obtain ⟨u, rfl, ru⟩ := rxs.one
  obtain ⟨its, rv, ⟨⟨cls, dd, data, sl⟩, n, ho, hc, hdn, hd⟩, hlen⟩ := I.list hs
  simp only at hc hd
  subst hc hd
  refine call_meets PySem.F.slot_list_count ⟨_, ho, rfl⟩ PySem.F.entry_list_count (PySem.F.args_list_count_2 _ _) (SeqAt.list_countAt a its.toArray n dd sl u (eqU y)) ⟨ho, fun z hz => mem_eqAt ru fy rv fys z (by simpa using hz), ?_⟩
  exact ⟨.int (cntV y ys : Nat), H, I.tok _, ⟨s.toks, by rw [← count_eqU rv fys]⟩, q⟩
end L2

namespace L2
open PySem PySem.Spec PyProof.Rows
/-! ### a def of the text with its name, and one that keeps its promise -/
structure Df (K : PySem.W.Frag) (mg : Str → Option Value) (x : Str) (st : Stmt) (ps : List Str) : Prop where
  ex : ∃ (f : Addr) (fd : FuncData), Fun K x x st f fd ∧ mg x = some (.ref f) ∧ Binds K fd ps [] ∧
    ∃ (kV doc pm : Value) (an : Option Addr) (cdv ct : Value), fd = PySem.W.fnOf x x (defArgs st) (defBody st) (defScope st) .none kV doc pm an cdv ct
structure Kn (P : Program) (w : World) (K : PySem.W.Frag) (mg : Str → Option Value) (base : Heap) (CX : CXT) (k : Nat) (x : Str) (st : Stmt) (ps : List Str) (sp : Sp) : Prop where
  ex : ∃ (f : Addr) (fd : FuncData), FnOk P w K mg base CX k f fd ps sp ∧ mg x = some (.ref f) ∧ PySem.W.keepIn K (.ref f) = true ∧ Binds K fd ps [] ∧
    ∃ (kV doc pm : Value) (an : Option Addr) (cdv ct : Value), fd = PySem.W.fnOf x x (defArgs st) (defBody st) (defScope st) .none kV doc pm an cdv ct
section
variable {P : Program} {w : World} {K : PySem.W.Frag} {mg : Str → Option Value} {base : Heap} {x : Str} {st : Stmt} {ps N : List Str} {k : Nat} {sp : Sp}
theorem Df.mk' {f : Addr} {oc : Value} {od an : Option Addr} {osl : Array (Option Value)} {kV doc pm cdv ct : Value} (l : K.lookup f = some ⟨oc, od, .func (PySem.W.fnOf x x (defArgs st) (defBody st) (defScope st) .none kV doc pm an cdv ct), osl⟩)
    (c : PySem.W.codeIn K cdv x = true) (kp : PySem.W.keepIn K (.ref f) = true) (g : mg x = some (.ref f))
    (h : ∀ (kV doc pm : Value) (an : Option Addr) (cdv ct : Value) (us : List Value), us.length = ps.length → bindArgs (PySem.W.fnOf x x (defArgs st) (defBody st) (defScope st) .none kV doc pm an cdv ct) ⟨us, []⟩ = pure (ps.zip us)) : Df K mg x st ps :=
  ⟨f, _, fun_mk l c kp, g, (fun_mk l c kp).binds h, _, _, _, _, _, _, rfl⟩
theorem Df.ok (D : Df K mg x st ps) (S : FnScope N ps (defScope st)) (len : ∀ vs H Q E, sp vs H Q E → vs.length = ps.length)
    (hb : ∀ (f : Addr) (cdv : Value) (A : Around) (outer : List Env) (s : Shared) (H : Hp) (vs : List V) (Q : VK) (E : XK), Room k (A.deeper (envOfC x (defScope st) s.heap.objs.size f cdv)) → sp vs H Q E →
      ∃ t, PSs (cxOf CX0 P w K mg base N x (defScope st) f cdv A outer s H E).nox (defBody st) t ∧ t { nx := fun _ H' => Q .non H', rt := Q } (start N vs) H) : Kn P w K mg base CX0 (k + 1) x st ps sp := by
  obtain ⟨f, fd, F, g, b, e⟩ := D.ex
  exact ⟨f, fd, F.ok S len fun cdv A outer s H vs Q E hr h => hb f cdv A outer s H vs Q E hr h, g, F.kp, b, e⟩
theorem Df.okX (D : Df K mg x st ps) (S : FnScope N ps (defScope st)) (len : ∀ vs H Q E, sp vs H Q E → vs.length = ps.length)
    (hb : ∀ (f : Addr) (cdv : Value) (A : Around) (outer : List Env) (s : Shared) (H : Hp) (vs : List V) (Q : VK) (E : XK), Room k (A.deeper (envOfC x (defScope st) s.heap.objs.size f cdv)) → sp vs H Q E →
      ∃ t, PSs (cxOf (L2.CX P w) P w K mg base N x (defScope st) f cdv A outer s H E) (defBody st) t ∧ t { nx := fun _ H' => Q .non H', rt := Q } (start N vs) H) : Kn P w K mg base (L2.CX P w) (k + 1) x st ps sp := by
  obtain ⟨f, fd, F, g, b, e⟩ := D.ex
  exact ⟨f, fd, F.okX S len fun cdv A outer s H vs Q E hr h => hb f cdv A outer s H vs Q E hr h, g, F.kp, b, e⟩
end
section
variable {X : Cx} {CX : CXT} {k : Nat} {x : Str} {st : Stmt} {ps ks : List Str} {sp : Sp} {E : XK} {p pos : Pos} {e : Expr} {es : List Expr} {kws : List Keyword} {t tk : TA}
theorem pe_callF (h : Kn X.prog X.w X.K X.mg X.base CX k x st ps sp) (hr : Room k X.A) (hx : Passes CX X E) (ha : PA X (e :: es) t) (hg : Gl X x := by rfl)
    (hdb : (x == ("__debug__" : Str)) = false := by decide) (he : starEach (e :: es) X.env = (false, eval e X.env) :: starEach es X.env := by rfl) (hpl : (backTo pos (starEach es X.env)).any (·.1) = false := by rfl) :
    PE X (.Call (.Name x p) (e :: es) [] pos) (tCall sp [] E t) := by
  obtain ⟨f, fd, F, g, kp, b, _⟩ := h.ex
  exact pe_call F hr hg g kp b .nil hx ha hdb he hpl
theorem pe_callF0 (h : Kn X.prog X.w X.K X.mg X.base CX k x st ps sp) (hr : Room k X.A) (hx : Passes CX X E) (hg : Gl X x := by rfl) (hdb : (x == ("__debug__" : Str)) = false := by decide) : PE X (.Call (.Name x p) [] [] pos) (tCall sp [] E tNil) := by
  obtain ⟨f, fd, F, g, kp, b, _⟩ := h.ex
  exact pe_call0 F hr hg g kp b .nil hx hdb
theorem pe_callFS {E : St → XK} (h : Kn X.prog X.w X.K X.mg X.base CX k x st ps sp) (hr : Room k X.A) (hx : ∀ σ, PassesAt CX X σ (E σ)) (ha : PA X (e :: es) t) (hg : Gl X x := by rfl)
    (hdb : (x == ("__debug__" : Str)) = false := by decide) (he : starEach (e :: es) X.env = (false, eval e X.env) :: starEach es X.env := by rfl) (hpl : (backTo pos (starEach es X.env)).any (·.1) = false := by rfl) :
    PE X (.Call (.Name x p) (e :: es) [] pos) (tCallS sp E t) := by
  obtain ⟨f, fd, F, g, kp, b, _⟩ := h.ex
  exact pe_callS F hr hg g kp b hx ha hdb he hpl
/-- how keywords bind, whatever the def's loose parts are -/
def KwB (x : Str) (st : Stmt) (ps ks : List Str) (g : List Value → List Value → List Value) (gV : List V → List V → List V) : Prop :=
  (∀ (kV doc pm : Value) (an : Option Addr) (cdv ct : Value) (us ws : List Value), (g us ws).length = ps.length →
    bindArgs (PySem.W.fnOf x x (defArgs st) (defBody st) (defScope st) .none kV doc pm an cdv ct) ⟨us, ks.zip ws⟩ = pure (ps.zip (g us ws))) ∧
  ∀ {vs : List V} {us : List Value} {zs : List V} {ws : List Value}, Vals vs us → Vals zs ws → Vals (gV vs zs) (g us ws)
variable {g : List Value → List Value → List Value} {gV : List V → List V → List V}
theorem pe_callFK (h : Kn X.prog X.w X.K X.mg X.base CX k x st ps sp) (hr : Room k X.A) (hb : KwB x st ps ks g gV) (hx : Passes CX X E) (ha : PA X (e :: es) t) (hkw : PK X kws tk) (hg : Gl X x := by rfl)
    (hall : (backToKw pos (keywordEach kws X.env)).all (·.1.isSome) = true := by rfl) (hks : (backToKw pos (keywordEach kws X.env)).filterMap (·.1) = ks := by rfl)
    (hdb : (x == ("__debug__" : Str)) = false := by decide) (he : starEach (e :: es) X.env = (false, eval e X.env) :: starEach es X.env := by rfl)
    (hpl : ((backTo pos (starEach (e :: es) X.env)).any (·.1) || (backToKw pos (keywordEach kws X.env)).any (·.1.isNone)) = false := by rfl) :
    PE X (.Call (.Name x p) (e :: es) kws pos) (tCallK sp gV E t tk) := by
  obtain ⟨f, fd, F, gm, kp, b, kV, doc, pm, an, cdv, ct, rfl⟩ := h.ex
  exact pe_callK F hr hg gm kp ⟨fun s us ws _ hl => .of_eq (hb.1 kV doc pm an cdv ct us ws hl), hb.2⟩ hx ha hkw hall hks hdb he hpl
/-- f(k = v, ..), no positional -/
theorem pe_callFK0 (h : Kn X.prog X.w X.K X.mg X.base CX k x st ps sp) (hr : Room k X.A) (hb : KwB x st ps ks g gV) (hx : Passes CX X E) (hkw : PK X kws tk) (hg : Gl X x := by rfl)
    (hall : (backToKw pos (keywordEach kws X.env)).all (·.1.isSome) = true := by rfl) (hks : (backToKw pos (keywordEach kws X.env)).filterMap (·.1) = ks := by rfl)
    (hdb : (x == ("__debug__" : Str)) = false := by decide)
    (hpl : ((backTo pos (starEach [] X.env)).any (·.1) || (backToKw pos (keywordEach kws X.env)).any (·.1.isNone)) = false := by rfl) :
    PE X (.Call (.Name x p) [] kws pos) (tCallK sp gV E tNil tk) := by
  obtain ⟨f, fd, F, gm, kp, b, kV, doc, pm, an, cdv, ct, rfl⟩ := h.ex
  have hbb : KBinds X.K (PySem.W.fnOf x x (defArgs st) (defBody st) (defScope st) .none kV doc pm an cdv ct) ps ks g gV := ⟨fun s us ws _ hl => .of_eq (hb.1 kV doc pm an cdv ct us ws hl), hb.2⟩
  refine ⟨fun pins s σ H Q I hq => wpAny_Call_Name_kw (ld_glob I hg gm ?_ hdb)⟩
  refine PySem.W.callWith_KW0 (h₀ := X.base) I.ok.mod.kin kp hall (thn (hkw.run pos pins s σ H _ I hq) fun ws s2 ⟨zs, H2, I2, rz, q2⟩ => ⟨I2.kIn, ?_⟩) hpl
  rw [hks]
  exact run_fnk F hr hbb hx I2 .nil rz q2
end
/-! ### rules whose reading names K outright (for a comprehension's block) -/
def rLenK (K : PySem.W.Frag) : List V → Hp → VK → Prop := fun xs H Q => ∃ x n, xs = [x] ∧ LenV K x H n ∧ Q (.int n) H
theorem call_lenK {X : Cx} (K : PySem.W.Frag) (e : X.K = K := by rfl) : CallR X (.builtin "len") (rLenK K) := by subst e; exact call_len
theorem call_isiK1 {X : Cx} (K : PySem.W.Frag) (e : X.K = K := by rfl) : CallR X (.builtin "isinstance") (rIsi K) := by subst e; exact call_isi
theorem ix_listK {X : Cx} (K : PySem.W.Frag) (e : X.K = K := by rfl) : IxR X (rIxL K) := by subst e; exact ix_list
theorem ix_tupK {X : Cx} (K : PySem.W.Frag) (e : X.K = K := by rfl) : IxR X (rIxT K) := by subst e; exact ix_tup
theorem op_in_seqK {X : Cx} (K : PySem.W.Frag) (e : X.K = K := by rfl) : OpR X (compareOp .In) (rIn K false) := by subst e; exact op_in_seq
theorem op_notIn_seqK {X : Cx} (K : PySem.W.Frag) (e : X.K = K := by rfl) : OpR X (compareOp .NotIn) (rIn K true) := by subst e; exact op_notIn_seq
theorem op_eqDK {X : Cx} (K : PySem.W.Frag) (hu : X.A.units + 64 < cLine) (e : X.K = K := by rfl) : OpR X (compareOp .Eq) (rEqD K) := by subst e; exact op_eqD hu
theorem op_neDK {X : Cx} (K : PySem.W.Frag) (hu : X.A.units + 64 < cLine) (e : X.K = K := by rfl) : OpR X (compareOp .NotEq) (rNeD K) := by subst e; exact op_neD hu
/-! ### heaps -/
theorem Same.upd {H H' : Hp} {p : Addr} {o : HO} (s : Same H H') (h : H p = none) : Same H (upd H' p o) := fun b u e => by
  rw [upd_ne (ne_of_none e h)]; exact s b u e
theorem Same.new {H H' : Hp} {p : Addr} {o : HO} (s : Same H H') (h : H' p = none) : Same H (L2.upd H' p o) := s.upd (s.free h)
theorem Same.tseq {K : PySem.W.Frag} {H H' : Hp} {a : Addr} {xs : List V} (e : Same H H') (h : SqT K H a xs) : SqT K H' a xs := by
  rcases h with (h | ⟨o, h⟩) | h
  · exact .inl (.inl (e _ _ h))
  · exact .inl (.inr ⟨o, e _ _ h⟩)
  · exact .inr h
/-- all but what stands at a is as it was -/
def Keep (a : Addr) (H H' : Hp) : Prop := ∀ b o, b ≠ a → H b = some o → H' b = some o
theorem Keep.refl (a : Addr) (H : Hp) : Keep a H H := fun _ _ _ h => h
theorem Keep.trans {a : Addr} {H H1 H2 : Hp} (x : Keep a H H1) (y : Keep a H1 H2) : Keep a H H2 := fun b o hb h => y b o hb (x b o hb h)
theorem Same.keep {a : Addr} {H H' : Hp} (s : Same H H') : Keep a H H' := fun b o _ h => s b o h
theorem Keep.upd (a : Addr) (H : Hp) (o : HO) : Keep a H (upd H a o) := fun b u hb h => by rw [upd_ne hb]; exact h
theorem Keep.new {a p : Addr} {H H' : Hp} {o : HO} (x : Keep a H H') (h : H' p = none) : Keep a H (L2.upd H' p o) := fun b u hb e => by
  have q := x b u hb e
  rw [upd_ne (ne_of_none q h)]; exact q
end L2

/-! Z2: promises of defs that are called where no repr is under way; repr; a tuple held against (). -/
namespace L2
open PySem PySem.Spec PyProof.Rows
/-! ### promises that hold where no repr is under way -/
structure Qui (P : Program) (w : World) (K : PySem.W.Frag) (mg : Str → Option Value) (base : Heap) (k : Nat) (f : Addr) (fd : FuncData) (ps : List Str) (sp : Sp) : Prop where
  many : ∀ vs H Q E, sp vs H Q E → vs.length = ps.length
  go : ∀ (A : Around) (outer : List Env) (s : Shared) (H : Hp) (args : Args) (us : List Value) (vs : List V) (Q : VK) (E : XK), Room k A → A.guards = some [] → Env0 P w K mg base A outer s H → BindsTo s fd args (ps.zip us) →
    Vals vs us → sp vs H Q E → codeAny (model P w) A (.call (.ref f) args) (CR CX0 outer P w H s Q E) s
structure KnQ (P : Program) (w : World) (K : PySem.W.Frag) (mg : Str → Option Value) (base : Heap) (k : Nat) (x : Str) (st : Stmt) (ps : List Str) (sp : Sp) : Prop where
  ex : ∃ (f : Addr) (fd : FuncData), Qui P w K mg base k f fd ps sp ∧ mg x = some (.ref f) ∧ PySem.W.keepIn K (.ref f) = true ∧ Binds K fd ps []
theorem fin_flow {X : Cx} {outer : List Env} {P : Program} {w : World} {H : Hp} {s s' : Shared} {Q : VK} {E : XK} {fl : Flow} (hp : X.prog = P) (hw : X.w = w) (h0 : X.s_0 = s) (hH : X.H_0 = H) (hf : X.fs = frs outer) (he : X.ex = []) :
    SP X [] { nx := fun _ H' => Q .non H', rt := Q } fl s' → CR CX0 outer P w H s Q E (.ok (.ret (match fl with | .ret v => v | _ => .none))) s' := by
  intro h
  subst hp hw h0 hH
  have last : ∀ {σ : St} {H' : Hp} {v : V} {u : Value}, Inv X [] σ H' s' → RelV v u → Q v H' → CE outer X.prog X.w X.H_0 X.s_0 Q u s' := by
    intro σ H' v u I r q
    have b := I.base
    rw [hf, he] at b
    exact ⟨v, H', I.os, I.bare, b, I.hok, r, q⟩
  match fl, h with
  | .ret u, ⟨_, _, _, I, r, q⟩ => exact last I r q
  | .next, ⟨_, _, I, q⟩ => exact last (v := .non) (u := .none) I rfl q
  | .brk, ⟨_, _, _, q⟩ => exact q.elim
  | .cont, ⟨_, _, _, q⟩ => exact q.elim
section
variable {P : Program} {w : World} {K : PySem.W.Frag} {mg : Str → Option Value} {base : Heap} {x : Str} {st : Stmt} {ps N : List Str} {k : Nat} {sp : Sp}
theorem Fun.quiet {f : Addr} {fd : FuncData} (F : Fun K x x st f fd) (S : FnScope N ps (defScope st)) (many : ∀ vs H Q E, sp vs H Q E → vs.length = ps.length)
    (hb : ∀ (cdv : Value) (A : Around) (outer : List Env) (s : Shared) (H : Hp) (vs : List V) (Q : VK) (E : XK), Room k (A.deeper (envOfC x (defScope st) s.heap.objs.size f cdv)) → A.guards = some [] → sp vs H Q E →
      ∃ t, PSs (cxOf CX0 P w K mg base N x (defScope st) f cdv A outer s H E).nox (defBody st) t ∧ t { nx := fun _ H' => Q .non H', rt := Q } (start N vs) H) : Qui P w K mg base (k + 1) f fd ps sp := by
  refine ⟨many, ?_⟩
  obtain ⟨oc, od, kV, doc, pm, an, cdv, ct, osl, rfl, found, code⟩ := F.ex
  intro A outer s H args us vs Q E room quiet here binds vals promise
  have old : ∀ b o, base.get? b = some o → s.heap.get? b = some o := fun b o e => (here.bs b o e).1
  have kin := here.mod.kin.keeps old
  refine codeAny_call_function room.depth (kin _ _ found) rfl S.co S.gen rfl (PySem.W.codeRec_of kin code) (binds _ _ _ _ (wpAny_newFunctionEnv_cells S.kind ?_ ?_))
  · rintro ⟨n, v⟩ hy
    exact (S.par n (List.of_mem_zip hy).1).imp id fun z => ⟨z, PySem.W.cellsFrom_some _ _ _ (.inl z)⟩
  · rintro _ rfl s1 called
    obtain ⟨t, ht, h0⟩ := hb cdv A outer s H vs Q E (room.deeper _) quiet promise
    have I := inv_start (CX := CX0) (E := E) S room.hd here (many _ _ _ _ promise) vals called
    refine ⟨(here.mod.nolimit.keeps old).keeps called.toInCall.keep, codeAny_func ?_⟩
    exact wpAny_mono (ht.nox.run [] s1 _ H _ I h0) (fun _ _ h => fin_flow (X := cxOf CX0 P w K mg base N x (defScope st) f cdv A outer s H E) (outer := outer) (E := E) rfl rfl rfl rfl rfl rfl h) fun _ _ h => h
theorem Df.okQ (D : Df K mg x st ps) (S : FnScope N ps (defScope st)) (many : ∀ vs H Q E, sp vs H Q E → vs.length = ps.length)
    (hb : ∀ (f : Addr) (cdv : Value) (A : Around) (outer : List Env) (s : Shared) (H : Hp) (vs : List V) (Q : VK) (E : XK), Room k (A.deeper (envOfC x (defScope st) s.heap.objs.size f cdv)) → A.guards = some [] → sp vs H Q E →
      ∃ t, PSs (cxOf CX0 P w K mg base N x (defScope st) f cdv A outer s H E).nox (defBody st) t ∧ t { nx := fun _ H' => Q .non H', rt := Q } (start N vs) H) : KnQ P w K mg base (k + 1) x st ps sp := by
  obtain ⟨f, fd, F, g, b, e⟩ := D.ex
  exact ⟨f, fd, F.quiet S many fun cdv A outer s H vs Q E => hb f cdv A outer s H vs Q E, g, F.kp, b⟩
end
section
variable {X : Cx} {k : Nat} {x : Str} {st : Stmt} {ps : List Str} {sp : Sp} {E : XK} {p pos : Pos} {e : Expr} {es : List Expr} {t : TA}
theorem pe_callQ (h : KnQ X.prog X.w X.K X.mg X.base k x st ps sp) (hr : Room k X.A) (hq : X.A.guards = some []) (ha : PA X (e :: es) t) (hg : Gl X x := by rfl)
    (hdb : (x == ("__debug__" : Str)) = false := by decide) (he : starEach (e :: es) X.env = (false, eval e X.env) :: starEach es X.env := by rfl) (hpl : (backTo pos (starEach es X.env)).any (·.1) = false := by rfl) :
    PE X (.Call (.Name x p) (e :: es) [] pos) (tCall sp [] E t) := by
  obtain ⟨f, fd, F, gm, kp, b⟩ := h.ex
  constructor
  intro pins s σ H Q I h
  refine wpAny_Call_Name_kw (ld_glob I hg gm (PySem.W.callWith_K (h₀ := X.base) I.ok.mod.kin kp (thn (ha.run pos pins s σ H _ I h) ?_) he hpl) hdb)
  rintro us s1 ⟨vs, H1, J, r, q⟩
  rw [List.append_nil] at q
  refine ⟨J.kIn, wpAny_call (codeAny_mono (F.go X.A X.stack s1 H1 ⟨us, []⟩ us vs Q E hr hq J.env0 ?_ r q) ?_)⟩
  · have z := b s1 us J.kIn (by rw [List.append_nil, ← r.length]; exact F.many _ _ _ _ q)
    rw [List.append_nil] at z; exact z
  · rintro (e | fl) s' z
    · exact z.elim
    · match fl, z with
      | .ret u, z => exact J.after z
      | .next, z => exact z.elim
      | .brk, z => exact z.elim
      | .cont, z => exact z.elim
end
/-! ### a law whose def is such a one -/
/-- the heap in which just the script may be tracked -/
theorem script_hp {P : Program} {w : World} {K : PySem.W.Frag} {s : Shared} {a : Addr} {vs : List Value} {ns : List Int} (kin : K.In s.heap) (ha : s.heap.get? a = some { cls := .type "list", data := .seq vs.toArray }) (hi : IntsAre vs ns) (hl : ns.length ≤ sizeLine) :
    ∃ H : Hp, Only H ∧ SqL K H a (ns.map V.int) ∧ HOk P w H s.heap ∧ (∀ b o, H b = some o → b = a ∧ K.lookup a = none ∧ o = .frz { cls := .type "list", data := .seq vs.toArray } (.lst (ns.map V.int))) := by
  have r := vals_ints hi
  rcases hk : K.lookup a with _ | o
  · have off : ∀ b o, (if b = a then some (HO.frz { cls := .type "list", data := .seq vs.toArray } (.lst (ns.map V.int))) else none) = some o → b = a ∧ o = .frz { cls := .type "list", data := .seq vs.toArray } (.lst (ns.map V.int)) := fun b o z => by
      split at z
      · exact ⟨by assumption, (Option.some.inj z).symm⟩
      · cases z
    refine ⟨fun b => if b = a then some (.frz { cls := .type "list", data := .seq vs.toArray } (.lst (ns.map V.int))) else none, fun b => ?_, .inl (.inr ⟨_, if_pos rfl⟩), fun b o z => ?_, fun b o z => ⟨(off b o z).1, rfl, (off b o z).2⟩⟩
    · by_cases c : b = a
      · exact .inr ⟨_, _, if_pos c⟩
      · exact .inl (if_neg c)
    · obtain ⟨rfl, rfl⟩ := off b o z
      exact ⟨ha, by rw [List.length_map]; exact hl, vs, _, r, ha⟩
  · have z := ha.symm.trans (kin a o hk)
    cases z
    exact ⟨fun _ => none, fun _ => .inl rfl, .inr ⟨_, vs.toArray, _, hk, rfl, rfl, rfl, by rw [List.size_toArray, hi.length]; exact hl, by simpa using r⟩, fun _ _ z => (by cases z), fun _ _ z => (by cases z)⟩
theorem law_callQ {P : Program} {w : World} {K : PySem.W.Frag} {mg mb : Str → Option Value} {k : Nat} {fa a : Addr} {fd : FuncData} {x : Str} {sp : Sp} {s : Shared} {vs : List Value} {ns : List Int}
    (kin : K.In s.heap) (glob : s.heap.Ns mainGlobals mg) (blt : s.heap.Ns builtinsNs mb) (boot : ∀ x : Str, x ≠ "__name__" → mb x = bootBuiltins x) (lim : s.heap.NoLimit) (gens : s.gens = #[])
    (ha : s.heap.get? a = some { cls := .type "list", data := .seq vs.toArray }) (hi : IntsAre vs ns) (hl : ns.length ≤ sizeLine) (hr : Room k callerA)
    (F : ∀ base : Heap, K.In base → base.Ns mainGlobals mg → Qui P w K mg base k fa fd [x] sp) (bind : ∀ (s : Shared) (u : Value), BindsTo s fd ⟨[u], []⟩ [(x, u)])
    (hsp : ∀ H : Hp, Only H → SqL K H a (ns.map V.int) → sp [.ref a] H (fun v _ => v = .bl true) fun _ _ _ => False) :
    codeAny (model P w) callerA (.call (.ref fa) ⟨[.ref a], []⟩) (fun r s' => r = .ok (.ret (.bool true)) ∧ OldK s.heap s'.heap ∧ s'.os = s.os ∧ AllBare s'.gens) s := by
  obtain ⟨H, only, script, held, alone⟩ := script_hp (P := P) (w := w) kin ha hi hl
  -- what is not the script's object lies in the base
  have low : ∀ {b : Addr} {o : Obj}, s.heap.get? b = some o → (∀ xs n, o.data ≠ .seq xs n ∨ K.lookup b ≠ none) → (hidT s.heap H).get? b = some o := fun {b o} e d => by
    refine hidT_get e ?_
    rcases z : H b with _ | u
    · rfl
    · obtain ⟨rfl, n, _⟩ := alone b u z
      rw [ha] at e
      cases e
      rcases d vs.toArray 0 with y | y
      · exact absurd rfl y
      · exact absurd n y
  have spaces : ∀ {b : Addr} {m : Str → Option Value}, s.heap.Ns b m → (hidT s.heap H).Ns b m := fun ⟨o, es, ep, e, d, z⟩ => ⟨o, es, ep, low e fun xs n => .inl (by rw [d]; intro q; cases q), d, z⟩
  have kinB : K.In (hidT s.heap H) := fun b o e => low (kin b o e) fun xs n => .inr (by intro q; rw [e] at q; cases q)
  have room : Env0 P w K mg (hidT s.heap H) callerA [] s H :=
    ⟨rfl, ⟨kinB, spaces glob, ⟨mb, spaces blt, boot⟩, lim.imp fun mc z => ⟨spaces z.1, z.2⟩⟩, fun _ _ => of_hidT, Nat.le_of_eq (hidT_size _ _), trivial, fun b z => absurd (show b ∈ ([] : List Addr) from z) List.not_mem_nil, held, .of_eq gens⟩
  refine codeAny_mono ((F _ kinB (spaces glob)).go callerA [] s H ⟨[.ref a], []⟩ [.ref a] [.ref a] _ _ hr rfl room (bind s (.ref a)) (.cons rfl .nil) (hsp H only script)) ?_
  rintro (e | fl) s' z
  · exact z.elim
  match fl, z with
  | .next, z => exact z.elim
  | .brk, z => exact z.elim
  | .cont, z => exact z.elim
  | .ret u, ⟨v, H', os, bare, un, held', r, q⟩ =>
    cases (show v = V.bl true from q)
    cases (show u = Value.bool true from r)
    refine ⟨rfl, OldK.of_keep fun b o e => ?_, os, bare⟩
    rcases y : H b with _ | u
    · exact un.keep b o e y (fun z => absurd (show b ∈ ([] : List Addr) from z) List.not_mem_nil) (fun z => absurd (show b ∈ ([] : List Addr) from z) List.not_mem_nil)
    · obtain ⟨rfl, _, rfl⟩ := alone b u y
      have h1 := (held b _ y).1
      have h2 := (held' b _ (un.frzs b _ _ y)).1
      rw [e] at h1
      cases h1
      exact h2
theorem walk_ofQ {l : PySem.W.OpenLaw} {n k : Nat} {q : Program} {loose : List Str} {XP : (Str → Option Value) → Heap → Prop} {YP : World → Heap → Prop} {d : DefRec} {K : Params → PySem.W.Frag} {sp : World → Sp} {x : Str}
    (hn : l.most = some n) (hn2 : n ≤ sizeLine) (hdf : d.params.defaults = []) (hr : Room k callerA) (kin : ∀ (w : World) (h : Heap), YP w h → (K w.params).In h)
    (F : ∀ (w : World) (mg : Str → Option Value) (fa : Addr) (h : Heap), (K w.params).In h → h.Ns mainGlobals mg → mg d.name = some (.ref fa) →
      ∃ fd : FuncData, (∀ (s : Shared) (u : Value), BindsTo s fd ⟨[u], []⟩ [(x, u)]) ∧ ∀ base : Heap, (K w.params).In base → base.Ns mainGlobals mg → Qui l.prog w (K w.params) mg base k fa fd [x] (sp w))
    (hsp : ∀ (w : World) (H : Hp) (a : Addr) (ns : List Int), ns.length ≤ n → Only H → SqL (K w.params) H a (ns.map V.int) → sp w [.ref a] H (fun v _ => v = .bl true) fun _ _ _ => False) :
    PySem.W.WalkO q loose XP YP l.row.toRowW d [] (fun f vs => PySem.call f vs) := by
  refine Att.attach_call hn hdf ?_
  intro w _ s₁ mg mb fa o pm cd doc a vs ns G Y _ _ _ named script whole many bare
  obtain ⟨fd, binds, holds⟩ := F w mg fa _ (kin w _ Y) G.T.g named
  exact law_callQ (kin w _ Y) G.T.g G.T.b G.T.builtins G.T.nolimit bare script whole (Nat.le_trans many hn2) hr holds binds fun H only z => hsp w H a ns many only z
/-! ### repr -/
mutual
/-- what a value reads as; with dicts (all empty) no list may be the interpreter's own -/
inductive Rp (z : Bool) (H : Hp) : V → PyData → Prop
  | non : Rp z H .non .none
  | bl (b : Bool) : Rp z H (.bl b) (.bool b)
  | int (i : Int) : Rp z H (.int i) (.int i)
  | str (x : Str) : Rp z H (.str x) (.str x)
  | lst {a : Addr} {xs : List V} {ds : List PyData} (h : H a = some (.lst xs)) (n : z = true → a ≠ sysModules) (r : Rps z H xs ds) : Rp z H (.ref a) (.list ds)
  | tup {a : Addr} {xs : List V} {ds : List PyData} (h : H a = some (.tup xs)) (r : Rps z H xs ds) : Rp z H (.ref a) (.tuple ds)
  | dct {a : Addr} (y : z = true) (h : H a = some (.dK [])) : Rp z H (.ref a) (.dict [])
inductive Rps (z : Bool) (H : Hp) : List V → List PyData → Prop
  | nil : Rps z H [] []
  | cons {x : V} {xs : List V} {d : PyData} {ds : List PyData} (h : Rp z H x d) (r : Rps z H xs ds) : Rps z H (x :: xs) (d :: ds)
end
section
variable {X : Cx} {pins : List (Addr × Obj)} {σ : St} {H : Hp} {s : Shared} {z : Bool}
mutual
theorem Rp.reads (I : Inv X pins σ H s) : ∀ (d : PyData) (v : V) (u : Value), Rp z H v d → RelV v u → ∃ as, Reads s.heap u d as ∧ (z = true → sysModules ∉ as) ∧ (z = false → d.hasDict = false)
  | .none, _, _, h, r => by
    cases h; cases r
    exact ⟨_, Reads.none, fun _ => List.not_mem_nil, fun _ => rfl⟩
  | .bool b, _, _, h, r => by
    cases h; cases r
    exact ⟨_, Reads.bool b, fun _ => List.not_mem_nil, fun _ => rfl⟩
  | .int i, _, _, h, r => by
    cases h
    obtain ⟨t, rfl⟩ := r
    exact ⟨_, Reads.int i t, fun _ => List.not_mem_nil, fun _ => rfl⟩
  | .str x, _, _, h, r => by
    cases h
    obtain ⟨t, rfl⟩ := r
    exact ⟨_, Reads.str x t, fun _ => List.not_mem_nil, fun _ => rfl⟩
  | .list ds, _, _, h, r => by
    cases h with
    | lst hs n ha =>
      cases r
      obtain ⟨its, rv, ⟨o, m, ho, hc, _, hd⟩, _⟩ := I.list (SqL.of hs)
      obtain ⟨as, hr, h1, h2⟩ := Rps.reads I ds _ its ha rv
      refine ⟨_, Reads.list ho hc hd hr, fun y q => ?_, fun y => ?_⟩
      · rcases List.mem_cons.mp q with q | q
        · exact n y q.symm
        · exact h1 y q
      · rw [PyData.hasDict]; exact h2 y
  | .tuple ds, _, _, h, r => by
    cases h with
    | tup hs ha =>
      cases r
      obtain ⟨its, rv, ⟨o, ho, hc, m, hd⟩, _⟩ := I.tuple (SqT.of hs)
      obtain ⟨as, hr, h1, h2⟩ := Rps.reads I ds _ its ha rv
      exact ⟨_, Reads.tuple ho hc hd hr, h1, fun y => by rw [PyData.hasDict]; exact h2 y⟩
  | .dict kvs, _, _, h, r => by
    cases h with
    | dct y hs =>
      cases r
      obtain ⟨_, hd, vs, kv, o, es, ep, ho, hx, hdt, _, hp, _⟩ := dk_of I.hok hs
      cases kv
      have e0 : es.toList = [] := List.eq_nil_of_length_eq_zero hp.length
      refine ⟨_, Reads.dict (kvs := []) ho hx.1 hdt (by rw [e0]; exact .nil) (by rw [e0]; exact .nil), fun _ q => ?_, fun q => by rw [y] at q; cases q⟩
      rcases List.mem_cons.mp q with q | q
      · exact absurd q.symm (beq_eq_false_iff_ne.mp hd)
      · exact absurd q List.not_mem_nil
theorem Rps.reads (I : Inv X pins σ H s) : ∀ (ds : List PyData) (vs : List V) (us : List Value), Rps z H vs ds → Vals vs us → ∃ as, ReadsAll s.heap us ds as ∧ (z = true → sysModules ∉ as) ∧ (z = false → PyData.hasDictAll ds = false)
  | [], _, _, h, r => by
    cases h; cases r
    exact ⟨_, ReadsAll.nil, fun _ => List.not_mem_nil, fun _ => rfl⟩
  | d :: ds, _, _, h, r => by
    cases h with
    | cons g1 g2 =>
      cases r with
      | cons r1 r2 =>
        obtain ⟨as, q1, a1, a2⟩ := Rp.reads I d _ _ g1 r1
        obtain ⟨bs, q2, b1, b2⟩ := Rps.reads I ds _ _ g2 r2
        refine ⟨_, ReadsAll.cons q1 q2, fun y q => ?_, fun y => ?_⟩
        · rcases List.mem_append.mp q with q | q
          · exact a1 y q
          · exact b1 y q
        · rw [PyData.hasDictAll, a2 y, b2 y]; rfl
end
end
/-- texts that can be told -/
structure Shows (d : PyData) : Prop where
  ok : d.showable = true
  fit : d.shown.length ≤ sizeLine
  deep : d.depth ≤ 60
def rRepr : List V → Hp → VK → Prop := fun xs H Q => ∃ (z : Bool) (x : V) (d : PyData), xs = [x] ∧ Rp z H x d ∧ Shows d ∧ Q (.str d.shown) H
theorem call_repr {X : Cx} {k : Nat} (hr : Room k X.A) (hq : X.A.guards = some []) : CallR X (.builtin "repr") rRepr := by
  intro pins s σ H xs us Q I r h
  obtain ⟨z, x, d, rfl, hp, hs, q⟩ := h
  obtain ⟨u, rfl, rx⟩ := r.one
  have un : X.A.units + (d.depth + 1) < cLine := by
    have h1 := hr.un
    have h2 := hs.deep
    omega
  have refs : ∀ (a : Addr), x = .ref a → wpAny (model X.prog X.w) X.A (call (.builtin "repr") [u]) (EP X pins σ Q) X.xe s := fun a ex => by
    subst ex
    cases rx
    obtain ⟨as, hr, n1, n2⟩ := Rp.reads I d _ _ hp rfl
    refine repr_of_reads' hr hs.ok (fun y => n1 ?_) hq un (fun _ _ e => e) (fun h' t tk keep => ⟨.str d.shown, H, I.kept keep, ⟨t, rfl⟩, q⟩) hs.fit
    rcases z with _ | _
    · rw [n2 rfl] at y; cases y
    · rfl
  cases hp with
  | non => cases rx; exact PySem.P.repr_of_none ⟨.str _, H, I.tok _, ⟨_, rfl⟩, q⟩
  | bl b => cases rx; exact PySem.P.repr_of_bool ⟨.str _, H, I.tok _, ⟨_, rfl⟩, q⟩
  | int i =>
    obtain ⟨t, rfl⟩ := rx
    exact PySem.P.repr_of_int (of_decide_eq_true hs.ok) ⟨.str _, H, I.tok _, ⟨_, rfl⟩, q⟩
  | str y =>
    obtain ⟨t, rfl⟩ := rx
    exact PySem.P.repr_of_str ⟨.str _, H, I.tok _, ⟨_, rfl⟩, q⟩ hs.fit
  | lst _ _ _ => exact refs _ rfl
  | tup _ _ => exact refs _ rfl
  | dct _ _ => exact refs _ rfl
/-! ### == and != of a tuple and () -/
def rEqNil (K : PySem.W.Frag) (ne : Bool) : R2 := fun x y H Q => ∃ a b xs, x = .ref a ∧ y = .ref b ∧ SqT K H a xs ∧ SqT K H b [] ∧ Q (.bl (xor ne (decide (xs = [])))) H
theorem op_eqNil {X : Cx} (hu : X.A.units < cLine) : OpR X (compareOp .Eq) (rEqNil X.K false) := by
  intro pins s σ H x y v u Q I rx ry h
  obtain ⟨a, b, xs, rfl, rfl, ha, hb, q⟩ := h
  cases rx; cases ry
  obtain ⟨its, r, ⟨o, ho, hc, n, hd⟩, _⟩ := I.tuple ha
  obtain ⟨jts, r2, ⟨o2, ho2, hc2, n2, hd2⟩, _⟩ := I.tuple hb
  cases r2
  refine SeqAt.eq_tupleAt (e := fun _ => true) ⟨o, ho, hc, n, hd⟩ ⟨o2, ho2, hc2, n2, hd2⟩ hu (fun j h1 h2 => absurd h2 (Nat.not_lt_zero j)) ?_
  refine ⟨.bl _, H, I, rfl, ?_⟩
  have e : ((List.range (min its.toArray.size ([] : List Value).toArray.size)).all (fun _ => true) && its.toArray.size == ([] : List Value).toArray.size) = (xor false (decide (xs = []))) := by
    cases r with
    | nil => rfl
    | cons _ _ => simp
  rw [e]; exact q
theorem op_neNil {X : Cx} (hu : X.A.units < cLine) : OpR X (compareOp .NotEq) (rEqNil X.K true) := by
  intro pins s σ H x y v u Q I rx ry h
  obtain ⟨a, b, xs, rfl, rfl, ha, hb, q⟩ := h
  cases rx; cases ry
  obtain ⟨its, r, ⟨o, ho, hc, n, hd⟩, _⟩ := I.tuple ha
  obtain ⟨jts, r2, ⟨o2, ho2, hc2, n2, hd2⟩, _⟩ := I.tuple hb
  cases r2
  refine SeqAt.RcNeAt.tuples (e := fun _ => true) ⟨o, ho, hc, n, hd⟩ ⟨o2, ho2, hc2, n2, hd2⟩ hu (fun j h1 h2 => absurd h2 (Nat.not_lt_zero j)) _ _ _ _ ?_
  refine ⟨.bl _, H, I, rfl, ?_⟩
  have e : (!((List.range (min its.toArray.size ([] : List Value).toArray.size)).all (fun _ => true) && its.toArray.size == ([] : List Value).toArray.size)) = (xor true (decide (xs = []))) := by
    cases r with
    | nil => rfl
    | cons _ _ => simp
  rw [e]; exact q
/-- a display of a list, its place told to be none of the interpreter's own -/
def tLstN (t : TA) : TE := fun σ H Q => t σ H fun xs H1 => xs.length ≤ sizeLine ∧ ∀ l, H1 l = none → l ≠ sysModules → Q (.ref l) (upd H1 l (.lst xs))
theorem pe_lstN {X : Cx} {es : List Expr} {pos : Pos} {t : TA} (h : PA X es t) : PE X (.List es pos) (tLstN t) := by
  constructor
  intro pins s σ H Q I hq
  refine wpAny_List_spliced (thn (h.run pos pins s σ H _ I hq) ?_)
  rintro us s1 ⟨xs, H1, J, r, z, q⟩
  refine ⟨r.length ▸ z, .ref s1.heap.objs.size, _, J.laid (o := .lst xs) (t' := s1.toks) (fun _ _ => Heap.get?_push_of_some _) (Nat.le_refl _) ⟨z, us, 0, r, Heap.get?_push_size _ rfl⟩, rfl, q _ (J.hok.fresh (Nat.le_refl _)) (Nat.ne_of_gt J.big)⟩
theorem lt64 {k : Nat} {A : Around} (hr : Room k A) : A.units < cLine := by
  have h := hr.un
  omega
end L2

/-! Z3: math.factorial. -/
namespace L2
open PySem PySem.Spec PyProof.Rows
def fct : Nat → Nat
  | 0 => 1
  | n + 1 => fct n * (n + 1)
theorem fct_same : ∀ n : Nat, Builtin.Math.factorialNat n = fct n
  | 0 => rfl
  | n + 1 => by rw [PySem.W.mc_fac_succ, fct_same n, fct]
theorem cr_factorial {X : Cx} : CallR X (.builtin "math.factorial") (fun vs H Q => ∃ a : Nat, vs = [.int (a : Int)] ∧ a ≤ 20000 ∧ Q (.int ((fct a : Nat) : Int)) H) := by
  intro pins s σ H vs us Q I r h
  obtain ⟨a, rfl, h2, q⟩ := h
  obtain ⟨u, rfl, t, rfl⟩ := r.one
  refine PySem.W.mc_factorial (by omega) (by omega) fun _ => ?_
  rw [Int.toNat_natCast, fct_same]
  exact ⟨.int _, H, I.tok _, ⟨_, rfl⟩, q⟩
theorem fct_pos : ∀ n : Nat, 1 ≤ fct n
  | 0 => Nat.le_refl 1
  | n + 1 => by rw [fct]; exact Nat.mul_pos (fct_pos n) (Nat.succ_pos n)
theorem fct_mono {m n : Nat} (h : m ≤ n) : fct m ≤ fct n := by
  induction h with
  | refl => exact Nat.le_refl _
  | step _ ih => rw [fct]; exact Nat.le_trans ih (Nat.le_mul_of_pos_right _ (Nat.succ_pos _))
theorem fct_small {n : Nat} (h : n ≤ 60) : fct n < 2 ^ 300 := Nat.lt_of_le_of_lt (fct_mono h) (by decide +kernel)
end L2

/-! Z4: list(enumerate(a list)): a new list of new pairs. -/
namespace PySem.F
theorem en_len : typeLookup (.type "enumerate") "__len__" = pure none := by rw [typeLookup_type, builtinLookup_eq_fast]; kernel_rfl
theorem en_hint : typeLookup (.type "enumerate") "__length_hint__" = pure none := by rw [typeLookup_type, builtinLookup_eq_fast]; kernel_rfl
end PySem.F
namespace L2
open PySem PySem.Spec PyProof.Rows
open Sem (wp)
/-- an enumerate object, whatever pair it may have handed out -/
abbrev EnO (h : Heap) (e it : Addr) (g : Value) (b : Bool) (i : Int) (z : Value) : Prop :=
  h.get? e = some ({ cls := .type "enumerate", dict := none, data := .fields #[g, .bool b, .ref it, rawInt i, .none, z], slots := #[] } : Obj)
/-- it is new, or its pair is still there -/
def EnG (h : Heap) (e it : Addr) (g : Value) (b : Bool) : Prop := (g = .none ∧ b = false) ∨ ∃ (a : Addr) (o : Obj), g = rawInt a ∧ h.get? a = some o ∧ a ≠ e ∧ a ≠ it ∧ o.cls = .type "tuple"
structure EnSt (e it l : Addr) (items : Array Value) (i : Nat) (h : Heap) : Prop where
  en : ∃ g b z, EnO h e it g b ((i : Nat) : Int) z ∧ EnG h e it g b
  sit : h.IsListIter it l i
  sli : h.IsList l items
  ne : e ≠ it
theorem EnSt.put {e it l S : Addr} {items : Array Value} {i : Nat} {h h' : Heap} {oS : Obj} (s : EnSt e it l items i h) (hS : h.get? S = some oS) (cS : oS.cls = .type "list") (nl : l ≠ S) (k : ∀ b o, b ≠ S → h.get? b = some o → h'.get? b = some o) : EnSt e it l items i h' := by
  obtain ⟨⟨g, b, z, he, hg⟩, hi, hl, ne⟩ := s
  have other : ∀ {a : Addr} {o : Obj} {c : String}, h.get? a = some o → o.cls = .type c → c ≠ "list" → a ≠ S := fun {a o c} x y n q => by
    rw [q, hS] at x
    cases x
    exact n (Value.type.inj (y.symm.trans cS))
  obtain ⟨o2, ho2, hc2, _⟩ := id hi
  have n1 : e ≠ S := other he rfl (by decide)
  have n2 : it ≠ S := other ho2 hc2 (by decide)
  refine ⟨⟨g, b, z, k _ _ n1 he, ?_⟩, hi.at fun o x => k _ _ n2 x, hl.at fun o x => k _ _ nl x, ne⟩
  rcases hg with hg | ⟨a, o, h1, h2, h3, h4, h5⟩
  · exact .inl hg
  · exact .inr ⟨a, o, h1, k _ _ (other h2 h5 (by decide)) h2, h3, h4, h5⟩
section
variable {prog : Program} {w : World} {A : Around} {E : Value → Shared → Prop} {s : Shared}
theorem alive_wp {M : Model} {a : Addr} {Q : Option Obj → Shared → Prop} (h : Q (s.heap.get? a) s) : wpAny M A (Sem.loadIfAlive a .pure) Q E s := fun _ _ _ => h
/-- the next pair -/
theorem en_step {e it l : Addr} {i : Nat} {items : Array Value} {x : Value} {Q : Value → Shared → Prop} (st : EnSt e it l items i s.heap) (hx : items[i]? = some x)
    (hQ : ∀ h', EnSt e it l items (i + 1) h' → h'.get? s.heap.objs.size = some { cls := .type "tuple", data := .seq #[.int i s.toks, x] } → h'.objs.size = s.heap.objs.size + 1 →
      (∀ b o, b ≠ e → b ≠ it → s.heap.get? b = some o → h'.get? b = some o) → Q (.ref s.heap.objs.size) { s with heap := h', toks := s.toks + 1 }) :
    wpAny (model prog w) A (Builtin.«enumerate.__next__» ⟨[.ref e], []⟩) (fun fin s' => ∃ v, fin = .done (.ret v) ∧ Q v s') E s := by
  obtain ⟨hp, g0, d, tk, os⟩ := s
  obtain ⟨⟨g, b, z, he, hg⟩, hit, hl, hne⟩ := st
  replace he : EnO hp e it g b ((i : Nat) : Int) z := he
  show wpAny (model prog w) A (field (.ref e) 2 >>= _) _ E _
  refine wpAny_bind (wpAny_field he rfl (i := 2) (x := .ref it) rfl ?_)
  refine wpAny_bind (wpAny_nextOf_list_item hit hl hx fun h1 hit1 sb1 => ?_)
  replace sb1 : Heap.SameBut it hp h1 := sb1
  have e1 : EnO h1 e it g b ((i : Nat) : Int) z := (sb1.2 e hne).trans he
  show wpAny (model prog w) A (field (.ref e) 3 >>= _) _ E ⟨h1, g0, d, tk, os⟩
  refine wpAny_bind (wpAny_field e1 rfl (i := 3) (x := rawInt i) rfl ?_)
  show wpAny (model prog w) A (field (.ref e) 4 >>= _) _ E ⟨h1, g0, d, tk, os⟩
  refine wpAny_bind (wpAny_field e1 rfl (i := 4) (x := .none) rfl ?_)
  show wpAny (model prog w) A (mkInt i >>= _) _ E ⟨h1, g0, d, tk, os⟩
  refine wpAny_bind (wpAny_mkInt ?_)
  show wpAny (model prog w) A (setField (.ref e) 3 (rawInt ((i : Int) + 1)) >>= _) _ E ⟨h1, g0, d, tk + 1, os⟩
  refine wpAny_bind (wpAny_setField_rec e1 (by simp) fun h2 e2 sb2 => ?_)
  replace sb2 : Heap.SameBut e h1 h2 := sb2
  replace e2 : EnO h2 e it g b ((i : Int) + 1) z := e2
  show wpAny (model prog w) A (setField (.ref e) 4 .none >>= _) _ E ⟨h2, g0, d, tk + 1, os⟩
  refine wpAny_bind (wpAny_setField_rec e2 (by simp) fun h3 e3 sb3 => ?_)
  replace sb3 : Heap.SameBut e h2 h3 := sb3
  replace e3 : EnO h3 e it g b ((i : Int) + 1) z := e3
  show wpAny (model prog w) A (newTuple [.int i tk, x] >>= _) _ E ⟨h3, g0, d, tk + 1, os⟩
  refine wpAny_bind (wpAny_newTuple ?_)
  have e4 : EnO (h3.push { cls := .type "tuple", data := .seq #[.int i tk, x] }) e it g b ((i : Int) + 1) z := Heap.get?_push_of_some _ e3
  have sz3 : h3.objs.size = hp.objs.size := by rw [sb3.1, sb2.1, sb1.1]
  have lt_e : e < hp.objs.size := Heap.lt_size he
  have t4 : (h3.push { cls := .type "tuple", data := .seq #[.int i tk, x] }).get? hp.objs.size = some { cls := .type "tuple", data := .seq #[.int i tk, x] } := by rw [← sz3]; exact Heap.get?_push_size _ rfl
  have sz4 : (h3.push { cls := .type "tuple", data := .seq #[.int i tk, x] }).objs.size = hp.objs.size + 1 := by rw [Heap.size_push, sz3]
  have k4 : ∀ b o, b ≠ e → b ≠ it → hp.get? b = some o → (h3.push { cls := .type "tuple", data := .seq #[.int i tk, x] }).get? b = some o := fun b o n1 n2 y =>
    Heap.get?_push_of_some _ (sb3.extBut b o n1 (sb2.extBut b o n1 (sb1.extBut b o n2 y)))
  have it4 : (h3.push { cls := .type "tuple", data := .seq #[.int i tk, x] }).IsListIter it l (i + 1) := by
    obtain ⟨o, ho, r⟩ := (hit1.extBut sb2.extBut (Ne.symm hne)).extBut sb3.extBut (Ne.symm hne)
    exact ⟨o, Heap.get?_push_of_some _ ho, r⟩
  have nle : l ≠ e := fun q => by
    obtain ⟨o, ho, hc, _⟩ := id hl
    rw [q] at ho
    have y := he.symm.trans ho
    cases y
    have c2 : ("enumerate" : String) = "list" := Value.type.inj hc
    exact absurd c2 (by decide)
  have nli : l ≠ it := fun q => by
    obtain ⟨o, ho, hc, _⟩ := id hl
    obtain ⟨o2, ho2, hc2, _⟩ := id hit
    rw [q, ho2] at ho
    cases ho
    have c2 : ("list_iterator" : String) = "list" := Value.type.inj (hc2.symm.trans hc)
    exact absurd c2 (by decide)
  have l4 : (h3.push { cls := .type "tuple", data := .seq #[.int i tk, x] }).IsList l items := hl.at fun o y => k4 l o nle nli y
  rw [sz3]
  generalize h3.push { cls := .type "tuple", data := .seq #[.int i tk, x] } = h4 at e4 t4 sz4 k4 it4 l4 ⊢
  clear e3 sb3 e2 sb2 e1 sb1 hit1 sz3
  have tie : ((i + 1 : Nat) : Int) = (i : Int) + 1 := by omega
  show wpAny (model prog w) A (Builtin.SmallTypes.ownedTupleIsFree (.ref e) >>= _) _ E ⟨h4, g0, d, tk + 1, os⟩
  refine wpAny_bind ?_
  unfold Builtin.SmallTypes.ownedTupleIsFree
  rcases hg with ⟨rfl, rfl⟩ | ⟨a, o, rfl, ha, na1, na2, na3⟩
  · refine wpAny_bind (wpAny_field e4 rfl (i := 0) (x := .none) rfl (wpAny_pure ?_))
    simp only [if_true]
    refine wpAny_bind (wpAny_rule (wpAny_bind (wpAny_field e4 rfl (i := 5) (x := z) rfl ?_)))
    refine wpAny_bind (wpAny_setField_rec e4 (by simp) fun h5 e5 sb5 => ?_)
    replace sb5 : Heap.SameBut e h4 h5 := sb5
    replace e5 : EnO h5 e it .none false ((i : Int) + 1) x := e5
    show wpAny (model prog w) A (Builtin.SmallTypes.ownedTupleHandOut (.ref e) (.ref hp.objs.size) >>= _) _ E ⟨h5, g0, d, tk + 1, os⟩
    refine wpAny_bind ?_
    unfold Builtin.SmallTypes.ownedTupleHandOut
    refine wpAny_bind (wpAny_setField_rec e5 (by simp) fun h6 e6 sb6 => ?_)
    replace sb6 : Heap.SameBut e h5 h6 := sb6
    replace e6 : EnO h6 e it (rawInt hp.objs.size) false ((i : Int) + 1) x := e6
    refine wpAny_setField_rec e6 (by simp) fun h7 e7 sb7 => ?_
    replace sb7 : Heap.SameBut e h6 h7 := sb7
    replace e7 : EnO h7 e it (rawInt hp.objs.size) false ((i : Int) + 1) x := e7
    have kk : ∀ b o, b ≠ e → h4.get? b = some o → h7.get? b = some o := fun b o n y => sb7.extBut b o n (sb6.extBut b o n (sb5.extBut b o n y))
    have t7 := kk _ _ (Nat.ne_of_gt lt_e) t4
    refine wpAny_bind (wpAny_letGo (wpAny_pure ⟨_, rfl, hQ h7 ⟨⟨_, _, _, by rw [tie]; exact e7, .inr ⟨_, _, rfl, t7, Nat.ne_of_gt lt_e, ?_, rfl⟩⟩, it4.at fun o y => kk _ _ (Ne.symm hne) y, l4.at fun o y => kk _ _ nle y, hne⟩ t7 (by rw [sb7.1, sb6.1, sb5.1, sz4]) fun b o n1 n2 y => kk b o n1 (k4 b o n1 n2 y)⟩))
    obtain ⟨o2, ho2, _⟩ := hit
    exact Nat.ne_of_gt (Heap.lt_size ho2)
  · have a4 := k4 a o na1 na2 ha
    refine wpAny_bind (wpAny_field e4 rfl (i := 0) (x := rawInt a) rfl ?_)
    show wpAny (model prog w) A (Sem.loadIfAlive a .pure >>= _) _ E ⟨h4, g0, d, tk + 1, os⟩
    refine wpAny_bind (alive_wp ?_)
    show wpAny (model prog w) A (if (h4.get? a).isNone = true then _ else _) _ E ⟨h4, g0, d, tk + 1, os⟩
    rw [a4]
    show wpAny (model prog w) A (field (.ref e) 1 >>= _) _ E ⟨h4, g0, d, tk + 1, os⟩
    refine wpAny_bind (wpAny_field e4 rfl (i := 1) (x := .bool b) rfl ?_)
    have fin : ∀ (h5 : Heap) (b' : Bool), EnO h5 e it (rawInt a) b' ((i : Int) + 1) z → (∀ b o, b ≠ e → h4.get? b = some o → h5.get? b = some o) → h5.objs.size = h4.objs.size → Q (.ref hp.objs.size) ⟨h5, g0, d, tk + 1, os⟩ := fun h5 b' e5 kk sz5 =>
      hQ h5 ⟨⟨_, _, _, by rw [tie]; exact e5, .inr ⟨a, o, rfl, kk _ _ na1 a4, na1, na2, na3⟩⟩, it4.at fun o y => kk _ _ (Ne.symm hne) y, l4.at fun o y => kk _ _ nle y, hne⟩ (kk _ _ (Nat.ne_of_gt lt_e) t4) (sz5.trans sz4) fun b o n1 n2 y => kk b o n1 (k4 b o n1 n2 y)
    cases b with
    | true => exact wpAny_pure (wpAny_pure ⟨_, rfl, fin h4 true e4 (fun _ _ _ y => y) rfl⟩)
    | false =>
      show wpAny (model prog w) A (setField (.ref e) 1 (.bool true) >>= _) _ E ⟨h4, g0, d, tk + 1, os⟩
      refine wpAny_bind (wpAny_setField_rec e4 (by simp) fun h5 e5 sb5 => ?_)
      exact wpAny_pure (wpAny_pure ⟨_, rfl, fin h5 true e5 (fun b o n y => sb5.extBut b o n y) sb5.1⟩)
theorem en_next {e it l : Addr} {i : Nat} {items : Array Value} {x : Value} {Q : Option Value → Shared → Prop} (st : EnSt e it l items i s.heap) (hx : items[i]? = some x)
    (hQ : ∀ h', EnSt e it l items (i + 1) h' → h'.get? s.heap.objs.size = some { cls := .type "tuple", data := .seq #[.int i s.toks, x] } → h'.objs.size = s.heap.objs.size + 1 →
      (∀ b o, b ≠ e → b ≠ it → s.heap.get? b = some o → h'.get? b = some o) → Q (some (.ref s.heap.objs.size)) { s with heap := h', toks := s.toks + 1 }) :
    wpAny (model prog w) A (pyNext (.ref e)) Q E s := by
  obtain ⟨g, b, z, he, _⟩ := st.en
  have ty : s.TypeIs (.ref e) "enumerate" := ⟨_, he, rfl⟩
  unfold pyNext
  exact wpAny_bind (wpAny_attempt (wpAny_callSpecial?_slot (name := Str.ofString "__next__") ty F.slot_enumerate_next (wpAny_call_entry F.slot_enumerate_next ty F.entry_enumerate_next (en_step st hx fun h' a b c d => wpAny_pure (hQ h' a b c d)) (F.args_enumerate_next_1 _))))
theorem en_end {e it l : Addr} {items : Array Value} {Q : Option Value → Shared → Prop} (hh : A.handled = none) (st : EnSt e it l items items.size s.heap) (hQ : ∀ h', Heap.ExtBut it s.heap h' → Q none { s with heap := h' }) : wpAny (model prog w) A (pyNext (.ref e)) Q E s := by
  obtain ⟨⟨g, b, z, he, _⟩, hit, hl, _⟩ := st
  have ty : s.TypeIs (.ref e) "enumerate" := ⟨_, he, rfl⟩
  unfold pyNext
  refine wpAny_bind (wpAny_attempt (wpAny_callSpecial?_slot (name := Str.ofString "__next__") ty F.slot_enumerate_next (wpAny_call_entry F.slot_enumerate_next ty F.entry_enumerate_next ?_ (F.args_enumerate_next_1 _))))
  show wpAny _ _ (field (.ref e) 2 >>= _) _ _ s
  refine wpAny_bind (wpAny_field he rfl (i := 2) (x := .ref it) rfl ?_)
  refine wpAny_bind (wpAny_nextOf_list_end hh hit hl (by simp) fun h' y he' hy => ?_)
  obtain ⟨o, ho, hc⟩ := hy
  exact wpAny_bind (wpAny_isInstance (T := "StopIteration") (b := true) ⟨o, ho, hc⟩ isSubtype_stop (wpAny_pure (hQ _ he')))
/-- the pairs gathered so far -/
structure AccEn (items acc : Array Value) (i : Nat) (h : Heap) (n0 : Nat) : Prop where
  sz : acc.size = i
  at_ : ∀ j : Nat, j < i → ∃ (p : Addr) (tk : Nat) (x : Value), acc[j]? = some (.ref p) ∧ items[j]? = some x ∧ n0 ≤ p ∧ h.get? p = some { cls := .type "tuple", data := .seq #[.int j tk, x] }
theorem AccEn.to {items acc : Array Value} {i n0 : Nat} {h h' : Heap} (a : AccEn items acc i h n0) (k : ∀ b o, n0 ≤ b → h.get? b = some o → h'.get? b = some o) : AccEn items acc i h' n0 := ⟨a.sz, fun j hj => by
  obtain ⟨p, tk, x, h1, h2, h3, h4⟩ := a.at_ j hj
  exact ⟨p, tk, x, h1, h2, h3, k _ _ h3 h4⟩⟩
theorem AccEn.push {items acc : Array Value} {i n0 : Nat} {h : Heap} {p : Addr} {tk : Nat} {x : Value} (a : AccEn items acc i h n0) (hx : items[i]? = some x) (hp : n0 ≤ p) (ht : h.get? p = some { cls := .type "tuple", data := .seq #[.int i tk, x] }) : AccEn items (acc.push (.ref p)) (i + 1) h n0 := ⟨by rw [Array.size_push, a.sz], fun j hj => by
  by_cases c : j < i
  · obtain ⟨p', tk', x', h1, h2, h3, h4⟩ := a.at_ j c
    exact ⟨p', tk', x', by rw [Array.getElem?_push_lt (by rw [a.sz]; exact c), ← Array.getElem?_eq_getElem]; exact h1, h2, h3, h4⟩
  · have e : j = i := by omega
    subst e
    exact ⟨p, tk, x, by rw [← a.sz, Array.getElem?_push_size], hx, hp, ht⟩⟩
theorem en_loop {e it l S : Addr} {items : Array Value} {R : Result → Shared → Prop} {n0 : Nat} (hh : A.handled = none) (hn : items.size ≤ sizeLine) (res : Value) (hSl : S < n0) (hel : e < n0) (hil : it < n0) (nS : S ≠ e ∧ S ≠ it ∧ l ≠ S) :
    ∀ (k i : Nat) (s : Shared) (acc : Array Value) (c : Nat), items.size - i = k → i ≤ items.size → EnSt e it l items i s.heap → n0 ≤ s.heap.objs.size → s.heap.get? S = some { cls := .type "list", dict := none, data := .seq acc c, slots := #[] } → AccEn items acc i s.heap n0 →
    (∀ h' tk acc' c', (∀ b o, b ≠ e → b ≠ it → b ≠ S → s.heap.get? b = some o → h'.get? b = some o) → h'.get? S = some { cls := .type "list", dict := none, data := .seq acc' c', slots := #[] } → AccEn items acc' items.size h' n0 → R (.ok (.ret res)) { s with heap := h', toks := tk }) →
    codeAny (model prog w) A (.builtin "list.extend.loop" ⟨[.ref S, .ref e, res], []⟩) R s := by
  intro k
  induction k with
  | zero =>
    intro i s acc c hk hi st hz hS ha hR
    have ei : i = items.size := by omega
    subst ei
    refine codeAny_builtin F.entry_extend_loop ?_
    rw [Around.under_plainId F.plain_extend_loop _]
    show wpAny _ A.in1 (pyNext (.ref e) >>= _) _ _ s
    refine wpAny_bind (en_end hh st fun h' x => wpAny_pure ?_)
    exact hR h' s.toks acc c (fun b o _ n2 _ y => x b o n2 y) (x _ _ nS.2.1 hS) (ha.to fun b o n y => x b o (Nat.ne_of_gt (Nat.lt_of_lt_of_le hil n)) y)
  | succ k ih =>
    intro i s acc c hk hi st hz hS ha hR
    have lt : i < items.size := by omega
    refine codeAny_builtin F.entry_extend_loop ?_
    rw [Around.under_plainId F.plain_extend_loop _]
    show wpAny _ A.in1 (pyNext (.ref e) >>= _) _ _ s
    obtain ⟨x, hx⟩ : ∃ x, items[i]? = some x := ⟨items[i], by simp [lt]⟩
    refine wpAny_bind (en_next st hx fun h1 st1 t1 sz1 k1 => ?_)
    have hS1 := k1 S _ nS.1 nS.2.1 hS
    show wpAny _ A.in1 (updateSeq S (·.push (.ref s.heap.objs.size)) >>= _) _ _ _
    refine wpAny_bind ?_
    refine wpAny_updateSeq hS1 rfl (wpAny_pure ⟨plainId_quiet F.plain_extend_loop _, ih (i + 1) _ (acc.push (.ref s.heap.objs.size)) _ (by omega) lt ?_ ?_ (Heap.get?_update_self _ hS1 rfl) ?_ fun h' tk acc' c' kk hS' ha' => ?_⟩) (by rw [ha.sz]; omega) (by show (acc.push (.ref s.heap.objs.size)).size ≤ sizeLine + 1; rw [Array.size_push, ha.sz]; omega)
    · exact st1.put hS1 rfl nS.2.2 fun b o n y => (Heap.get?_update_other _ _ (Ne.symm n)).trans y
    · show n0 ≤ (h1.update S _).objs.size
      rw [Heap.size_update, sz1]; omega
    · refine ((ha.to fun b o n y => ?_).push hx hz t1).to fun b o n y => (Heap.get?_update_other _ _ (Nat.ne_of_lt (Nat.lt_of_lt_of_le hSl n))).trans y
      exact k1 b o (Nat.ne_of_gt (Nat.lt_of_lt_of_le hel n)) (Nat.ne_of_gt (Nat.lt_of_lt_of_le hil n)) y
    · exact hR h' tk acc' c' (fun b o n1 n2 n3 y => kk b o n1 n2 n3 ((Heap.get?_update_other _ _ (Ne.symm n3)).trans (k1 b o n1 n2 y))) hS' ha'
theorem en_extend {e it l S : Addr} {items : Array Value} {R : Result → Shared → Prop} (hh : A.handled = none) (hn : items.size ≤ sizeLine) (res : Value) (c : Nat) (he : IsEnum s.heap e it 0 .none) (st : EnSt e it l items 0 s.heap) (hS : s.heap.get? S = some { cls := .type "list", data := .seq #[] c }) (nl : l ≠ S)
    (hR : ∀ h' tk acc' c', (∀ b o, b ≠ e → b ≠ it → b ≠ S → s.heap.get? b = some o → h'.get? b = some o) → h'.get? S = some { cls := .type "list", dict := none, data := .seq acc' c', slots := #[] } → AccEn items acc' items.size h' s.heap.objs.size → R (.ok (.ret res)) { s with heap := h', toks := tk }) :
    wpAny (model prog w) A.in1 (Builtin.List.listExtendWith (.ref S) (.ref e) res) (fun fin s' => match fin with | .done f => R (.ok f) s' | .again c' => c'.quiet = true ∧ codeAny (model prog w) A c' R s') (fun e s' => R (.error e) s') s := by
  have ty : s.TypeIs (.ref e) "enumerate" := ⟨_, he, rfl⟩
  obtain ⟨oi, hoi, hci, _⟩ := id st.sit
  have nS : S ≠ e ∧ S ≠ it ∧ l ≠ S := by
    refine ⟨fun q => ?_, fun q => ?_, nl⟩
    · have y := he.symm.trans (q ▸ hS)
      exact absurd (Value.type.inj (congrArg Obj.cls (Option.some.inj y))) (by decide)
    · rw [q, hoi] at hS
      cases hS
      have c2 : ("list" : String) = "list_iterator" := Value.type.inj hci
      exact absurd c2 (by decide)
  unfold Builtin.List.listExtendWith
  refine wpAny_bind (wpAny_typeOf ty ?_)
  have d1 : Builtin.List.listSameRef (.ref S) (.ref e) = false := by simp [Builtin.List.listSameRef, nS.1]
  have d2 : (Value.type "enumerate" == Value.type "list") = false := by decide
  have d3 : (Value.type "enumerate" == Value.type "tuple") = false := by decide
  simp only [d1, d2, d3, Bool.or_false, Bool.false_eq_true, if_false]
  refine wpAny_bind (wpAny_pyIter_enum he (wpAny_bind (wpAny_holding ?_)))
  unfold Builtin.List.listLengthHint
  refine wpAny_bind (wpAny_specialOf ty F.en_len ?_)
  show wpAny _ A.in1 (specialOf (Value.ref e) (Str.ofString "__length_hint__") >>= _) _ _ s
  refine wpAny_bind (wpAny_specialOf ty F.en_hint (wpAny_pure ?_))
  show wpAny _ A.in1 (rule "list.extend.makes-room" >>= fun _ => Builtin.List.listTouch (.ref S) >>= fun _ => again (.builtin "list.extend.loop" ⟨[.ref S, .ref e, res], []⟩)) _ _ s
  refine wpAny_bind (wpAny_rule (wpAny_bind ?_))
  show wpAny _ A.in1 (updateSeq S (·.push .none) >>= fun _ => updateSeq S (·.pop)) _ _ s
  refine wpAny_bind (wpAny_updateSeq hS rfl ?_)
  have h2 := Heap.get?_update_self (Obj.mapSeq (·.push Value.none)) hS rfl
  refine wpAny_updateSeq (hz := by seq_fits) h2 rfl ?_
  have h3 := Heap.get?_update_self (Obj.mapSeq (·.pop)) h2 rfl
  have ot : ∀ b o, b ≠ S → s.heap.get? b = some o → ((s.heap.update S (Obj.mapSeq (·.push Value.none))).update S (Obj.mapSeq (·.pop))).get? b = some o := fun b o n y =>
    (Heap.get?_update_other _ _ (Ne.symm n)).trans ((Heap.get?_update_other _ _ (Ne.symm n)).trans y)
  have hz : ((s.heap.update S (Obj.mapSeq (·.push Value.none))).update S (Obj.mapSeq (·.pop))).objs.size = s.heap.objs.size := by rw [Heap.size_update, Heap.size_update]
  refine wpAny_pure ⟨plainId_quiet F.plain_extend_loop _, en_loop (n0 := s.heap.objs.size) hh hn res (Heap.lt_size hS) (Heap.lt_size he) (Heap.lt_size hoi) nS items.size 0 _ #[] _ rfl (Nat.zero_le _) (st.put hS rfl nl ot) (Nat.le_of_eq hz.symm) h3 ⟨rfl, fun j hj => absurd hj (Nat.not_lt_zero j)⟩ fun h' tk acc' c' kk hS' ha => ?_⟩
  exact hR h' tk acc' c' (fun b o n1 n2 n3 y => kk b o n1 n2 n3 (ot b o n3 y)) hS' ha
theorem en_init {e it l S : Addr} {items : Array Value} {R : Result → Shared → Prop} (hh : A.handled = none) (hn : items.size ≤ sizeLine) (he : IsEnum s.heap e it 0 .none) (st : EnSt e it l items 0 s.heap) (hS : s.heap.get? S = some { cls := .type "list", data := .seq #[] }) (nl : l ≠ S)
    (hR : ∀ h' tk acc' c', (∀ b o, b ≠ e → b ≠ it → b ≠ S → s.heap.get? b = some o → h'.get? b = some o) → h'.get? S = some { cls := .type "list", dict := none, data := .seq acc' c', slots := #[] } → AccEn items acc' items.size h' s.heap.objs.size → R (.ok (.ret .none)) { s with heap := h', toks := tk }) :
    wpAny (model prog w) A.in1 (Builtin.«list.__init__» ⟨[.ref S, .ref e], []⟩) (fun fin s' => match fin with | .done f => R (.ok f) s' | .again c' => c'.quiet = true ∧ codeAny (model prog w) A c' R s') (fun e s' => R (.error e) s') s := by
  show wpAny _ A.in1 (do let old ← Builtin.List.listItems (.ref S); Builtin.List.listUpdate (.ref S) (fun _ => #[]); letGo old.toList.reverse; Builtin.List.listExtendWith (.ref S) (.ref e) .none) _ _ s
  refine wpAny_bind ?_
  unfold Builtin.List.listItems
  refine wpAny_bind (wpAny_seqItems hS rfl (wpAny_pure ?_))
  show wpAny _ A.in1 (updateSeq S (fun _ => #[]) >>= fun _ => letGo (#[] : Array Value).toList.reverse >>= fun _ => Builtin.List.listExtendWith (.ref S) (.ref e) .none) _ _ s
  refine wpAny_bind (wpAny_updateSeq hS rfl (wpAny_bind (wpAny_letGo ?_)))
  have h2 := Heap.get?_update_self (Obj.mapSeq (fun _ => (#[] : Array Value))) hS rfl
  have ot : ∀ b o, b ≠ S → s.heap.get? b = some o → (s.heap.update S (Obj.mapSeq (fun _ => (#[] : Array Value)))).get? b = some o := fun b o n y => (Heap.get?_update_other _ _ (Ne.symm n)).trans y
  have st2 := st.put hS rfl nl ot
  have ne : e ≠ S := fun q => by
    have y := he.symm.trans (q ▸ hS)
    exact absurd (Value.type.inj (congrArg Obj.cls (Option.some.inj y))) (by decide)
  refine en_extend hh hn .none _ (ot e _ ne he) st2 h2 nl fun h' tk acc' c' kk hS' ha => hR h' tk acc' c' (fun b o n1 n2 n3 y => kk b o n1 n2 n3 (ot b o n3 y)) hS' ?_
  have ez : (s.heap.update S (Obj.mapSeq fun _ => (#[] : Array Value))).objs.size = s.heap.objs.size := Heap.size_update ..
  have ha2 : AccEn items acc' items.size h' (s.heap.update S (Obj.mapSeq fun _ => (#[] : Array Value))).objs.size := ha
  rw [ez] at ha2; exact ha2
theorem call_listEn {e it l : Addr} {items : Array Value} {Q : Value → Shared → Prop} (hh : A.handled = none) (hn : items.size ≤ sizeLine) (he : IsEnum s.heap e it 0 .none) (st : EnSt e it l items 0 s.heap)
    (hQ : ∀ h' tk acc' c', (∀ b o, b ≠ e → b ≠ it → s.heap.get? b = some o → h'.get? b = some o) → h'.get? s.heap.objs.size = some { cls := .type "list", dict := none, data := .seq acc' c', slots := #[] } → AccEn items acc' items.size h' (s.heap.objs.size + 1) → Q (.ref s.heap.objs.size) { s with heap := h', toks := tk }) :
    wpAny (model prog w) A (call (.type "list") [.ref e]) Q E s := by
  refine callType_codes (Q₁ := fun obj s1 => obj = .ref s.heap.objs.size ∧ s1 = { s with heap := s.heap.push { cls := .type "list", data := .seq #[] } }) F.called_list (F.typeCall_list_1 _) F.entry_list_init (code_list_new _ ⟨rfl, rfl⟩) fun obj s1 h1 => ?_
  obtain ⟨rfl, rfl⟩ := h1
  have hS : (s.heap.push { cls := .type "list", data := .seq #[] }).get? s.heap.objs.size = some { cls := .type "list", data := .seq #[] } := Heap.get?_push_size _ rfl
  have hk : ∀ b o, s.heap.get? b = some o → (s.heap.push { cls := .type "list", data := .seq #[] }).get? b = some o := fun b o y => Heap.get?_push_of_some _ y
  have st2 : EnSt e it l items 0 (s.heap.push { cls := .type "list", data := .seq #[] }) := by
    obtain ⟨⟨g, b, z, h1, hg⟩, hi, hl, ne⟩ := st
    refine ⟨⟨g, b, z, hk _ _ h1, ?_⟩, hi.at fun o y => hk _ _ y, hl.at fun o y => hk _ _ y, ne⟩
    rcases hg with hg | ⟨a, o, x1, x2, x3, x4, x5⟩
    · exact .inl hg
    · exact .inr ⟨a, o, x1, hk _ _ x2, x3, x4, x5⟩
  have nl : l ≠ s.heap.objs.size := by
    obtain ⟨o, ho, _⟩ := st.sli
    exact Nat.ne_of_lt (Heap.lt_size ho)
  refine ⟨⟨_, hS, rfl⟩, F.args_list_init_2 _ _, en_init (A := A.in1) hh hn (hk _ _ he) st2 hS nl fun h' tk acc' c' kk hS' ha => ⟨rfl, ?_⟩⟩
  have ez : (s.heap.push { cls := .type "list", data := .seq #[] }).objs.size = s.heap.objs.size + 1 := Heap.size_push ..
  have ha2 : AccEn items acc' items.size h' (s.heap.push { cls := .type "list", data := .seq #[] }).objs.size := ha
  rw [ez] at ha2
  exact hQ h' tk acc' c' (fun b o n1 n2 y => kk b o n1 n2 (Nat.ne_of_lt (Heap.lt_size y)) (hk _ _ y)) hS' ha2
end
/-! ### several new objects at once -/
section
variable {P : Program} {w : World} {fs ex : List Addr} {H H' : Hp} {h h' : Heap}
structure Many (H H' : Hp) (h : Heap) : Prop where
  old : ∀ b, b < h.objs.size → H' b = H b
theorem Many.ext (m : Many H H' h) (x : HOk P w H h) : Same H H' := fun b o e => by rw [m.old b (x.lt e)]; exact e
theorem Many.hok (m : Many H H' h) (x : HOk P w H h) (k : ∀ b u, h.get? b = some u → h'.get? b = some u) (new : ∀ b o, h.objs.size ≤ b → H' b = some o → ObjOk P w H' h' b o) : HOk P w H' h' := fun b u e => by
  by_cases c : b < h.objs.size
  · rw [m.old b c] at e
    exact (x b u e).stay (fun c v _ q => k c v q) (fun c q => m.ext x _ _ q) fun c xs q => m.ext x _ _ q
  · exact new b u (Nat.le_of_not_lt c) e
theorem Many.un (m : Many H H' h) (x : HOk P w H h) (k : ∀ b u, h.get? b = some u → h'.get? b = some u) : Un fs ex H H' h h' where
  keep := fun b u q _ _ _ => k b u q
  slot := fun b u q _ _ _ => ⟨u.slots, k b u q⟩
  free := fun b u q n _ => by rw [m.old b (Heap.lt_size q)]; exact n
  there := fun b u q _ => ⟨u, k b u q⟩
  tups := fun b xs q => m.ext x _ _ q
  frzs := fun b u xs q => m.ext x _ _ q
  tbls := fun b ps q => ⟨#[], by rw [m.ext x _ _ q]; simp⟩
end
open Classical in
/-- the heap with a new list at D of new pairs at ts -/
noncomputable def enH (H : Hp) (n : Nat) (D : Addr) (ts : List Addr) (f : Nat → V) : Hp := fun b =>
  if b < n then H b else if b = D then some (.lst (ts.map V.ref)) else if q : ∃ j : Nat, ts[j]? = some b then some (.tup [.int ((Classical.choose q : Nat) : Int), f (Classical.choose q)]) else none
theorem enrefs_of : ∀ vs : List Value, (∀ v ∈ vs, ∃ p, v = .ref p) → ∃ ts : List Addr, vs = ts.map Value.ref
  | [], _ => ⟨[], rfl⟩
  | v :: vs, h => by
    obtain ⟨p, rfl⟩ := h v List.mem_cons_self
    obtain ⟨ts, e⟩ := enrefs_of vs fun u hu => h u (List.mem_cons_of_mem _ hu)
    exact ⟨p :: ts, by rw [e]; rfl⟩
theorem envals_refs : ∀ ts : List Addr, Vals (ts.map V.ref) (ts.map Value.ref)
  | [] => .nil
  | p :: ts => .cons rfl (envals_refs ts)
theorem enH_at {H : Hp} {n : Nat} {D : Addr} {ts : List Addr} {f : Nat → V} {j : Nat} {b : Addr} (e : ts[j]? = some b) (hb : n ≤ b) (hD : b ≠ D) (one : ∀ i, ts[i]? = some b → i = j) : enH H n D ts f b = some (.tup [.int ((j : Nat) : Int), f j]) := by
  unfold enH
  rw [if_neg (Nat.not_lt.mpr hb), if_neg hD, dif_pos ⟨j, e⟩]
  have z := one _ (Classical.choose_spec (⟨j, e⟩ : ∃ j : Nat, ts[j]? = some b))
  rw [z]
def tLstEn (K : PySem.W.Frag) (ta : TA) : TE := fun σ H Q => ta σ H fun vs H1 => ∃ a xs, vs = [.ref a] ∧ SqL K H1 a xs ∧ ∀ (D : Addr) (ts : List Addr) (H' : Hp), Same H1 H' → H1 D = none → H' D = some (.lst (ts.map V.ref)) → ts.length = xs.length →
  (∀ (i : Nat) (p : Addr) (x : V), ts[i]? = some p → xs[i]? = some x → H' p = some (.tup [.int ((i : Nat) : Int), x])) → Q (.ref D) H'
theorem pe_listEn {X : Cx} {e : Expr} {ta : TA} {p p2 pos pos2 : Pos} (hc : X.calm = true) (hg : Gl X "list") (hm : X.mg "list" = none) (hg2 : Gl X "enumerate") (hm2 : X.mg "enumerate" = none) (ha : PA X [e] ta) (hs : starEach [e] X.env = [(false, eval e X.env)] := by rfl)
    (na : starEach [.Call (.Name "enumerate" p2) [e] [] pos2] X.env = (false, eval (.Call (.Name "enumerate" p2) [e] [] pos2) X.env) :: starEach [] X.env := by rfl) : PE X (.Call (.Name "list" p) [.Call (.Name "enumerate" p2) [e] [] pos2] [] pos) (tLstEn X.K ta) := by
  refine ⟨fun pins s σ H Q I h => ?_⟩
  refine Call_ (ld_blt I hg hm boot_list (PyProof.Rows.callWith_type1 (args_cons ?_ na) na))
  refine Call_ (ld_blt I hg2 hm2 boot_enumerate (PyProof.Rows.callWith_type1 (thn (ha.run pos2 pins s σ H _ I h) fun us s1 ⟨vs, H1, I1, r1, q1⟩ => ?_) hs rfl))
  obtain ⟨a, xs, ex, hq, q⟩ := q1
  subst ex
  cases r1 with
  | cons r rr =>
    cases rr
    cases r
    obtain ⟨its, rv, p', hz⟩ := I1.list hq
    refine call_enumerate_list p'.isList fun h1 he hit hsz hk => args_nil ?_
    have hl1 : h1.IsList a its.toArray := p'.isList.at fun o y => hk _ _ y
    have st : EnSt (s1.heap.objs.size + 1) s1.heap.objs.size a its.toArray 0 h1 := ⟨⟨_, _, _, he, .inl ⟨rfl, rfl⟩⟩, hit, hl1, Nat.succ_ne_self _⟩
    refine call_listEn (s := { s1 with heap := h1 }) (I1.ok.hd hc) (by rw [List.size_toArray, ← rv.length]; exact hz) he st fun h' tk acc' c' kk hD ha' => ?_
    have lx := rv.length
    have n1 : h1.objs.size = s1.heap.objs.size + 1 + 1 := by rw [hsz]
    obtain ⟨ts, ets⟩ := enrefs_of acc'.toList fun v hv => by
      obtain ⟨j, hj⟩ := List.getElem?_of_mem hv
      have lt := (List.getElem?_eq_some_iff.mp hj).1
      rw [Array.length_toList, ha'.sz] at lt
      obtain ⟨p, tk, x, y1, _⟩ := ha'.at_ j lt
      rw [Array.getElem?_toList, y1] at hj
      exact ⟨p, (Option.some.inj hj).symm⟩
    have lts : ts.length = its.length := by
      have z := congrArg List.length ets
      rw [Array.length_toList, ha'.sz, List.length_map, List.size_toArray] at z
      exact z.symm
    -- what stands at each pair's address
    have at_ : ∀ (j : Nat) (b : Addr), ts[j]? = some b → ∃ (tk : Nat) (x : Value), its[j]? = some x ∧ h1.objs.size + 1 ≤ b ∧ h'.get? b = some { cls := .type "tuple", data := .seq #[.int j tk, x] } := fun j b e => by
      have lt := (List.getElem?_eq_some_iff.mp e).1
      obtain ⟨p, tk, x, y1, y2, y3, y4⟩ := ha'.at_ j (by rw [List.size_toArray]; omega)
      have z : acc'.toList[j]? = some (.ref b) := by rw [ets, List.getElem?_map, e]; rfl
      rw [Array.getElem?_toList, y1] at z
      cases z
      exact ⟨tk, x, by simpa using y2, y3, y4⟩
    have one : ∀ (i j : Nat) (b : Addr), ts[i]? = some b → ts[j]? = some b → i = j := fun i j b e1 e2 => by
      obtain ⟨_, _, _, _, g1⟩ := at_ i b e1
      obtain ⟨_, _, _, _, g2⟩ := at_ j b e2
      rw [g1] at g2
      injection g2 with g2
      injection g2 with _ _ g2
      injection g2 with g2
      have g3 := congrArg (fun a => a[0]?) g2
      simp at g3
      omega
    have old : ∀ b u, s1.heap.get? b = some u → h'.get? b = some u := fun b u y => kk b u (Nat.ne_of_lt (Nat.lt_succ_of_lt (Heap.lt_size y))) (Nat.ne_of_lt (Heap.lt_size y)) (hk _ _ y)
    have m : Many H1 (enH H1 s1.heap.objs.size h1.objs.size ts fun j => xs.getD j .non) s1.heap := ⟨fun b hb => if_pos hb⟩
    have nD : ∀ (j : Nat) (b : Addr), ts[j]? = some b → b ≠ h1.objs.size ∧ s1.heap.objs.size ≤ b := fun j b e => by
      obtain ⟨_, _, _, g, _⟩ := at_ j b e
      exact ⟨Nat.ne_of_gt g, Nat.le_trans (by omega) (Nat.le_of_succ_le g)⟩
    have pair : ∀ (j : Nat) (b : Addr) (x : V), ts[j]? = some b → xs[j]? = some x → enH H1 s1.heap.objs.size h1.objs.size ts (fun j => xs.getD j .non) b = some (.tup [.int ((j : Nat) : Int), x]) := fun j b x e ex => by
      have z := enH_at (H := H1) (D := h1.objs.size) (f := fun j => xs.getD j .non) e (nD j b e).2 (nD j b e).1 fun i e1 => one i j b e1 e
      have y : xs.getD j .non = x := by rw [List.getD_eq_getElem?_getD, ex]; rfl
      rw [z, y]
    have dl : enH H1 s1.heap.objs.size h1.objs.size ts (fun j => xs.getD j .non) h1.objs.size = some (.lst (ts.map V.ref)) := by
      have n2 : ¬ (h1.objs.size : Nat) < s1.heap.objs.size := by omega
      unfold enH
      rw [if_neg n2, if_pos rfl]
    have hok := m.hok (h' := h') I1.hok old fun b o hb e => by
      unfold enH at e
      rw [if_neg (Nat.not_lt.mpr hb)] at e
      by_cases c : b = h1.objs.size
      · rw [if_pos c] at e
        cases e
        subst c
        refine ⟨by rw [List.length_map, lts, ← lx]; exact hz, acc'.toList, c', by rw [ets]; exact envals_refs ts, ?_⟩
        rw [Array.toArray_toList]; exact hD
      · rw [if_neg c] at e
        by_cases q : ∃ j : Nat, ts[j]? = some b
        · rw [dif_pos q] at e
          cases e
          have sp := Classical.choose_spec q
          obtain ⟨tk, x, g1, _, g2⟩ := at_ _ b sp
          have lt := (List.getElem?_eq_some_iff.mp sp).1
          obtain ⟨v, hv⟩ : ∃ v, xs[Classical.choose q]? = some v := ⟨_, List.getElem?_eq_getElem (by omega)⟩
          obtain ⟨u, hu, ru⟩ := rv.get hv
          rw [g1] at hu
          cases hu
          have y : xs.getD (Classical.choose q) .non = v := by rw [List.getD_eq_getElem?_getD, hv]; rfl
          dsimp only
          rw [y]
          exact ⟨by show 2 ≤ sizeLine; decide, [.int _ tk, x], .cons ⟨_, rfl⟩ (.cons ru .nil), ⟨_, g2, rfl, _, rfl⟩⟩
        · rw [dif_neg q] at e; cases e
    refine ⟨.ref h1.objs.size, _, I1.un (t' := tk) (m.un I1.hok old) hok, rfl, q _ ts _ (m.ext I1.hok) (I1.hok.fresh (by omega)) dl (lts.trans lx.symm) pair⟩
end L2

/-! Z5: sorted(a tuple of whole numbers), list.extend(a tuple). -/
namespace L2
open PySem PySem.Spec PyProof.Rows SrtO
section
variable {prog : Program} {w : World} {A : Around} {E : Value → Shared → Prop} {s : Shared}
/-- what is gathered from a tuple -/
theorem gather_tup {t : Addr} {vs : List Value} {G : List Value → Shared → Prop} (ht : IsTup s.heap t vs.toArray) (hz : vs.length ≤ sizeLine)
    (hG : G vs { s with heap := (s.heap.push (seqObj "list" #[] 0)).update s.heap.objs.size (Obj.mapSeq (· ++ vs.toArray)) }) : wpAny (model prog w) A (collect (.ref t)) G E s := by
  obtain ⟨o, ho, hc, n, hd⟩ := ht
  have op : (s.heap.push (seqObj "list" #[] 0)).get? t = some o := Heap.get?_push_of_some _ ho
  have on : (s.heap.push (seqObj "list" #[] 0)).get? s.heap.objs.size = some (seqObj "list" #[] 0) := Heap.get?_push_size _ rfl
  have ze : (#[] ++ vs.toArray : Array Value).size ≤ sizeLine + 1 := by rw [Array.size_append, List.size_toArray]; exact Nat.le_succ_of_le (by simpa using hz)
  unfold collect
  refine wpAny_bind (wpAny_runValue (codeAny_builtin entry_proto_collect' (wpAny_bind (wpAny_newList (wpAny_pure ⟨Code.quiet_builtin _ (by decide +kernel), codeAny_builtin entry_list_iadd' ?_⟩)))))
  show wpAny _ _ (Builtin.List.listExtendWith (.ref s.heap.objs.size) (.ref t) (.ref s.heap.objs.size)) _ _ ⟨s.heap.push (seqObj "list" #[] 0), _, _, _, _⟩
  unfold Builtin.List.listExtendWith
  refine wpAny_bind (wpAny_typeOf (T := "tuple") ⟨o, op, hc⟩ ?_)
  have et : (Value.type "tuple" == Value.type "tuple") = true := rfl
  rw [if_pos (by rw [et]; simp)]
  refine wpAny_bind (listItems_at op hd (wpAny_bind (listItems_at (xs := #[]) (n := 0) on rfl ?_)))
  rw [if_neg (by simp)]
  refine wpAny_bind (listUpdate_at (xs := #[]) (n := 0) on rfl (wpAny_pure ?_) (Nat.zero_le _) ze)
  show wpAny _ _ (load s.heap.objs.size >>= _) _ _ ⟨(s.heap.push (seqObj "list" #[] 0)).update s.heap.objs.size (Obj.mapSeq (· ++ vs.toArray)), _, _, _, _⟩
  refine wpAny_bind (wpAny_load (get?_update_seq on _) ?_)
  show wpAny _ _ (pure (#[] ++ vs.toArray : Array Value).toList) _ _ _
  have ev : (#[] ++ vs.toArray : Array Value).toList = vs := by simp
  rw [ev]
  exact wpAny_pure hG
/-- sorted(a tuple) -/
theorem sorted_tup {t : Addr} {vs : List Value} {lt : Value → Value → Bool} {G : Value → Shared → Prop} (O : Swo lt) (ht : IsTup s.heap t vs.toArray) (hz : vs.length ≤ sizeLine)
    (hS : 2 ≤ vs.length → ∀ (g : Heap) (a : Addr), SortableO prog w A.in1.in1 { s with heap := g } a vs lt)
    (hG : ∀ out : List Value, Srtd lt out → Stb lt out vs → G (.ref (s.heap.objs.size + 1)) { s with heap := sortedAll s.heap vs out.toArray }) : wpAny (model prog w) A (call (.builtin "sorted") [.ref t]) G E s := by
  refine Calls.call_function_entry kind_sorted plain_sorted entry_sorted (args_sorted1 _) ?_
  unfold Builtin.«sorted»
  refine wpAny_bind (m := checkCount "sorted" 1 1 _) (wpAny_pure (wpAny_bind (gather_tup ht hz (wpAny_bind (wpAny_newList ?_ hz)))))
  have sz : ((s.heap.push (seqObj "list" #[] 0)).update s.heap.objs.size (Obj.mapSeq (· ++ vs.toArray))).objs.size = s.heap.objs.size + 1 := by rw [Heap.size_update, size_push']
  have at1 : (((s.heap.push (seqObj "list" #[] 0)).update s.heap.objs.size (Obj.mapSeq (· ++ vs.toArray))).push (seqObj "list" vs.toArray 0)).get? (s.heap.objs.size + 1) = some (seqObj "list" vs.toArray 0) := sz ▸ Heap.get?_push_size _ rfl
  show wpAny _ _ _ _ _ ⟨((s.heap.push (seqObj "list" #[] 0)).update s.heap.objs.size (Obj.mapSeq (· ++ vs.toArray))).push (seqObj "list" vs.toArray 0), _, _, _, _⟩
  rw [sz]
  refine wpAny_bind (wpAny_holding (wpAny_call_entry slot_list_sort ⟨_, at1, rfl⟩ entry_list_sort (list_sort_ord O at1 hz (fun h2 => hS h2 _ _) fun out k1 k2 => ⟨_, rfl, wpAny_pure ⟨_, rfl, hG out k1 k2⟩⟩) (args_list_sort _)))
end
/-- sorted(t), t a tuple of whole numbers -/
def rSortedTup (K : PySem.W.Frag) : List V → Hp → VK → Prop := fun vs H Q => ∃ (a : Addr) (ns : List Int), vs = [V.ref a] ∧ SqT K H a (ns.map V.int) ∧
  ∀ (ms : List Int) (p : Addr), ms.Perm ns → ms.Pairwise (· ≤ ·) → H p = none → Q (.ref p) (upd H p (.lst (ms.map V.int)))
/-- xs.extend(t), t a tuple -/
def rExtendT (K : PySem.W.Frag) : V → List V → Hp → VK → Prop := fun x vs H Q => ∃ l b xs zs, x = .ref l ∧ vs = [.ref b] ∧ H l = some (.lst xs) ∧ SqT K H b zs ∧ xs.length + zs.length ≤ sizeLine ∧ Q .non (upd H l (.lst (xs ++ zs)))
section
variable {X : Cx}
theorem cr_sortedTup : CallR X (.builtin "sorted") (rSortedTup X.K) := by
  intro pins s σ H vs us Q I r h
  obtain ⟨a, ns, rfl, hs, q⟩ := h
  obtain ⟨its, rv, pl, hz⟩ := I.tuple hs
  rw [Vals.ref1 r]
  have hi := rv.ints
  rw [rv.length] at hz
  refine sorted_tup swo_int pl hz (fun h2 g a' => ints_sortable hi h2) fun out k1 k2 => ?_
  obtain ⟨j1, j2, j3⟩ := ints_out hi k1 k2
  obtain ⟨e, he⟩ := sortedAll_at s.heap its out.toArray
  have hl : ((out.map iv).map V.int).length ≤ sizeLine := by
    have z := j2.length_eq
    have y := rv.length
    rw [List.length_map] at y ⊢
    omega
  exact ⟨.ref _, _, I.laid (t' := s.toks) (o := .lst ((out.map iv).map V.int)) (fun _ _ => sortedAll_old) (Nat.le_succ _) ⟨hl, out, e, vals_of_ints j1, he⟩, rfl, q _ _ j2 j3 (I.hok.fresh (Nat.le_succ _))⟩
theorem mt_extendT : MtM X "list.extend" (rExtendT X.K) := by
  intro pins s σ H x vs v us Q I rx rv h
  obtain ⟨l, b, xs, zs, rfl, rfl, hH, hB, hz, q⟩ := h
  cases rx
  obtain ⟨u, rfl, ru⟩ := rv.one
  cases ru
  obtain ⟨z, its, n, r, hl, e⟩ := I.lstM hH
  obtain ⟨its2, r2, pl, z2⟩ := I.tuple hB
  obtain ⟨o, ho, hc, n2, hd⟩ := pl
  have l2 := r2.length
  have zs2 : its.toArray.size + its2.toArray.size ≤ sizeLine := by rw [List.size_toArray, List.size_toArray]; omega
  refine wpAny_call_entry F.slot_list_extend ⟨_, e, rfl⟩ F.entry_list_extend ?_ (F.args_list_extend_2 _ _)
  show wpAny _ _ (Builtin.List.listExtendWith (.ref l) (.ref b) .none) _ _ s
  unfold Builtin.List.listExtendWith
  refine wpAny_bind (wpAny_typeOf (T := "tuple") ⟨o, ho, hc⟩ ?_)
  have et : (Value.type "tuple" == Value.type "tuple") = true := rfl
  rw [if_pos (by rw [et]; simp)]
  refine wpAny_bind (listItems_at ho hd (wpAny_bind (listItems_at e rfl ?_)))
  rw [if_neg (by rw [notLongL zs2, Bool.and_false]; exact Bool.false_ne_true)]
  refine wpAny_bind (listUpdate_at e rfl (wpAny_pure ?_) (by omega) (by rw [Array.size_append]; omega))
  refine ⟨_, rfl, .non, _, I.lset (its' := its ++ its2) hH e (by simp) (r.append r2) ?_, rfl, q⟩
  rw [List.length_append]
  omega
end
theorem pi_tupK {X : Cx} (K : PySem.W.Frag) {tg l : Expr} {tl : TE} (hl : PE X l tl) (e : X.K = K := by rfl) : PI X tg l (iTup K tl) := by subst e; exact pi_tup hl
theorem pi_listK {X : Cx} (K : PySem.W.Frag) {tg l : Expr} {tl : TE} (hl : PE X l tl) (e : X.K = K := by rfl) : PI X tg l (iList K tl) := by subst e; exact pi_list hl
end L2

/-! Z6: d.get(y), y None or a whole number or a text, over a dict whose keys are numbers and texts. -/
namespace L2
open PySem PySem.Spec PyProof.Rows
section
variable {X : Cx}
theorem leaf_keys {P : Program} {w : World} {es : Array DictEntry} (h : KeysOf (mixKind P w) es) : KeysOf (leafKind P w) es := fun e he => by
  obtain ⟨k, k1, k2⟩ := h e he
  rcases keyIs_shape k1 with ⟨i, t, rfl, ek⟩ | ⟨x, t, rfl, ek⟩
  · refine ⟨.num i, ?_, k2⟩
    rw [ek]
    exact decide_eq_true rfl
  · refine ⟨.text x, ?_, k2⟩
    rw [ek]
    exact keyIs_str x t
theorem no_none {P : Program} {w : World} {es : Array DictEntry} (h : KeysOf (mixKind P w) es) : findBy (leafKind P w).is es .none = none := by
  unfold findBy
  have z : es.find? (fun e => (leafKind P w).is .none e.key) = none := by
    rw [Array.find?_eq_none]
    intro e he
    obtain ⟨k, k1, _⟩ := h e he
    rcases keyIs_shape k1 with ⟨i, t, _, ek⟩ | ⟨x, t, _, ek⟩
    · rw [ek]; exact Bool.false_ne_true
    · rw [ek]; exact Bool.false_ne_true
  rw [z]; rfl
theorem get_non {pins : List (Addr × Obj)} {σ : St} {H : Hp} {s : Shared} {A : Around} {E : Value → Shared → Prop} {a : Addr} {kvs : List (Key × V)} {Q : Value → Shared → Prop} (I : Inv X pins σ H s) (e : Rd H a (.dK kvs)) (h : ∀ s', Inv X pins σ H s' → Q .none s') :
    wpAny (model X.prog X.w) A (call (.builtin "dict.get") [.ref a, .none]) Q E s := by
  obtain ⟨z, hd, vs, rel, dd⟩ := dk_rd I.hok e
  obtain ⟨o, es, ep, h1, h2, h3, h4, _⟩ := id dd
  have m : s.heap.MapOf (leafKind X.prog X.w) a (findBy (leafKind X.prog X.w).is es) := ⟨o, es, ep, h1, h2, h3, leaf_keys h4, fun _ => rfl⟩
  refine call_meetsIn PySem.F.slot_dict_get dd.typeIs PySem.F.entry_dict_get (PySem.F.args_dict_get_2 _ _) (meets_dict_get (leafKind X.prog X.w) (k := .none) (key := .none) a rfl hd) ⟨_, m, ?_⟩
  rw [no_none h4]
  exact h _ (I.tok _)
/-- d.get(y): a number's or a text's place, or None -/
def tDGetO (td ty : TE) : TE := fun σ H Q => td σ H fun x H1 => ∃ a, x = .ref a ∧ IsD H1 a ∧ ty σ H1 fun y H2 => (y = .non ∧ (∃ kvs, H2 a = some (.dK kvs)) ∧ Q .non H2) ∨ ∃ o, DGet H2 a y o ∧ Q (o.getD .non) H2
theorem pe_dgetO {o e : Expr} {apos cpos : Pos} {td ty : TE} (hu : X.A.units + 1 < cLine) (ho : PE X o td) (he : PE X e ty) (m : M1 X o "get" apos e cpos) : PE X (.Call (.Attribute o "get" apos) [e] [] cpos) (tDGetO td ty) := by
  refine ⟨fun pins s σ H Q I h => ?_⟩
  refine wpAny_Call_method m.base m.few m.line PySem.F.plainAttrs_dict PySem.F.slot_dict_get PySem.F.type_dict_get (thn (ho.run pins s σ H _ I h) fun u s1 ⟨x, H1, I1, rx, a, ex, d, q1⟩ => ?_)
  subst ex
  cases (show u = Value.ref a from rx)
  obtain ⟨g1, g2, _⟩ := isD_at I1 d
  refine ⟨g1, g2, ?_⟩
  rw [m.trees]
  refine Calls.callWith_builtin rfl (Calls.evalArgs_plain (Calls.spliced_cons (thn (he.run pins s1 σ H1 _ I1 q1) fun iv s2 ⟨y, H2, I2, ry, alt⟩ => Calls.spliced_nil ?_)))
  rcases alt with ⟨rfl, ⟨kvs, ek⟩, q2⟩ | ⟨ov, g, q2⟩
  · cases (show iv = Value.none from ry)
    exact get_non I2 (.inl ek) fun s3 I3 => ⟨.non, H2, I3, rfl, q2⟩
  · exact d_get1 hu I2 g ry fun w' s3 I3 rw' => ⟨_, H2, I3, rw', q2⟩
/-- a walk that one of two rules tells -/
theorem pi_or {tg it : Expr} {a b : TI} (h : PI X tg it a) (h2 : PI X tg it b) : PI X tg it (fun σ H R => a σ H R ∨ b σ H R) := ⟨fun pins s σ H R I q => q.elim (h.run pins s σ H R I) (h2.run pins s σ H R I)⟩
/-- a value that one of two rules tells -/
theorem pe_or2 {e : Expr} {a b : TE} (h : PE X e a) (h2 : PE X e b) : PE X e (fun σ H Q => a σ H Q ∨ b σ H Q) := ⟨fun pins s σ H Q I q => q.elim (h.run pins s σ H Q I) (h2.run pins s σ H Q I)⟩
end
end L2

/-! Z7: {k: v for a in xs for b in ys}: two for, one test at most of each. -/
namespace L2
open PySem PySem.Spec PyProof.Rows
/-- what holds in the block of a comprehension, whatever it stands on -/
abbrev InBlk (X : Cx) (scope : Scope) (F : Cx → Prop) : Prop := ∀ (s : Shared) (H : Hp) (C : Addr) (cl : List (Str × Addr)) (fp : List Addr), F (X.blk s H scope (compEnvC scope cl C X.env) fp)
def tDc2 (wA : TI) (gA : TG) (qA : TT) (wB : TI) (gB : TG) (qB : TT) (tk tv : TE) (us ub : List Nat) : TE := fun σ H Q => wA σ H fun JA G => ∀ D, G D = none → ∃ W : Nat → Nat → Hp → Prop, (∃ m, W 0 m (upd G D (.dK []))) ∧ ∀ i m H, W i m H →
  (JA.stop i H ∧ Q (.ref D) H) ∨ (JA.go i H ∧ ∃ Nx : Hp → Prop, (∀ H', Nx H' → ∃ n, n < m ∧ W (i + 1) n H') ∧ ∀ x H', JA.yld i H x H' → gA x (wipe σ us) H' fun σ2 H2 => wipe σ2 us = wipe σ us ∧ qA σ2 H2 fun b H3 =>
    if b = true then wB σ2 H3 fun JB H4 => ∃ V : Nat → Nat → Hp → Prop, (∃ m, V 0 m H4) ∧ ∀ j k H, V j k H → (JB.stop j H ∧ Nx H) ∨ (JB.go j H ∧ ∃ Ny : Hp → Prop, (∀ H', Ny H' → ∃ n, n < k ∧ V (j + 1) n H') ∧
      ∀ x H', JB.yld j H x H' → gB x (wipe σ2 ub) H' fun σ3 H5 => wipe σ3 ub = wipe σ2 ub ∧ qB σ3 H5 fun b H6 =>
        if b = true then tk σ3 H6 fun y H7 => tv σ3 H7 fun z H8 => ∃ kvs k, y = kV k ∧ H8 D = some (.dK kvs) ∧ kvs.length < sizeLine ∧ Ny (upd H8 D (.dK (putK kvs k z))) else Ny H6)
    else Nx H3)
/-- the second for's start -/
theorem dc_start1 {prog : Program} {w : World} {A : Around} {R : Result → Shared → Prop} {s : Shared} {kx vx tA iA tB iB : Expr} {fA fB : List Expr} {scope : Scope} {pos : Pos} {it acc : Value} {env : Env} (h0 : codeAny (model prog w) A (.compLoop (.DictComp kx vx [⟨tA, iA, fA, 0⟩, ⟨tB, iB, fB, 0⟩] scope pos) 1 it acc env) R s)
    (h : wpAny (model prog w) A (pyIter it) (fun j s' => codeAny (model prog w) A (.compLoop (.DictComp kx vx [⟨tA, iA, fA, 0⟩, ⟨tB, iB, fB, 0⟩] scope pos) 1 j acc env) R s') (notedBy (model prog w) A env fun x s' => R (.error x) s') s) :
    codeAny (model prog w) A (.compStart (.DictComp kx vx [⟨tA, iA, fA, 0⟩, ⟨tB, iB, fB, 0⟩] scope pos) 1 it acc env) R s := by
  refine codeAny_of_tree ?_
  show wpAny _ _ ((compStart (.DictComp kx vx [⟨tA, iA, fA, 0⟩, ⟨tB, iB, fB, 0⟩] scope pos) 1 it acc env).onRaise fun x => do noteFrame x env; standAt theWindowsPlace) _ _ s
  refine wpAny_notedAt ?_
  unfold compStart
  show wpAny _ _ (ask >>= _) _ _ s
  refine wpAny_bind (wpAny_askSetting (wpAny_ite ?_))
  have late : wpAny (model prog w) A (pyIter it) (fun j s' => codeAny (model prog w) A (.compLoop (.DictComp kx vx [⟨tA, iA, fA, 0⟩, ⟨tB, iB, fB, 0⟩] scope pos) 1 j acc env) R s') (notedBy (model prog w) A env fun x s' => R (.error x) s') s := h
  split
  · first | exact wpAny_bind (wpAny_pure (wpAny_pure ⟨rfl, h0⟩)) | exact wpAny_pure ⟨rfl, h0⟩
  · first
      | exact wpAny_bind (wpAny_rule (wpAny_bind (wpAny_standAt (wpAny_bind (wpAny_mono late (fun _ _ q => wpAny_pure ⟨rfl, q⟩) fun _ _ q => q)))))
      | (refine wpAny_bind (wpAny_rule ?_); show wpAny _ _ (standAt iB.pos >>= _) _ _ s; exact wpAny_bind (wpAny_standAt (wpAny_bind (wpAny_mono late (fun _ _ q => wpAny_pure ⟨rfl, q⟩) fun _ _ q => q))))
section
variable {X : Cx}
theorem pe_dc2 {kx vx tA iA tB iB : Expr} {fA fB : List Expr} {scope : Scope} {own : List (Str × Nat)} {ub : List Nat} {pos : Pos} {wA wB : TI} {gA gB : TG} {qA qB : TT} {tk tv : TE} (hc : X.calm = true) (nd : X.N.Nodup) (pA : PI X tA iA wA) (ok : BlkOk X.N X.env.scope scope own) (sub : ∀ i ∈ ub, i ∈ own.map (·.2))
    (aG : InBlk X scope fun Y => PG Y tA gA) (aT : InBlk X scope fun Y => PTs Y fA qA) (bI : InBlk X scope fun Y => PI Y tB iB wB) (bG : InBlk X scope fun Y => PG Y tB gB) (bT : InBlk X scope fun Y => PTs Y fB qB) (bK : InBlk X scope fun Y => PE Y kx tk) (bV : InBlk X scope fun Y => PE Y vx tv)
    (cA : ∀ x, foldedSetIterable iA X.env x = pure x := by intro _; rfl) (cB : ∀ env x, foldedSetIterable iB env x = pure x := by intro _ _; rfl) : PE X (.DictComp kx vx [⟨tA, iA, fA, 0⟩, ⟨tB, iB, fB, 0⟩] scope pos) (tDc2 wA gA qA wB gB qB tk tv (own.map (·.2)) ub) := by
  refine ⟨fun pins s σ H Q I h => ?_⟩
  rw [arm_eval_DictComp]
  have cap : ∀ y ∈ scope.names, y.2 = .free → ∃ c, X.env.cells.lookup y.1 = some c := fun y hy e => (ok.free y hy e).elim (fun k => I.ok.has _ (.inl k)) fun k => I.ok.has _ (.inr k)
  refine wpAny_comprehension_free (use := none) rfl cA (closure_ok cap) ok.kind (fun y hy e => by rw [ok.uniq y hy, e]) (thn (pA.run pins s σ H _ I h) fun xv s1 hx => thn hx fun itv s2 got => ?_)
  obtain ⟨ia, fa, na, JA, G2, rfl, I2, TA, sa2, fr2, body⟩ := got
  refine wpAny_newObj_type (newEnv_comp ?_)
  generalize eD : s2.heap.objs.size = D
  obtain ⟨W, ⟨m0, w0⟩, turn⟩ := body D (I2.hok.fresh (Nat.le_of_eq eD))
  generalize es3 : ({ s2 with heap := s2.heap.push { cls := .type "dict", data := .dict #[] } } : Shared) = s3
  have I3 : Inv X pins σ (upd G2 D (.dK [])) s3 := by
    subst es3
    exact I2.laid (t' := s2.toks) (fun _ _ e => Heap.get?_push_of_some _ e) (Nat.le_of_eq eD) (by rw [← eD]; exact dk_empty s2.heap I2.big)
  have h3 : s3.heap = s2.heap.push { cls := .type "dict", data := .dict #[] } := es3 ▸ rfl
  have fr3 : ∀ b ∈ fa, FpOk X pins (upd G2 D (.dK [])) b ∧ b < s3.heap.objs.size := fun b hb => by
    obtain ⟨_, e, _⟩ := TA.obj _ _ sa2 b hb
    have lt : b < s2.heap.objs.size := Heap.lt_size e
    have ne : b ≠ D := by rw [← eD]; exact Nat.ne_of_lt lt
    exact ⟨⟨(upd_ne ne).trans (fr2 b hb).1, (fr2 b hb).2⟩, by rw [h3, Heap.size_push]; exact Nat.lt_succ_of_lt lt⟩
  have sa3 : na 0 s3.heap := TA.keep _ _ _ sa2 fun b _ o e => h3 ▸ Heap.get?_push_of_some _ e
  have I4 := block_start I3 ok nd fr3
  generalize ecl : cellsFrom (s3.heap.objs.size + 1) scope.names (cloFrom X.env.cells scope.names []) = cl at I4
  have xG := aG s3 (upd G2 D (.dK [])) s3.heap.objs.size cl fa
  have xT := aT s3 (upd G2 D (.dK [])) s3.heap.objs.size cl fa
  have yI := bI s3 (upd G2 D (.dK [])) s3.heap.objs.size cl fa
  have yG := bG s3 (upd G2 D (.dK [])) s3.heap.objs.size cl fa
  have yT := bT s3 (upd G2 D (.dK [])) s3.heap.objs.size cl fa
  have yK := bK s3 (upd G2 D (.dK [])) s3.heap.objs.size cl fa
  have yV := bV s3 (upd G2 D (.dK [])) s3.heap.objs.size cl fa
  show codeAny _ _ (.compStart (.DictComp kx vx [⟨tA, iA, fA, 0⟩, ⟨tB, iB, fB, 0⟩] scope pos) 0 (.ref ia) (.ref D) (compEnvC scope cl s3.heap.objs.size X.env)) (compPost (model X.prog X.w) X.A X.xe none (EP X pins σ Q) (.ref D) s3.heap.objs.size) ⟨pushCells (s3.heap.push { cls := .type "dict", data := .dict #[] }) scope.names, s3.gens, s3.drawn, s3.toks, s3.os⟩
  have nofa : ∀ b ∈ fa, (upd G2 D (.dK [])) b = none := fun b hb => (fr3 b hb).1.1
  generalize ece : compEnvC scope cl s3.heap.objs.size X.env = ce at I4 xG xT yI yG yT yK yV ⊢
  have cloc : ce.locals = s3.heap.objs.size := ece ▸ rfl
  generalize eG3 : upd G2 D (.dK []) = G3 at I3 I4 xG xT yI yG yT yK yV w0 nofa fr3
  generalize es4 : (⟨pushCells (s3.heap.push { cls := .type "dict", data := .dict #[] }) scope.names, s3.gens, s3.drawn, s3.toks, s3.os⟩ : Shared) = s4 at I4 ⊢
  have sa4 : na 0 s4.heap := TA.keep _ _ _ sa3 fun b _ o e => es4 ▸ pushCells_keeps _ _ _ _ (Heap.get?_push_of_some _ e)
  have held : ∀ {σ' : L2.St} {H' : Hp} {s' : Shared}, Inv (X.blk s3 G3 scope ce fa) [] σ' H' s' → (∀ b ∈ fa, H' b = none) → ∀ b ∈ fa, FpOk (X.blk s3 G3 scope ce fa) [] H' b := fun I' hn b hb =>
    ⟨hn b hb, (I'.ok.exf b hb).1, I'.ok.exfs b hb, .inl hb, fun x c e => (I'.ok.exf b hb).2 x c e, fun p (hp : p ∈ ([] : List (Addr × Obj)) ++ []) => by simp at hp⟩
  have loop : codeAny (model X.prog X.w) X.A (.compLoop (.DictComp kx vx [⟨tA, iA, fA, 0⟩, ⟨tB, iB, fB, 0⟩] scope pos) 0 (.ref ia) (.ref D) ce) (compPost (model X.prog X.w) X.A X.xe none (EP X pins σ Q) (.ref D) s3.heap.objs.size) s4 := by
    refine codeAny_loop rfl (fun n s' => ∃ i H', Inv (X.blk s3 G3 scope ce fa) [] (wipe σ (own.map (·.2))) H' s' ∧ na i s'.heap ∧ (∀ b ∈ fa, H' b = none) ∧ W i n H') (fun n s5 ⟨i, H5, I5, sa5, no5, w5⟩ => ?_) m0 ⟨0, G3, I4, sa4, nofa, w0⟩
    show wpAny _ X.A ((compTurn (.DictComp kx vx [⟨tA, iA, fA, 0⟩, ⟨tB, iB, fB, 0⟩] scope pos) 0 (.ref ia) (.ref D) ce).onRaise fun x => do noteFrame x ce; theTreesLotGoes x) _ _ s5
    refine wpAny_noted ?_
    show wpAny _ _ (standAt iA.pos >>= _) _ _ _
    refine wpAny_bind (wpAny_standAt ?_)
    show wpAny _ _ (pyNext (.ref ia) >>= _) _ _ _
    rcases turn i n H5 w5 with ⟨stop, fin⟩ | ⟨go, Nx, down, step⟩
    · refine wpAny_bind (thnF (TA.done (X.blk s3 G3 scope ce fa) rfl rfl rfl hc i [] s5 _ H5 (fun _ _ => False) I5 (held I5 no5) sa5 stop) fun r s6 ⟨er, I6⟩ => ?_)
      subst er
      refine wpAny_pure ?_
      -- back in the def
      have I7 : Inv X pins σ H5 s6 := I3.call' (ch := fa) I6.os I6.base I6.hok I6.bare fun b hb => by
        obtain ⟨_, p1, _, p3, p4, p5⟩ := (fr3 b hb).1
        exact ⟨p3, p1, p4, p5⟩
      have free : H5 s3.heap.objs.size = none := cloc ▸ (show H5 ce.locals = none from I6.free)
      obtain ⟨m, (ns : s6.heap.Ns ce.locals m), _⟩ := I6.loc
      rw [cloc] at ns
      obtain ⟨f0, f1, f2, f3, f4, f5⟩ := I3.fpOk (Nat.le_refl _) free
      exact ⟨m, ns, fun _ sb => ⟨.ref D, H5, I7.turned (t' := s6.toks) (fun b o hb e => (sb.2 b hb).trans e) f0 f1 f3 f4 f5, rfl, fin⟩⟩
    · refine wpAny_bind (thnF (TA.item (X.blk s3 G3 scope ce fa) rfl rfl rfl hc i [] s5 _ H5 (fun _ _ => False) I5 (held I5 no5) sa5 go) fun r s6 ⟨u, er, g6⟩ => ?_)
      subst er
      show wpAny _ _ (letOwnedTupleGo tA (.ref ia) u >>= _) _ _ _
      refine wpAny_bind (thnF g6 fun _ s7 ⟨x, H7, I7, r7, y7, sa7, no7⟩ => ?_)
      refine wpAny_bind (thnF (xG.run _ s7 _ H7 x u _ (I7.pinned (held I7 no7) (TA.obj _ _ sa7)) r7 (step x H7 y7)) fun _ s8 ⟨σ8, H8, I8, hw8, q8⟩ => ?_)
      refine wpAny_bind (thnF (xT.run _ s8 σ8 H8 _ I8 q8) fun b s9 ⟨H9, I9, q9⟩ => ?_)
      -- the turn's end
      have back : ∀ {σ9 : L2.St} {s' : Shared} {H' : Hp}, Inv (X.blk s3 G3 scope ce fa) ([] ++ pinsAt fa s7.heap) σ9 H' s' → (wipe σ (own.map (·.2))).length = σ9.length → (∀ (j : Nat) v, (wipe σ (own.map (·.2)))[j]? = some (some v) → σ9[j]? = some (some v)) → Nx H' →
          ∃ m, m < n ∧ ∃ i H', Inv (X.blk s3 G3 scope ce fa) [] (wipe σ (own.map (·.2))) H' s' ∧ na i s'.heap ∧ (∀ b ∈ fa, H' b = none) ∧ W i m H' := fun {σ9 s' H'} I' hl hk nx => by
        obtain ⟨m', lt, w'⟩ := down H' nx
        have stay : ∀ b ∈ fa, ∀ o, s7.heap.get? b = some o → s'.heap.get? b = some o ∧ H' b = none := fun b hb o e => by
          have z := I'.pin (b, o) (List.mem_append_right _ (List.mem_append_right _ (mem_pinsAt hb e)))
          exact ⟨z.1, z.2.1⟩
        exact ⟨m', lt, i + 1, H', (I'.unpinned (pins := [])).weak hl hk, TA.keep _ _ _ sa7 fun b hb o e => (stay b hb o e).1, fun b hb => (TA.obj _ _ sa7 b hb).elim fun o z => (stay b hb o z.1).2, w'⟩
      have len8 : (wipe σ (own.map (·.2))).length = σ8.length := by rw [← hw8, wipe_length]
      have hk8 : ∀ (j : Nat) v, (wipe σ (own.map (·.2)))[j]? = some (some v) → σ8[j]? = some (some v) ∧ ¬ j ∈ own.map (·.2) := fun j v e => wipe_some (hw8 ▸ e)
      cases b with
      | false =>
        simp only [Bool.false_eq_true, if_false] at q9 ⊢
        exact wpAny_pure ⟨rfl, back I9 len8 (fun j v e => (hk8 j v e).1) q9⟩
      | true =>
        simp only [if_true] at q9 ⊢
        refine wpAny_bind (thnF (yI.run _ s9 σ8 H9 _ I9 q9) fun xv1 s10 hx1 => ?_)
        refine wpAny_bind (wpAny_standAt (wpAny_bind (wpAny_of_eq (cB ce xv1) (wpAny_bind (wpAny_holding (thnF hx1 fun itv1 s11 got1 => ?_))))))
        obtain ⟨ib, fb, nb, JB, H11, rfl, I11, TB, sb11, fr11, Vw, ⟨m1, v1⟩, turnB⟩ := got1
        have heldB : ∀ {H' : Hp}, (∀ b ∈ fb, H' b = none) → ∀ b ∈ fb, FpOk (X.blk s3 G3 scope ce fa) ([] ++ pinsAt fa s7.heap) H' b := fun hn b hb => ⟨hn b hb, (fr11 b hb).2⟩
        have hk9 : ∀ (j : Nat) v, (wipe σ (own.map (·.2)))[j]? = some (some v) → (wipe σ8 ub)[j]? = some (some v) := fun j v e => by
          rw [wipe_out fun z => (hk8 j v e).2 (sub j z)]
          exact (hk8 j v e).1
        -- the second for's own loop
        have inner : codeAny (model X.prog X.w) X.A (.compLoop (.DictComp kx vx [⟨tA, iA, fA, 0⟩, ⟨tB, iB, fB, 0⟩] scope pos) 1 (.ref ib) (.ref D) ce)
            (fun r s' => match r with
              | .ok _ => ∃ m, m < n ∧ ∃ i H', Inv (X.blk s3 G3 scope ce fa) [] (wipe σ (own.map (·.2))) H' s' ∧ na i s'.heap ∧ (∀ b ∈ fa, H' b = none) ∧ W i m H'
              | .error _ => False) s11 := by
          refine codeAny_loop rfl (fun k s' => ∃ j H', Inv (X.blk s3 G3 scope ce fa) ([] ++ pinsAt fa s7.heap) (wipe σ8 ub) H' s' ∧ nb j s'.heap ∧ (∀ b ∈ fb, H' b = none) ∧ Vw j k H') (fun k s12 ⟨j, H12, I12, sb12, no12, v12⟩ => ?_) m1 ⟨0, H11, I11.weak (wipe_length _ _) (fun j v e => (wipe_some e).1), sb11, fun b hb => (fr11 b hb).1, v1⟩
          show wpAny _ X.A ((compTurn (.DictComp kx vx [⟨tA, iA, fA, 0⟩, ⟨tB, iB, fB, 0⟩] scope pos) 1 (.ref ib) (.ref D) ce).onRaise fun x => do noteFrame x ce; theTreesLotGoes x) _ _ s12
          refine wpAny_noted ?_
          show wpAny _ _ (standAt iB.pos >>= _) _ _ _
          refine wpAny_bind (wpAny_standAt ?_)
          show wpAny _ _ (pyNext (.ref ib) >>= _) _ _ _
          rcases turnB j k H12 v12 with ⟨stop1, nx1⟩ | ⟨go1, Ny, down1, step1⟩
          · refine wpAny_bind (thnF (TB.done (X.blk s3 G3 scope ce fa) rfl rfl rfl hc j _ s12 (wipe σ8 ub) H12 (fun _ _ => False) I12 (heldB no12) sb12 stop1) fun r s13 ⟨er, I13⟩ => ?_)
            subst er
            exact wpAny_pure (back I13 (len8.trans (wipe_length σ8 ub).symm) hk9 nx1)
          · refine wpAny_bind (thnF (TB.item (X.blk s3 G3 scope ce fa) rfl rfl rfl hc j _ s12 (wipe σ8 ub) H12 (fun _ _ => False) I12 (heldB no12) sb12 go1) fun r s13 ⟨u1, er, g13⟩ => ?_)
            subst er
            show wpAny _ _ (letOwnedTupleGo tB (.ref ib) u1 >>= _) _ _ _
            refine wpAny_bind (thnF g13 fun _ s14 ⟨x1, H14, I14, r14, y14, sb14, no14⟩ => ?_)
            refine wpAny_bind (thnF (yG.run _ s14 (wipe σ8 ub) H14 x1 u1 _ (I14.pinned (heldB no14) (TB.obj _ _ sb14)) r14 (step1 x1 H14 y14)) fun _ s15 ⟨σ15, H15, I15, hw15, q15⟩ => ?_)
            refine wpAny_bind (thnF (yT.run _ s15 σ15 H15 _ I15 q15) fun b1 s16 ⟨H16, I16, q16⟩ => ?_)
            have back1 : ∀ {s' : Shared} {H' : Hp}, Inv (X.blk s3 G3 scope ce fa) (([] ++ pinsAt fa s7.heap) ++ pinsAt fb s14.heap) σ15 H' s' → Ny H' →
                ∃ m, m < k ∧ ∃ j H', Inv (X.blk s3 G3 scope ce fa) ([] ++ pinsAt fa s7.heap) (wipe σ8 ub) H' s' ∧ nb j s'.heap ∧ (∀ b ∈ fb, H' b = none) ∧ Vw j m H' := fun {s' H'} I' ny => by
              obtain ⟨m', lt, w'⟩ := down1 H' ny
              have stay : ∀ b ∈ fb, ∀ o, s14.heap.get? b = some o → s'.heap.get? b = some o ∧ H' b = none := fun b hb o e => by
                have z := I'.pin (b, o) (List.mem_append_right _ (List.mem_append_right _ (mem_pinsAt hb e)))
                exact ⟨z.1, z.2.1⟩
              exact ⟨m', lt, j + 1, H', I'.unpinned.weak (by rw [← hw15, wipe_length]) (fun j v e => (wipe_some (hw15 ▸ e)).1), TB.keep _ _ _ sb14 fun b hb o e => (stay b hb o e).1, fun b hb => (TB.obj _ _ sb14 b hb).elim fun o z => (stay b hb o z.1).2, w'⟩
            cases b1 with
            | false =>
              simp only [Bool.false_eq_true, if_false] at q16 ⊢
              exact wpAny_pure ⟨rfl, back1 I16 q16⟩
            | true =>
              simp only [if_true] at q16 ⊢
              refine wpAny_bind (wpAny_bind (thnF (yK.run _ s16 σ15 H16 _ I16 q16) fun kv s17 ⟨yk, H17, I17, r17, q17⟩ => ?_))
              refine wpAny_bind (wpAny_holding (thnF (yV.run _ s17 σ15 H17 _ I17 q17) fun vv s18 ⟨yv, H18, I18, r18, kvs, kk, ek, d18, lt18, ny⟩ => ?_))
              subst ek
              exact wpAny_bind (wpAny_standAt (wpAny_holding (d_dictSet (X := (X.blk s3 G3 scope ce fa)) I18 d18 lt18 r17 r18 fun s19 I19 => wpAny_pure ⟨rfl, back1 I19 ny⟩)))
        refine wpAny_bind (wpAny_runOwn ?_)
        rw [Around.mark_none]
        refine codeAny_mono (dc_start1 inner (TB.self X.A 0 _ _ _ sb11 inner)) fun r s' hr => ?_
        cases r with
        | ok _ => first | exact wpAny_pure ⟨rfl, hr⟩ | exact wpAny_bind (wpAny_pure (wpAny_pure ⟨rfl, hr⟩))
        | error _ => exact hr.elim
  exact codeAny_compStart_dict loop (TA.self X.A 0 _ _ _ sa4 loop)
end
end L2

namespace L2
open PySem PySem.Spec PyProof.Rows
section
variable {X : Cx} {CX : CXT} {k : Nat} {f : Addr} {fd : FuncData} {x : Str} {st : Stmt} {ps ks : List Str} {sp : Sp} {E : St → XK} {p pos : Pos} {kws : List Keyword} {tk : TA}
variable {g : List Value → List Value → List Value} {gV : List V → List V → List V}
/-- a call with keywords whose way out may look at the slots -/
theorem run_fnkS {pins : List (Addr × Obj)} {σ : St} {H : Hp} {s : Shared} {Q : VK} {us ws : List Value} {vs zs : List V} (F : FnOk X.prog X.w X.K X.mg X.base CX k f fd ps sp) (hr : Room k X.A) (hb : KBinds X.K fd ps ks g gV) (hx : PassesAt CX X σ (E σ))
    (I : Inv X pins σ H s) (r : Vals vs us) (rz : Vals zs ws) (h : sp (gV vs zs) H Q (E σ)) : wpAny (model X.prog X.w) X.A (call (.ref f) us (ks.zip ws)) (EP X pins σ Q) X.xe s := by
  have r2 := hb.rel r rz
  have hl : (g us ws).length = ps.length := by rw [← r2.length]; exact F.len _ _ _ _ h
  refine wpAny_call (codeAny_mono (F.run X.A X.stack s H ⟨us, ks.zip ws⟩ (g us ws) (gV vs zs) Q (E σ) hr I.env0 (hb.to s us ws I.kIn hl) r2 h) fun r s' hq => ?_)
  cases r with
  | error e => exact hx pins H s e s' I hq
  | ok fl =>
    cases fl with
    | ret u => exact I.after hq
    | next => exact False.elim hq
    | brk => exact False.elim hq
    | cont => exact False.elim hq
def tCallKS (sp : Sp) (gV : List V → List V → List V) (E : St → XK) (tk : TA) : TE := fun σ H Q => tk σ H fun zs H2 => sp (gV [] zs) H2 Q (E σ)
theorem pe_callFKS0 (h : Kn X.prog X.w X.K X.mg X.base CX k x st ps sp) (hr : Room k X.A) (hb : KwB x st ps ks g gV) (hx : ∀ σ, PassesAt CX X σ (E σ)) (hkw : PK X kws tk) (hg : Gl X x := by rfl)
    (hall : (backToKw pos (keywordEach kws X.env)).all (·.1.isSome) = true := by rfl) (hks : (backToKw pos (keywordEach kws X.env)).filterMap (·.1) = ks := by rfl)
    (hdb : (x == ("__debug__" : Str)) = false := by decide)
    (hpl : ((backTo pos (starEach [] X.env)).any (·.1) || (backToKw pos (keywordEach kws X.env)).any (·.1.isNone)) = false := by rfl) :
    PE X (.Call (.Name x p) [] kws pos) (tCallKS sp gV E tk) := by
  obtain ⟨f, fd, F, gm, kp, b, kV, doc, pm, an, cdv, ct, rfl⟩ := h.ex
  have hbb : KBinds X.K (PySem.W.fnOf x x (defArgs st) (defBody st) (defScope st) .none kV doc pm an cdv ct) ps ks g gV := ⟨fun s us ws _ hl => .of_eq (hb.1 kV doc pm an cdv ct us ws hl), hb.2⟩
  refine ⟨fun pins s σ H Q I hq => wpAny_Call_Name_kw (ld_glob I hg gm ?_ hdb)⟩
  refine PySem.W.callWith_KW0 (h₀ := X.base) I.ok.mod.kin kp hall (thn (hkw.run pos pins s σ H _ I hq) fun ws s2 ⟨zs, H2, I2, rz, q2⟩ => ⟨I2.kIn, ?_⟩) hpl
  rw [hks]
  exact run_fnkS F hr hbb (hx σ) I2 .nil rz q2
end
end L2

/-! Z9: an own class's methods and its making as promises that carry their places; divmod of great ints. -/
namespace L2
open PySem PySem.Spec PyProof.Rows
structure DfM (K : PySem.W.Frag) (C : Addr) (m q : Str) (st : Stmt) (ps : List Str) : Prop where
  ex : ∃ (f : Addr) (fd : FuncData), Fun K m q st f fd ∧ Meth K C m f ∧ Binds K fd ps []
structure KM (P : Program) (w : World) (K : PySem.W.Frag) (mg : Str → Option Value) (base : Heap) (CX : CXT) (k : Nat) (C : Addr) (m : Str) (ps : List Str) (sp : Sp) : Prop where
  ex : ∃ (f : Addr) (fd : FuncData), FnOk P w K mg base CX k f fd ps sp ∧ Meth K C m f ∧ Binds K fd ps []
structure DfI (K : PySem.W.Frag) (C : Addr) (q : Str) (st : Stmt) (ps : List Str) : Prop where
  ex : ∃ (f : Addr) (fd : FuncData), Fun K "__init__" q st f fd ∧ Mk K C f ∧ Binds K fd ps []
structure KMk (P : Program) (w : World) (K : PySem.W.Frag) (mg : Str → Option Value) (base : Heap) (CX : CXT) (k : Nat) (C : Addr) (ps : List Str) (sp : Sp) : Prop where
  ex : ∃ (f : Addr) (fd : FuncData), FnOk P w K mg base CX k f fd ps sp ∧ Mk K C f ∧ Binds K fd ps []
section
variable {P : Program} {w : World} {K : PySem.W.Frag} {mg : Str → Option Value} {base : Heap} {m q : Str} {st : Stmt} {ps N : List Str} {k : Nat} {sp : Sp} {C : Addr}
theorem DfM.ok (D : DfM K C m q st ps) (S : FnScope N ps (defScope st)) (many : ∀ vs H Q E, sp vs H Q E → vs.length = ps.length)
    (hb : ∀ (f : Addr) (cdv : Value) (A : Around) (outer : List Env) (s : Shared) (H : Hp) (vs : List V) (Q : VK) (E : XK), Room k (A.deeper (envOfC q (defScope st) s.heap.objs.size f cdv)) → sp vs H Q E →
      ∃ t, PSs (cxOf CX0 P w K mg base N q (defScope st) f cdv A outer s H E).nox (defBody st) t ∧ t { nx := fun _ H' => Q .non H', rt := Q } (start N vs) H) : KM P w K mg base CX0 (k + 1) C m ps sp := by
  obtain ⟨f, fd, F, M, b⟩ := D.ex
  exact ⟨f, fd, F.ok S many fun cdv A outer s H vs Q E => hb f cdv A outer s H vs Q E, M, b⟩
theorem DfI.ok (D : DfI K C q st ps) (S : FnScope N ps (defScope st)) (many : ∀ vs H Q E, sp vs H Q E → vs.length = ps.length)
    (hb : ∀ (f : Addr) (cdv : Value) (A : Around) (outer : List Env) (s : Shared) (H : Hp) (vs : List V) (Q : VK) (E : XK), Room k (A.deeper (envOfC q (defScope st) s.heap.objs.size f cdv)) → sp vs H Q E →
      ∃ t, PSs (cxOf CX0 P w K mg base N q (defScope st) f cdv A outer s H E).nox (defBody st) t ∧ t { nx := fun _ H' => Q .non H', rt := Q } (start N vs) H) : KMk P w K mg base CX0 (k + 1) C ps sp := by
  obtain ⟨f, fd, F, M, b⟩ := D.ex
  exact ⟨f, fd, F.ok S many fun cdv A outer s H vs Q E => hb f cdv A outer s H vs Q E, M, b⟩
end
section
variable {X : Cx} {CX : CXT} {k : Nat} {C : Addr} {m x : Str} {ps : List Str} {sp : Sp} {E : XK} {pos apos p : Pos} {o e : Expr} {es : List Expr} {ta : TE} {t : TA}
theorem pe_methK {pl : Sem Bool} (h : KM X.prog X.w X.K X.mg X.base CX k C m ps sp) (c : Cls X.K C) (hr : Room k X.A) (hx : Passes CX X E) (ho : PE X o ta) (ha : PA X (e :: es) t)
    (hst : starEach (e :: es) X.env = (false, eval e X.env) :: starEach es X.env := by rfl) (hpl : (backTo pos (starEach es X.env)).any (·.1) = false := by rfl)
    (ht : eval (.Call (.Attribute o m apos) (e :: es) [] pos) X.env = (do
      let ov ← eval o X.env
      standAt apos.atName
      let (f, first) ← holding [ov] (getMethod ov m pl)
      callWith pos f first (backTo pos (starEach (e :: es) X.env)) (backToKw pos (keywordEach [] X.env))) := by rfl) : PE X (.Call (.Attribute o m apos) (e :: es) [] pos) (tMeth C m sp [] E ta t) := by
  obtain ⟨f, fd, F, M, b⟩ := h.ex
  exact pe_meth (pl := pl) ho c M F hr b .nil hx ha hst hpl ht
theorem pe_methK0 {pl : Sem Bool} (h : KM X.prog X.w X.K X.mg X.base CX k C m ps sp) (c : Cls X.K C) (hr : Room k X.A) (hx : Passes CX X E) (ho : PE X o ta)
    (ht : eval (.Call (.Attribute o m apos) [] [] pos) X.env = (do
      let ov ← eval o X.env
      standAt apos.atName
      let (f, first) ← holding [ov] (getMethod ov m pl)
      callWith pos f first (backTo pos (starEach [] X.env)) (backToKw pos (keywordEach [] X.env))) := by rfl) : PE X (.Call (.Attribute o m apos) [] [] pos) (tMeth C m sp [] E ta tNil) := by
  obtain ⟨f, fd, F, M, b⟩ := h.ex
  exact pe_meth0 (pl := pl) ho c M F hr b .nil hx ht
theorem pe_makeK (h : KMk X.prog X.w X.K X.mg X.base CX k C ps sp) (hr : Room (k + 1) X.A) (hm : X.mg x = some (.ref C)) (hx : Passes CX X E) (ha : PA X (e :: es) t) (hg : Gl X x := by rfl)
    (hdb : (x == ("__debug__" : Str)) = false := by decide) (he : starEach (e :: es) X.env = (false, eval e X.env) :: starEach es X.env := by rfl) (hpl : (backTo pos (starEach es X.env)).any (·.1) = false := by rfl) :
    PE X (.Call (.Name x p) (e :: es) [] pos) (tMake C sp [] E t) := by
  obtain ⟨f, fd, F, M, b⟩ := h.ex
  exact pe_make M F hr hg hm b .nil hx ha hdb he hpl
def rListOf (K : PySem.W.Frag) : List V → Hp → VK → Prop := fun xs H Q => ∃ p ys, xs = [.ref p] ∧ (SqL K H p ys ∨ SqT K H p ys) ∧ ∀ l, H l = none → Q (.ref l) (upd H l (.lst ys))
theorem call_list_ofK (K : PySem.W.Frag) (e : X.K = K := by rfl) : CallR X (.type "list") (rListOf K) := by subst e; exact call_list_of
/-- list(xs), its place told to be none of the interpreter's own -/
theorem call_list_ofN : CallR X (.type "list") (fun xs H Q => ∃ p ys, xs = [.ref p] ∧ (SqL X.K H p ys ∨ SqT X.K H p ys) ∧ ∀ l, H l = none → l ≠ sysModules → Q (.ref l) (upd H l (.lst ys))) := by
  intro pins s σ H xs us Q I r h
  obtain ⟨p, ys, rfl, hq, q⟩ := h
  obtain ⟨u, rfl, rx⟩ := vals1 r
  cases rx
  have fin : ∀ (its : List Value), Vals ys its → ys.length ≤ sizeLine → ∀ (h' : Heap) (c' : Nat), (∀ b o', s.heap.get? b = some o' → h'.get? b = some o') →
      h'.get? s.heap.objs.size = some { cls := .type "list", dict := none, data := .seq its.toArray c', slots := #[] } → EP X pins σ Q (.ref s.heap.objs.size) { s with heap := h' } := fun its r' hz h' c' kp e =>
    ⟨.ref s.heap.objs.size, _, I.laid (t' := s.toks) kp (Nat.le_refl _) (show ObjOk X.prog X.w _ h' _ (.lst ys) from ⟨hz, its, c', r', e⟩), rfl, q _ (I.hok.fresh (Nat.le_refl _)) (Nat.ne_of_gt I.big)⟩
  rcases hq with hq | hq
  · obtain ⟨its, r', pl, hz⟩ := I.list hq
    have hlen := r'.length
    obtain ⟨o, ho, hc, n, hd⟩ := pl.isList
    exact call_list_seq p (.inl rfl) ho hc hd (fun h' c' kp e => fin its r' hz h' c' kp e) (by simp only [List.size_toArray] <;> omega)
  · obtain ⟨its, r', pl, hz⟩ := I.tuple hq
    have hlen := r'.length
    obtain ⟨o, ho, hc, n, hd⟩ := pl
    exact call_list_seq p (.inr rfl) ho hc hd (fun h' c' kp e => fin its r' hz h' c' kp e) (by simp only [List.size_toArray] <;> omega)
/-- divmod of ints of many digits: a new tuple -/
theorem call_divmodW : CallR X (.builtin "divmod") (fun xs H Q => ∃ i j, xs = [.int i, .int j] ∧ CDivW i j ∧ ∀ p, H p = none → Q (.ref p) (upd H p (.tup [.int (i / j), .int (i % j)]))) := by
  intro pins s σ H xs us Q I r h
  obtain ⟨i, j, rfl, hc, q⟩ := h
  obtain ⟨u, w', rfl, ⟨t, rfl⟩, ⟨t', rfl⟩⟩ := vals2 r
  have h1 : (0 : Int) < j := hc.1
  refine divmod_int (by omega) ?_ (.inl (PyProof.noPylong_of_log2 hc.2))
  rw [Int.fdiv_eq_ediv_of_nonneg i (by omega), Int.fmod_eq_emod_of_nonneg i (by omega)]
  have hn : H s.heap.objs.size = none := I.hok.fresh (Nat.le_refl _)
  refine ⟨.ref s.heap.objs.size, _, ?_, rfl, q _ hn⟩
  refine I.laid (fun b o e => Heap.get?_push_of_some _ e) (Nat.le_refl _) ⟨by simp only [List.length_cons, List.length_nil]; rw [sizeLine_eq]; decide, [.int (i / j) s.toks, .int (i % j) (s.toks + 1)], .cons ⟨_, rfl⟩ (.cons ⟨_, rfl⟩ .nil), ?_⟩
  exact ⟨_, Heap.get?_push_size s.heap rfl, rfl, 0, rfl⟩
end
end L2

/-! Z10: {tuple for x in xs if ..}, its len; sorted of rows of ints. -/
namespace L2
open PySem PySem.Spec PyProof.Rows
abbrev Rw := Addr × List Int
def rwLe (p q : Rw) : Bool := decide (p.2 ≤ q.2)
/-- sorted(rows), rows lists of ints -/
def rSortRw (K : PySem.W.Frag) : List V → Hp → VK → Prop := fun vs H Q => ∃ (a : Addr) (ks : List Rw), vs = [V.ref a] ∧ SqL K H a (ks.map fun p => V.ref p.1) ∧ (∀ p ∈ ks, SqL K H p.1 (p.2.map V.int)) ∧ ∀ q, H q = none → Q (.ref q) (upd H q (.lst ((ks.mergeSort rwLe).map fun p => V.ref p.1)))
theorem dp_ints {K : PySem.W.Frag} {H : Hp} : ∀ ns : List Int, DpAll K H (ns.map V.int) (ns.map PyData.int)
  | [] => .nil
  | n :: ns => .cons (.int n) (dp_ints ns)
section
variable {X : Cx}
theorem rw_reads {pins : List (Addr × Obj)} {σ : St} {H : Hp} {s : Shared} (I : Inv X pins σ H s) : ∀ ks : List Rw, (∀ p ∈ ks, SqL X.K H p.1 (p.2.map V.int)) →
    PySem.W.EachIs (fun v (b : Rw) => v = Value.ref b.1) (ks.map fun p => Value.ref p.1) ks ∧ PySem.W.EachIs (fun v (b : Rw) => ∃ as, Reads s.heap v (.list (b.2.map .int)) as) (ks.map fun p => Value.ref p.1) ks
  | [], _ => ⟨.nil, .nil⟩
  | p :: ks, h => by
    obtain ⟨h1, h2⟩ := rw_reads I ks fun q hq => h q (List.mem_cons_of_mem _ hq)
    exact ⟨.cons rfl h1, .cons (Dp.reads I _ (.ref p.1) _ (.lst (h p List.mem_cons_self) (dp_ints _)) rfl) h2⟩
theorem refs_each : ∀ {vs : List Value} {ks : List Rw}, PySem.W.EachIs (fun v (b : Rw) => v = Value.ref b.1) vs ks → vs = ks.map fun p => Value.ref p.1
  | _, _, .nil => rfl
  | _, _, .cons h t => by rw [h, refs_each t, List.map_cons]
theorem cr_sortRw (hu : X.A.units + 64 < cLine) : CallR X (.builtin "sorted") (rSortRw X.K) := by
  intro pins s σ H vs us Q I r h
  obtain ⟨a, ks, rfl, hs, hk, q⟩ := h
  rw [Vals.ref1 r]
  obtain ⟨its, rv, hl, hz⟩ := I.list hs
  have ei : its = ks.map fun p => Value.ref p.1 := refs_of_vals rv
  subst ei
  obtain ⟨e1, e2⟩ := rw_reads I ks hk
  rw [List.length_map] at hz
  refine PySem.W.sorted_data (R := fun v (b : Rw) => v = Value.ref b.1) (enc := fun b : Rw => .list (b.2.map .int)) (bs := ks) hl.isList e1 e2 (PySem.W.AllAlike.of fun b b' => ?_) (PySem.W.Sortable.others fun b => ⟨(fun e => by cases e), (fun xs e => by cases e)⟩) hz (fun b hb => ?_) fun out hlen eo => ?_
  · show PySem.W.alike (.list (b.2.map .int)) (.list (b'.2.map .int)) = true
    rw [PySem.W.alike]; exact PySem.W.alike_ints _ _
  · show X.A.units + 2 + (PyData.list (b.2.map .int)).depth < cLine
    rw [PyData.depth, PySem.W.depth_ints]; omega
  · rw [PySem.W.dataLe_rows fun b : Rw => b.2] at eo
    have eo' := refs_each eo
    obtain ⟨ep, he⟩ := PyProof.Rows.sortedAll_at s.heap (ks.map fun p => Value.ref p.1) out.toArray
    have hlen2 : ((ks.mergeSort rwLe).map fun p => V.ref p.1).length ≤ sizeLine := by rw [List.length_map, List.length_mergeSort]; exact hz
    refine ⟨.ref _, upd H (s.heap.objs.size + 1) (.lst ((ks.mergeSort rwLe).map fun p => V.ref p.1)), I.laid (t' := s.toks) (fun _ _ => PyProof.Rows.sortedAll_old) (Nat.le_succ _) ⟨hlen2, out, ep, ?_, he⟩, rfl, q _ (I.hok.fresh (Nat.le_succ _))⟩
    rw [eo']; exact vals_of_refs _
/-- len(a set of tuples) -/
def rLenTs (K : PySem.W.Frag) (P : Program) (w : World) : List V → Hp → VK → Prop := fun vs H Q => ∃ (a : Addr) (L : List Rw), vs = [V.ref a] ∧ H a = some (SetTO P w a L) ∧ (∀ p ∈ L, SqT K H p.1 (p.2.map V.int)) ∧ Q (.int L.length) H
theorem cr_lenTs : CallR X (.builtin "len") (rLenTs X.K X.prog X.w) := by
  intro pins s σ H vs us Q I r h
  obtain ⟨a, L, rfl, ha, hk, q⟩ := h
  rw [Vals.ref1 r]
  have R0 : SetT0 X.prog X.w s.heap a L := (I.hok a _ ha).1
  obtain ⟨es, ep, t, R⟩ := R0.full fun p hp => I.isT (hk p hp)
  obtain ⟨o, ho, hex, hd⟩ := R.ob
  have hn := R.size
  have hf := R.few
  refine call_len_set ho hex hd R.fits (by rw [hn]; omega) ⟨.int L.length, H, I.tok _, ⟨_, by rw [hn]⟩, q⟩
/-- set.add of a tuple of ints -/
theorem add_tup {pins : List (Addr × Obj)} {σ : L2.St} {H : Hp} {s : Shared} {E : Value → Shared → Prop} {D a : Addr} {k : List Int} {L : List Rw} {Q : Value → Shared → Prop} (hu : X.A.units + 64 < cLine) (I : Inv X pins σ H s) (hD : H D = some (SetTO X.prog X.w D L)) (ha : SqT X.K H a (k.map V.int)) (hL : ∀ p ∈ L, SqT X.K H p.1 (p.2.map V.int)) (few : L.length + 1 < 64)
    (h : ∀ s' L', (k ∈ L.map (·.2) → L' = L) → (k ∉ L.map (·.2) → L'.Perm ((a, k) :: L)) → Inv X pins σ (upd H D (SetTO X.prog X.w D L')) s' → Q .none s') : wpAny (model X.prog X.w) X.A (call (.builtin "set.add") [.ref D, .ref a]) Q E s := by
  have R0 : SetT0 X.prog X.w s.heap D L := (I.hok D _ hD).1
  obtain ⟨es, ep, t, R⟩ := R0.full fun p hp => I.isT (hL p hp)
  obtain ⟨o, ho, hex, hd⟩ := R.ob
  have hT : s.TypeIs (.ref D) "set" := ⟨o, ho, hex.1⟩
  refine wpAny_call_entry F.slot_set_add hT F.entry_set_add ?_ (F.args_set_add_2 _ _)
  unfold Builtin.«set.add» Builtin.Frozenset.oneOther
  simp only [List.isEmpty_nil, bind_assoc]
  unfold Builtin.Frozenset.addrOf setAdd
  refine wpAny_bind (wpAny_pure ?_)
  try dsimp only
  refine wpAny_bind (wpAny_pure ?_)
  try dsimp only
  refine wpAny_bind (wpAny_holding ?_)
  refine wpAny_bind (wpAny_pyHash_tuple (by simp; omega) (I.isT ha) ?_)
  refine add_at (s := { s with toks := s.toks + (k.length + 1) }) R (I.isT ha) (by simp; omega) few fun b h' L' es' ep' t' sb R' c1 c2 => ?_
  show wpAny _ _ (ret Value.none) _ _ _
  refine wpAny_pure ⟨_, rfl, h _ L' c1 c2 ?_⟩
  have he : ∃ u, h'.get? D = some u := by
    obtain ⟨o, ho, _⟩ := R'.ob
    exact ⟨o, ho⟩
  exact I.write (e := D) (t' := s.toks + (k.length + 1)) (by rw [hD]; trivial) (.inl rfl) (fun b u hb hu => (sb.2 b hb).trans hu) he (setTO_new R'.t0)
/-- {elt for target in iter if ..}, elt a tuple of ints; D the new set -/
def tTs (X : Cx) (wA : TI) (gA : TG) (qA : TT) (te : TE) (us : List Nat) : TE := fun σ H Q => wA σ H fun JA G => ∀ D, G D = none → ∃ W : Nat → Nat → Hp → Prop, (∃ m, W 0 m (upd G D (SetTO X.prog X.w D []))) ∧ ∀ i m H, W i m H →
  (JA.stop i H ∧ Q (.ref D) H) ∨ (JA.go i H ∧ ∃ Nx : Hp → Prop, (∀ H', Nx H' → ∃ n, n < m ∧ W (i + 1) n H') ∧ ∀ x H', JA.yld i H x H' → gA x (wipe σ us) H' fun σ2 H2 => wipe σ2 us = wipe σ us ∧ qA σ2 H2 fun b H3 =>
    if b = true then te σ2 H3 fun y H4 => ∃ (a : Addr) (k : List Int) (L : List Rw), y = .ref a ∧ SqT X.K H4 a (k.map V.int) ∧ H4 D = some (SetTO X.prog X.w D L) ∧ (∀ p ∈ L, SqT X.K H4 p.1 (p.2.map V.int)) ∧ L.length + 1 < 64 ∧
      ∀ L', (k ∈ L.map (·.2) → L' = L) → (k ∉ L.map (·.2) → L'.Perm ((a, k) :: L)) → Nx (upd H4 D (SetTO X.prog X.w D L')) else Nx H3)
theorem pe_tsc {vx tA iA : Expr} {fA : List Expr} {scope : Scope} {own : List (Str × Nat)} {pos : Pos} {wA : TI} {gA : TG} {qA : TT} {tv : TE} (hc : X.calm = true) (hu : X.A.units + 64 < cLine) (nd : X.N.Nodup) (pA : PI X tA iA wA) (ok : BlkOk X.N X.env.scope scope own)
    (aG : InBlk X scope fun Y => PG Y tA gA) (aT : InBlk X scope fun Y => PTs Y fA qA) (bV : InBlk X scope fun Y => PE Y vx tv)
    (cA : ∀ x, foldedSetIterable iA X.env x = pure x := by intro _; rfl) : PE X (.SetComp vx [⟨tA, iA, fA, 0⟩] scope pos) (tTs X wA gA qA tv (own.map (·.2))) := by
  refine ⟨fun pins s σ H Q I h => ?_⟩
  rw [PpSet.eval_SetComp]
  have cap : ∀ y ∈ scope.names, y.2 = .free → ∃ c, X.env.cells.lookup y.1 = some c := fun y hy e => (ok.free y hy e).elim (fun k => I.ok.has _ (.inl k)) fun k => I.ok.has _ (.inr k)
  refine wpAny_comprehension_free (use := none) rfl cA (closure_ok cap) ok.kind (fun y hy e => by rw [ok.uniq y hy, e]) (thn (pA.run pins s σ H _ I h) fun xv s1 hx => thn hx fun itv s2 got => ?_)
  obtain ⟨ia, fa, na, JA, G2, rfl, I2, TA, sa2, fr2, body⟩ := got
  refine PpSet.newSet_ok (newEnv_comp ?_)
  generalize eD : s2.heap.objs.size = D
  obtain ⟨W, ⟨m0, w0⟩, turn⟩ := body D (I2.hok.fresh (Nat.le_of_eq eD))
  generalize es3 : ({ s2 with heap := s2.heap.push { cls := .type "set", dict := none, data := .set #[] 0 (.fresh 0 0 (!X.w.params.followText "set-order")) } } : Shared) = s3
  have I3 : Inv X pins σ (upd G2 D (SetTO X.prog X.w D [])) s3 := by
    subst es3
    exact I2.laid (t' := s2.toks) (fun _ _ e => Heap.get?_push_of_some _ e) (Nat.le_of_eq eD) (setTO_new (SetTR.t0 (setTR_fresh (by rw [← eD]; exact Heap.get?_push_size _ rfl))))
  have h3 : s3.heap = s2.heap.push { cls := .type "set", dict := none, data := .set #[] 0 (.fresh 0 0 (!X.w.params.followText "set-order")) } := es3 ▸ rfl
  have fr3 : ∀ b ∈ fa, FpOk X pins (upd G2 D (SetTO X.prog X.w D [])) b ∧ b < s3.heap.objs.size := fun b hb => by
    obtain ⟨_, e, _⟩ := TA.obj _ _ sa2 b hb
    have lt : b < s2.heap.objs.size := Heap.lt_size e
    have ne : b ≠ D := by rw [← eD]; exact Nat.ne_of_lt lt
    exact ⟨⟨(upd_ne ne).trans (fr2 b hb).1, (fr2 b hb).2⟩, by rw [h3, Heap.size_push]; exact Nat.lt_succ_of_lt lt⟩
  have sa3 : na 0 s3.heap := TA.keep _ _ _ sa2 fun b _ o e => h3 ▸ Heap.get?_push_of_some _ e
  have I4 := block_start I3 ok nd fr3
  generalize ecl : cellsFrom (s3.heap.objs.size + 1) scope.names (cloFrom X.env.cells scope.names []) = cl at I4
  have xG := aG s3 (upd G2 D (SetTO X.prog X.w D [])) s3.heap.objs.size cl fa
  have xT := aT s3 (upd G2 D (SetTO X.prog X.w D [])) s3.heap.objs.size cl fa
  have yV := bV s3 (upd G2 D (SetTO X.prog X.w D [])) s3.heap.objs.size cl fa
  show codeAny _ _ (.compStart (.SetComp vx [⟨tA, iA, fA, 0⟩] scope pos) 0 (.ref ia) (.ref D) (compEnvC scope cl s3.heap.objs.size X.env)) (compPost (model X.prog X.w) X.A X.xe none (EP X pins σ Q) (.ref D) s3.heap.objs.size) ⟨pushCells (s3.heap.push { cls := .type "dict", data := .dict #[] }) scope.names, s3.gens, s3.drawn, s3.toks, s3.os⟩
  have nofa : ∀ b ∈ fa, (upd G2 D (SetTO X.prog X.w D [])) b = none := fun b hb => (fr3 b hb).1.1
  generalize ece : compEnvC scope cl s3.heap.objs.size X.env = ce at I4 xG xT yV ⊢
  have cloc : ce.locals = s3.heap.objs.size := ece ▸ rfl
  generalize eG3 : upd G2 D (SetTO X.prog X.w D []) = G3 at I3 I4 xG xT yV w0 nofa fr3
  generalize es4 : (⟨pushCells (s3.heap.push { cls := .type "dict", data := .dict #[] }) scope.names, s3.gens, s3.drawn, s3.toks, s3.os⟩ : Shared) = s4 at I4 ⊢
  have sa4 : na 0 s4.heap := TA.keep _ _ _ sa3 fun b _ o e => es4 ▸ pushCells_keeps _ _ _ _ (Heap.get?_push_of_some _ e)
  have held : ∀ {σ' : L2.St} {H' : Hp} {s' : Shared}, Inv (X.blk s3 G3 scope ce fa) [] σ' H' s' → (∀ b ∈ fa, H' b = none) → ∀ b ∈ fa, FpOk (X.blk s3 G3 scope ce fa) [] H' b := fun I' hn b hb =>
    ⟨hn b hb, (I'.ok.exf b hb).1, I'.ok.exfs b hb, .inl hb, fun x c e => (I'.ok.exf b hb).2 x c e, fun p (hp : p ∈ ([] : List (Addr × Obj)) ++ []) => by simp at hp⟩
  have loop : codeAny (model X.prog X.w) X.A (.compLoop (.SetComp vx [⟨tA, iA, fA, 0⟩] scope pos) 0 (.ref ia) (.ref D) ce) (compPost (model X.prog X.w) X.A X.xe none (EP X pins σ Q) (.ref D) s3.heap.objs.size) s4 := by
    refine codeAny_loop rfl (fun n s' => ∃ i H', Inv (X.blk s3 G3 scope ce fa) [] (wipe σ (own.map (·.2))) H' s' ∧ na i s'.heap ∧ (∀ b ∈ fa, H' b = none) ∧ W i n H') (fun n s5 ⟨i, H5, I5, sa5, no5, w5⟩ => ?_) m0 ⟨0, G3, I4, sa4, nofa, w0⟩
    show wpAny _ X.A ((compTurn (.SetComp vx [⟨tA, iA, fA, 0⟩] scope pos) 0 (.ref ia) (.ref D) ce).onRaise fun x => do noteFrame x ce; theTreesLotGoes x) _ _ s5
    refine wpAny_noted ?_
    show wpAny _ _ (standAt iA.pos >>= _) _ _ _
    refine wpAny_bind (wpAny_standAt ?_)
    show wpAny _ _ (pyNext (.ref ia) >>= _) _ _ _
    rcases turn i n H5 w5 with ⟨stop, fin⟩ | ⟨go, Nx, down, step⟩
    · refine wpAny_bind (thnF (TA.done (X.blk s3 G3 scope ce fa) rfl rfl rfl hc i [] s5 _ H5 (fun _ _ => False) I5 (held I5 no5) sa5 stop) fun r s6 ⟨er, I6⟩ => ?_)
      subst er
      refine wpAny_pure ?_
      -- back in the def
      have I7 : Inv X pins σ H5 s6 := I3.call' (ch := fa) I6.os I6.base I6.hok I6.bare fun b hb => by
        obtain ⟨_, p1, _, p3, p4, p5⟩ := (fr3 b hb).1
        exact ⟨p3, p1, p4, p5⟩
      have free : H5 s3.heap.objs.size = none := cloc ▸ (show H5 ce.locals = none from I6.free)
      obtain ⟨m, (ns : s6.heap.Ns ce.locals m), _⟩ := I6.loc
      rw [cloc] at ns
      obtain ⟨f0, f1, f2, f3, f4, f5⟩ := I3.fpOk (Nat.le_refl _) free
      exact ⟨m, ns, fun _ sb => ⟨.ref D, H5, I7.turned (t' := s6.toks) (fun b o hb e => (sb.2 b hb).trans e) f0 f1 f3 f4 f5, rfl, fin⟩⟩
    · refine wpAny_bind (thnF (TA.item (X.blk s3 G3 scope ce fa) rfl rfl rfl hc i [] s5 _ H5 (fun _ _ => False) I5 (held I5 no5) sa5 go) fun r s6 ⟨u, er, g6⟩ => ?_)
      subst er
      show wpAny _ _ (letOwnedTupleGo tA (.ref ia) u >>= _) _ _ _
      refine wpAny_bind (thnF g6 fun _ s7 ⟨x, H7, I7, r7, y7, sa7, no7⟩ => ?_)
      refine wpAny_bind (thnF (xG.run _ s7 _ H7 x u _ (I7.pinned (held I7 no7) (TA.obj _ _ sa7)) r7 (step x H7 y7)) fun _ s8 ⟨σ8, H8, I8, hw8, q8⟩ => ?_)
      refine wpAny_bind (thnF (xT.run _ s8 σ8 H8 _ I8 q8) fun b s9 ⟨H9, I9, q9⟩ => ?_)
      -- the turn's end
      have back : ∀ {s' : Shared} {H' : Hp}, Inv (X.blk s3 G3 scope ce fa) ([] ++ pinsAt fa s7.heap) σ8 H' s' → Nx H' →
          ∃ m, m < n ∧ ∃ i H', Inv (X.blk s3 G3 scope ce fa) [] (wipe σ (own.map (·.2))) H' s' ∧ na i s'.heap ∧ (∀ b ∈ fa, H' b = none) ∧ W i m H' := fun {s' H'} I' nx => by
        obtain ⟨m', lt, w'⟩ := down H' nx
        have stay : ∀ b ∈ fa, ∀ o, s7.heap.get? b = some o → s'.heap.get? b = some o ∧ H' b = none := fun b hb o e => by
          have z := I'.pin (b, o) (List.mem_append_right _ (List.mem_append_right _ (mem_pinsAt hb e)))
          exact ⟨z.1, z.2.1⟩
        exact ⟨m', lt, i + 1, H', (I'.unpinned (pins := [])).weak (by rw [← hw8, wipe_length]) (fun j v e => (wipe_some (hw8 ▸ e)).1), TA.keep _ _ _ sa7 fun b hb o e => (stay b hb o e).1, fun b hb => (TA.obj _ _ sa7 b hb).elim fun o z => (stay b hb o z.1).2, w'⟩
      cases b with
      | false =>
        simp only [Bool.false_eq_true, if_false] at q9 ⊢
        exact wpAny_pure ⟨rfl, back I9 q9⟩
      | true =>
        simp only [if_true] at q9 ⊢
        refine wpAny_bind (wpAny_bind (thnF (yV.run _ s9 σ8 H9 _ I9 q9) fun vv s10 ⟨yv, H10, I10, r10, a, k, L, ey, ha, hD10, hL, few, ny⟩ => ?_))
        subst ey
        cases r10
        refine wpAny_bind (wpAny_standAt (wpAny_bind (add_tup (X := (X.blk s3 G3 scope ce fa)) hu I10 hD10 ha hL few fun s11 L' c1 c2 I11 => ?_)))
        exact wpAny_pure (wpAny_pure ⟨rfl, back I11 (ny L' c1 c2)⟩)
  exact PpSet.codeAny_compStart_set loop (TA.self X.A 0 _ _ _ sa4 loop)
end
theorem call_tuple_ofK {X : Cx} (K : PySem.W.Frag) (e : X.K = K := by rfl) : CallR X (.type "tuple") (fun xs H Q => ∃ p ys, xs = [.ref p] ∧ ((SqL K H p ys ∧ ∀ l, H l = none → Q (.ref l) (upd H l (.tup ys))) ∨ (SqT K H p ys ∧ Q (.ref p) H))) := by subst e; exact call_tuple_of
theorem units65 {k : Nat} {A : Around} (r : Room k A) : A.units + 65 < cLine := by have := r.un; omega
end L2

/-! Z11: dicts with tuple keys: {k: v}, {k: v for ..}, for k, v in d.items(). -/
namespace L2
open PySem PySem.Spec PyProof.Rows
section
variable {X : Cx}
theorem put_tup {pins : List (Addr × Obj)} {σ : St} {H : Hp} {s : Shared} {E : Value → Shared → Prop} {D b : Addr} {kvs : List (List Key × V)} {k : List Key} {v : V} {r : Value} {Q : Unit → Shared → Prop} (hu : X.A.units + 1 < cLine) (I : Inv X pins σ H s) (hD : H D = some (.dT kvs)) (hz : kvs.length < sizeLine)
    (eb : H b = some (.tup (k.map kV))) (rv : RelV v r) (h : ∀ s', Inv X pins σ (upd H D (.dT (putK kvs k v))) s' → Q () s') : wpAny (model X.prog X.w) X.A (dictSet D (.ref b) r) Q E s := by
  obtain ⟨z, hd, xs, rel, dd⟩ := dt_of I.hok hD
  have hzx : xs.length ≤ sizeLine := by rw [← Paired.length rel]; exact z
  have hl : (putK kvs k v).length ≤ sizeLine := by have := length_putK kvs k v; omega
  refine wpAny_dictSet_heap (hsz := hzx) (knd := tupleKind (mixKind X.prog X.w)) (show X.A.units < cLine from Nat.lt_of_succ_lt hu) (key_of I.hok eb) dd (fun h' dd' hs => h _ ?_)
  obtain ⟨q, es, ep, hq, h2, h3, h4, _, h5⟩ := dd'
  exact d_write I (by rw [hD]; exact True.intro) hs ⟨q, hq⟩ ⟨hl, hd, _, (rel.put k eb rv).keeps fun c ys ec => (upd_ne (ne_of ec hD fun z => nomatch z)).trans ec, q, es, ep, hq, h2, h3, h4, h5⟩
/-- {k: v}, k a tuple -/
def tDisp1T (tk tv : TE) : TE := fun σ H Q => ∀ p, H p = none → tk σ (upd H p (.dT [])) fun y H1 => tv σ H1 fun z H2 => ∃ (b : Addr) (k : List Key) (v : V), [(y, z)] = [(V.ref b, v)] ∧ H2 b = some (.tup (k.map kV)) ∧ H2 p = some (.dT []) ∧ Q (.ref p) (upd H2 p (.dT [(k, v)]))
theorem store_one {P : Program} {w : World} {A : Around} {E : Value → Shared → Prop} {s : Shared} {d : Addr} {k v : Value} {Q : PUnit → Shared → Prop} (h : wpAny (model P w) A (dictSet d k v) (fun _ s1 => Q PUnit.unit s1) E s) : wpAny (model P w) A (storeAll d [(k, v)]) Q E s := by
  unfold storeAll
  rw [List.forIn_cons]
  refine wpAny_bind (wpAny_bind (wpAny_mono h (fun _ s1 q => wpAny_pure ?_) fun _ _ x => x))
  dsimp only
  rw [List.forIn_nil]
  exact wpAny_pure q
theorem vv_one {y z : V} {ws : List (Value × Value)} (r : VV [(y, z)] ws) : ∃ u v, ws = [(u, v)] ∧ RelV y u ∧ RelV z v := by
  cases r with
  | cons r1 rt =>
    cases rt
    exact ⟨_, _, rfl, r1.1, r1.2⟩
theorem pe_disp1T {kx vx : Expr} {pos : Pos} {tk tv : TE} (hu : X.A.units + 1 < cLine) (hk : PE X kx tk) (hv : PE X vx tv) : PE X (.Dict [some kx] [vx] pos) (tDisp1T tk tv) := by
  refine ⟨fun pins s σ H Q I q => ?_⟩
  have hn := I.hok.fresh (Nat.le_refl s.heap.objs.size)
  have I1 := I.laid (a := s.heap.objs.size) (o := .dT []) (h' := s.heap.push { cls := .type "dict", data := .dict #[] }) (t' := s.toks) (fun _ _ q => Heap.get?_push_of_some _ q) (Nat.le_refl _) (dt_empty s.heap I.big)
  have P1 : PPs X pos [some kx] [vx] [(tk, tv)] := pps_cons hk hv pps_nil
  have R1 := P1.run pins _ σ _ (fun ps H2 => ∃ (b : Addr) (k : List Key) (v : V), ps = [(V.ref b, v)] ∧ H2 b = some (.tup (k.map kV)) ∧ H2 s.heap.objs.size = some (.dT []) ∧ Q (.ref s.heap.objs.size) (upd H2 s.heap.objs.size (.dT [(k, v)]))) I1 (q _ hn)
  refine wpAny_Dict_any rfl rfl (List.cons_ne_nil _ _) (show 1 ≤ 15 by decide) (thn R1 fun ws s2 h2 => ?_)
  obtain ⟨ps, H2, I2, rel, b, k, v, ep, eb, eD, q2⟩ := h2
  rw [ep] at rel
  obtain ⟨u, r, ew, r1, r2⟩ := vv_one rel
  have eu : u = Value.ref b := r1
  rw [ew, eu]
  refine store_one (put_tup hu I2 eD (show 0 < sizeLine by decide) eb r2 fun s3 I3 => ?_)
  exact ⟨.ref s.heap.objs.size, _, I3, rfl, q2⟩
/-- the pairs of the locked dict with tuple keys, each a new tuple -/
def Itit (d : Addr) (o : Obj) (kvs : List (List Key × V)) : It :=
  ⟨fun i H => H d = some (.frz o (.dT kvs)) ∧ i < kvs.length, fun i H x H' => ∃ (T q : Addr) (k : List Key) (v : V), kvs[i]? = some (k, v) ∧ H q = some (.tup (k.map kV)) ∧ x = .ref T ∧ H T = none ∧ H' = upd H T (.tup [.ref q, v]), fun i H => H d = some (.frz o (.dT kvs)) ∧ kvs.length ≤ i⟩
theorem Inv.frzV {o : Obj} {d : Addr} {pins : List (Addr × Obj)} {σ : St} {H : Hp} {s : Shared} {kvs : List (List Key × V)} (I : Inv X pins σ H s) (h : H d = some (.frz o (.dT kvs))) :
    (d == sysModules) = false ∧ s.heap.get? d = some o ∧ o.ExactDict ∧ ∃ (es : Array DictEntry) (ep : Nat), o.data = .dict es ep ∧ es.size = kvs.length ∧
      ∀ (i : Nat) (k : List Key) (v : V), kvs[i]? = some (k, v) → ∃ (en : DictEntry) (q : Addr), es[i]? = some en ∧ en.key = .ref q ∧ H q = some (.tup (k.map kV)) ∧ RelV v en.val := by
  obtain ⟨hd, z, hs, xs, pr, o', es, ep, ho, hx, hdt, he, _⟩ := I.hok d _ h
  cases Option.some.inj (hd.symm.trans ho)
  refine ⟨hs, hd, hx, es, ep, hdt, ?_, fun i k v e => ?_⟩
  · rw [Paired.length pr, ← Array.length_toList, he, List.length_map]
  · obtain ⟨b, hb, e1, e2, e3⟩ := paired_get pr e
    have q := entry_at he i
    rw [hb] at q
    exact ⟨_, b.2.1, q, rfl, e2, e3⟩
theorem turn_itemsT {P : Program} {w : World} {K : PySem.W.Frag} {d : Addr} {o : Obj} {es : Array DictEntry} {ep : Nat} {kvs : List (List Key × V)} {elts : List Expr} {kk : Nat} {tpos : Pos} (it : Addr) (hod : o.data = .dict es ep) :
    Turn P w K (.Tuple elts kk tpos) (Itit d o kvs) [it] it (fun i h => ∃ ok ov, IsItemIter h it d i kvs.length ep ok ov) where
  mem := List.mem_singleton.mpr rfl
  obj := fun i h ⟨ok, ov, e⟩ b hb => by
    cases List.mem_singleton.mp hb
    exact ⟨_, e, fun v z => nomatch z⟩
  keep := fun i h h' ⟨ok, ov, e⟩ k => ⟨ok, ov, k it (List.mem_singleton.mpr rfl) _ e⟩
  item := by
    intro X hP hw hK hc i pins s σ H E I hf st hg
    subst hP hw hK
    obtain ⟨hd, hi⟩ := hg
    obtain ⟨_, hgd, hx, es', ep', hdt, hsz, ent⟩ := I.frzV hd
    obtain ⟨rfl, rfl⟩ := dict_ep hod hdt
    obtain ⟨⟨k, v⟩, hkv⟩ : ∃ p, kvs[i]? = some p := ⟨_, List.getElem?_eq_getElem hi⟩
    obtain ⟨en, q, hen, hkey, hq, rv⟩ := ent i k v hkv
    obtain ⟨ok, ov, he⟩ := st
    have hlt : it < s.heap.objs.size := Heap.lt_size he
    rw [← hsz] at he
    have hi' : i < es'.size := by omega
    have een : es'[i] = en := Option.some.inj ((Array.getElem?_eq_getElem hi').symm.trans hen)
    refine DT.nextI he ⟨_, hgd, hx, hdt⟩ hi' fun h' ho hT hz hk => ?_
    rw [een] at ho hT
    refine ⟨_, rfl, wpAny_letOwnedTupleGo_items (s := { s with heap := h' }) ho fun h'' he' sb => ?_⟩
    have hT2 : h''.get? s.heap.objs.size = some { cls := .type "tuple", data := .seq #[en.key, en.val] } := (sb.2 _ (Nat.ne_of_gt hlt)).trans hT
    have new : ObjOk X.prog X.w (upd H s.heap.objs.size (.tup [.ref q, v])) h'' s.heap.objs.size (.tup [.ref q, v]) :=
      ⟨by show 2 ≤ sizeLine; decide, [en.key, en.val], .cons (show RelV (.ref q) en.key from hkey) (.cons rv .nil), ⟨_, hT2, rfl, _, rfl⟩⟩
    have I1 : Inv X pins σ (upd H s.heap.objs.size (.tup [.ref q, v])) { s with heap := h'' } :=
      I.turnedNew (t' := s.toks) (ch := [it]) (fun b ob hb e => (sb.2 b fun z => hb (List.mem_singleton.mpr z)).trans (hk b ob (fun z => hb (List.mem_singleton.mpr z)) e)) hf (Nat.le_refl _) new
    refine ⟨.ref s.heap.objs.size, _, I1, rfl, ⟨_, q, k, v, hkv, hq, rfl, I.hok.fresh (Nat.le_refl _), rfl⟩, ⟨_, _, by rw [← hsz]; exact he'⟩, fun b hb => ?_⟩
    cases List.mem_singleton.mp hb
    rw [upd_ne (Nat.ne_of_lt hlt)]
    exact (hf it (List.mem_singleton.mpr rfl)).1
  done := by
    intro X hP hw hK hc i pins s σ H E I hf st hg
    subst hP hw hK
    obtain ⟨hd, hi⟩ := hg
    obtain ⟨f0, f1, f2, f3, f4, f5⟩ := hf it (List.mem_singleton.mpr rfl)
    obtain ⟨_, hgd, hx, es', ep', hdt, hsz, _⟩ := I.frzV hd
    obtain ⟨rfl, rfl⟩ := dict_ep hod hdt
    obtain ⟨ok, ov, he⟩ := st
    rw [← hsz] at he
    exact DT.endI (I.ok.hd hc) he ⟨_, hgd, hx, hdt⟩ (by omega) fun h' eb => ⟨rfl, I.turned (t' := s.toks) (fun b ob hb e => eb b ob hb e) f0 f1 f3 f4 f5⟩
  self := fun A i s Q E ⟨_, _, e⟩ h => PySem.W.kcp_self e h
/-- d.items() of the locked dict -/
def iItemsT (td : TE) : TI := fun σ H R => td σ H fun x H1 => ∃ d o kvs, x = .ref d ∧ H1 d = some (.frz o (.dT kvs)) ∧ R (Itit d o kvs) H1
theorem pi_itemsT {e : Expr} {td : TE} {apos cpos : Pos} {elts : List Expr} {kk : Nat} {tpos : Pos} (he : PE X e td) (hbase : attributeBase e "items" X.env (eval e X.env) = eval e X.env := by rfl) (hline : (apos.endLine == cpos.line) = true := by rfl) :
    PI X (.Tuple elts kk tpos) (.Call (.Attribute e "items" apos) [] [] cpos) (iItemsT td) := by
  refine ⟨fun pins s σ H R I h => ?_⟩
  refine wpAny_Call_method (T := "dict") (id := "dict.items") hbase rfl hline F.plainAttrs_dict F.slot_dict_items F.type_dict_items (thn (he.run pins s σ H _ I h) fun u s1 ⟨x, H1, I1, rx, d, o, kvs, ex, hd, q⟩ => ?_)
  subst ex
  obtain rfl : u = Value.ref d := rx
  obtain ⟨hs, hgd, hx, es, ep, hdt, hsz, _⟩ := I1.frzV hd
  have raw : DT.Raw s1.heap d es ep := ⟨o, hgd, hx, hdt⟩
  refine ⟨raw.typeIs, fun a ea => (by cases ea; exact ⟨o, hgd, hx.2.1⟩), ?_⟩
  have I2 : Inv X pins σ H1 { s1 with heap := s1.heap.push { cls := .type "dict_items", data := .fields #[.ref d] } } := I1.kept (t' := s1.toks) fun b ob q => Heap.get?_push_of_some _ q
  have fin : wpAny (model X.prog X.w) X.A (pyIter (.ref s1.heap.objs.size)) (PIE X pins σ (.Tuple elts kk tpos) R) X.xe { s1 with heap := s1.heap.push { cls := .type "dict_items", data := .fields #[.ref d] } } := by
    refine DT.iterI (d := d) ⟨_, Heap.get?_push_size _ rfl, rfl, rfl⟩ (raw.push _) (pi_one (tk := s1.toks) I2 _ (turn_itemsT _ hdt) ⟨.none, .none, ?_⟩ q)
    rw [← hsz]
    exact Heap.get?_push_size _ rfl
  show wpAny _ _ (callWith cpos (.builtin "dict.items") [.ref d] [] []) _ X.xe s1
  exact method_meetsIn F.slot_dict_items F.entry_dict_items rfl (PySem.evalArgs_none ⟨rfl, raw.typeIs, F.args_dict_items_1 _, _, DT.meetsItems (es := es) (ep := ep) hs, raw, fin⟩)
/-- {k: v for target in iter if ..}, the keys tuples -/
def tDcT (wA : TI) (gA : TG) (qA : TT) (tk tv : TE) (us : List Nat) : TE := fun σ H Q => wA σ H fun JA G => ∀ D, G D = none → ∃ W : Nat → Nat → Hp → Prop, (∃ m, W 0 m (upd G D (.dT []))) ∧ ∀ i m H, W i m H →
  (JA.stop i H ∧ Q (.ref D) H) ∨ (JA.go i H ∧ ∃ Nx : Hp → Prop, (∀ H', Nx H' → ∃ n, n < m ∧ W (i + 1) n H') ∧ ∀ x H', JA.yld i H x H' → gA x (wipe σ us) H' fun σ2 H2 => wipe σ2 us = wipe σ us ∧ qA σ2 H2 fun b H3 =>
    if b = true then tk σ2 H3 fun y H4 => tv σ2 H4 fun z H5 => ∃ (kvs : List (List Key × V)) (k : List Key) (b : Addr), y = .ref b ∧ H5 b = some (.tup (k.map kV)) ∧ H5 D = some (.dT kvs) ∧ kvs.length < sizeLine ∧ Nx (upd H5 D (.dT (putK kvs k z))) else Nx H3)
theorem pe_dcT {kx vx tA iA : Expr} {fA : List Expr} {scope : Scope} {own : List (Str × Nat)} {pos : Pos} {wA : TI} {gA : TG} {qA : TT} {tk tv : TE} (hc : X.calm = true) (hu : X.A.units + 1 < cLine) (nd : X.N.Nodup) (pA : PI X tA iA wA) (ok : BlkOk X.N X.env.scope scope own)
    (aG : InBlk X scope fun Y => PG Y tA gA) (aT : InBlk X scope fun Y => PTs Y fA qA) (bK : InBlk X scope fun Y => PE Y kx tk) (bV : InBlk X scope fun Y => PE Y vx tv)
    (cA : ∀ x, foldedSetIterable iA X.env x = pure x := by intro _; rfl) : PE X (.DictComp kx vx [⟨tA, iA, fA, 0⟩] scope pos) (tDcT wA gA qA tk tv (own.map (·.2))) := by
  refine ⟨fun pins s σ H Q I h => ?_⟩
  rw [arm_eval_DictComp]
  have cap : ∀ y ∈ scope.names, y.2 = .free → ∃ c, X.env.cells.lookup y.1 = some c := fun y hy e => (ok.free y hy e).elim (fun k => I.ok.has _ (.inl k)) fun k => I.ok.has _ (.inr k)
  refine wpAny_comprehension_free (use := none) rfl cA (closure_ok cap) ok.kind (fun y hy e => by rw [ok.uniq y hy, e]) (thn (pA.run pins s σ H _ I h) fun xv s1 hx => thn hx fun itv s2 got => ?_)
  obtain ⟨ia, fa, na, JA, G2, rfl, I2, TA, sa2, fr2, body⟩ := got
  refine wpAny_newObj_type (newEnv_comp ?_)
  generalize eD : s2.heap.objs.size = D
  obtain ⟨W, ⟨m0, w0⟩, turn⟩ := body D (I2.hok.fresh (Nat.le_of_eq eD))
  generalize es3 : ({ s2 with heap := s2.heap.push { cls := .type "dict", data := .dict #[] } } : Shared) = s3
  have I3 : Inv X pins σ (upd G2 D (.dT [])) s3 := by
    subst es3
    exact I2.laid (t' := s2.toks) (fun _ _ e => Heap.get?_push_of_some _ e) (Nat.le_of_eq eD) (by rw [← eD]; exact dt_empty s2.heap I2.big)
  have h3 : s3.heap = s2.heap.push { cls := .type "dict", data := .dict #[] } := es3 ▸ rfl
  have fr3 : ∀ b ∈ fa, FpOk X pins (upd G2 D (.dT [])) b ∧ b < s3.heap.objs.size := fun b hb => by
    obtain ⟨_, e, _⟩ := TA.obj _ _ sa2 b hb
    have lt : b < s2.heap.objs.size := Heap.lt_size e
    have ne : b ≠ D := by rw [← eD]; exact Nat.ne_of_lt lt
    exact ⟨⟨(upd_ne ne).trans (fr2 b hb).1, (fr2 b hb).2⟩, by rw [h3, Heap.size_push]; exact Nat.lt_succ_of_lt lt⟩
  have sa3 : na 0 s3.heap := TA.keep _ _ _ sa2 fun b _ o e => h3 ▸ Heap.get?_push_of_some _ e
  have I4 := block_start I3 ok nd fr3
  generalize ecl : cellsFrom (s3.heap.objs.size + 1) scope.names (cloFrom X.env.cells scope.names []) = cl at I4
  have xG := aG s3 (upd G2 D (.dT [])) s3.heap.objs.size cl fa
  have xT := aT s3 (upd G2 D (.dT [])) s3.heap.objs.size cl fa
  have yK := bK s3 (upd G2 D (.dT [])) s3.heap.objs.size cl fa
  have yV := bV s3 (upd G2 D (.dT [])) s3.heap.objs.size cl fa
  show codeAny _ _ (.compStart (.DictComp kx vx [⟨tA, iA, fA, 0⟩] scope pos) 0 (.ref ia) (.ref D) (compEnvC scope cl s3.heap.objs.size X.env)) (compPost (model X.prog X.w) X.A X.xe none (EP X pins σ Q) (.ref D) s3.heap.objs.size) ⟨pushCells (s3.heap.push { cls := .type "dict", data := .dict #[] }) scope.names, s3.gens, s3.drawn, s3.toks, s3.os⟩
  have nofa : ∀ b ∈ fa, (upd G2 D (.dT [])) b = none := fun b hb => (fr3 b hb).1.1
  generalize ece : compEnvC scope cl s3.heap.objs.size X.env = ce at I4 xG xT yK yV ⊢
  have cloc : ce.locals = s3.heap.objs.size := ece ▸ rfl
  generalize eG3 : upd G2 D (.dT []) = G3 at I3 I4 xG xT yK yV w0 nofa fr3
  generalize es4 : (⟨pushCells (s3.heap.push { cls := .type "dict", data := .dict #[] }) scope.names, s3.gens, s3.drawn, s3.toks, s3.os⟩ : Shared) = s4 at I4 ⊢
  have sa4 : na 0 s4.heap := TA.keep _ _ _ sa3 fun b _ o e => es4 ▸ pushCells_keeps _ _ _ _ (Heap.get?_push_of_some _ e)
  have held : ∀ {σ' : L2.St} {H' : Hp} {s' : Shared}, Inv (X.blk s3 G3 scope ce fa) [] σ' H' s' → (∀ b ∈ fa, H' b = none) → ∀ b ∈ fa, FpOk (X.blk s3 G3 scope ce fa) [] H' b := fun I' hn b hb =>
    ⟨hn b hb, (I'.ok.exf b hb).1, I'.ok.exfs b hb, .inl hb, fun x c e => (I'.ok.exf b hb).2 x c e, fun p (hp : p ∈ ([] : List (Addr × Obj)) ++ []) => by simp at hp⟩
  have loop : codeAny (model X.prog X.w) X.A (.compLoop (.DictComp kx vx [⟨tA, iA, fA, 0⟩] scope pos) 0 (.ref ia) (.ref D) ce) (compPost (model X.prog X.w) X.A X.xe none (EP X pins σ Q) (.ref D) s3.heap.objs.size) s4 := by
    refine codeAny_loop rfl (fun n s' => ∃ i H', Inv (X.blk s3 G3 scope ce fa) [] (wipe σ (own.map (·.2))) H' s' ∧ na i s'.heap ∧ (∀ b ∈ fa, H' b = none) ∧ W i n H') (fun n s5 ⟨i, H5, I5, sa5, no5, w5⟩ => ?_) m0 ⟨0, G3, I4, sa4, nofa, w0⟩
    show wpAny _ X.A ((compTurn (.DictComp kx vx [⟨tA, iA, fA, 0⟩] scope pos) 0 (.ref ia) (.ref D) ce).onRaise fun x => do noteFrame x ce; theTreesLotGoes x) _ _ s5
    refine wpAny_noted ?_
    show wpAny _ _ (standAt iA.pos >>= _) _ _ _
    refine wpAny_bind (wpAny_standAt ?_)
    show wpAny _ _ (pyNext (.ref ia) >>= _) _ _ _
    rcases turn i n H5 w5 with ⟨stop, fin⟩ | ⟨go, Nx, down, step⟩
    · refine wpAny_bind (thnF (TA.done (X.blk s3 G3 scope ce fa) rfl rfl rfl hc i [] s5 _ H5 (fun _ _ => False) I5 (held I5 no5) sa5 stop) fun r s6 ⟨er, I6⟩ => ?_)
      subst er
      refine wpAny_pure ?_
      -- back in the def
      have I7 : Inv X pins σ H5 s6 := I3.call' (ch := fa) I6.os I6.base I6.hok I6.bare fun b hb => by
        obtain ⟨_, p1, _, p3, p4, p5⟩ := (fr3 b hb).1
        exact ⟨p3, p1, p4, p5⟩
      have free : H5 s3.heap.objs.size = none := cloc ▸ (show H5 ce.locals = none from I6.free)
      obtain ⟨m, (ns : s6.heap.Ns ce.locals m), _⟩ := I6.loc
      rw [cloc] at ns
      obtain ⟨f0, f1, f2, f3, f4, f5⟩ := I3.fpOk (Nat.le_refl _) free
      exact ⟨m, ns, fun _ sb => ⟨.ref D, H5, I7.turned (t' := s6.toks) (fun b o hb e => (sb.2 b hb).trans e) f0 f1 f3 f4 f5, rfl, fin⟩⟩
    · refine wpAny_bind (thnF (TA.item (X.blk s3 G3 scope ce fa) rfl rfl rfl hc i [] s5 _ H5 (fun _ _ => False) I5 (held I5 no5) sa5 go) fun r s6 ⟨u, er, g6⟩ => ?_)
      subst er
      show wpAny _ _ (letOwnedTupleGo tA (.ref ia) u >>= _) _ _ _
      refine wpAny_bind (thnF g6 fun _ s7 ⟨x, H7, I7, r7, y7, sa7, no7⟩ => ?_)
      refine wpAny_bind (thnF (xG.run _ s7 _ H7 x u _ (I7.pinned (held I7 no7) (TA.obj _ _ sa7)) r7 (step x H7 y7)) fun _ s8 ⟨σ8, H8, I8, hw8, q8⟩ => ?_)
      refine wpAny_bind (thnF (xT.run _ s8 σ8 H8 _ I8 q8) fun b s9 ⟨H9, I9, q9⟩ => ?_)
      -- the turn's end
      have back : ∀ {s' : Shared} {H' : Hp}, Inv (X.blk s3 G3 scope ce fa) ([] ++ pinsAt fa s7.heap) σ8 H' s' → Nx H' →
          ∃ m, m < n ∧ ∃ i H', Inv (X.blk s3 G3 scope ce fa) [] (wipe σ (own.map (·.2))) H' s' ∧ na i s'.heap ∧ (∀ b ∈ fa, H' b = none) ∧ W i m H' := fun {s' H'} I' nx => by
        obtain ⟨m', lt, w'⟩ := down H' nx
        have stay : ∀ b ∈ fa, ∀ o, s7.heap.get? b = some o → s'.heap.get? b = some o ∧ H' b = none := fun b hb o e => by
          have z := I'.pin (b, o) (List.mem_append_right _ (List.mem_append_right _ (mem_pinsAt hb e)))
          exact ⟨z.1, z.2.1⟩
        exact ⟨m', lt, i + 1, H', (I'.unpinned (pins := [])).weak (by rw [← hw8, wipe_length]) (fun j v e => (wipe_some (hw8 ▸ e)).1), TA.keep _ _ _ sa7 fun b hb o e => (stay b hb o e).1, fun b hb => (TA.obj _ _ sa7 b hb).elim fun o z => (stay b hb o z.1).2, w'⟩
      cases b with
      | false =>
        simp only [Bool.false_eq_true, if_false] at q9 ⊢
        exact wpAny_pure ⟨rfl, back I9 q9⟩
      | true =>
        simp only [if_true] at q9 ⊢
        refine wpAny_bind (wpAny_bind (thnF (yK.run _ s9 σ8 H9 _ I9 q9) fun kv s10 ⟨yk, H10, I10, r10, q10⟩ => ?_))
        refine wpAny_bind (wpAny_holding (thnF (yV.run _ s10 σ8 H10 _ I10 q10) fun vv s11 ⟨yv, H11, I11, r11, kvs, kk, b, ek, eb, d11, lt11, ny⟩ => ?_))
        subst ek
        have ekv : kv = Value.ref b := r10
        rw [ekv]
        exact wpAny_bind (wpAny_standAt (wpAny_holding (put_tup (X := (X.blk s3 G3 scope ce fa)) hu I11 d11 lt11 eb r11 fun s12 I12 => wpAny_pure ⟨rfl, back I12 ny⟩)))
  exact codeAny_compStart_dict loop (TA.self X.A 0 _ _ _ sa4 loop)
end
end L2

/-! Z12: sorted of pairs of ints. -/
namespace L2
open PySem PySem.Spec PyProof.Rows
/-! ### sorted(a list of pairs of ints) -/
abbrev Pr := Addr × Int × Int
def prV (p : Pr) : List V := [.int p.2.1, .int p.2.2]
def prDat (p : Pr) : PyData := .tuple [.int p.2.1, .int p.2.2]
def prLe (p q : Pr) : Bool := decide (p.2.1 < q.2.1 ∨ (p.2.1 = q.2.1 ∧ p.2.2 ≤ q.2.2))
def rSortPr (K : PySem.W.Frag) : List V → Hp → VK → Prop := fun vs H Q => ∃ (a : Addr) (ks : List Pr), vs = [V.ref a] ∧ SqL K H a (ks.map fun p => V.ref p.1) ∧ (∀ p ∈ ks, SqT K H p.1 (prV p)) ∧ ∀ q, H q = none → Q (.ref q) (upd H q (.lst ((ks.mergeSort prLe).map fun p => V.ref p.1)))
section
variable {X : Cx}
theorem pr_reads {pins : List (Addr × Obj)} {σ : St} {H : Hp} {s : Shared} (I : Inv X pins σ H s) : ∀ ks : List Pr, (∀ p ∈ ks, SqT X.K H p.1 (prV p)) →
    PySem.W.EachIs (fun v (b : Pr) => v = Value.ref b.1) (ks.map fun p => Value.ref p.1) ks ∧ PySem.W.EachIs (fun v (b : Pr) => ∃ as, Reads s.heap v (prDat b) as) (ks.map fun p => Value.ref p.1) ks
  | [], _ => ⟨.nil, .nil⟩
  | p :: ks, h => by
    obtain ⟨h1, h2⟩ := pr_reads I ks fun q hq => h q (List.mem_cons_of_mem _ hq)
    exact ⟨.cons rfl h1, .cons (Dp.reads I _ (.ref p.1) _ (.tup (h p List.mem_cons_self) (.cons (.int _) (.cons (.int _) .nil))) rfl) h2⟩
theorem refs_eachP : ∀ {vs : List Value} {ks : List Pr}, PySem.W.EachIs (fun v (b : Pr) => v = Value.ref b.1) vs ks → vs = ks.map fun p => Value.ref p.1
  | _, _, .nil => rfl
  | _, _, .cons h t => by rw [h, refs_eachP t, List.map_cons]
theorem prLe_eq : PySem.W.dataLe false prDat = prLe := PySem.W.dataLe_ii (fun b : Pr => b.2.1) (fun b : Pr => b.2.2)
theorem refs_of_valsP : ∀ {ks : List Pr} {us : List Value}, Vals (ks.map fun p => V.ref p.1) us → us = ks.map fun p => Value.ref p.1
  | [], _, .nil => rfl
  | p :: ks, _, .cons r t => by
    cases r
    rw [refs_of_valsP t] <;> rfl
theorem vals_of_refsP : ∀ (ks : List Pr), Vals (ks.map fun p => V.ref p.1) (ks.map fun p => Value.ref p.1)
  | [] => .nil
  | p :: ks => .cons rfl (vals_of_refsP ks)
theorem cr_sortPr (hu : X.A.units + 64 < cLine) : CallR X (.builtin "sorted") (rSortPr X.K) := by
  intro pins s σ H vs us Q I r h
  obtain ⟨a, ks, rfl, hs, hk, q⟩ := h
  rw [Vals.ref1 r]
  obtain ⟨its, rv, hl, hz⟩ := I.list hs
  have ei : its = ks.map fun p => Value.ref p.1 := refs_of_valsP rv
  subst ei
  obtain ⟨e1, e2⟩ := pr_reads I ks hk
  rw [List.length_map] at hz
  refine PySem.W.sorted_data (R := fun v (b : Pr) => v = Value.ref b.1) (enc := prDat) (bs := ks) hl.isList e1 e2 (PySem.W.AllAlike.of fun b b' => ?_) (PySem.W.Sortable.tuples fun b => ⟨_, _, rfl⟩) hz (fun b hb => ?_) fun out hlen eo => ?_
  · show PySem.W.alike (.tuple [.int b.2.1, .int b.2.2]) (.tuple [.int b'.2.1, .int b'.2.2]) = true
    simp [PySem.W.alike, PySem.W.alikeAll]
  · show X.A.units + 2 + (PyData.tuple [.int b.2.1, .int b.2.2]).depth < cLine
    simp [PyData.depth, PyData.depthAll]; omega
  · rw [prLe_eq] at eo
    have eo' := refs_eachP eo
    obtain ⟨ep, he⟩ := PyProof.Rows.sortedAll_at s.heap (ks.map fun p => Value.ref p.1) out.toArray
    have hlen2 : ((ks.mergeSort prLe).map fun p => V.ref p.1).length ≤ sizeLine := by rw [List.length_map, List.length_mergeSort]; exact hz
    refine ⟨.ref _, upd H (s.heap.objs.size + 1) (.lst ((ks.mergeSort prLe).map fun p => V.ref p.1)), I.laid (t' := s.toks) (fun _ _ => PyProof.Rows.sortedAll_old) (Nat.le_succ _) ⟨hlen2, out, ep, ?_, he⟩, rfl, q _ (I.hok.fresh (Nat.le_succ _))⟩
    rw [eo']; exact vals_of_refsP _
end
end L2

/-! Z13: a def of the text whose code object is told (it holds a def of its own); the end with that def's table of code objects where no repr is under way. -/
namespace L2
open PySem PySem.Spec PyProof.Rows
structure DfC (K : PySem.W.Frag) (mg : Str → Option Value) (x : Str) (st : Stmt) (ps : List Str) (c : Addr) : Prop where
  ex : ∃ (f : Addr) (oc : Value) (od : Option Addr) (kV doc pm : Value) (an : Option Addr) (ct : Value) (osl : Array (Option Value)),
    K.lookup f = some ⟨oc, od, .func (PySem.W.fnOf x x (defArgs st) (defBody st) (defScope st) .none kV doc pm an (.ref c) ct), osl⟩ ∧ PySem.W.codeIn K (.ref c) x = true ∧ PySem.W.keepIn K (.ref f) = true ∧ mg x = some (.ref f) ∧
      Binds K (PySem.W.fnOf x x (defArgs st) (defBody st) (defScope st) .none kV doc pm an (.ref c) ct) ps []
theorem cd_of {K : PySem.W.Frag} {x : Str} {f c T : Addr} {oc : Value} {od : Option Addr} {fd : FuncData} {osl : Array (Option Value)} (a : PySem.W.nsIn K mainGlobals x = some (some (.ref f))) (l : K.lookup f = some ⟨oc, od, .func fd, osl⟩)
    (t : PySem.W.tabIn K x = some (c, T)) : fd.code = .ref c := by
  unfold PySem.W.tabIn at t
  simp only [a, l] at t
  cases e : fd.code with
  | ref b =>
    simp only [e] at t
    split at t
    · split at t
      · cases t; rfl
      · cases t
    · cases t
  | _ => simp only [e] at t; cases t
section
variable {P : Program} {w : World} {K : PySem.W.Frag} {mg : Str → Option Value} {base : Heap} {x : Str} {st : Stmt} {ps N : List Str} {k : Nat} {sp : Sp} {c T : Addr}
theorem DfC.mk' {f : Addr} {oc : Value} {od an : Option Addr} {osl : Array (Option Value)} {kV doc pm cdv ct : Value} (l : K.lookup f = some ⟨oc, od, .func (PySem.W.fnOf x x (defArgs st) (defBody st) (defScope st) .none kV doc pm an cdv ct), osl⟩)
    (cc : PySem.W.codeIn K cdv x = true) (kp : PySem.W.keepIn K (.ref f) = true) (g : mg x = some (.ref f)) (a : PySem.W.nsIn K mainGlobals x = some (some (.ref f))) (t : PySem.W.tabIn K x = some (c, T))
    (h : ∀ (kV doc pm : Value) (an : Option Addr) (cdv ct : Value) (us : List Value), us.length = ps.length → bindArgs (PySem.W.fnOf x x (defArgs st) (defBody st) (defScope st) .none kV doc pm an cdv ct) ⟨us, []⟩ = pure (ps.zip us)) : DfC K mg x st ps c := by
  have e : cdv = .ref c := cd_of a l t
  subst e
  exact ⟨f, oc, od, kV, doc, pm, an, ct, osl, l, cc, kp, g, (fun_mk l cc kp).binds h⟩
theorem DfC.ok (D : DfC K mg x st ps c) (S : FnScope N ps (defScope st)) (len : ∀ vs H Q E, sp vs H Q E → vs.length = ps.length)
    (hb : ∀ (f : Addr) (A : Around) (outer : List Env) (s : Shared) (H : Hp) (vs : List V) (Q : VK) (E : XK), Room k (A.deeper (envOfC x (defScope st) s.heap.objs.size f (.ref c))) → sp vs H Q E →
      ∃ t, PSs (cxOf CX0 P w K mg base N x (defScope st) f (.ref c) A outer s H E).nox (defBody st) t ∧ t { nx := fun _ H' => Q .non H', rt := Q } (start N vs) H) : Kn P w K mg base CX0 (k + 1) x st ps sp := by
  obtain ⟨f, oc, od, kV, doc, pm, an, ct, osl, l, cc, kp, g, b⟩ := D.ex
  refine ⟨f, _, fn_of l cc S len fun A outer s H vs Q E hr h => ?_, g, kp, b, kV, doc, pm, an, .ref c, ct, rfl⟩
  obtain ⟨t, h1, h2⟩ := hb f A outer s H vs Q E hr h
  exact ⟨t, h1.nox, h2⟩
end
/-! ### the end -/
theorem law_callQT {P : Program} {w : World} {K : PySem.W.Frag} {mg mb : Str → Option Value} {k : Nat} {fa a cO tO : Addr} {fd : FuncData} {x : Str} {sp : Sp} {s : Shared} {vs : List Value} {ns : List Int}
    (kin : K.In s.heap) (glob : s.heap.Ns mainGlobals mg) (blt : s.heap.Ns builtinsNs mb) (boot : ∀ x : Str, x ≠ "__name__" → mb x = bootBuiltins x) (lim : s.heap.NoLimit) (gens : s.gens = #[])
    (empty : s.heap.get? tO = some { cls := .none, data := .fields #[] }) (out : K.lookup tO = none) (code : PySem.W.CodeHd s.heap cO tO)
    (mod : ∃ (bm : Addr) (ob : Obj), mg "__builtins__" = some (.ref bm) ∧ bm ≠ builtinsNs ∧ s.heap.get? bm = some ob ∧ ob.cls = .type "module" ∧ ob.dict = some builtinsNs ∧ ob.data = .plain)
    (ha : s.heap.get? a = some { cls := .type "list", data := .seq vs.toArray }) (hi : IntsAre vs ns) (hl : ns.length ≤ sizeLine) (hr : Room k callerA)
    (F : ∀ base : Heap, K.In base → base.Ns mainGlobals mg → LamX.TabB base mg cO tO → Qui P w K mg base k fa fd [x] sp) (bind : ∀ (s : Shared) (u : Value), BindsTo s fd ⟨[u], []⟩ [(x, u)])
    (hsp : ∀ H : Hp, H tO = some (.tbl #[]) → SqL K H a (ns.map V.int) → sp [.ref a] H (fun v _ => v = .bl true) fun _ _ _ => False) :
    codeAny (model P w) callerA (.call (.ref fa) ⟨[.ref a], []⟩) (fun r s' => r = .ok (.ret (.bool true)) ∧ OldK s.heap s'.heap ∧ s'.os = s.os ∧ AllBare s'.gens) s := by
  obtain ⟨H0, _, script, held0, alone⟩ := script_hp (P := P) (w := w) kin ha hi hl
  have r := vals_ints hi
  have aT : a ≠ tO := fun z => by
    rw [z, empty] at ha
    cases ha
  have free : H0 tO = none := by
    rcases z : H0 tO with _ | u
    · rfl
    · exact absurd (alone tO u z).1.symm aT
  -- the table is tracked besides
  have top : upd H0 tO (.tbl #[]) tO = some (.tbl #[]) := upd_same
  have side : ∀ {b : Addr}, b ≠ tO → upd H0 tO (.tbl #[]) b = H0 b := fun n => upd_ne n
  have scriptT : SqL K (upd H0 tO (.tbl #[])) a (ns.map V.int) := by
    rcases script with (z | ⟨o, z⟩) | z
    · exact .inl (.inl ((side aT).trans z))
    · exact .inl (.inr ⟨o, (side aT).trans z⟩)
    · exact .inr z
  have cases3 : ∀ b o, upd H0 tO (.tbl #[]) b = some o → (b = tO ∧ o = .tbl #[]) ∨ (b = a ∧ b ≠ tO ∧ K.lookup a = none ∧ o = .frz { cls := .type "list", data := .seq vs.toArray } (.lst (ns.map V.int))) := fun b o z => by
    by_cases n : b = tO
    · subst n
      exact .inl ⟨rfl, (Option.some.inj (top.symm.trans z)).symm⟩
    · obtain ⟨e1, e2, e3⟩ := alone b o ((side n).symm.trans z)
      exact .inr ⟨e1, n, e2, e3⟩
  have held : HOk P w (upd H0 tO (.tbl #[])) s.heap := fun b o z => by
    rcases cases3 b o z with ⟨rfl, rfl⟩ | ⟨rfl, _, _, rfl⟩
    · exact empty
    · exact ⟨ha, by rw [List.length_map]; exact hl, vs, _, r, ha⟩
  have low : ∀ {b : Addr} {o : Obj}, s.heap.get? b = some o → (∀ xs n, o.data ≠ .seq xs n ∨ K.lookup b ≠ none) → (o.data ≠ .fields #[] ∨ K.lookup b ≠ none) → (hidT s.heap (upd H0 tO (.tbl #[]))).get? b = some o := fun {b o} e d d2 => by
    refine hidT_get e ?_
    rcases z : upd H0 tO (.tbl #[]) b with _ | u
    · rfl
    · rcases cases3 b u z with ⟨rfl, _⟩ | ⟨rfl, _, n, _⟩
      · rw [empty] at e
        cases e
        rcases d2 with y | y
        · exact absurd rfl y
        · exact absurd out y
      · rw [ha] at e
        cases e
        rcases d vs.toArray 0 with y | y
        · exact absurd rfl y
        · exact absurd n y
  have spaces : ∀ {b : Addr} {m : Str → Option Value}, s.heap.Ns b m → (hidT s.heap (upd H0 tO (.tbl #[]))).Ns b m := fun ⟨o, es, ep, e, d, z⟩ => ⟨o, es, ep, low e (fun xs n => .inl (by rw [d]; intro q; cases q)) (.inl (by rw [d]; intro q; cases q)), d, z⟩
  have kinB : K.In (hidT s.heap (upd H0 tO (.tbl #[]))) := fun b o e => low (kin b o e) (fun xs n => .inr (by intro q; rw [e] at q; cases q)) (.inr (by intro q; rw [e] at q; cases q))
  have tab : LamX.TabB (hidT s.heap (upd H0 tO (.tbl #[]))) mg cO tO := by
    refine ⟨?_, ?_, fun z => ?_⟩
    · obtain ⟨o, us, file, tf, flags, tg, inF, text, tt, e1, r1, r2, r3, rest⟩ := code
      refine ⟨o, us, file, tf, flags, tg, inF, text, tt, low e1 (fun xs n => .inl ?_) (.inl ?_), r1, r2, r3, rest⟩
      · rw [r2]; intro q; cases q
      · rw [r2]; intro q
        cases q
        simp at r3
    · obtain ⟨bm, ob, b1, b2, b3, b4, b5, b6⟩ := mod
      refine ⟨bm, ob, b1, b2, fun q => ?_, fun q => ?_, low b3 (fun xs n => .inl ?_) (.inl ?_), b4, b5, b6⟩
      · obtain ⟨o, es, ep, e, d, _⟩ := glob
        rw [q, e] at b3
        cases b3
        rw [d] at b6
        cases b6
      · rw [q, empty] at b3
        cases b3
        cases b6
      · rw [b6]; intro q; cases q
      · rw [b6]; intro q; cases q
    · obtain ⟨o, es, ep, e, d, _⟩ := glob
      rw [z, empty] at e
      cases e
      cases d
  have room : Env0 P w K mg (hidT s.heap (upd H0 tO (.tbl #[]))) callerA [] s (upd H0 tO (.tbl #[])) :=
    ⟨rfl, ⟨kinB, spaces glob, ⟨mb, spaces blt, boot⟩, lim.imp fun mc z => ⟨spaces z.1, z.2⟩⟩, fun _ _ => of_hidT, Nat.le_of_eq (hidT_size _ _), trivial, fun b z => absurd (show b ∈ ([] : List Addr) from z) List.not_mem_nil, held, .of_eq gens⟩
  refine codeAny_mono ((F _ kinB (spaces glob) tab).go callerA [] s _ ⟨[.ref a], []⟩ [.ref a] [.ref a] _ _ hr rfl room (bind s (.ref a)) (.cons rfl .nil) (hsp _ top scriptT)) ?_
  rintro (e | fl) s' z
  · exact z.elim
  match fl, z with
  | .next, z => exact z.elim
  | .brk, z => exact z.elim
  | .cont, z => exact z.elim
  | .ret u, ⟨v, H', os, bare, un, held', rv, q⟩ =>
    cases (show v = V.bl true from q)
    cases (show u = Value.bool true from rv)
    obtain ⟨more, grown⟩ := un.tbls tO #[] top
    have new := held' tO _ grown
    have others : ∀ b o, b ≠ tO → s.heap.get? b = some o → s'.heap.get? b = some o := fun b o n e => by
      rcases y : upd H0 tO (.tbl #[]) b with _ | u
      · exact un.keep b o e y (fun z => absurd (show b ∈ ([] : List Addr) from z) List.not_mem_nil) (fun z => absurd (show b ∈ ([] : List Addr) from z) List.not_mem_nil)
      · rcases cases3 b u y with ⟨z, _⟩ | ⟨rfl, _, _, rfl⟩
        · exact absurd z n
        · have h1 := (held b _ y).1
          have h2 := (held' b _ (un.frzs b _ _ y)).1
          rw [e] at h1
          cases h1
          exact h2
    refine ⟨rfl, ⟨fun b o e => ?_, fun b o e => ?_⟩, os, bare⟩
    · by_cases n : b = tO
      · subst n
        rw [empty] at e
        cases e
        exact .inr (.inl ⟨(code.tab empty).isCodeTable, rfl, #[], more, rfl, by rw [Array.empty_append]; rw [Array.empty_append] at new; exact new⟩)
      · exact .inl (others b o n e)
    · by_cases n : b = tO
      · subst n
        exact ⟨_, new⟩
      · exact ⟨o, others b o n e⟩
theorem walk_ofQT {l : PySem.W.OpenLaw} {n k : Nat} {q : Program} {loose : List Str} {XP : (Str → Option Value) → Heap → Prop} {YP : World → Heap → Prop} {d : DefRec} {K : Params → PySem.W.Frag} {sp : World → Addr → Sp} {x : Str} (y : Str)
    (hn : l.most = some n) (hn2 : n ≤ sizeLine) (hdf : d.params.defaults = []) (hr : Room k callerA) (found : ((recsOf q).any fun e => e.name == y) = true) (kin : ∀ (w : World) (h : Heap), YP w h → (K w.params).In h)
    (F : ∀ (w : World) (mg : Str → Option Value) (fa : Addr) (h : Heap), (K w.params).In h → h.Ns mainGlobals mg → mg d.name = some (.ref fa) →
      ∃ (fd : FuncData) (cO tO : Addr), PySem.W.tabIn (K w.params) y = some (cO, tO) ∧ (K w.params).lookup tO = none ∧ (∀ (s : Shared) (u : Value), BindsTo s fd ⟨[u], []⟩ [(x, u)]) ∧
        ∀ base : Heap, (K w.params).In base → base.Ns mainGlobals mg → LamX.TabB base mg cO tO → Qui l.prog w (K w.params) mg base k fa fd [x] (sp w tO))
    (hsp : ∀ (w : World) (tO : Addr) (H : Hp) (a : Addr) (ns : List Int), ns.length ≤ n → H tO = some (.tbl #[]) → SqL (K w.params) H a (ns.map V.int) → sp w tO [.ref a] H (fun v _ => v = .bl true) fun _ _ _ => False) :
    PySem.W.WalkO q loose XP YP l.row.toRowW d [] (fun f vs => PySem.call f vs) := by
  refine Att.attach_callB hn hdf ?_
  intro w _ s₁ mg mb fa o pm cd doc a vs ns G Y _ _ _ named script whole many _ bare
  obtain ⟨fd, cO, tO, ht, out, binds, holds⟩ := F w mg fa _ (kin w _ Y) G.T.g named
  obtain ⟨dL, hd⟩ := Option.isSome_iff_exists.mp (List.find?_isSome.mpr (List.any_eq_true.mp found))
  obtain ⟨code, empty⟩ := PySem.W.tab_of G.T (kin w _ Y) hd ht
  exact law_callQT (kin w _ Y) G.T.g G.T.b G.T.builtins G.T.nolimit bare empty out code G.T.bmain script whole (Nat.le_trans many hn2) hr holds binds fun H e z => hsp w tO H a ns many e z
end L2

/-! Z14: name = {.. for ..} on one line, the name a local. -/
namespace L2
open PySem PySem.Spec PyProof.Rows
theorem sw_trueD {ka vb : Expr} {gens : List Comprehension} {sc : Scope} {p1 p2 : Pos} {y : Str} {ln : Nat} {env : Env} (fk : env.scope.kind = .function) (loc : env.scope.names.lookup y = some .local) (line : (p2.line == p1.line) = true)
    (own : (sc.names.any fun (n, k) => n == y && (k == .local || k == .cell)) = false) : swapsWith (.DictComp ka vb gens sc p1) (some (.Name y p2)) ln env = pure true := by
  have b : env.blockKind = .function := by
    unfold Env.blockKind
    rw [fk] <;> rfl
  have k : env.kindOf y = some .local := loc
  unfold swapsWith
  simp only [b, k, own, Expr.pos, line]
  rfl
section
variable {X : Cx}
theorem ps_setDc {i : Nat} {y : Str} {p2 : Pos} {ka vb tg src : Expr} {fs : List Expr} {sc : Scope} {own : List (Str × Nat)} {p1 p3 : Pos} {wi : TI} {g : TG} {tt : TT} {tk tv : TE} (calm : X.calm = true) (nd : X.N.Nodup) (at_ : X.N[i]? = some y) (loc : X.env.scope.names.lookup y = some .local)
    (used : swapsWith (.DictComp ka vb [⟨tg, src, fs, 0⟩] sc p1) (some (.Name y p2)) p3.line X.env = pure true) (from_ : PI X tg src wi) (ok : BlkOk X.N X.env.scope sc own)
    (to_ : ∀ (s : Shared) (H : Hp) (C : Addr) (cl : List (Str × Addr)) (fp : List Addr), PG (X.blk s H sc (compEnvC sc cl C X.env) fp) tg g) (ifs : ∀ (s : Shared) (H : Hp) (C : Addr) (cl : List (Str × Addr)) (fp : List Addr), PTs (X.blk s H sc (compEnvC sc cl C X.env) fp) fs tt)
    (key : ∀ (s : Shared) (H : Hp) (C : Addr) (cl : List (Str × Addr)) (fp : List Addr), PE (X.blk s H sc (compEnvC sc cl C X.env) fp) ka tk) (val : ∀ (s : Shared) (H : Hp) (C : Addr) (cl : List (Str × Addr)) (fp : List Addr), PE (X.blk s H sc (compEnvC sc cl C X.env) fp) vb tv)
    (plain : ∀ x, foldedSetIterable src X.env x = pure x := by intro _; rfl) : PS X (.Assign [.Name y p2] (.DictComp ka vb [⟨tg, src, fs, 0⟩] sc p1) p3) (tAsg (tDc wi g tt tk tv (own.map (·.2))) (gName i)) := by
  constructor
  intro pins s σ H D I h
  rw [exec_Assign_Name_used _ _ _ _ used]
  refine wpAny_bind (wpAny_standAt (wpAny_bind ?_))
  show wpAny _ X.A (do let _ ← comprehension (.DictComp ka vb [⟨tg, src, fs, 0⟩] sc p1) sc X.env (firstIterPos [⟨tg, src, fs, 0⟩] p1) newDict false (eval src X.env) (some (assign (.Name y p2) X.env))) _ _ s
  have h : tDc wi g tt tk tv (own.map (·.2)) σ H (fun x H1 => gName i x σ H1 D.nx) := h
  refine wpAny_bind (thn (dc_core (Qf := fun _ t => SP X pins D .next t) calm nd I from_ ok to_ ifs key val plain h ?_) fun _ _ z => wpAny_pure (wpAny_pure z))
  rintro L C t m H' J q ns ⟨f0, f1, f2, f3, f4, f5⟩
  show wpAny _ _ (assign (.Name y p2) X.env (.ref L)) _ _ _
  refine wpAny_assign_Name (store_ok2 (v := V.ref L) J nd at_ (.inl loc) rfl ?_ (.inr loc))
  rintro t2 J2 ⟨a, but, ha⟩
  have other : C ≠ a := by
    rcases ha with z | z
    · rw [z]; exact f1
    · intro e; exact f4 y a z e.symm
  exact ⟨m, ns.sameBut but other, fun h3 but3 => ⟨_, H', J2.turned (t' := t2.toks) (fun b o hb e => (but3.2 b hb).trans e) f0 f1 f3 f4 f5, q⟩⟩
end
end L2

/-! Z15: a > b, a < b of nested data of the same shape (lists of ints, ..). -/
namespace L2
open PySem PySem.Spec PyProof.Rows
/-- both readable, alike, not deep -/
structure Cmp (K : PySem.W.Frag) (H : Hp) (x y : V) (d e : PyData) : Prop where
  l : Dp K H x d
  r : Dp K H y e
  al : PySem.W.alike d e = true
  nn : d ≠ .none
  dp : d.depth ≤ 60
def rGtData (K : PySem.W.Frag) : R2 := fun x y H Q => ∃ d e, Cmp K H x y d e ∧ Q (.bl (PySem.W.dataLt e d)) H
def rLtData (K : PySem.W.Frag) : R2 := fun x y H Q => ∃ d e, Cmp K H x y d e ∧ Q (.bl (PySem.W.dataLt d e)) H
section
variable {X : Cx}
theorem op_gtData (room : X.A.units + 64 < cLine) : OpR X (compareOp .Gt) (rGtData X.K) := by
  rintro pins s σ H x y u v Q I rx ry ⟨d, e, c, q⟩
  obtain ⟨_, hd⟩ := Dp.reads I d x u c.l rx
  obtain ⟨_, he⟩ := Dp.reads I e y v c.r ry
  have := c.dp
  exact PySem.W.gt_data hd he c.al c.nn (by omega) ⟨.bl _, H, I, rfl, q⟩
theorem op_ltData (room : X.A.units + 64 < cLine) : OpR X (compareOp .Lt) (rLtData X.K) := by
  rintro pins s σ H x y u v Q I rx ry ⟨d, e, c, q⟩
  obtain ⟨_, hd⟩ := Dp.reads I d x u c.l rx
  obtain ⟨_, he⟩ := Dp.reads I e y v c.r ry
  have := c.dp
  exact PySem.W.lt_data hd he c.al c.nn (by omega) ⟨.bl _, H, I, rfl, q⟩
end
end L2

/-! Z16: a dict is in no list of lists. -/
namespace L2
open PySem PySem.Spec PyProof.Rows
open PySem.AutoSeq1 (wpAny_loadPart')
open PySem.MeetsSeq
theorem list_eq_declines_dictZ (l b : Addr) (items : Array Value) (n : Nat) (dd dd2 : Option Addr) (sl sl2 : Array (Option Value)) (es : Array DictEntry) (ep : Nat) :
    Meets (Builtin.«list.__eq__» ⟨[.ref l, .ref b], []⟩) (fun _ R s => s.heap.get? l = some { cls := .type "list", dict := dd, data := .seq items n, slots := sl } ∧ s.heap.get? b = some { cls := .type "dict", dict := dd2, data := .dict es ep, slots := sl2 } ∧ R (.ok (.ret .notImplemented)) s) :=
  .of_wp fun prog w A R s h => by obtain ⟨hp, g, d, tk, os⟩ := s; obtain ⟨hl, hb, h⟩ := h; have f1 := F.sub_dict_list; wp_walk using wpAny_loadPart' hl, wpAny_loadPart' hb; exact ⟨_, rfl, h⟩
section
variable {prog : Program} {w : World} {A : Around} {s : Shared}
theorem dict_declinesZ {E : Value → Shared → Prop} {a b : Addr} (ta : s.TypeIs (.ref a) "dict") (tb : s.TypeIs (.ref b) "list") (Q : Value → Shared → Prop) (q : Q .notImplemented s) : wpAny (model prog w) A (call (.builtin "dict.__eq__") [.ref a, .ref b]) Q E s := by
  refine wpAny_call_entry PySem.F.slot_dict_eq_refl ta PySem.F.entry_dict_eq ?_ (PySem.F.args_dict_eq_2 _ _)
  show wpAny _ _ (Builtin.Dict.dictSlotArgs "__eq__" ⟨[.ref a, .ref b], []⟩ >>= _) _ _ s
  refine wpAny_bind ?_
  unfold Builtin.Dict.dictSlotArgs
  refine wpAny_bind (wpAny_notOrdered_dict ta ?_)
  show wpAny _ _ (pure (Value.ref a, Value.ref b)) _ _ s
  refine wpAny_pure ?_
  refine wpAny_bind (wpAny_isInstance (T := "list") tb PySem.F.sub_list_dict ?_)
  simp only [Bool.not_false, if_true]
  exact wpAny_bind (wpAny_rule (wpAny_pure ⟨_, rfl, q⟩))
theorem rc_list_dictZ {l b : Addr} {items : Array Value} {o2 : Obj} {es : Array DictEntry} {ep : Nat} (hl : s.heap.IsList l items) (hb : s.heap.get? b = some o2) (c2 : o2.cls = .type "dict") (d2 : o2.data = .dict es ep) (hu : A.units < cLine) : SeqAt.RcAt A s (.ref l) (.ref b) false := fun prog w E Q h => by
  obtain ⟨⟨cls, dd, data, sl⟩, ho, hc, n, hd⟩ := id hl
  obtain ⟨cls2, dd2, data2, sl2⟩ := o2
  simp only at hc hd c2 d2
  subst hc hd c2 d2
  have hne : l ≠ b := fun e => by
    subst e
    rw [ho] at hb
    exact absurd (congrArg Obj.cls (Option.some.inj hb)) (by simp)
  exact (SeqAt.rc_eq_decline_or (k := false) ⟨_, ho, rfl⟩ ⟨_, hb, rfl⟩ (by decide) F.sub_dict_list F.slot_list_eq F.slot_dict_eq_refl
    (fun _ hq => call_meets F.slot_list_eq ⟨_, ho, rfl⟩ F.entry_list_eq (F.args_list_eq_2 _ _) (list_eq_declines_dictZ l b items n dd dd2 sl sl2 es ep) ⟨ho, hb, hq⟩)
    (fun _ hq => dict_declinesZ ⟨_, hb, rfl⟩ ⟨_, ho, rfl⟩ _ hq)
    (fun _ hq => SeqAt.wpAny_isSame_ref_other' hne ho hb (by simp) hq) (.inr hu) h)
end
/-- x in a list of lists: x may be a dict -/
def rInDd (K : PySem.W.Frag) : R2 := fun x y H Q => rInD K x y H Q ∨ ∃ (a : Addr) (kvs : List (Key × V)) (p : Addr) (xs : List V), x = .ref a ∧ H a = some (.dK kvs) ∧ y = .ref p ∧ SqL K H p xs ∧ (∀ z ∈ xs, ∃ b ys, z = .ref b ∧ SqL K H b ys) ∧ Q (.bl false) H
theorem vals_memZ {xs : List V} {us : List Value} (r : Vals xs us) : ∀ u ∈ us, ∃ x ∈ xs, RelV x u := by
  induction r with
  | nil => intro u h; cases h
  | cons h _ ih =>
    intro u hu
    rcases List.mem_cons.mp hu with rfl | hu
    · exact ⟨_, List.mem_cons_self, h⟩
    · obtain ⟨x, m, e⟩ := ih u hu
      exact ⟨x, List.mem_cons_of_mem _ m, e⟩
section
variable {X : Cx}
theorem op_inDd (hu : X.A.units + 65 < cLine) : OpR X (compareOp .In) (rInDd X.K) := by
  rintro pins s σ H x y v u Q I rx ry (h | ⟨a, kvs, p, xs, rfl, ha, rfl, hp, hz, q⟩)
  · exact op_inD hu pins s σ H x y v u Q I rx ry h
  cases (show v = Value.ref a from rx)
  cases (show u = Value.ref p from ry)
  obtain ⟨us, r, p1, _⟩ := I.list hp
  obtain ⟨_, _, _, _, da⟩ := (show ObjOk X.prog X.w H s.heap a (.dK kvs) from I.hok a _ ha)
  obtain ⟨o, es, ep, ho, ex, hd, _⟩ := da
  refine SeqAt.in_listAt (fun _ => false) p1.isList (fun z hz' => ?_) ?_
  · obtain ⟨x', mx, rx'⟩ := vals_memZ r z (by simpa using hz')
    obtain ⟨b, ys, rfl, hb⟩ := hz x' mx
    cases (show z = Value.ref b from rx')
    obtain ⟨_, _, p2, _⟩ := I.list hb
    have hcl : o.cls = .type "dict" := ex.1
    have hne : b ≠ a := fun e => by
      subst e
      obtain ⟨o', ho', hc', _⟩ := p2.isList
      rw [ho] at ho'
      rw [← Option.some.inj ho', hcl] at hc'
      exact absurd hc' (by simp)
    have ub : X.A.in1.units < cLine := by
      show X.A.units + 1 < cLine
      omega
    exact SeqAt.EqAt.of_refs hne (rc_list_dictZ p2.isList ho hcl hd ub)
  · have e : (us.toArray.any fun _ => false) = false := by simp
    rw [e]
    exact ⟨.bl false, H, I, rfl, q⟩
end
end L2

/-! Z17: len(set(a list of ints)), whether they are different or not. -/
namespace L2
open PySem PySem.Spec PyProof.Rows
/-- how many different ones -/
def dstN (ns : List Int) : Nat := (PyProof.Rows.firstMet (fun i => ns.getD i 0) ns.length).length
theorem firstMet_step (f : Nat → Int) (n : Nat) : PyProof.Rows.firstMet f (n + 1) = if (PyProof.Rows.firstMet f n).any (· == f n) = true then PyProof.Rows.firstMet f n else PyProof.Rows.firstMet f n ++ [f n] := by
  rw [PyProof.Rows.firstMet_succ]; rfl
theorem firstMet_mem (f : Nat → Int) : ∀ (n : Nat) (x : Int), x ∈ PyProof.Rows.firstMet f n ↔ ∃ i, i < n ∧ f i = x
  | 0, x => ⟨fun h => absurd h List.not_mem_nil, fun ⟨i, h, _⟩ => absurd h (Nat.not_lt_zero i)⟩
  | n + 1, x => by
    rw [firstMet_step]
    have ih := firstMet_mem f n
    by_cases c : (PyProof.Rows.firstMet f n).any (· == f n) = true
    · rw [if_pos c, ih]
      refine ⟨fun ⟨i, h, e⟩ => ⟨i, by omega, e⟩, fun ⟨i, h, e⟩ => ?_⟩
      by_cases d : i < n
      · exact ⟨i, d, e⟩
      · have : i = n := by omega
        subst this
        obtain ⟨y, my, ey⟩ := List.any_eq_true.mp c
        have ey : y = f i := beq_iff_eq.mp ey
        rw [ey] at my
        rw [← e]
        exact (ih _).mp my
    · rw [if_neg c, List.mem_append, ih, List.mem_singleton]
      refine ⟨fun h => h.elim (fun ⟨i, h, e⟩ => ⟨i, by omega, e⟩) fun h => ⟨n, by omega, h.symm⟩, fun ⟨i, h, e⟩ => ?_⟩
      by_cases d : i < n
      · exact .inl ⟨i, d, e⟩
      · have : i = n := by omega
        subst this
        exact .inr e.symm
theorem firstMet_le (f : Nat → Int) : ∀ n : Nat, (PyProof.Rows.firstMet f n).length ≤ n
  | 0 => Nat.le_refl _
  | n + 1 => by
    rw [firstMet_step]
    have ih := firstMet_le f n
    by_cases c : (PyProof.Rows.firstMet f n).any (· == f n) = true
    · rw [if_pos c]; omega
    · rw [if_neg c, List.length_append, List.length_singleton]; omega
theorem firstMet_all (f : Nat → Int) : ∀ n : Nat, (PyProof.Rows.firstMet f n).length = n ↔ ∀ i j, i < j → j < n → f i ≠ f j
  | 0 => ⟨fun _ i j _ h => absurd h (Nat.not_lt_zero j), fun _ => rfl⟩
  | n + 1 => by
    rw [firstMet_step]
    have ih := firstMet_all f n
    have le := firstMet_le f n
    by_cases c : (PyProof.Rows.firstMet f n).any (· == f n) = true
    · rw [if_pos c]
      refine ⟨fun h => by omega, fun h => ?_⟩
      obtain ⟨y, my, ey⟩ := List.any_eq_true.mp c
      have ey : y = f n := beq_iff_eq.mp ey
      obtain ⟨i, hi, e⟩ := (firstMet_mem f n y).mp my
      exact absurd (e.trans ey) (h i n hi (Nat.lt_succ_self n))
    · rw [if_neg c, List.length_append, List.length_singleton]
      refine ⟨fun h i j hij hj => ?_, fun h => ?_⟩
      · by_cases d : j < n
        · exact ih.mp (by omega) i j hij d
        · have : j = n := by omega
          subst this
          intro e
          refine c (List.any_eq_true.mpr ⟨f i, (firstMet_mem f j _).mpr ⟨i, hij, rfl⟩, ?_⟩)
          rw [e]; exact beq_self_eq_true _
      · have := ih.mpr fun i j a b => h i j a (by omega)
        omega
theorem dstN_iff (ns : List Int) : dstN ns = ns.length ↔ ns.Nodup := by
  unfold dstN
  rw [firstMet_all]
  unfold List.Nodup
  rw [List.pairwise_iff_getElem]
  refine ⟨fun h i j hi hj hij => ?_, fun h i j hij hj => ?_⟩
  · have z := h i j hij hj
    rw [List.getD_eq_getElem?_getD, List.getD_eq_getElem?_getD, List.getElem?_eq_getElem hi, List.getElem?_eq_getElem hj] at z
    exact z
  · have z := h i j (by omega) hj hij
    rw [List.getD_eq_getElem?_getD, List.getD_eq_getElem?_getD, List.getElem?_eq_getElem (by omega), List.getElem?_eq_getElem hj]
    exact z
theorem dstN_le (ns : List Int) : dstN ns ≤ ns.length := firstMet_le _ _
section
variable {X : Cx}
def tLenSetA (K : PySem.W.Frag) (ta : TE) : TE := fun σ H Q => ta σ H fun x H1 => ∃ (l : Addr) (ns : List Int), x = .ref l ∧ SqL K H1 l (ns.map V.int) ∧ ns.length ≤ 4000 ∧ Q (.int (dstN ns : Nat)) H1
theorem pe_lenSetA {a : Expr} {ta : TE} {p p2 q pos : Pos} (hg : Gl X "len") (hm : X.mg "len" = none) (hg2 : Gl X "set") (hm2 : X.mg "set" = none) (ha : PE X a ta) (hc : X.calm = true := by rfl)
    (na : starEach [a] X.env = (false, eval a X.env) :: starEach [] X.env := by rfl) : PE X (.Call (.Name "len" p) [.Call (.Name "set" p2) [a] [] q] [] pos) (tLenSetA X.K ta) := by
  refine ⟨fun pins s σ H Q I h => ?_⟩
  refine Call_ (ld_blt I hg hm boot_len ?_)
  refine PyProof.Rows.callWith_builtin1 (PyProof.Rows.args_cons ?_ rfl) rfl rfl
  refine Call_ (ld_blt I hg2 hm2 boot_set ?_)
  refine PyProof.Rows.callWith_type1 (PyProof.Rows.args_cons (thn (ha.run pins s σ H _ I h) fun v s1 ⟨x, H1, I1, r1, q1⟩ => PyProof.Rows.args_nil ?_) na) na rfl
  obtain ⟨l, ns, rfl, hq, hl, q1⟩ := q1
  cases r1
  obtain ⟨its, r, pl, hz⟩ := I1.list hq
  have hlen : its.toArray.size = ns.length := by rw [List.size_toArray, ← r.length, List.length_map]
  refine call_set_list (I1.ok.hd hc) pl.isList (by simpa using RZ.intsAre_vals r) (by rw [hlen]; unfold scanBound; omega) fun h' tk hS hk => ?_
  refine PyProof.Rows.args_nil ?_
  rw [hlen] at hS
  have le := dstN_le ns
  obtain ⟨o, es, ep, t, ho, hex, hd, _, _, _, hf, hn⟩ := hS
  have hn : es.size = dstN ns := hn
  have I2 : Inv X pins σ H1 { s1 with heap := h', toks := tk } := I1.kept fun b o e => hk b o (Heap.lt_size e) e
  exact call_len_set ho hex hd hf (by rw [hn]; omega) ⟨.int (dstN ns : Nat), H1, I2.tok _, ⟨_, by rw [hn]⟩, q1⟩
end
end L2

/-! Z18: repr where dicts are shown: no list of the program is the interpreter's table of modules. -/
namespace L2
open PySem PySem.Spec PyProof.Rows
theorem look_of_ns {K : PySem.W.Frag} {a : Addr} {x : Str} {r : Option Value} (h : PySem.W.nsIn K a x = some r) : ∃ o, K.lookup a = some o := by
  unfold PySem.W.nsIn at h
  cases e : K.lookup a with
  | some o => exact ⟨o, rfl⟩
  | none => rw [e] at h; cases h
def rReprS : List V → Hp → VK → Prop := fun xs H Q => ∃ (x : V) (d : PyData), xs = [x] ∧ (H sysModules = none → Rp true H x d) ∧ Shows d ∧ Q (.str d.shown) H
theorem call_reprS {X : Cx} {k : Nat} (hr : Room k X.A) (hq : X.A.guards = some []) (hk : PySem.W.nsIn X.K sysModules "threading" = some none) : CallR X (.builtin "repr") rReprS := by
  intro pins s σ H xs us Q I r h
  obtain ⟨x, d, rfl, rp, hs, q⟩ := h
  obtain ⟨o, ho⟩ := look_of_ns hk
  have e : H sysModules = none := (I.bs _ _ (I.mod.kin _ _ ho)).2
  exact call_repr hr hq pins s σ H _ us Q I r ⟨true, x, d, rfl, rp e, hs, q⟩
/-- list + list, a slice of a list: new, at a place that is none of the interpreter's own -/
def rCatN : R2 := fun x y H Q => ∃ l b xs zs, x = .ref l ∧ y = .ref b ∧ H l = some (.lst xs) ∧ H b = some (.lst zs) ∧ xs.length + zs.length ≤ sizeLine ∧ ∀ p, H p = none → p ≠ sysModules → Q (.ref p) (upd H p (.lst (xs ++ zs)))
theorem op_catN {X : Cx} : OpR X (binaryOp .Add) rCatN := by
  intro pins s σ H x y v u Q I rx ry h
  obtain ⟨l, b, xs, zs, rfl, rfl, hH, hB, hz, q⟩ := h
  cases rx
  cases ry
  obtain ⟨z, its, n, r, hl, e⟩ := I.lstM hH
  obtain ⟨z2, its2, n2, r2, hl2, e2⟩ := I.lstM hB
  refine PySem.P.add_list e e2 ?_ (by rw [List.size_toArray, List.size_toArray]; omega)
  have ea : its.toArray ++ its2.toArray = (its ++ its2).toArray := by simp
  rw [ea]
  exact ⟨.ref _, _, I.lnew (t' := s.toks) (r.append r2) (by rw [List.length_append]; omega), rfl, q _ I.fresh (Nat.ne_of_gt I.big)⟩
def rSlN (K : PySem.W.Frag) : V → Option Int → Option Int → Hp → VK → Prop := fun x lo hi H Q => ∃ a xs, x = .ref a ∧ SqL K H a xs ∧ ∀ p, H p = none → p ≠ sysModules → Q (.ref p) (upd H p (.lst (cutV xs lo hi)))
theorem sl_listN {X : Cx} : SlR X (rSlN X.K) := by
  intro pins s σ H x v vl vu lo hi sl Q I rx hs pl pu h
  obtain ⟨a, xs, rfl, hx, q⟩ := h
  cases rx
  obtain ⟨its, r, ht, hz⟩ := I.list hx
  have hlen := r.length
  refine ⟨"list", _, slot_list_getitem.lookup, ht.isList.typeIs, ?_⟩
  refine wpAny_getItem_list_slice ht.isList hs pl pu .none (by simp) ?_ (by rw [List.size_toArray] <;> omega)
  rw [slicePick_cut, ← hlen]
  refine ⟨.ref s.heap.objs.size, _, I.laid (t' := s.toks) (o := .lst (cutV xs lo hi)) (fun b ob q => Heap.get?_push_of_some _ q) (Nat.le_refl _) ?_, rfl, q _ (I.hok.fresh (Nat.le_refl _)) (Nat.ne_of_gt I.big)⟩
  exact ⟨Nat.le_trans (cutV_length xs lo hi) hz, _, 0, (r.drop (HT.sIx xs.length 0 lo)).take (HT.sIx xs.length xs.length hi - HT.sIx xs.length 0 lo), Heap.get?_push_size _ rfl⟩
end L2

namespace My
open PySem PySem.Spec PyProof.Rows L2
/-! ### the row's text, the built-ins, the errors' classes -/
abbrev topS (i : Nat) : Stmt := PySem.Challenge.pw_heldbehind_k32_errors_of_told_lists.main.body.getD i (.Pass ⟨0, 0, 0, 0⟩)
structure Bl (mg : Str → Option Value) : Prop where
  isinstance : mg "isinstance" = none
  int : mg "int" = none
  bool : mg "bool" = none
  tuple : mg "tuple" = none
  len : mg "len" = none
  all : mg "all" = none
  enumerate : mg "enumerate" = none
  reversed : mg "reversed" = none
  sorted : mg "sorted" = none
  max : mg "max" = none
  min : mg "min" = none
  abs : mg "abs" = none
  range : mg "range" = none
  list : mg "list" = none
  repr : mg "repr" = none
  sum : mg "sum" = none
  any : mg "any" = none
  zip : mg "zip" = none
  str : mg "str" = none
  set : mg "set" = none
  dict : mg "dict" = none
structure Ex1 (K : PySem.W.Frag) (mg : Str → Option Value) (nm : Str) (C : Addr) : Prop where
  x : PySem.W.excIn K C [.type "ValueError", .type "Exception", .type "BaseException", .type "object"] "ValueError.__new__" = true
  g : mg nm = some (.ref C)
  k : PySem.W.keepIn K (.ref C) = true
  b : PySem.W.subIn K (.ref C) (.type "BaseException") = some true
  t : PySem.W.typeIn K (.ref C) = some (.type "type")
theorem passX {X : Cx} {E : XK} (tk : Takes X (fun cls d _ H => E cls d H)) : Passes (L2.CX X.prog X.w) X E := passes_call tk (fun _ _ _ _ h => h)
/-! ### what a value is -/
def tupAt (H : Hp) : V → Option (List V)
  | .ref a => match H a with
    | some (.tup xs) => some xs
    | _ => none
  | _ => none
def isInt : V → Bool
  | .int _ => true
  | _ => false
def isBl : V → Bool
  | .bl _ => true
  | _ => false
def isIdx (n : Int) : V → Bool
  | .int i => decide (0 ≤ i) && decide (i < n)
  | _ => false
inductive Vd (H : Hp) : V → Prop where
  | non : Vd H .non
  | bl (b : Bool) : Vd H (.bl b)
  | int (i : Int) : Vd H (.int i)
  | str (z : Str) : Vd H (.str z)
  | lst {a : Addr} {xs : List V} (h : H a = some (.lst xs)) : Vd H (.ref a)
  | tup {a : Addr} {xs : List V} (h : H a = some (.tup xs)) : Vd H (.ref a)
  | dK {a : Addr} {kvs : List (Key × V)} (h : H a = some (.dK kvs)) : Vd H (.ref a)
theorem Vd.same {H H' : Hp} {x : V} (v : Vd H x) (s : Same H H') : Vd H' x := by
  cases v with
  | non => exact .non
  | bl b => exact .bl b
  | int i => exact .int i
  | str z => exact .str z
  | lst h => exact .lst (s _ _ h)
  | tup h => exact .tup (s _ _ h)
  | dK h => exact .dK (s _ _ h)
theorem tupAt_tup {H : Hp} {a : Addr} {xs : List V} (h : H a = some (.tup xs)) : tupAt H (.ref a) = some xs := by simp only [tupAt, h]
theorem tupAt_lst {H : Hp} {a : Addr} {xs : List V} (h : H a = some (.lst xs)) : tupAt H (.ref a) = none := by simp only [tupAt, h]
theorem tupAt_dK {H : Hp} {a : Addr} {xs : List (Key × V)} (h : H a = some (.dK xs)) : tupAt H (.ref a) = none := by simp only [tupAt, h]
theorem Vd.ty {K : PySem.W.Frag} {H : Hp} {x : V} (v : Vd H x) : ∃ t : String, TyX K H x (.type t) ∧ kitB t "int" = some (isInt x || isBl x) ∧ kitB t "bool" = some (isBl x) ∧ kitB t "tuple" = some (tupAt H x).isSome := by
  cases v with
  | non => exact ⟨_, .base .non, (by decide +kernel : kitB "NoneType" "int" = some false), (by decide +kernel : kitB "NoneType" "bool" = some false), (by decide +kernel : kitB "NoneType" "tuple" = some false)⟩
  | bl b => exact ⟨_, .base (.bl b), (by decide +kernel : kitB "bool" "int" = some true), (by decide +kernel : kitB "bool" "bool" = some true), (by decide +kernel : kitB "bool" "tuple" = some false)⟩
  | int i => exact ⟨_, .base (.int i), (by decide +kernel : kitB "int" "int" = some true), (by decide +kernel : kitB "int" "bool" = some false), (by decide +kernel : kitB "int" "tuple" = some false)⟩
  | str z => exact ⟨_, .base (.str z), (by decide +kernel : kitB "str" "int" = some false), (by decide +kernel : kitB "str" "bool" = some false), (by decide +kernel : kitB "str" "tuple" = some false)⟩
  | lst h => exact ⟨_, .base (.lst h), (by decide +kernel : kitB "list" "int" = some false), (by decide +kernel : kitB "list" "bool" = some false), by rw [tupAt_lst h]; exact (by decide +kernel : kitB "list" "tuple" = some false)⟩
  | tup h => exact ⟨_, .base (.tup h), (by decide +kernel : kitB "tuple" "int" = some false), (by decide +kernel : kitB "tuple" "bool" = some false), by rw [tupAt_tup h]; exact (by decide +kernel : kitB "tuple" "tuple" = some true)⟩
  | dK h => exact ⟨_, .base (.dK h), (by decide +kernel : kitB "dict" "int" = some false), (by decide +kernel : kitB "dict" "bool" = some false), by rw [tupAt_dK h]; exact (by decide +kernel : kitB "dict" "tuple" = some false)⟩
/-! ### heldbehind.integers -/
def spIsInteger : Sp := fun vs H Q _ => ∃ x : V, vs = [x] ∧ Vd H x ∧ Q (.bl (isInt x)) H
def isBtw (n m : Int) : V → Bool
  | .int i => decide (n ≤ i) && decide (i ≤ m)
  | _ => false
theorem isBtw_idx (n : Int) (x : V) : isBtw 0 (n - 1) x = isIdx n x := by
  cases x with
  | int i =>
    show (decide (0 ≤ i) && decide (i ≤ n - 1)) = (decide (0 ≤ i) && decide (i < n))
    rw [show decide (i ≤ n - 1) = decide (i < n) from decide_eq_decide.mpr (by omega)]
  | _ => rfl
def spIsBetween : Sp := fun vs H Q _ => ∃ (x : V) (n m : Int), vs = [x, .int n, .int m] ∧ Vd H x ∧ Q (.bl (isBtw n m x)) H
def spIsIndex : Sp := fun vs H Q _ => ∃ (x : V) (n : Int), vs = [x, .int n] ∧ Vd H x ∧ Q (.bl (isIdx n x)) H
section
variable {P : Program} {w : World} {K : PySem.W.Frag} {mg : Str → Option Value} {base : Heap}
abbrev st_is_integer : Stmt := topS 9
abbrev N_is_integer : List Str := ["value"]
theorem sc_is_integer : FnScope N_is_integer ["value"] (defScope st_is_integer) := ⟨rfl, rfl, rfl, by decide +kernel, rfl, by decide +kernel, by decide +kernel⟩
theorem ok_is_integer (D : Df K mg "is_integer" st_is_integer ["value"]) (B : Bl mg) : Kn P w K mg base CX0 1 "is_integer" st_is_integer ["value"] spIsInteger := by
  refine D.ok sc_is_integer (fun vs H Q E h => ?_) (fun f cdv A outer s H vs Q E hr h => ?_)
  · obtain ⟨x, rfl, _⟩ := h; rfl
  obtain ⟨x, rfl, v, q⟩ := h
  refine ⟨_, ((pss_one (ps_ret (pe_and (pe_callB call_isi (by rfl) B.isinstance (by decide +kernel) (pa_cons (pv 0) (pa_cons (pe_bltn (v := .ty "int") (u := .type "int") (by rfl) B.int (by decide +kernel) rfl) pa_nil))) (pe_one (pe_not (pe_callB call_isi (by rfl) B.isinstance (by decide +kernel) (pa_cons (pv 0) (pa_cons (pe_bltn (v := .ty "bool") (u := .type "bool") (by rfl) B.bool (by decide +kernel) rfl) pa_nil))))))))), ?_⟩
  obtain ⟨t, ty, k1, k2, _⟩ := v.ty (K := K)
  refine ⟨_, rfl, _, _, _, _, _, rfl, .ty _, ty, kit_ty k1, _, rfl, ?_⟩
  cases e1 : isInt x with
  | true =>
    have e2 : isBl x = false := by cases x <;> first | rfl | cases e1
    rw [e2] at k2 ⊢
    refine iteT ⟨_, rfl, _, _, _, _, _, rfl, .ty _, ty, kit_ty k2, _, rfl, ?_⟩
    rw [e1] at q; exact q
  | false =>
    rw [e1] at q
    cases e2 : isBl x with
    | false => exact iteF q
    | true =>
      rw [e2] at k2
      exact iteT ⟨_, rfl, _, _, _, _, _, rfl, .ty _, ty, kit_ty k2, _, rfl, q⟩
abbrev st_is_between : Stmt := topS 10
abbrev N_is_between : List Str := ["value", "least", "greatest"]
theorem sc_is_between : FnScope N_is_between ["value", "least", "greatest"] (defScope st_is_between) := ⟨rfl, rfl, rfl, by decide +kernel, rfl, by decide +kernel, by decide +kernel⟩
theorem ok_is_between (D : Df K mg "is_between" st_is_between ["value", "least", "greatest"]) (B : Bl mg) (Kis_integer : Kn P w K mg base CX0 1 "is_integer" st_is_integer ["value"] spIsInteger) :
    Kn P w K mg base CX0 2 "is_between" st_is_between ["value", "least", "greatest"] spIsBetween := by
  refine D.ok sc_is_between (fun vs H Q E h => ?_) (fun f cdv A outer s H vs Q E hr h => ?_)
  · obtain ⟨x, n, m, rfl, _⟩ := h; rfl
  obtain ⟨x, n, m, rfl, v, q⟩ := h
  refine ⟨_, ((pss_one (ps_ret (pe_and (pe_callF Kis_integer (hr.mono (by decide)) pass0 (pa_cons (pv 0) pa_nil)) (pe_one (pe_chain op_le op_le (pv 1) (pv 0) (pv 2))))))), ?_⟩
  refine ⟨_, rfl, _, rfl, v, _, rfl, ?_⟩
  cases x with
  | int i =>
    refine iteT ⟨_, rfl, _, rfl, _, _, rfl, rfl, _, rfl, ?_⟩
    have q' : Q (.bl (decide (n ≤ i) && decide (i ≤ m))) H := q
    refine ite2 (fun c => ?_) (fun c => ?_)
    · rw [c, Bool.true_and] at q'
      exact ⟨_, rfl, _, _, rfl, rfl, q'⟩
    · rw [Bool.eq_false_iff.mpr c, Bool.false_and] at q'
      exact q'
  | _ => exact iteF q
abbrev st_is_index : Stmt := topS 11
abbrev N_is_index : List Str := ["value", "many"]
theorem sc_is_index : FnScope N_is_index ["value", "many"] (defScope st_is_index) := ⟨rfl, rfl, rfl, by decide +kernel, rfl, by decide +kernel, by decide +kernel⟩
theorem ok_is_index (D : Df K mg "is_index" st_is_index ["value", "many"]) (B : Bl mg) (Kis_between : Kn P w K mg base CX0 2 "is_between" st_is_between ["value", "least", "greatest"] spIsBetween) :
    Kn P w K mg base CX0 3 "is_index" st_is_index ["value", "many"] spIsIndex := by
  refine D.ok sc_is_index (fun vs H Q E h => ?_) (fun f cdv A outer s H vs Q E hr h => ?_)
  · obtain ⟨x, n, rfl, _⟩ := h; rfl
  obtain ⟨x, n, rfl, v, q⟩ := h
  refine ⟨_, ((pss_one (ps_ret (pe_callF Kis_between (hr.mono (by decide)) pass0 (pa_cons (pv 0) (pa_cons pe_int (pa_cons (pe_op op_sub (pv 1) pe_int) pa_nil))))))), ?_⟩
  refine ⟨_, rfl, _, rfl, _, _, rfl, rfl, x, 0, n - 1, rfl, v, ?_⟩
  rw [isBtw_idx]
  exact q
end

/-! ### forests as lists of holders -/
def hv : Option Nat → V
  | none => .non
  | some u => .int (u : Int)
abbrev Hs := List (Option Nat)
def nv (l : List Nat) : List V := l.map fun v : Nat => V.int (v : Int)
def kidsTo (hs : Hs) (u i : Nat) : List Nat := (List.range i).filter fun v => decide (hs[v]? = some (some u))
def rootsTo (hs : Hs) (i : Nat) : List Nat := (List.range i).filter fun v => decide (hs[v]? = some none)
def kids (hs : Hs) (u : Nat) : List Nat := kidsTo hs u hs.length
def roots (hs : Hs) : List Nat := rootsTo hs hs.length
theorem kidsTo_succ (hs : Hs) (u i : Nat) : kidsTo hs u (i + 1) = kidsTo hs u i ++ (if hs[i]? = some (some u) then [i] else []) := by
  unfold kidsTo
  rw [List.range_succ, List.filter_append]
  by_cases h : hs[i]? = some (some u) <;> simp [h]
theorem rootsTo_succ (hs : Hs) (i : Nat) : rootsTo hs (i + 1) = rootsTo hs i ++ (if hs[i]? = some none then [i] else []) := by
  unfold rootsTo
  rw [List.range_succ, List.filter_append]
  by_cases h : hs[i]? = some none <;> simp [h]
theorem mem_kids {hs : Hs} {u v : Nat} : v ∈ kids hs u ↔ hs[v]? = some (some u) := by
  unfold kids kidsTo
  rw [List.mem_filter, List.mem_range, decide_eq_true_eq]
  exact ⟨fun h => h.2, fun h => ⟨(List.getElem?_eq_some_iff.mp h).1, h⟩⟩
theorem mem_roots {hs : Hs} {v : Nat} : v ∈ roots hs ↔ hs[v]? = some none := by
  unfold roots rootsTo
  rw [List.mem_filter, List.mem_range, decide_eq_true_eq]
  exact ⟨fun h => h.2, fun h => ⟨(List.getElem?_eq_some_iff.mp h).1, h⟩⟩
theorem nodup_kids (hs : Hs) (u : Nat) : (kids hs u).Nodup := List.nodup_range.filter _
theorem nodup_roots (hs : Hs) : (roots hs).Nodup := List.nodup_range.filter _
theorem kidsTo_len (hs : Hs) (u i : Nat) : (kidsTo hs u i).length ≤ i := by
  have h := List.length_filter_le (fun v => decide (hs[v]? = some (some u))) (List.range i)
  rw [List.length_range] at h; exact h
theorem rootsTo_len (hs : Hs) (i : Nat) : (rootsTo hs i).length ≤ i := by
  have h := List.length_filter_le (fun v => decide (hs[v]? = some none)) (List.range i)
  rw [List.length_range] at h; exact h
theorem nv_append (a b : List Nat) : nv (a ++ b) = nv a ++ nv b := List.map_append
theorem nv_length (a : List Nat) : (nv a).length = a.length := List.length_map _
theorem nv_get {a : List Nat} {i v : Nat} (h : a[i]? = some v) : (nv a)[i]? = some (.int (v : Int)) := by
  unfold nv; rw [List.getElem?_map, h]; rfl
theorem hv_get {hs : Hs} {i : Nat} {x : V} (h : (hs.map hv)[i]? = some x) : ∃ o, hs[i]? = some o ∧ x = hv o := by
  rw [List.getElem?_map] at h
  cases e : hs[i]? with
  | none => rw [e] at h; cases h
  | some o => rw [e] at h; exact ⟨o, rfl, (Option.some.inj h).symm⟩
theorem hv_at {hs : Hs} {i : Nat} {o : Option Nat} (h : hs[i]? = some o) : (hs.map hv)[i]? = some (hv o) := by rw [List.getElem?_map, h]; rfl
theorem szl {n : Nat} (h : n ≤ 1000) : n < sizeLine := small1000 h
/-! ### heldbehind.forests: the private lists -/
def spWithout (K : PySem.W.Frag) : Sp := fun vs H Q _ => ∃ (a : Addr) (hs : Hs), vs = [.ref a] ∧ SqT K H a (hs.map hv) ∧ hs.length ≤ 1000 ∧
  ∀ p H', Same H H' → H p = none → H' p = some (.lst (nv (roots hs))) → Q (.ref p) H'
section
variable {P : Program} {w : World} {K : PySem.W.Frag} {mg : Str → Option Value} {base : Heap}
abbrev st__without_holder : Stmt := topS 19
abbrev N__without_holder : List Str := ["forest", "thing", "holder"]
theorem sc__without_holder : FnScope N__without_holder ["forest"] (defScope st__without_holder) := ⟨rfl, rfl, rfl, by decide +kernel, rfl, by decide +kernel, by decide +kernel⟩
theorem ok__without_holder (D : Df K mg "_without_holder" st__without_holder ["forest"]) (B : Bl mg) : Kn P w K mg base CX0 1 "_without_holder" st__without_holder ["forest"] (spWithout K) := by
  refine D.ok sc__without_holder (fun vs H Q E h => ?_) (fun f cdv A outer s H vs Q E hr h => ?_)
  · obtain ⟨a, hs, rfl, _⟩ := h; rfl
  obtain ⟨a, hs, rfl, hS, hn, q⟩ := h
  refine ⟨_, ((pss_one (ps_ret (pe_lc (own := [("thing", 1), ("holder", 2)]) (g := gTup K 2 (gCons (gName 1) (gCons (gName 2) gNil))) rfl sc__without_holder.nd (pi_enumT (by rfl) B.enumerate (pa_cons (pv 0) pa_nil)) (blkOk_by (N := N__without_holder) (sc := defScope st__without_holder) (own := [("thing", 1), ("holder", 2)]) (by decide +kernel)) (fun _ _ _ _ _ => by (refine pg_tup (n := 2) ?hc ?h ?hn ?hst; (case hc => rfl); (case hn => rfl); (case hst => rfl); case h => (refine pgs_cons ?g1 ?g2; (case g1 => exact (pg_name (i := 1) sc__without_holder.nd rfl (Or.inl rfl))); case g2 => (refine pgs_cons ?g1 ?g2; (case g1 => exact (pg_name (i := 2) sc__without_holder.nd rfl (Or.inl rfl))); case g2 => (exact pgs_nil))))) (fun _ _ _ _ _ => by exact (pts_one (pt_cmpR op_isN (pv 2) pe_non (nomark _)))) (fun _ _ _ _ _ => by exact (pv 1)))))), ?_⟩
  refine ⟨_, rfl, a, _, rfl, hS, fun D hD => lc_it (walk_enumT (xs := hs.map hv)) (fun i H' => Same H H' ∧ H' D = some (.lst (nv (rootsTo hs i)))) ⟨(Same.refl H).new hD, upd_same⟩ (fun i H' _ p => p.1.tseq hS) ?_ ?_⟩
  · rintro i x H1 H2 hi ⟨s1, hD1⟩ ⟨T, x1, x2, rfl, hT, rfl, e1, e2⟩
    have e1' := Option.some.inj e1; subst e1'
    obtain ⟨o, ho, rfl⟩ := hv_get e2
    have hDT : D ≠ T := ne_of_none hD1 hT
    refine ⟨T, _, rfl, SqT.of upd_same, rfl, _, _, rfl, _, _, rfl, rfl, rfl, _, rfl, rfl, _, rfl, ?_⟩
    have s2 : Same H (upd H1 T (.tup [.int (i : Int), hv o])) := s1.new hT
    have hi' : (rootsTo hs i).length ≤ i := rootsTo_len hs i
    have hil : i < hs.length := (List.getElem?_eq_some_iff.mp ho).1
    have hD2 : upd H1 T (.tup [.int (i : Int), hv o]) D = some (.lst (nv (rootsTo hs i))) := by rw [upd_ne hDT]; exact hD1
    refine ite2 (fun c => ?_) (fun c => ?_)
    · have eo : o = none := by
        cases o with
        | none => rfl
        | some u => exact absurd (of_decide_eq_true c) (by intro z; cases z)
      refine ⟨_, rfl, _, hD2, by rw [nv_length]; exact szl (by omega), s2.upd hD, ?_⟩
      rw [upd_same, rootsTo_succ, ho, eo, if_pos rfl, nv_append]; rfl
    · have eo : ¬ some o = some none := by intro z; cases z; exact c rfl
      refine ⟨s2, ?_⟩
      rw [hD2, rootsTo_succ, ho, if_neg eo, List.append_nil]
  · rintro H1 ⟨s1, hD1⟩
    refine q D H1 s1 hD ?_
    rw [hD1, List.length_map]; rfl
end

def InB (hs : Hs) : Prop := ∀ v u : Nat, hs[v]? = some (some u) → u < hs.length
structure HeldTo (H : Hp) (p : Addr) (as : List Addr) (hs : Hs) (i : Nat) : Prop where
  lst : H p = some (.lst (as.map V.ref))
  len : as.length = hs.length
  nd : as.Nodup
  at_ : ∀ (j : Nat) (c : Addr), as[j]? = some c → H c = some (.lst (nv (kidsTo hs j i)))
abbrev HeldAt (H : Hp) (p : Addr) (as : List Addr) (hs : Hs) : Prop := HeldTo H p as hs hs.length
theorem HeldTo.same {H H' : Hp} {p : Addr} {as : List Addr} {hs : Hs} {i : Nat} (h : HeldTo H p as hs i) (s : Same H H') : HeldTo H' p as hs i :=
  ⟨s _ _ h.lst, h.len, h.nd, fun j c e => s _ _ (h.at_ j c e)⟩
theorem nodup_at {as : List Addr} (nd : as.Nodup) {i j : Nat} {c : Addr} (h1 : as[i]? = some c) (h2 : as[j]? = some c) : i = j := by
  obtain ⟨l1, e1⟩ := List.getElem?_eq_some_iff.mp h1
  obtain ⟨l2, e2⟩ := List.getElem?_eq_some_iff.mp h2
  exact (List.getElem_inj nd).mp (e1.trans e2.symm)
/-- nothing is held by a thing beyond the turns: the turn of a thing without a holder -/
theorem HeldTo.skip {H : Hp} {p : Addr} {as : List Addr} {hs : Hs} {i : Nat} (h : HeldTo H p as hs i) (e : hs[i]? = some none) : HeldTo H p as hs (i + 1) :=
  ⟨h.lst, h.len, h.nd, fun j c q => by
    have z : ¬ hs[i]? = some (some j) := by rw [e]; intro w; cases w
    rw [kidsTo_succ, if_neg z, List.append_nil]; exact h.at_ j c q⟩
theorem HeldTo.put {H : Hp} {p c : Addr} {as : List Addr} {hs : Hs} {i u : Nat} (h : HeldTo H p as hs i) (e : hs[i]? = some (some u)) (hc : as[u]? = some c) :
    HeldTo (upd H c (.lst (nv (kidsTo hs u i) ++ [.int (i : Int)]))) p as hs (i + 1) := by
  have hcl := h.at_ u c hc
  have hpc : p ≠ c := by
    intro z
    have q := h.lst
    rw [z, hcl] at q
    have q2 := HO.lst.inj (Option.some.inj q)
    have hl : as ≠ [] := by intro w; rw [w] at hc; cases hc
    cases as with
    | nil => exact hl rfl
    | cons a0 r =>
      cases hk : kidsTo hs u i with
      | nil => rw [hk] at q2; cases q2
      | cons k0 kr => rw [hk] at q2; cases q2
  refine ⟨by rw [upd_ne hpc]; exact h.lst, h.len, h.nd, fun j c' q => ?_⟩
  by_cases hj : j = u
  · subst hj
    have ec : c' = c := Option.some.inj (q.symm.trans hc)
    subst ec
    rw [upd_same, kidsTo_succ, if_pos e, nv_append]; rfl
  · have ec : c' ≠ c := fun z => hj (nodup_at h.nd q (by rw [z]; exact hc))
    have z : ¬ hs[i]? = some (some j) := by rw [e]; intro w; cases w; exact hj rfl
    rw [upd_ne ec, kidsTo_succ, if_neg z, List.append_nil]; exact h.at_ j c' q
def spHeld (K : PySem.W.Frag) : Sp := fun vs H Q _ => ∃ (a : Addr) (hs : Hs), vs = [.ref a] ∧ SqT K H a (hs.map hv) ∧ hs.length ≤ 1000 ∧ InB hs ∧
  ∀ p as H', Same H H' → H p = none → (∀ c ∈ as, H c = none) → HeldAt H' p as hs → Q (.ref p) H'
section
variable {P : Program} {w : World} {K : PySem.W.Frag} {mg : Str → Option Value} {base : Heap}
abbrev st__held_lists : Stmt := topS 20
abbrev N__held_lists : List Str := ["forest", "held", "thing", "holder", "_"]
theorem sc__held_lists : FnScope N__held_lists ["forest"] (defScope st__held_lists) := ⟨rfl, rfl, rfl, by decide +kernel, rfl, by decide +kernel, by decide +kernel⟩
theorem ok__held_lists (D : Df K mg "_held_lists" st__held_lists ["forest"]) (B : Bl mg) : Kn P w K mg base CX0 1 "_held_lists" st__held_lists ["forest"] (spHeld K) := by
  refine D.ok sc__held_lists (fun vs H Q E h => ?_) (fun f cdv A outer s H vs Q E hr h => ?_)
  · obtain ⟨a, hs, rfl, _⟩ := h; rfl
  obtain ⟨a, hs, rfl, hS, hn, hin, q⟩ := h
  refine ⟨_, ((pss_cons (ps_setLc (i := 1) (own := [("_", 4)]) (g := gName 4) rfl sc__held_lists.nd rfl rfl (sw_true rfl rfl rfl (by decide +kernel)) (pi_tup (pv 0)) (blkOk_by (N := N__held_lists) (sc := defScope st__held_lists) (own := [("_", 4)]) (by decide +kernel)) (fun _ _ _ _ _ => by (exact (pg_name (i := 4) sc__held_lists.nd rfl (Or.inl rfl)))) (fun _ _ _ _ _ => by exact pts_nil) (fun _ _ _ _ _ => by exact (pe_lst pa_nil)))
      (pss_cons (ps_for PassesOwn.never rfl (pi_enumT (by rfl) B.enumerate (pa_cons (pv 0) pa_nil)) (pg_tup rfl (pgs_cons (pg_name (i := 2) sc__held_lists.nd rfl (Or.inl rfl)) (pgs_cons (pg_name (i := 3) sc__held_lists.nd rfl (Or.inl rfl)) pgs_nil))) (pss_one (ps_if (pt_cmpR op_notN (pv 3) pe_non (nomark _)) (pss_one (ps_expr (pe_bm PySem.F.plainAttrs_list PySem.F.slot_list_append PySem.F.type_list_append mt_append (pe_ix ix_list (pv 1) (pv 3) (fun _ _ => rfl)) (pa_cons (pv 2) pa_nil)))) pss_nil)))
      (pss_one (ps_ret (pv 1)))))), ?_⟩
  refine ⟨_, rfl, a, rfl, ⟨_, hS⟩, fun D hD => lc_it (walk_tup (xs := hs.map hv)) (fun i H' => Same H H' ∧ ∃ as : List Addr, as.length = i ∧ as.Nodup ∧ H' D = some (.lst (as.map V.ref)) ∧ ∀ c ∈ as, H' c = some (.lst []) ∧ H c = none ∧ c ≠ D)
    ⟨(Same.refl H).new hD, [], rfl, List.nodup_nil, upd_same, fun c hc => by cases hc⟩ (fun i H' _ p => p.1.tseq hS) ?_ ?_⟩
  · rintro i x H1 H2 hi ⟨s1, as, hlen, nd, hD1, hcs⟩ ⟨rfl, e1⟩
    rw [List.length_map] at hi
    refine ⟨rfl, ⟨by show 0 ≤ sizeLine; decide, fun p hp => ?_⟩⟩
    have hDp : D ≠ p := ne_of_none hD1 hp
    have hpn : H p = none := s1.free hp
    refine ⟨_, by rw [upd_ne hDp]; exact hD1, by rw [List.length_map]; exact szl (by omega), (s1.upd hpn).upd hD, as ++ [p], ?_, ?_, ?_, ?_⟩
    · rw [List.length_append, hlen]; rfl
    · refine List.nodup_append.mpr ⟨nd, by simp, fun x hx y hy => ?_⟩
      have ey : y = p := by simpa using hy
      rw [ey]
      exact ne_of_none (hcs x hx).1 hp
    · rw [upd_same, List.map_append]; rfl
    · intro c hc
      rcases List.mem_append.mp hc with hc | hc
      · obtain ⟨c1, c2, c3⟩ := hcs c hc
        exact ⟨by rw [upd_ne c3, upd_ne (ne_of_none c1 hp)]; exact c1, c2, c3⟩
      · have ec : c = p := by simpa using hc
        rw [ec]
        exact ⟨by rw [upd_ne hDp.symm, upd_same], hpn, hDp.symm⟩
  · rintro H1 ⟨s1, as, hlen, nd, hD1, hcs⟩
    rw [List.length_map] at hlen
    have h0 : HeldTo H1 D as hs 0 := ⟨hD1, hlen, nd, fun j c e => (hcs c (List.mem_of_getElem? e)).1⟩
    refine ⟨_, rfl, a, _, rfl, s1.tseq hS, for_it (walk_enumT (xs := hs.map hv)) (fun i σ H' => ∃ v2 v3, σ = [some (.ref a), some (.ref D), v2, v3, none] ∧ Same H H' ∧ HeldTo H' D as hs i)
      ⟨none, none, rfl, s1, h0⟩ (fun i σ H' _ p => by obtain ⟨_, _, _, p, _⟩ := p; exact p.tseq hS) ?_ ?_⟩
    · rintro i x σ H2 H3 hi ⟨v2, v3, rfl, s2, hh⟩ ⟨T, x1, x2, rfl, hT, rfl, e1, e2⟩
      have e1' := Option.some.inj e1; subst e1'
      obtain ⟨o, ho, rfl⟩ := hv_get e2
      have s3 : Same H2 (upd H2 T (.tup [.int (i : Int), hv o])) := (Same.refl _).new hT
      have hh3 := hh.same s3
      refine ⟨T, _, rfl, SqT.of upd_same, rfl, _, _, rfl, _, _, rfl, rfl, _, rfl, rfl, _, rfl, ?_⟩
      cases o with
      | none => exact iteF ⟨_, _, rfl, s2.trans s3, hh3.skip ho⟩
      | some u =>
        have hu := hin i u ho
        have hil : i < hs.length := (List.getElem?_eq_some_iff.mp ho).1
        obtain ⟨c, hc⟩ : ∃ c, as[u]? = some c := ⟨as[u]'(by rw [hlen]; exact hu), List.getElem?_eq_getElem _⟩
        have hc2 : (as.map V.ref)[u]? = some (.ref c) := by rw [List.getElem?_map, hc]; rfl
        have hcl := hh3.at_ u c hc
        have hk := kidsTo_len hs u i
        refine iteT ⟨_, rfl, _, rfl, D, _, _, _, rfl, rfl, SqL.of hh3.lst, atI_nat hc2, .inl ⟨rfl, _, SqL.of hcl⟩, _, rfl, c, _, _, rfl, rfl, hcl, by rw [nv_length]; exact szl (by omega), ?_⟩
        exact ⟨_, _, rfl, (s2.trans s3).upd (hcs c (List.mem_of_getElem? hc)).2.1, hh3.put ho hc⟩
    · rintro σ H2 ⟨v2, v3, rfl, s2, hh⟩
      rw [List.length_map] at hh
      exact ⟨_, rfl, q D as H2 s2 hD (fun c hc => (hcs c hc).2.1) hh⟩
end

theorem nodup_len : ∀ (n : Nat) (l : List Nat), l.Nodup → (∀ v ∈ l, v < n) → l.length ≤ n
  | 0, l, _, h => by
    cases l with
    | nil => exact Nat.le_refl _
    | cons a r => exact absurd (h a List.mem_cons_self) (Nat.not_lt_zero _)
  | n + 1, l, nd, h => by
    by_cases hm : n ∈ l
    · have h1 : (l.erase n).Nodup := nd.erase n
      have h2 : ∀ v ∈ l.erase n, v < n := fun v hv => by
        have h3 := h v (List.mem_of_mem_erase hv)
        have h4 : v ≠ n := fun e => by
          rw [e] at hv
          exact (List.Nodup.not_mem_erase nd) hv
        omega
      have ih := nodup_len n _ h1 h2
      have hl := List.length_erase_of_mem hm
      have hp := List.length_pos_of_mem hm
      omega
    · have ih := nodup_len n l nd fun v hv => by
        have h3 := h v hv
        have h4 : v ≠ n := fun e => hm (e ▸ hv)
        omega
      omega
/-- how far a walk has come: found, and what is waiting (its last one next) -/
structure WT (hs : Hs) (st : List Nat) (Rn : Nat → Prop) (found wait : List Nat) : Prop where
  nd : (found ++ wait).Nodup
  ok : ∀ v ∈ found ++ wait, v < hs.length ∧ Rn v ∧ (v ∈ st ∨ ∃ u ∈ found, hs[v]? = some (some u))
  sm : ∀ v ∈ st, v ∈ found ++ wait
  cl : ∀ v u : Nat, hs[v]? = some (some u) → u ∈ found → v ∈ found ++ wait
  od : ∀ i v : Nat, found[i]? = some v → v ∈ st ∨ ∃ j u : Nat, j < i ∧ found[j]? = some u ∧ hs[v]? = some (some u)
  pr : ∀ pre : Nat → List Nat, (∀ v, Rn v → pre v = v :: (kids hs v).flatMap pre) → found ++ wait.reverse.flatMap pre = st.flatMap pre
structure Starts (hs : Hs) (st : List Nat) (Rn : Nat → Prop) : Prop where
  nd : st.Nodup
  ok : ∀ s ∈ st, s < hs.length ∧ Rn s
  down : ∀ v u : Nat, hs[v]? = some (some u) → Rn u → Rn v
  no : ∀ s ∈ st, ∀ u : Nat, hs[s]? = some (some u) → ¬ Rn u
theorem WT.start {hs : Hs} {st : List Nat} {Rn : Nat → Prop} (S : Starts hs st Rn) : WT hs st Rn [] st.reverse where
  nd := by rw [List.nil_append]; exact (List.reverse_perm st).nodup_iff.mpr S.nd
  ok := fun v hv => by
    rw [List.nil_append, List.mem_reverse] at hv
    exact ⟨(S.ok v hv).1, (S.ok v hv).2, .inl hv⟩
  sm := fun v hv => by rw [List.nil_append, List.mem_reverse]; exact hv
  cl := fun v u _ hu => by cases hu
  od := fun i v e => by cases e
  pr := fun pre _ => by rw [List.nil_append, List.reverse_reverse]
theorem WT.step {hs : Hs} {st : List Nat} {Rn : Nat → Prop} {found w : List Nat} {t : Nat} (S : Starts hs st Rn) (h : WT hs st Rn found (w ++ [t])) : WT hs st Rn (found ++ [t]) (w ++ (kids hs t).reverse) := by
  have ht : t ∈ found ++ (w ++ [t]) := by simp
  have htf : t ∉ found := fun z => by
    have q := h.nd
    rw [List.nodup_append] at q
    exact q.2.2 t z t (by simp) rfl
  have hRt := (h.ok t ht).2.1
  have hno : ∀ v ∈ found ++ (w ++ [t]), hs[v]? ≠ some (some t) := fun v hv e => by
    rcases (h.ok v hv).2.2 with z | ⟨u, hu, z⟩
    · exact S.no v z t e hRt
    · rw [e] at z
      cases z
      exact htf hu
  have mem : ∀ v, v ∈ (found ++ [t]) ++ (w ++ (kids hs t).reverse) ↔ v ∈ found ++ (w ++ [t]) ∨ v ∈ kids hs t := fun v => by
    simp only [List.mem_append, List.mem_singleton, List.mem_reverse]
    constructor
    · rintro ((a | a) | (a | a))
      · exact .inl (.inl a)
      · exact .inl (.inr (.inr a))
      · exact .inl (.inr (.inl a))
      · exact .inr a
    · rintro ((a | (a | a)) | a)
      · exact .inl (.inl a)
      · exact .inr (.inl a)
      · exact .inl (.inr a)
      · exact .inr (.inr a)
  refine ⟨?_, fun v hv => ?_, fun v hv => (mem v).mpr (.inl (h.sm v hv)), fun v u e hu => ?_, fun i v e => ?_, fun pre hp => ?_⟩
  · have p : ((found ++ [t]) ++ (w ++ (kids hs t).reverse)).Perm ((found ++ (w ++ [t])) ++ kids hs t) := by
      have p1 : ((found ++ [t]) ++ w).Perm (found ++ (w ++ [t])) := by
        rw [List.append_assoc]
        exact List.Perm.append_left found List.perm_append_comm
      rw [← List.append_assoc]
      exact p1.append (List.reverse_perm _)
    refine p.nodup_iff.mpr (List.nodup_append.mpr ⟨h.nd, nodup_kids hs t, fun x hx y hy e => ?_⟩)
    subst e
    exact hno x hx (mem_kids.mp hy)
  · rcases (mem v).mp hv with z | z
    · obtain ⟨a, b, c⟩ := h.ok v z
      refine ⟨a, b, ?_⟩
      rcases c with c | ⟨u, hu, e⟩
      · exact .inl c
      · exact .inr ⟨u, List.mem_append_left _ hu, e⟩
    · have e := mem_kids.mp z
      exact ⟨(List.getElem?_eq_some_iff.mp e).1, S.down v t e hRt, .inr ⟨t, by simp, e⟩⟩
  · rcases List.mem_append.mp hu with z | z
    · exact (mem v).mpr (.inl (h.cl v u e z))
    · have eu : u = t := by simpa using z
      rw [eu] at e
      exact (mem v).mpr (.inr (mem_kids.mpr e))
  · by_cases hi : i < found.length
    · rw [List.getElem?_append_left hi] at e
      rcases h.od i v e with z | ⟨j, u, hj, e1, e2⟩
      · exact .inl z
      · exact .inr ⟨j, u, hj, by rw [List.getElem?_append_left (by omega)]; exact e1, e2⟩
    · have hi2 : found.length ≤ i := by omega
      rw [List.getElem?_append_right hi2] at e
      have hz : i - found.length = 0 := by
        cases hk : i - found.length with
        | zero => rfl
        | succ k => rw [hk] at e; cases e
      rw [hz] at e
      have ev : t = v := Option.some.inj e
      subst ev
      rcases (h.ok t ht).2.2 with z | ⟨u, hu, e2⟩
      · exact .inl z
      · obtain ⟨j, ej⟩ := List.getElem?_of_mem hu
        have hj := (List.getElem?_eq_some_iff.mp ej).1
        exact .inr ⟨j, u, by omega, by rw [List.getElem?_append_left hj]; exact ej, e2⟩
  · have q := h.pr pre hp
    rw [← q, List.reverse_append, List.reverse_append, List.reverse_reverse]
    show _ = found ++ (t :: w.reverse).flatMap pre
    rw [List.flatMap_cons, hp t hRt, List.flatMap_append]
    simp
theorem WT.room {hs : Hs} {st : List Nat} {Rn : Nat → Prop} {found w : List Nat} {t : Nat} (h : WT hs st Rn found (w ++ [t])) : found.length < hs.length ∧ (w.length + 1) ≤ hs.length := by
  have q := nodup_len hs.length _ h.nd fun v hv => (h.ok v hv).1
  rw [List.length_append, List.length_append] at q
  have e : [t].length = 1 := rfl
  omega
theorem WT.lens {hs : Hs} {st : List Nat} {Rn : Nat → Prop} {found wait : List Nat} (h : WT hs st Rn found wait) : found.length + wait.length ≤ hs.length := by
  have q := nodup_len hs.length _ h.nd fun v hv => (h.ok v hv).1
  rw [List.length_append] at q
  exact q
def spWalkT (K : PySem.W.Frag) : Sp := fun vs H Q _ => ∃ (p q : Addr) (as : List Addr) (hs : Hs) (st : List Nat) (Rn : Nat → Prop), vs = [.ref p, .ref q] ∧ HeldAt H p as hs ∧ SqL K H q (nv st) ∧ hs.length ≤ 1000 ∧ Starts hs st Rn ∧
  ∀ r l H', Same H H' → H r = none → H' r = some (.lst (nv l)) → WT hs st Rn l [] → Q (.ref r) H'
theorem snoc_of {α : Type} {l : List α} (h : 0 < l.length) : ∃ w t, l = w ++ [t] := by
  have hne : l ≠ [] := by
    intro e; subst e; exact absurd h (Nat.lt_irrefl 0)
  refine ⟨l.dropLast, l.getLast hne, ?_⟩
  exact (List.dropLast_concat_getLast _).symm
section
variable {P : Program} {w : World} {K : PySem.W.Frag} {mg : Str → Option Value} {base : Heap}
abbrev st__walk_through : Stmt := topS 21
abbrev N__walk_through : List Str := ["held", "starts", "found", "waiting", "thing"]
theorem sc__walk_through : FnScope N__walk_through ["held", "starts"] (defScope st__walk_through) := ⟨rfl, rfl, rfl, by decide +kernel, rfl, by decide +kernel, by decide +kernel⟩
theorem ok__walk_through (D : Df K mg "_walk_through" st__walk_through ["held", "starts"]) (B : Bl mg) : Kn P w K mg base CX0 1 "_walk_through" st__walk_through ["held", "starts"] (spWalkT K) := by
  refine D.ok sc__walk_through (fun vs H Q E h => ?_) (fun f cdv A outer s H vs Q E hr h => ?_)
  · obtain ⟨p, q, as, hs, st, Rn, rfl, _⟩ := h; rfl
  obtain ⟨p, q, as, hs, st, Rn, rfl, hA, hq, hn, S, k⟩ := h
  refine ⟨_, ((pss_cons (ps_set (i := 2) sc__walk_through.nd rfl (Or.inl rfl) (pe_lst pa_nil))
      (pss_cons (ps_set (i := 3) sc__walk_through.nd rfl (Or.inl rfl) (pe_revL (pv 1)))
      (pss_cons (ps_while PassesOwn.never (pt_cmpR op_gt (pe_callB call_len (by rfl) B.len (by decide +kernel) (pa_cons (pv 3) pa_nil)) pe_int (nomark _)) (pss_cons (ps_set (i := 4) sc__walk_through.nd rfl (Or.inl rfl) (pe_bm0 PySem.F.plainAttrs_list PySem.F.slot_list_pop PySem.F.type_list_pop mt_pop (pv 3)))
      (pss_cons (ps_expr (pe_bm PySem.F.plainAttrs_list PySem.F.slot_list_append PySem.F.type_list_append mt_append (pv 2) (pa_cons (pv 4) pa_nil)))
      (pss_one (ps_expr (pe_bm PySem.F.plainAttrs_list PySem.F.slot_list_extend PySem.F.type_list_extend mt_extend (pv 3) (pa_cons (pe_revL (pe_ix ix_list (pv 0) (pv 4) (fun _ _ => rfl))) pa_nil)))))))
      (pss_one (ps_ret (pv 2))))))), ?_⟩
  refine ⟨by show 0 ≤ sizeLine; decide, fun F hF => ?_⟩
  have s1 : Same H (upd H F (.lst [])) := (Same.refl H).new hF
  refine ⟨_, rfl, q, _, rfl, s1.seq hq, fun W hW => ?_⟩
  have hFW : F ≠ W := ne_of_none upd_same hW
  have hWn : H W = none := s1.free hW
  refine ⟨fun m σ H' => ∃ found wait v4, σ = [some (.ref p), some (.ref q), some (.ref F), some (.ref W), v4] ∧ Same H H' ∧ H' F = some (.lst (nv found)) ∧ H' W = some (.lst (nv wait)) ∧ WT hs st Rn found wait ∧ m = hs.length - found.length,
    ⟨_, [], st.reverse, none, rfl, s1.upd hWn, by rw [upd_ne hFW, upd_same]; rfl, ?_, WT.start S, rfl⟩, ?_⟩
  · rw [upd_same]
    unfold nv
    rw [List.map_reverse]
  · rintro m σ H' ⟨found, wait, v4, rfl, s2, hF2, hW2, hwt, rfl⟩
    refine ⟨_, rfl, _, _, rfl, .inl ⟨_, SqL.of hW2, rfl⟩, _, _, rfl, rfl, _, rfl, ?_⟩
    refine ite2 (fun c => ?_) (fun c => ?_)
    · have hpos : 0 < wait.length := by
        have c' := of_decide_eq_true c
        rw [nv_length] at c'
        omega
      obtain ⟨w', t, rfl⟩ := snoc_of hpos
      have hroom := hwt.room
      have hlens := (hwt.step S).lens
      rw [List.length_append, List.length_append, List.length_reverse] at hlens
      have h1 : [t].length = 1 := rfl
      refine ⟨fun σ' H' => ∃ m', m' < hs.length - found.length ∧ ∃ found wait v4, σ' = [some (.ref p), some (.ref q), some (.ref F), some (.ref W), v4] ∧ Same H H' ∧ H' F = some (.lst (nv found)) ∧ H' W = some (.lst (nv wait)) ∧ WT hs st Rn found wait ∧ m' = hs.length - found.length, fun _ _ h => h, ?_⟩
      -- thing = waiting.pop()
      refine ⟨_, rfl, .inl ⟨rfl, _, SqL.of hW2⟩, W, _, .int (t : Int), rfl, rfl, hW2, ?_, ?_⟩
      · rw [nv_append, List.length_append]
        show (nv w' ++ [V.int (t : Int)])[(nv w').length + 1 - 1]? = _
        simp
      have hW3 : upd H' W (.lst (nv (w' ++ [t])).dropLast) W = some (.lst (nv w')) := by
        rw [upd_same, nv_append]
        show some (HO.lst (nv w' ++ [V.int (t : Int)]).dropLast) = _
        rw [List.dropLast_concat]
      have hF3 : upd H' W (.lst (nv (w' ++ [t])).dropLast) F = some (.lst (nv found)) := by rw [upd_ne hFW]; exact hF2
      have s3 : Same H (upd H' W (.lst (nv (w' ++ [t])).dropLast)) := s2.upd hWn
      generalize upd H' W (.lst (nv (w' ++ [t])).dropLast) = H3 at hW3 hF3 s3 ⊢
      -- found.append(thing)
      refine ⟨_, rfl, .inl ⟨rfl, _, SqL.of hF3⟩, _, rfl, F, _, _, rfl, rfl, hF3, by rw [nv_length]; exact szl (by omega), ?_⟩
      have hF4 : upd H3 F (.lst (nv found ++ [V.int (t : Int)])) F = some (.lst (nv (found ++ [t]))) := by rw [upd_same, nv_append]; rfl
      have hW4 : upd H3 F (.lst (nv found ++ [V.int (t : Int)])) W = some (.lst (nv w')) := by rw [upd_ne hFW.symm]; exact hW3
      have s4 : Same H (upd H3 F (.lst (nv found ++ [V.int (t : Int)]))) := s3.upd hF
      generalize upd H3 F (.lst (nv found ++ [V.int (t : Int)])) = H4 at hF4 hW4 s4 ⊢
      -- waiting.extend(held[thing][::-1])
      have hA4 := hA.same s4
      have htl : t < hs.length := (hwt.ok t (by simp)).1
      obtain ⟨c2, hc2⟩ : ∃ c2, as[t]? = some c2 := ⟨as[t]'(by rw [hA.len]; exact htl), List.getElem?_eq_getElem _⟩
      have hc3 : (as.map V.ref)[t]? = some (.ref c2) := by rw [List.getElem?_map, hc2]; rfl
      refine ⟨_, rfl, .inl ⟨rfl, _, SqL.of hW4⟩, _, rfl, _, rfl, p, _, _, _, rfl, rfl, SqL.of hA4.lst, atI_nat hc3, c2, _, rfl, SqL.of (hA4.at_ t c2 hc2), fun R hR => ?_⟩
      have hWR : W ≠ R := ne_of_none hW4 hR
      have hFR : F ≠ R := ne_of_none hF4 hR
      refine ⟨W, R, _, _, rfl, rfl, by rw [upd_ne hWR]; exact hW4, upd_same, ?_, ?_⟩
      · rw [List.length_reverse, nv_length, nv_length]
        exact Nat.le_of_lt (szl (by show w'.length + (kids hs t).length ≤ 1000; omega))
      · refine ⟨_, ?_, found ++ [t], w' ++ (kids hs t).reverse, _, rfl, (s4.upd (s4.free hR)).upd hWn, by rw [upd_ne hFW, upd_ne hFR]; exact hF4, ?_, hwt.step S, rfl⟩
        · rw [List.length_append, h1]; omega
        · rw [upd_same, nv_append]
          congr 2
          unfold nv
          rw [List.map_reverse]; rfl
    · have hz : wait = [] := by
        cases wait with
        | nil => rfl
        | cons a r =>
          refine absurd (decide_eq_true ?_) c
          rw [nv_length, List.length_cons]; omega
      subst hz
      exact ⟨_, rfl, k F found H' s2 hF hF2 hwt⟩
end

inductive Rch (hs : Hs) : Nat → Prop where
  | root {v : Nat} (h : hs[v]? = some none) : Rch hs v
  | step {v u : Nat} (h : hs[v]? = some (some u)) (r : Rch hs u) : Rch hs v
/-- a forest as a list of holders -/
structure Fo (hs : Hs) : Prop where
  ne : hs ≠ []
  inb : InB hs
  all : ∀ v : Nat, v < hs.length → Rch hs v
theorem starts_roots (hs : Hs) : Starts hs (roots hs) (Rch hs) where
  nd := nodup_roots hs
  ok := fun s h => ⟨(List.getElem?_eq_some_iff.mp (mem_roots.mp h)).1, .root (mem_roots.mp h)⟩
  down := fun _ _ e r => .step e r
  no := fun s h u e => by rw [mem_roots.mp h] at e; cases e
theorem WT.all_found {hs : Hs} {l : List Nat} {Rn : Nat → Prop} (h : WT hs (roots hs) Rn l []) {v : Nat} (r : Rch hs v) : v ∈ l := by
  have z : ∀ w, w ∈ l ++ [] → w ∈ l := fun w q => by rw [List.append_nil] at q; exact q
  induction r with
  | root e => exact z _ (h.sm _ (mem_roots.mpr e))
  | step e _ ih => exact z _ (h.cl _ _ e ih)
theorem mem_of_full : ∀ (n : Nat) (l : List Nat), l.Nodup → (∀ v ∈ l, v < n) → l.length = n → ∀ v, v < n → v ∈ l := fun n l nd h e v hv => by
  refine Classical.byContradiction fun hm => ?_
  have q := nodup_len n (v :: l) (List.nodup_cons.mpr ⟨hm, nd⟩) fun w hw => by
    rcases List.mem_cons.mp hw with rfl | hw
    · exact hv
    · exact h w hw
  rw [List.length_cons] at q
  omega
theorem nodup_sub : ∀ (a l : List Nat), a.Nodup → (∀ v ∈ a, v ∈ l) → a.length ≤ l.length
  | [], l, _, _ => Nat.zero_le _
  | x :: r, l, nd, h => by
    have hx := h x List.mem_cons_self
    have ih := nodup_sub r (l.erase x) (List.nodup_cons.mp nd).2 fun v hv => by
      have hne : v ≠ x := fun e => (List.nodup_cons.mp nd).1 (e ▸ hv)
      exact (List.mem_erase_of_ne hne).mpr (h v (List.mem_cons_of_mem _ hv))
    have hl := List.length_erase_of_mem hx
    have hp := List.length_pos_of_mem hx
    rw [List.length_cons]
    omega
def holdOk (n : Int) : V → Bool
  | .non => true
  | x => isIdx n x
def toHold : V → Option Nat
  | .int i => some i.toNat
  | _ => none
theorem holds_of {n : Nat} : ∀ (xs : List V), (xs.all fun y => holdOk (n : Int) y) = true → xs = (xs.map toHold).map hv ∧ ∀ v u : Nat, (xs.map toHold)[v]? = some (some u) → u < n
  | [], _ => ⟨rfl, fun v u h => by simp at h⟩
  | x :: xs, h => by
    rw [List.all_cons, Bool.and_eq_true] at h
    obtain ⟨e, z⟩ := holds_of xs h.2
    have hx : x = hv (toHold x) ∧ ∀ u, toHold x = some u → u < n := by
      cases x with
      | non => exact ⟨rfl, fun u w => by cases w⟩
      | int i =>
        have c : (decide (0 ≤ i) && decide (i < (n : Int))) = true := h.1
        rw [Bool.and_eq_true, decide_eq_true_eq, decide_eq_true_eq] at c
        refine ⟨?_, fun u w => ?_⟩
        · show V.int i = V.int ((i.toNat : Nat) : Int)
          congr 1; omega
        · have w' := Option.some.inj w
          omega
      | _ => exact absurd (show false = true from h.1) Bool.false_ne_true
    refine ⟨?_, fun v u w => ?_⟩
    · rw [List.map_cons, List.map_cons, ← e, ← hx.1]
    · cases v with
      | zero => exact hx.2 u (Option.some.inj w)
      | succ v => exact z v u w
theorem holdOk_hv {hs : Hs} (h : InB hs) : ((hs.map hv).all fun y => holdOk (hs.length : Int) y) = true := by
  rw [List.all_eq_true]
  intro y hy
  obtain ⟨o, ho, rfl⟩ := List.mem_map.mp hy
  cases o with
  | none => rfl
  | some u =>
    obtain ⟨v, hv'⟩ := List.getElem?_of_mem ho
    have q := h v u hv'
    show (decide (0 ≤ (u : Int)) && decide ((u : Int) < (hs.length : Int))) = true
    rw [Bool.and_eq_true, decide_eq_true_eq, decide_eq_true_eq]
    omega
theorem hv_inj : ∀ {a b : Hs}, a.map hv = b.map hv → a = b
  | [], [], _ => rfl
  | [], _ :: _, h => by cases h
  | _ :: _, [], h => by cases h
  | x :: a, y :: b, h => by
    rw [List.map_cons, List.map_cons] at h
    injection h with h1 h2
    have e := hv_inj h2
    have e1 : x = y := by
      cases x with
      | none => cases y with
        | none => rfl
        | some u => cases h1
      | some v => cases y with
        | none => cases h1
        | some u =>
          have q := V.int.inj h1
          congr 1; omega
    rw [e, e1]
def IsF (H : Hp) (x : V) : Prop := ∃ hs : Hs, tupAt H x = some (hs.map hv) ∧ Fo hs
/-- what is_forest may be asked: a value whose tuple's items are told too -/
structure Askd (H : Hp) (x : V) : Prop where
  vd : Vd H x
  items : ∀ xs, tupAt H x = some xs → xs.length ≤ 1000 ∧ ∀ y ∈ xs, Vd H y
theorem tupAt_ref {H : Hp} {x : V} {xs : List V} (h : tupAt H x = some xs) : ∃ a, x = .ref a ∧ H a = some (.tup xs) := by
  cases x with
  | ref a =>
    refine ⟨a, rfl, ?_⟩
    cases e : H a with
    | none => simp only [tupAt, e] at h; cases h
    | some o =>
      cases o with
      | tup ys => simp only [tupAt, e] at h; rw [Option.some.inj h]
      | _ => simp only [tupAt, e] at h; cases h
  | _ => cases h
def spIsForest : Sp := fun vs H Q _ => ∃ x : V, vs = [x] ∧ Askd H x ∧ ∀ b H', Same H H' → (b = true ↔ IsF H x) → Q (.bl b) H'
section
variable {P : Program} {w : World} {K : PySem.W.Frag} {mg : Str → Option Value} {base : Heap}
abbrev st_is_forest : Stmt := topS 15
abbrev N_is_forest : List Str := ["value", "holder"]
theorem sc_is_forest : FnScope N_is_forest ["value"] (defScope st_is_forest) := ⟨rfl, rfl, rfl, by decide +kernel, rfl, by decide +kernel, by decide +kernel⟩
theorem ok_is_forest (D : Df K mg "is_forest" st_is_forest ["value"]) (B : Bl mg) (Kis_index : Kn P w K mg base CX0 3 "is_index" st_is_index ["value", "many"] spIsIndex)
    (K_without_holder : Kn P w K mg base CX0 1 "_without_holder" st__without_holder ["forest"] (spWithout K)) (K_held_lists : Kn P w K mg base CX0 1 "_held_lists" st__held_lists ["forest"] (spHeld K))
    (K_walk_through : Kn P w K mg base CX0 1 "_walk_through" st__walk_through ["held", "starts"] (spWalkT K)) : Kn P w K mg base CX0 4 "is_forest" st_is_forest ["value"] spIsForest := by
  refine D.ok sc_is_forest (fun vs H Q E h => ?_) (fun f cdv A outer s H vs Q E hr h => ?_)
  · obtain ⟨x, rfl, _⟩ := h; rfl
  obtain ⟨x, rfl, ask, q⟩ := h
  refine ⟨_, ((pss_cons (ps_if (PW.pt (pw_or (pt_not (pt_val (pe_callB call_isi (by rfl) B.isinstance (by decide +kernel) (pa_cons (pv 0) (pa_cons (pe_bltn (v := .ty "tuple") (u := .type "tuple") (by rfl) B.tuple (by decide +kernel) rfl) pa_nil))))) (pw_or1 (pt_cmpR op_eq (pe_callB call_len (by rfl) B.len (by decide +kernel) (pa_cons (pv 0) pa_nil)) pe_int (nomark _))))) (pss_one (ps_ret pe_bl)) pss_nil)
      (pss_cons (ps_if (pt_not (pt_val (pe_callB (cr_all rfl) (by rfl) B.all (by decide +kernel) (pa_cons (pe_lc (own := [("holder", 1)]) (g := gName 1) rfl sc_is_forest.nd (pi_tup (pv 0)) (blkOk_by (N := N_is_forest) (sc := defScope st_is_forest) (own := [("holder", 1)]) (by decide +kernel)) (fun _ _ _ _ _ => by (exact (pg_name (i := 1) sc_is_forest.nd rfl (Or.inl rfl)))) (fun _ _ _ _ _ => by exact pts_nil) (fun _ _ _ _ _ => by exact (pe_or (pe_cmpR op_isN (pv 1) pe_non (nomark _)) (pe_one (pe_callF Kis_index (hr.mono (by decide)) pass0 (pa_cons (pv 1) (pa_cons (pe_callB (call_lenK K) (by rfl) B.len (by decide +kernel) (pa_cons (pv 0) pa_nil)) pa_nil))))))) pa_nil)))) (pss_one (ps_ret pe_bl)) pss_nil)
      (pss_one (ps_ret (pe_cmpR op_eq (pe_callB call_len (by rfl) B.len (by decide +kernel) (pa_cons (pe_callF K_walk_through (hr.mono (by decide)) pass0 (pa_cons (pe_callF K_held_lists (hr.mono (by decide)) pass0 (pa_cons (pv 0) pa_nil)) (pa_cons (pe_callF K_without_holder (hr.mono (by decide)) pass0 (pa_cons (pv 0) pa_nil)) pa_nil))) pa_nil)) (pe_callB call_len (by rfl) B.len (by decide +kernel) (pa_cons (pv 0) pa_nil)) (nomark _))))))), ?_⟩
  obtain ⟨t, ty, _, _, k3⟩ := ask.vd.ty (K := K)
  refine ⟨_, rfl, _, _, _, _, _, rfl, .ty _, ty, kit_ty k3, _, rfl, ?_⟩
  have no : (¬ IsF H x) → ∀ H', Same H H' → Q (.bl false) H' := fun hn H' s' => q false H' s' ⟨fun z => absurd z Bool.false_ne_true, fun z => absurd z hn⟩
  cases e : tupAt H x with
  | none =>
    refine iteT (iteT ?_)
    exact no (fun ⟨hs, z, _⟩ => by rw [e] at z; cases z) H (Same.refl H)
  | some xs =>
    obtain ⟨a, rfl, ha⟩ := tupAt_ref e
    obtain ⟨hlen, hvd⟩ := ask.items xs e
    refine iteF ⟨_, rfl, _, _, rfl, .inr ⟨_, SqT.of ha, rfl⟩, rfl, _, rfl, ?_⟩
    refine ite2 (fun c => ?_) (fun c => ?_)
    · refine no (fun ⟨hs, z, fo⟩ => ?_) H (Same.refl H)
      rw [e] at z
      have z' := Option.some.inj z
      have c' := of_decide_eq_true c
      have c2 := V.int.inj c'
      rw [z', List.length_map] at c2
      exact fo.ne (List.eq_nil_of_length_eq_zero (by omega))
    · -- all([..])
      refine ⟨_, rfl, a, rfl, ⟨_, SqT.of ha⟩, fun L hL => lc_it (walk_tup (xs := xs)) (fun i H' => Same H H' ∧ H' L = some (.lst ((xs.take i).map fun y => V.bl (holdOk (xs.length : Int) y))))
        ⟨(Same.refl H).new hL, upd_same⟩ (fun i H' _ p => p.1.tseq (SqT.of ha)) ?_ ?_⟩
      · rintro i y H1 H2 hi ⟨s1, hL1⟩ ⟨rfl, e1⟩
        have hvy := (hvd y (List.mem_of_getElem? e1)).same s1
        have fin : ∃ acc, H2 L = some (.lst acc) ∧ acc.length < sizeLine ∧ (Same H (upd H2 L (.lst (acc ++ [V.bl (holdOk (xs.length : Int) y)]))) ∧ upd H2 L (.lst (acc ++ [V.bl (holdOk (xs.length : Int) y)])) L = some (.lst ((xs.take (i + 1)).map fun y => V.bl (holdOk (xs.length : Int) y)))) := by
          refine ⟨_, hL1, ?_, s1.upd hL, ?_⟩
          · rw [List.length_map, List.length_take]; exact szl (by omega)
          · rw [upd_same, List.take_add_one, e1]
            show _ = some (HO.lst (((xs.take i) ++ [y]).map _))
            rw [List.map_append]; rfl
        refine ⟨rfl, _, rfl, rfl, _, rfl, ?_⟩
        cases y with
        | non => exact iteT fin
        | _ =>
          refine iteF ⟨_, rfl, _, rfl, _, _, rfl, .inr ⟨_, s1.tseq (SqT.of ha), rfl⟩, _, _, rfl, hvy, ?_⟩
          exact fin
      · rintro H1 ⟨s1, hL1⟩
        rw [List.take_length] at hL1
        refine ⟨L, (xs.map fun y => holdOk (xs.length : Int) y), rfl, SqL.of (by rw [hL1, List.map_map]; rfl), _, rfl, ?_⟩
        have eall : (xs.map fun y => holdOk (xs.length : Int) y).all id = xs.all fun y => holdOk (xs.length : Int) y := by rw [List.all_map]; rfl
        rw [eall]
        cases ea : xs.all fun y => holdOk (xs.length : Int) y with
        | false =>
          refine iteT (no (fun ⟨hs, z, fo⟩ => ?_) H1 s1)
          rw [e] at z
          have z' := Option.some.inj z
          have w := holdOk_hv fo.inb
          rw [z', List.length_map, w] at ea
          cases ea
        | true =>
          refine iteF ?_
          obtain ⟨ex, hb⟩ := holds_of xs ea
          have hlh : (xs.map toHold).length = xs.length := List.length_map _
          rw [← hlh] at hb
          have hS1 : SqT K H1 a ((xs.map toHold).map hv) := by rw [← ex]; exact s1.tseq (SqT.of ha)
          generalize hhs : xs.map toHold = hs at ex hb hlh hS1
          have e' : tupAt H (.ref a) = some (hs.map hv) := by rw [e, ex]
          -- len(_walk_through(..)) == len(value)
          refine ⟨_, rfl, a, hs, rfl, hS1, by omega, hb, fun p as H2 s2 hp hpc hA => ?_⟩
          refine ⟨_, rfl, a, hs, rfl, s2.tseq hS1, by omega, fun p2 H3 s3 hp2 hr2 => ?_⟩
          refine ⟨p, p2, as, hs, roots hs, Rch hs, rfl, hA.same s3, SqL.of hr2, by omega, starts_roots hs, fun r l H4 s4 hr4 hl4 hwt => ?_⟩
          refine ⟨_, _, rfl, .inl ⟨_, SqL.of hl4, rfl⟩, _, rfl, _, _, rfl, .inr ⟨_, s4.tseq (s3.tseq (s2.tseq hS1)), rfl⟩, rfl, ?_⟩
          refine q _ _ (((s1.trans s2).trans s3).trans s4) ⟨fun z => ?_, fun z => ?_⟩
          · have z2 := V.int.inj (of_decide_eq_true z)
            rw [nv_length, List.length_map] at z2
            have c3 : ¬ V.int (xs.length : Int) = V.int 0 := fun w => c (decide_eq_true w)
            refine ⟨hs, e', ?_, hb, fun v hv' => ?_⟩
            · intro w
              rw [w] at hlh
              exact c3 (by rw [← hlh]; rfl)
            · have hl2 : l.length = hs.length := by omega
              have nd2 := hwt.nd
              rw [List.append_nil] at nd2
              have hlt : ∀ w ∈ l, w < hs.length := fun w hw => (hwt.ok w (by rw [List.append_nil]; exact hw)).1
              have hm := mem_of_full hs.length l nd2 hlt hl2 v hv'
              exact (hwt.ok v (by rw [List.append_nil]; exact hm)).2.1
          · obtain ⟨hs', z1, fo⟩ := z
            rw [e'] at z1
            have eh := hv_inj (Option.some.inj z1)
            subst eh
            refine decide_eq_true ?_
            rw [nv_length, List.length_map]
            have h1 := hwt.lens
            rw [List.length_nil] at h1
            have h2 : hs.length ≤ l.length := by
              have q2 := nodup_sub (List.range hs.length) l List.nodup_range fun v hv' => hwt.all_found (fo.all v (List.mem_range.mp hv'))
              rw [List.length_range] at q2; exact q2
            have h3 : l.length = hs.length := by omega
            rw [h3]
end

end My

namespace My
open PySem PySem.Spec PyProof.Rows L2
/-! ### the law's well of numbers -/
structure Well (H : Hp) (wl : Addr) (n : Nat) : Prop where
  ex : ∃ a b c : Int, H wl = some (.lst [.int a, .int b, .int c]) ∧ 0 ≤ a ∧ 0 ≤ b ∧ b.natAbs < 2 ^ 200 ∧ 0 ≤ c ∧ c ≤ (n : Int)
theorem Well.mono {H : Hp} {wl : Addr} {n m : Nat} (h : Well H wl n) (l : n ≤ m) : Well H wl m := by
  obtain ⟨a, b, c, e, h1, h2, h3, h4, h5⟩ := h.ex
  exact ⟨a, b, c, e, h1, h2, h3, h4, by omega⟩
theorem Well.same {H H' : Hp} {wl : Addr} {n : Nat} (h : Well H wl n) (s : Same H H') : Well H' wl n := by
  obtain ⟨a, b, c, e, r⟩ := h.ex
  exact ⟨a, b, c, s _ _ e, r⟩
theorem Well.here {H : Hp} {wl : Addr} {n : Nat} (h : Well H wl n) : ∃ l, H wl = some (.lst l) := by
  obtain ⟨a, b, c, e, r⟩ := h.ex
  exact ⟨_, e⟩
def spWell (K : PySem.W.Frag) : Sp := fun vs H Q _ => ∃ (a : Addr) (ns : List Int) (i : Nat), vs = [.ref a, .int (i : Int)] ∧ SqL K H a (ns.map V.int) ∧ i < 64 ∧ ∀ p H', Same H H' → H p = none → Well H' p 0 → Q (.ref p) H'
def spDraw : Sp := fun vs H Q _ => ∃ (wl : Addr) (n : Nat) (m : Int), vs = [.ref wl, .int m] ∧ Well H wl n ∧ n < 2 ^ 60 ∧ 1 ≤ m ∧ m.natAbs < 2 ^ 100 ∧ ∀ d H', 0 ≤ d → d < m → Keep wl H H' → Well H' wl (n + 1) → Q (.int d) H'
theorem mul_small {i j : Int} (h : -(2 ^ 64) < i ∧ i < 2 ^ 64) : CMul i j := .inl h
theorem mod_abs {x m : Int} {b : Nat} (h0 : 0 < m) (h : m.natAbs < 2 ^ b) : (x % m).natAbs < 2 ^ b := by
  have h1 := Int.emod_nonneg x (show m ≠ 0 by omega)
  have h2 := Int.emod_lt_of_pos x h0
  omega
theorem cpow10 {k : Int} (h0 : 0 ≤ k) (h : k ≤ 1000) : CPowW 10 k := by
  refine ⟨h0, ?_⟩
  have e : (Builtin.Int.intBits 10 : Int) = 4 := by decide
  have e2 : (2 : Int) ^ 27 = 134217728 := by decide
  rw [e, e2]; omega
section
variable {P : Program} {w : World} {K : PySem.W.Frag} {mg : Str → Option Value} {base : Heap}
abbrev st__law_draw : Stmt := topS 37
abbrev N__law_draw : List Str := ["well", "most", "digit", "blend"]
theorem sc__law_draw : FnScope N__law_draw ["well", "most"] (defScope st__law_draw) := ⟨rfl, rfl, rfl, by decide +kernel, rfl, by decide +kernel, by decide +kernel⟩
theorem ok__law_draw (D : Df K mg "_law_draw" st__law_draw ["well", "most"]) (B : Bl mg) : Kn P w K mg base CX0 1 "_law_draw" st__law_draw ["well", "most"] spDraw := by
  refine D.ok sc__law_draw (fun vs H Q E h => ?_) (fun f cdv A outer s H vs Q E hr h => ?_)
  · obtain ⟨wl, n, m, rfl, _⟩ := h; rfl
  obtain ⟨wl, n, m, rfl, hw, hn, h1, hm, q⟩ := h
  refine ⟨_, ((pss_cons (ps_if (pt_cmpR op_gt (pe_ix ix_list (pv 0) pe_int (fun _ _ => rfl)) pe_int (nomark _)) (pss_cons (ps_set (i := 2) sc__law_draw.nd rfl (Or.inl rfl) (pe_op op_mod (pe_callTy call_int1 (by rfl) B.int (by decide +kernel) (pa_cons (pe_ix ix_list (pv 0) pe_int (fun _ _ => rfl)) pa_nil)) (pv 1)))
      (pss_cons (ps_asg (pe_op op_fdivW (pe_ix ix_list (pv 0) pe_int (fun _ _ => rfl)) (pv 1)) (pg_sub (pv 0) pe_int set_list))
      (pss_one (ps_ret (pv 2))))) pss_nil)
      (pss_cons (ps_asg (pe_op op_add (pe_ix ix_list (pv 0) pe_int (fun _ _ => rfl)) pe_int) (pg_sub (pv 0) pe_int set_list))
      (pss_cons (ps_set (i := 3) sc__law_draw.nd rfl (Or.inl rfl) (pe_op op_mod (pe_op op_powW (pe_callTy call_int1 (by rfl) B.int (by decide +kernel) (pa_cons (pe_op op_add (pe_ix ix_list (pv 0) pe_int (fun _ _ => rfl)) (pe_op op_mul pe_int (pe_ix ix_list (pv 0) pe_int (fun _ _ => rfl)))) pa_nil)) pe_int) (pe_op op_add (pe_op op_powW pe_int pe_int) pe_int)))
      (pss_cons (ps_set (i := 3) sc__law_draw.nd rfl (Or.inl rfl) (pe_op op_mod (pe_op op_powW (pe_callTy call_int1 (by rfl) B.int (by decide +kernel) (pa_cons (pe_op op_add (pv 3) (pe_op op_mul pe_int (pe_ix ix_list (pv 0) pe_int (fun _ _ => rfl)))) pa_nil)) pe_int) (pe_op op_add (pe_op op_powW pe_int pe_int) pe_int)))
      (pss_one (ps_ret (pe_op op_mod (pe_callTy call_int1 (by rfl) B.int (by decide +kernel) (pa_cons (pe_op op_fdivW (pv 3) pe_int) pa_nil)) (pv 1))))))))), ?_⟩
  obtain ⟨a, b, c, e, ha, hb, hb2, hc, hc2⟩ := hw.ex
  have g0 : ∀ {H' : Hp} {x y z : V}, H' wl = some (.lst [x, y, z]) → SqL K H' wl [x, y, z] := fun h => SqL.of h
  -- if well[0] > 0
  refine ⟨_, rfl, wl, _, _, _, rfl, rfl, g0 e, rfl, _, _, rfl, rfl, _, rfl, ?_⟩
  refine ite2 (fun c1 => ?_) (fun c1 => ?_)
  · -- digit = int(well[0]) % most; well[0] = well[0] // most; return digit
    refine ⟨_, rfl, wl, _, _, _, rfl, rfl, g0 e, rfl, .inl ⟨_, rfl, _, rfl, _, _, rfl, rfl, by show (0 : Int) < m; omega, ?_⟩⟩
    refine ⟨_, rfl, wl, _, _, _, rfl, rfl, g0 e, rfl, _, rfl, _, _, rfl, rfl, wide_div (by omega) hm (by decide) (by decide), ?_⟩
    refine ⟨_, rfl, wl, _, _, 0, rfl, rfl, e, rfl, ?_⟩
    refine ⟨_, rfl, q _ _ (Int.emod_nonneg a (by omega)) (Int.emod_lt_of_pos a (by omega)) (Keep.upd _ _ _) ⟨a / m, b, c, upd_same, Int.ediv_nonneg ha (by omega), hb, hb2, hc, by omega⟩⟩
  · -- well[2] = well[2] + 1
    refine ⟨_, rfl, wl, _, _, _, rfl, rfl, g0 e, rfl, _, _, rfl, rfl, ?_⟩
    refine ⟨_, rfl, wl, _, _, 2, rfl, rfl, e, rfl, ?_⟩
    have e2 : upd H wl (.lst (([V.int a, V.int b, V.int c]).set 2 (V.int (c + 1)))) wl = some (.lst [V.int a, V.int b, V.int (c + 1)]) := upd_same
    have k2 : Keep wl H (upd H wl (.lst (([V.int a, V.int b, V.int c]).set 2 (V.int (c + 1))))) := Keep.upd _ _ _
    have w2 : Well (upd H wl (.lst (([V.int a, V.int b, V.int c]).set 2 (V.int (c + 1))))) wl (n + 1) := ⟨a, b, c + 1, e2, ha, hb, hb2, by omega, by omega⟩
    generalize upd H wl (.lst (([V.int a, V.int b, V.int c]).set 2 (V.int (c + 1)))) = H2 at e2 k2 w2 ⊢
    have p60 : (2 : Nat) ^ 60 = 1152921504606846976 := by decide
    have p64 : (2 : Int) ^ 64 = 18446744073709551616 := by decide
    have p200 : (2 : Nat) ^ 200 = 1606938044258990275541962092341162602522202993782792835301376 := by decide +kernel
    have p201 : (2 : Nat) ^ 201 = 3213876088517980551083924184682325205044405987565585670602752 := by decide +kernel
    have b1 : (b + 715827883 * (c + 1)).natAbs < 2 ^ 201 := by omega
    have m1 : (10 : Int) ^ (41 : Int).toNat + 109 = 100000000000000000000000000000000000000109 := by decide +kernel
    have m2 : (10 : Int) ^ (39 : Int).toNat + 3 = 1000000000000000000000000000000000000003 := by decide +kernel
    -- blend = int(well[1] + 715827883 * well[2]) ** 3 % (10 ** 41 + 109)
    refine ⟨_, rfl, wl, _, _, _, rfl, rfl, g0 e2, rfl, _, rfl, wl, _, _, _, rfl, rfl, g0 e2, rfl, _, _, rfl, rfl, mul_small ⟨by rw [p64]; decide, by rw [p64]; decide⟩, _, _, rfl, rfl, .inl ⟨_, rfl, _, _, rfl, rfl, cpow3 b1 (by decide) (by decide),
      _, _, rfl, rfl, cpow10 (by decide) (by decide), _, _, rfl, rfl, _, _, rfl, rfl, by rw [m1]; show (0 : Int) < 100000000000000000000000000000000000000109; decide, ?_⟩⟩
    rw [m1]
    have b2 : ∀ x : Int, 0 ≤ x → x < 100000000000000000000000000000000000000109 → (x + 198491317 * (c + 1)).natAbs < 2 ^ 201 := fun x h h' => by omega
    have b3 : ∀ z : Int, (z % 100000000000000000000000000000000000000109 + 198491317 * (c + 1)).natAbs < 2 ^ 201 := fun z => b2 _ (Int.emod_nonneg _ (by decide)) (Int.emod_lt_of_pos _ (by decide))
    -- blend = int(blend + 198491317 * well[2]) ** 3 % (10 ** 39 + 3)
    refine ⟨_, rfl, _, rfl, wl, _, _, _, rfl, rfl, g0 e2, rfl, _, _, rfl, rfl, mul_small ⟨by rw [p64]; decide, by rw [p64]; decide⟩, _, _, rfl, rfl, .inl ⟨_, rfl, _, _, rfl, rfl, cpow3 (b3 _) (by decide) (by decide),
      _, _, rfl, rfl, cpow10 (by decide) (by decide), _, _, rfl, rfl, _, _, rfl, rfl, by rw [m2]; show (0 : Int) < 1000000000000000000000000000000000000003; decide, ?_⟩⟩
    rw [m2]
    -- return int(blend // 1048576) % most
    refine ⟨_, rfl, _, _, rfl, rfl, ⟨by decide, by decide +kernel⟩, .inl ⟨_, rfl, _, rfl, _, _, rfl, rfl, by omega, ?_⟩⟩
    exact q _ _ (Int.emod_nonneg _ (by omega)) (Int.emod_lt_of_pos _ (by omega)) k2 w2
abbrev st__law_well : Stmt := topS 36
abbrev N__law_well : List Str := ["script", "at", "cell"]
theorem sc__law_well : FnScope N__law_well ["script", "at"] (defScope st__law_well) := ⟨rfl, rfl, rfl, by decide +kernel, rfl, by decide +kernel, by decide +kernel⟩
theorem ok__law_well (D : Df K mg "_law_well" st__law_well ["script", "at"]) (B : Bl mg) : Kn P w K mg base CX0 1 "_law_well" st__law_well ["script", "at"] (spWell K) := by
  refine D.ok sc__law_well (fun vs H Q E h => ?_) (fun f cdv A outer s H vs Q E hr h => ?_)
  · obtain ⟨a, ns, i, rfl, _⟩ := h; rfl
  obtain ⟨a, ns, i, rfl, hS, hi, q⟩ := h
  refine ⟨_, ((pss_cons (ps_set (i := 2) sc__law_well.nd rfl (Or.inl rfl) (pe_ifExp (pt_cmpR op_lt (pv 1) (pe_callB call_len (by rfl) B.len (by decide +kernel) (pa_cons (pv 0) pa_nil)) (nomark _)) (pe_ix ix_list (pv 0) (pv 1) (fun _ _ => rfl)) pe_int))
      (pss_one (ps_ret (pe_lst (pa_cons (pe_callB (call_max2 rfl) (by rfl) B.max (by decide +kernel) (pa_cons pe_int (pa_cons (pe_op op_sub (pe_callB call_abs (by rfl) B.abs (by decide +kernel) (pa_cons (pv 2) pa_nil)) (pe_op op_powW pe_int pe_int)) pa_nil))) (pa_cons (pe_op op_add (pe_op op_add (pe_op op_mul (pe_op op_mod (pe_callTy call_int1 (by rfl) B.int (by decide +kernel) (pa_cons (pv 2) pa_nil)) (pe_op op_add (pe_op op_powW pe_int pe_int) pe_int)) pe_int) (pe_op op_mul pe_int (pv 1))) pe_int) (pa_cons pe_int pa_nil)))))))), ?_⟩
  have p64 : (2 : Int) ^ 64 = 18446744073709551616 := by decide
  have m1 : (10 : Int) ^ (37 : Int).toNat + 141 = 10000000000000000000000000000000000141 := by decide +kernel
  have p200 : (2 : Nat) ^ 200 = 1606938044258990275541962092341162602522202993782792835301376 := by decide +kernel
  -- what follows once the cell is known
  have rest : ∀ cell : Int, (tRet (tLst (tCons (tCB (fun xs H Q => ∃ i j, xs = [V.int i, V.int j] ∧ Q (.int (if j > i then j else i)) H) (tCons (tC (.int 0)) (tCons (tOp (rI0 fun i j => .int (i - j)) (tCB (fun xs H Q => ∃ i, xs = [V.int i] ∧ Q (.int (if i < 0 then -i else i)) H) (tCons (tVar 2) tNil)) (tOp (rI CPowW fun i j => .int (i ^ j.toNat)) (tC (.int 10)) (tC (.int 18)))) tNil)))
      (tCons (tOp (rI0 fun i j => .int (i + j)) (tOp (rI0 fun i j => .int (i + j)) (tOp (rI CMul fun i j => .int (i * j)) (tOp (rI (fun _ j => 0 < j) fun i j => .int (i % j)) (tCB (fun xs H Q => (∃ i, xs = [V.int i] ∧ Q (.int i) H) ∨ ∃ k, xs = [V.bl k] ∧ Q (.int (if k then 1 else 0)) H) (tCons (tVar 2) tNil)) (tOp (rI0 fun i j => .int (i + j)) (tOp (rI CPowW fun i j => .int (i ^ j.toNat)) (tC (.int 10)) (tC (.int 37))) (tC (.int 141)))) (tC (.int 101))) (tOp (rI CMul fun i j => .int (i * j)) (tC (.int 67)) (tVar 1))) (tC (.int 41)))
        (tCons (tC (.int 0)) tNil))))) { nx := fun _ H' => Q .non H', rt := Q } [some (.ref a), some (.int (i : Int)), some (.int cell)] H := fun cell => by
    refine ⟨_, rfl, _, rfl, _, _, rfl, rfl, cpow10 (by decide) (by decide), _, _, rfl, rfl, _, _, rfl, ?_⟩
    refine ⟨_, rfl, .inl ⟨_, rfl, _, _, rfl, rfl, cpow10 (by decide) (by decide), _, _, rfl, rfl, _, _, rfl, rfl, by rw [m1]; show (0 : Int) < 10000000000000000000000000000000000141; decide, _, _, rfl, rfl, .inr ⟨by decide, by decide⟩, _, rfl, _, _, rfl, rfl, .inl ⟨by decide, by decide⟩, _, _, rfl, rfl, _, _, rfl, rfl, by show 3 ≤ sizeLine; decide, fun p hp => ?_⟩⟩
    rw [m1]
    have x0 : 0 ≤ cell % 10000000000000000000000000000000000141 := Int.emod_nonneg _ (by decide)
    have x1 : cell % 10000000000000000000000000000000000141 < 10000000000000000000000000000000000141 := Int.emod_lt_of_pos _ (by decide)
    refine q p _ ((Same.refl H).new hp) hp ⟨_, _, 0, upd_same, ?_, ?_, ?_, Int.le_refl _, Int.le_refl _⟩
    · split <;> omega
    · omega
    · omega
  refine ⟨_, rfl, _, rfl, _, _, rfl, .inl ⟨_, hS, rfl⟩, _, _, rfl, rfl, _, rfl, ?_⟩
  refine ite2 (fun c1 => ?_) (fun c1 => ?_)
  · have hl : i < (ns.map V.int).length := by
      have c2 := of_decide_eq_true c1
      omega
    have hl2 : i < ns.length := by rw [List.length_map] at hl; exact hl
    refine ⟨_, rfl, _, rfl, a, _, _, _, rfl, rfl, hS, atI_nat (v := V.int ns[i]) (by rw [List.getElem?_map, List.getElem?_eq_getElem hl2]; rfl), ?_⟩
    exact rest _
  · exact rest 0
end

/-! ### a drawn forest: the mathematics -/
theorem walk_range0 {n : Nat} : Walk (Itr 0 n) n (fun _ => True) (YFn fun i => .int (i : Int)) :=
  (walk_range (lo := 0)).mono (fun _ h => h) fun i H x H' _ _ y => ⟨y.1, by rw [y.2]; show V.int (0 + (i : Int)) = V.int (i : Int); rw [Int.zero_add]⟩
def LtF (l : Hs) : Prop := ∀ j u : Nat, l[j]? = some (some u) → u < j
theorem LtF.snoc {l : Hs} {o : Option Nat} (h : LtF l) (ho : ∀ u, o = some u → u < l.length) : LtF (l ++ [o]) := fun j u e => by
  by_cases hj : j < l.length
  · rw [List.getElem?_append_left hj] at e; exact h j u e
  · have hj2 : l.length ≤ j := by omega
    rw [List.getElem?_append_right hj2] at e
    by_cases hz : j - l.length = 0
    · rw [hz] at e
      have q := ho u (Option.some.inj e)
      omega
    · obtain ⟨k, hk⟩ := Nat.exists_eq_succ_of_ne_zero hz
      rw [hk] at e; cases e
theorem fo_plain {l : Hs} (hne : l ≠ []) (h : LtF l) : Fo l := by
  refine ⟨hne, fun v u e => ?_, fun v hv => ?_⟩
  · have h1 := h v u e
    have h2 := (List.getElem?_eq_some_iff.mp e).1
    omega
  · induction v using Nat.strongRecOn with
    | _ v ih =>
      cases e : l[v]? with
      | none => rw [List.getElem?_eq_none_iff] at e; omega
      | some o =>
        cases o with
        | none => exact .root e
        | some u =>
          have q := h v u e
          exact .step e (ih u q (by omega))
def ren (nm : List Nat) : Option Nat → Option Nat
  | none => none
  | some u => some (nm.getD u 0)
theorem fo_turned {l T : Hs} {nm : List Nat} (hne : l ≠ []) (h : LtF l) (hp : nm.Perm (List.range l.length)) (hT : T.length = l.length)
    (hr : ∀ (j v : Nat) (o : Option Nat), nm[j]? = some v → l[j]? = some o → T[v]? = some (ren nm o)) : Fo T := by
  have hlen : nm.length = l.length := by rw [hp.length_eq, List.length_range]
  have hat : ∀ j : Nat, j < l.length → ∃ v o, nm[j]? = some v ∧ l[j]? = some o ∧ v < l.length := fun j hj => by
    have h1 : j < nm.length := by omega
    refine ⟨nm[j], l[j], List.getElem?_eq_getElem h1, List.getElem?_eq_getElem hj, ?_⟩
    have q := hp.mem_iff.mp (List.getElem_mem h1)
    exact List.mem_range.mp q
  have back : ∀ v : Nat, v < l.length → ∃ j : Nat, nm[j]? = some v := fun v hv => by
    have q := hp.mem_iff.mpr (List.mem_range.mpr hv)
    exact List.getElem?_of_mem q
  have jl : ∀ {j v : Nat}, nm[j]? = some v → j < l.length := fun {j v} e => by
    have q := (List.getElem?_eq_some_iff.mp e).1
    omega
  have rc : ∀ j v : Nat, nm[j]? = some v → Rch T v := fun j => by
    induction j using Nat.strongRecOn with
    | _ j ih =>
      intro v e
      obtain ⟨v', o, e1, e2, e3⟩ := hat j (jl e)
      have ev : v' = v := Option.some.inj (e1.symm.trans e)
      subst ev
      have q := hr j v' o e e2
      cases o with
      | none => exact .root q
      | some u =>
        have hu := h j u e2
        obtain ⟨vu, ou, f1, f2, f3⟩ := hat u (Nat.lt_trans hu (jl e))
        have g : nm.getD u 0 = vu := by rw [List.getD_eq_getElem?_getD, f1]; rfl
        refine .step (u := vu) ?_ (ih u hu vu f1)
        rw [q]; show some (some (nm.getD u 0)) = _; rw [g]
  refine ⟨fun z => hne (List.eq_nil_of_length_eq_zero (by rw [z] at hT; exact hT.symm)), fun v u e => ?_, fun v hv => ?_⟩
  · have hv := (List.getElem?_eq_some_iff.mp e).1
    rw [hT] at hv
    obtain ⟨j, ej⟩ := back v hv
    obtain ⟨v', o, e1, e2, e3⟩ := hat j (jl ej)
    have q := hr j v o ej e2
    rw [q] at e
    cases o with
    | none => cases e
    | some w =>
      have hw := h j w e2
      obtain ⟨vu, ou, f1, f2, f3⟩ := hat w (Nat.lt_trans hw (jl ej))
      have g : nm.getD w 0 = vu := by rw [List.getD_eq_getElem?_getD, f1]; rfl
      have e4 : nm.getD w 0 = u := Option.some.inj (Option.some.inj e)
      rw [hT]; omega
  · rw [hT] at hv
    obtain ⟨j, ej⟩ := back v hv
    exact rc j v ej
theorem nv_erase : ∀ (l : List Nat) (k : Nat), nv (l.eraseIdx k) = (nv l).eraseIdx k
  | [], k => by simp [nv]
  | a :: r, 0 => rfl
  | a :: r, k + 1 => by
    have ih := nv_erase r k
    show V.int (a : Int) :: nv (r.eraseIdx k) = V.int (a : Int) :: (nv r).eraseIdx k
    rw [ih]
theorem nv_range (n : Nat) : rgV 0 (n : Int) = nv (List.range n) := by
  unfold rgV nv
  have e : ((n : Int) - 0).toNat = n := by omega
  rw [e]
  refine List.map_congr_left fun i _ => ?_
  show V.int (0 + (i : Int)) = V.int (i : Int)
  rw [Int.zero_add]
theorem ixN_nat {n j : Nat} (h : j < n) : ixN n (j : Int) = some j := by
  unfold ixN
  rw [if_pos (by omega), if_pos (by omega)]
  congr 1
theorem seq_nat {n j : Nat} (h : j < n) : seqIndex? (j : Int) n = some j := (ixN_seq (ixN_nat h)).1
theorem rep_non : ∀ k : Nat, (List.replicate k [V.non]).flatten = (List.replicate k (none : Option Nat)).map hv
  | 0 => rfl
  | k + 1 => by
    rw [List.replicate_succ, List.flatten_cons, rep_non k, List.replicate_succ, List.map_cons]; rfl
theorem erase_perm : ∀ (l : List Nat) (j : Nat) (h : j < l.length), (l[j] :: l.eraseIdx j).Perm l
  | a :: r, 0, _ => List.Perm.refl _
  | a :: r, j + 1, h => by
    have hj : j < r.length := by rw [List.length_cons] at h; omega
    have ih := erase_perm r j hj
    exact (List.Perm.swap a (r[j]'hj) (r.eraseIdx j)).trans (List.Perm.cons a ih)
/-- one of a few, by a drawn number -/
theorem pick {xs : List V} {d : Int} (h0 : 0 ≤ d) (h1 : d < (xs.length : Int)) : ∃ v, v ∈ xs ∧ atI xs d = some v := by
  have hl : d.toNat < xs.length := by omega
  refine ⟨xs[d.toNat], List.getElem_mem hl, ?_⟩
  have e : d = ((d.toNat : Nat) : Int) := by omega
  have q := atI_nat (List.getElem?_eq_getElem hl)
  rw [← e] at q; exact q
def OkV (k : Nat) (v : V) : Prop := ∃ o : Option Nat, v = hv o ∧ ∀ u, o = some u → u < k
theorem OkV.non (k : Nat) : OkV k .non := ⟨none, rfl, fun _ h => by cases h⟩
theorem OkV.int {k : Nat} {i : Int} (h0 : 0 ≤ i) (h1 : i < (k : Int)) : OkV k (.int i) := by
  refine ⟨some i.toNat, ?_, fun u h => ?_⟩
  · show V.int i = V.int ((i.toNat : Nat) : Int)
    congr 1; omega
  · have e := Option.some.inj h
    omega
/-- slots of the drawing def -/
abbrev slF (wl F : Addr) (m sz way : Int) (v5 v6 v7 v8 v9 : Option V) : L2.St := [some (.ref wl), some (.int m), some (.int sz), some (.int way), some (.ref F), v5, v6, v7, v8, v9]
def spLForest : Sp := fun vs H Q _ => ∃ (wl : Addr) (n : Nat) (m : Int), vs = [.ref wl, .int m] ∧ Well H wl n ∧ n < 2 ^ 50 ∧ 1 ≤ m ∧ m ≤ 60 ∧
  ∀ t hs H', Fo hs → (hs.length : Int) ≤ m → Keep wl H H' → Well H' wl (n + 400) → H t = none → H' t = some (.tup (hs.map hv)) → Q (.ref t) H'
section
variable {P : Program} {w : World} {K : PySem.W.Frag} {mg : Str → Option Value} {base : Heap}
abbrev st__law_forest : Stmt := topS 38
abbrev N__law_forest : List Str := ["well", "most", "size", "way", "found", "k", "some", "names", "left", "turned_here"]
theorem sc__law_forest : FnScope N__law_forest ["well", "most"] (defScope st__law_forest) := ⟨rfl, rfl, rfl, by decide +kernel, rfl, by decide +kernel, by decide +kernel⟩
theorem ok__law_forest (D : Df K mg "_law_forest" st__law_forest ["well", "most"]) (B : Bl mg) (K_law_draw : Kn P w K mg base CX0 1 "_law_draw" st__law_draw ["well", "most"] spDraw) :
    Kn P w K mg base CX0 3 "_law_forest" st__law_forest ["well", "most"] spLForest := by
  refine D.ok sc__law_forest (fun vs H Q E h => ?_) (fun f cdv A outer s H vs Q E hr h => ?_)
  · obtain ⟨wl, n, m, rfl, _⟩ := h; rfl
  obtain ⟨wl, n, m, rfl, hw, hn, hm1, hm2, q⟩ := h
  refine ⟨_, ((pss_cons (ps_set (i := 2) sc__law_forest.nd rfl (Or.inl rfl) (pe_op op_add pe_int (pe_callF K_law_draw (hr.mono (by decide)) pass0 (pa_cons (pv 0) (pa_cons (pv 1) pa_nil)))))
      (pss_cons (ps_set (i := 3) sc__law_forest.nd rfl (Or.inl rfl) (pe_callF K_law_draw (hr.mono (by decide)) pass0 (pa_cons (pv 0) (pa_cons pe_int pa_nil))))
      (pss_cons (ps_set (i := 4) sc__law_forest.nd rfl (Or.inl rfl) (pe_lst pa_nil))
      (pss_cons (ps_for PassesOwn.never rfl (pi_range1 (by rfl) B.range (pa_cons (pv 2) pa_nil)) (pg_name (i := 5) sc__law_forest.nd rfl (Or.inl rfl)) (C8.pss_cut (ps_set (i := 6) sc__law_forest.nd rfl (Or.inl rfl) (pe_ifExp (pt_cmpR op_gt (pv 5) pe_int (nomark _)) (pe_ix ix_list (pe_lst (pa_cons pe_non (pa_cons (pe_op op_sub (pv 5) pe_int) (pa_cons (pe_callF K_law_draw (hr.mono (by decide)) pass0 (pa_cons (pv 0) (pa_cons (pe_callB (call_max2 rfl) (by rfl) B.max (by decide +kernel) (pa_cons pe_int (pa_cons (pv 5) pa_nil))) pa_nil))) pa_nil)))) (pe_callF K_law_draw (hr.mono (by decide)) pass0 (pa_cons (pv 0) (pa_cons pe_int pa_nil))) (fun _ _ => rfl)) pe_non))
      (C8.pss_cut (ps_if (PW.pt (pw_and (pt_cmpR op_gt (pv 5) pe_int (nomark _)) (pw_and1 (pt_cmpR op_eq (pv 3) pe_int (nomark _))))) (pss_one (ps_set (i := 6) sc__law_forest.nd rfl (Or.inl rfl) (pe_ix ix_list (pe_lst (pa_cons (pe_op op_sub (pv 5) pe_int) (pa_cons (pe_callB (call_max2 rfl) (by rfl) B.max (by decide +kernel) (pa_cons pe_int (pa_cons (pe_op op_sub (pv 5) pe_int) pa_nil))) pa_nil))) (pe_callF K_law_draw (hr.mono (by decide)) pass0 (pa_cons (pv 0) (pa_cons pe_int pa_nil))) (fun _ _ => rfl)))) pss_nil)
      (C8.pss_cut (ps_if (PW.pt (pw_and (pt_cmpR op_gt (pv 5) pe_int (nomark _)) (pw_and1 (pt_cmpR op_eq (pv 3) pe_int (nomark _))))) (pss_one (ps_set (i := 6) sc__law_forest.nd rfl (Or.inl rfl) (pe_ix ix_list (pe_lst (pa_cons pe_int (pa_cons pe_int (pa_cons pe_non (pa_cons (pe_callF K_law_draw (hr.mono (by decide)) pass0 (pa_cons (pv 0) (pa_cons (pv 5) pa_nil))) pa_nil))))) (pe_callF K_law_draw (hr.mono (by decide)) pass0 (pa_cons (pv 0) (pa_cons pe_int pa_nil))) (fun _ _ => rfl)))) pss_nil)
      (pss_one (ps_expr (pe_bm PySem.F.plainAttrs_list PySem.F.slot_list_append PySem.F.type_list_append mt_append (pv 4) (pa_cons (pv 6) pa_nil))))))))
      (pss_cons (ps_if (pt_cmpR op_eq (pe_callF K_law_draw (hr.mono (by decide)) pass0 (pa_cons (pv 0) (pa_cons pe_int pa_nil))) pe_int (nomark _)) (pss_one (ps_ret (pe_callTy call_tuple_of (by rfl) B.tuple (by decide +kernel) (pa_cons (pv 4) pa_nil)))) pss_nil)
      (pss_cons (ps_par (i := 7) (j := 8) (by rfl) sc__law_forest.nd rfl rfl (by decide) rfl rfl (pa_cons (pe_lst pa_nil) (pa_cons (pe_listRg rfl (by rfl) B.list (prg_1 (by rfl) B.range (pv 2))) pa_nil)) (by rfl))
      (pss_cons (ps_for PassesOwn.never rfl (pi_range1 (by rfl) B.range (pa_cons (pv 2) pa_nil)) (pg_name (i := 5) sc__law_forest.nd rfl (Or.inl rfl)) (pss_one (ps_expr (pe_bm PySem.F.plainAttrs_list PySem.F.slot_list_append PySem.F.type_list_append mt_append (pv 7) (pa_cons (pe_bm PySem.F.plainAttrs_list PySem.F.slot_list_pop PySem.F.type_list_pop mt_popAt (pv 8) (pa_cons (pe_callF K_law_draw (hr.mono (by decide)) pass0 (pa_cons (pv 0) (pa_cons (pe_callB call_len (by rfl) B.len (by decide +kernel) (pa_cons (pv 8) pa_nil)) pa_nil))) pa_nil)) pa_nil)))))
      (pss_cons (ps_set (i := 9) sc__law_forest.nd rfl (Or.inl rfl) (pe_op op_rep (pe_lst (pa_cons pe_non pa_nil)) (pv 2)))
      (pss_cons (ps_for PassesOwn.never rfl (pi_range1 (by rfl) B.range (pa_cons (pv 2) pa_nil)) (pg_name (i := 5) sc__law_forest.nd rfl (Or.inl rfl)) (pss_one (ps_asg (pe_ifExp (pt_cmpR op_isN (pe_ix ix_list (pv 4) (pv 5) (fun _ _ => rfl)) pe_non (nomark _)) pe_non (pe_ix ix_list (pv 7) (pe_ix ix_list (pv 4) (pv 5) (fun _ _ => rfl)) (fun _ _ => rfl))) (pg_sub (pv 9) (pe_ix ix_list (pv 7) (pv 5) (fun _ _ => rfl)) set_list))))
      (pss_one (ps_ret (pe_callTy call_tuple_of (by rfl) B.tuple (by decide +kernel) (pa_cons (pv 9) pa_nil)))))))))))))), ?_⟩
  have p50 : (2 : Nat) ^ 50 = 1125899906842624 := by decide
  have p60 : (2 : Nat) ^ 60 = 1152921504606846976 := by decide
  have p100 : (2 : Nat) ^ 100 = 1267650600228229401496703205376 := by decide +kernel
  have p62 : (2 : Int) ^ 62 = 4611686018427387904 := by decide
  have p63 : (2 : Int) ^ 63 = 9223372036854775808 := by decide
  obtain ⟨wl0, hwl0⟩ := hw.here
  -- size = 1 + _law_draw(well, most); way = _law_draw(well, 4); found = []
  refine ⟨_, rfl, _, rfl, wl, n, _, rfl, hw, by omega, by omega, by omega, fun d0 H1 d00 d01 k1 w1 => ⟨_, _, rfl, rfl, ?_⟩⟩
  refine ⟨_, rfl, wl, n + 1, _, rfl, w1, by omega, by omega, by omega, fun way H2 _ _ k2 w2 => ?_⟩
  refine ⟨by show 0 ≤ sizeLine; decide, fun F hF2 => ?_⟩
  obtain ⟨sz, hsz⟩ : ∃ sz : Nat, 1 + d0 = (sz : Int) := ⟨(1 + d0).toNat, by omega⟩
  have hsz1 : 1 ≤ sz := by omega
  have hsz2 : (sz : Int) ≤ m := by omega
  have hsz3 : sz ≤ 60 := by omega
  have k02 := k1.trans k2
  have hFw : F ≠ wl := by
    obtain ⟨l2, e2⟩ := w2.here
    exact (ne_of_none e2 hF2).symm
  have hFn : H F = none := by
    cases eF : H F with
    | none => rfl
    | some o =>
      have z := k02 F o hFw eF
      rw [hF2] at z; cases z
  -- for k in range(size)
  refine ⟨_, rfl, _, rfl, by omega, by omega, for_it walk_range0 (fun i σ H' => ∃ v5 v6, σ = slF wl F m (1 + d0) way v5 v6 none none none ∧ Keep wl H H' ∧ Well H' wl (n + 2 + 5 * i) ∧ ∃ l : Hs, l.length = i ∧ LtF l ∧ H' F = some (.lst (l.map hv)))
    ⟨none, none, rfl, k02.new hF2, (w2.same ((Same.refl H2).new hF2)), [], rfl, fun j u e => (by cases e), upd_same⟩ (fun _ _ _ _ _ => trivial) ?_ ?_⟩
  · rintro i x σ H3 H4 hi ⟨v5, v6, rfl, k3, w3, l, hl, hlt, hF3⟩ ⟨rfl, rfl⟩
    have hi' : i < sz := by omega
    -- some = [None, k - 1, draw(max(1, k))][draw(3)] if k > 0 else None
    refine ⟨fun σ' H' => ∃ v6, OkV i v6 ∧ σ' = slF wl F m (1 + d0) way (some (.int (i : Int))) (some v6) none none none ∧ Keep wl H H' ∧ Well H' wl (n + 2 + 5 * i + 2) ∧ H' F = some (.lst (l.map hv)), ?_, ?_⟩
    · refine ⟨_, rfl, _, _, rfl, rfl, _, rfl, ?_⟩
      refine ite2 (fun c => ?_) (fun c => ?_)
      · have ci : (0 : Int) < (i : Int) := of_decide_eq_true c
        refine ⟨_, rfl, _, _, rfl, rfl, ?_⟩
        refine ⟨_, rfl, _, rfl, _, _, rfl, wl, _, _, rfl, w3, by omega, by split <;> omega, by split <;> omega, fun d H5 d0 d1 k5 w5 => ⟨by show 3 ≤ sizeLine; decide, fun L hL => ?_⟩⟩
        have w6 := w5.same ((Same.refl H5).new (o := .lst [.non, .int ((i : Int) - 1), .int d]) hL)
        refine ⟨_, rfl, wl, _, _, rfl, w6, by omega, by omega, by omega, fun d2 H6 e0 e1 k6 w6 => ?_⟩
        have hLw : L ≠ wl := by
          obtain ⟨l2, e2⟩ := w5.here
          exact (ne_of_none e2 hL).symm
        have hL6 : H6 L = some (.lst [.non, .int ((i : Int) - 1), .int d]) := k6 L _ hLw upd_same
        obtain ⟨v, hv1, hv2⟩ := pick (xs := [.non, .int ((i : Int) - 1), .int d]) e0 e1
        refine ⟨L, _, _, v, rfl, rfl, SqL.of hL6, hv2, v, ?_, rfl, (k3.trans (k5.new hL)).trans k6, w6, k6 F _ hFw ?_⟩
        · have d2' : d < (i : Int) := by
            split at d1 <;> omega
          simp only [List.mem_cons, List.not_mem_nil, or_false] at hv1
          rcases hv1 with rfl | rfl | rfl
          · exact .non i
          · exact .int (by omega) (by omega)
          · exact .int d0 d2'
        · have z := k5 F _ hFw hF3
          rw [upd_ne (ne_of_none z hL)]; exact z
      · exact ⟨.non, .non i, rfl, k3, w3.mono (by omega), hF3⟩
    · rintro σ' H5 ⟨v6, ok6, rfl, k5, w5, hF5⟩
      -- if k > 0 and way == 0
      refine ⟨fun σ' H' => ∃ v6, OkV i v6 ∧ σ' = slF wl F m (1 + d0) way (some (.int (i : Int))) (some v6) none none none ∧ Keep wl H H' ∧ Well H' wl (n + 2 + 5 * i + 3) ∧ H' F = some (.lst (l.map hv)), ?_, ?_⟩
      · refine ⟨_, rfl, _, _, rfl, rfl, _, rfl, ?_⟩
        refine ite2 (fun c => ?_) (fun c => ?_)
        · have ci : (0 : Int) < (i : Int) := of_decide_eq_true c
          refine ⟨_, rfl, rfl, _, rfl, ?_⟩
          refine ite2 (fun c2 => ?_) (fun c2 => ?_)
          · refine ⟨_, rfl, _, _, rfl, rfl, _, rfl, _, _, rfl, rfl, _, _, rfl, by show 2 ≤ sizeLine; decide, fun L hL => ?_⟩
            have w6 := w5.same ((Same.refl H5).new (o := .lst [.int ((i : Int) - 1), .int (if (i : Int) - 2 > 0 then (i : Int) - 2 else 0)]) hL)
            refine ⟨_, rfl, wl, _, _, rfl, w6, by omega, by omega, by omega, fun d2 H6 e0 e1 k6 w6 => ?_⟩
            have hLw : L ≠ wl := by
              obtain ⟨l2, e2⟩ := w5.here
              exact (ne_of_none e2 hL).symm
            have hL6 : H6 L = some (.lst [.int ((i : Int) - 1), .int (if (i : Int) - 2 > 0 then (i : Int) - 2 else 0)]) := k6 L _ hLw upd_same
            obtain ⟨v, hv1, hv2⟩ := pick (xs := [.int ((i : Int) - 1), .int (if (i : Int) - 2 > 0 then (i : Int) - 2 else 0)]) e0 e1
            refine ⟨L, _, _, v, rfl, rfl, SqL.of hL6, hv2, v, ?_, rfl, (k5.new hL).trans k6, w6, k6 F _ hFw ?_⟩
            · simp only [List.mem_cons, List.not_mem_nil, or_false] at hv1
              rcases hv1 with rfl | rfl
              · exact .int (by omega) (by omega)
              · exact .int (by split <;> omega) (by split <;> omega)
            · rw [upd_ne (ne_of_none hF5 hL)]; exact hF5
          · exact ⟨v6, ok6, rfl, k5, w5.mono (by omega), hF5⟩
        · exact ⟨v6, ok6, rfl, k5, w5.mono (by omega), hF5⟩
      · rintro σ' H6 ⟨v6, ok6, rfl, k6, w6, hF6⟩
        -- if k > 0 and way == 1
        refine ⟨fun σ' H' => ∃ v6, OkV i v6 ∧ σ' = slF wl F m (1 + d0) way (some (.int (i : Int))) (some v6) none none none ∧ Keep wl H H' ∧ Well H' wl (n + 2 + 5 * i + 5) ∧ H' F = some (.lst (l.map hv)), ?_, ?_⟩
        · refine ⟨_, rfl, _, _, rfl, rfl, _, rfl, ?_⟩
          refine ite2 (fun c => ?_) (fun c => ?_)
          · have ci : (0 : Int) < (i : Int) := of_decide_eq_true c
            refine ⟨_, rfl, rfl, _, rfl, ?_⟩
            refine ite2 (fun c2 => ?_) (fun c2 => ?_)
            · refine ⟨_, rfl, _, rfl, wl, _, _, rfl, w6, by omega, by omega, by omega, fun d H7 d0 d1 k7 w7 => ⟨by show 4 ≤ sizeLine; decide, fun L hL => ?_⟩⟩
              have w8 := w7.same ((Same.refl H7).new (o := .lst [.int 0, .int 0, .non, .int d]) hL)
              refine ⟨_, rfl, wl, _, _, rfl, w8, by omega, by omega, by omega, fun d2 H8 e0 e1 k8 w8 => ?_⟩
              have hLw : L ≠ wl := by
                obtain ⟨l2, e2⟩ := w7.here
                exact (ne_of_none e2 hL).symm
              have hL8 : H8 L = some (.lst [.int 0, .int 0, .non, .int d]) := k8 L _ hLw upd_same
              obtain ⟨v, hv1, hv2⟩ := pick (xs := [.int 0, .int 0, .non, .int d]) e0 e1
              refine ⟨L, _, _, v, rfl, rfl, SqL.of hL8, hv2, v, ?_, rfl, (k6.trans (k7.new hL)).trans k8, w8, k8 F _ hFw ?_⟩
              · simp only [List.mem_cons, List.not_mem_nil, or_false] at hv1
                rcases hv1 with rfl | rfl | rfl | rfl
                · exact .int (by omega) (by omega)
                · exact .int (by omega) (by omega)
                · exact .non i
                · exact .int d0 d1
              · have z := k7 F _ hFw hF6
                rw [upd_ne (ne_of_none z hL)]; exact z
            · exact ⟨v6, ok6, rfl, k6, w6.mono (by omega), hF6⟩
          · exact ⟨v6, ok6, rfl, k6, w6.mono (by omega), hF6⟩
        · rintro σ' H7 ⟨v6, ⟨o, rfl, ho⟩, rfl, k7, w7, hF7⟩
          -- found.append(some)
          refine ⟨_, rfl, .inl ⟨rfl, _, SqL.of hF7⟩, _, rfl, F, _, _, rfl, rfl, hF7, by rw [List.length_map]; exact szl (by omega), ?_⟩
          have kf : Keep wl H (upd H7 F (.lst (l.map hv ++ [hv o]))) := fun b u hb e => by
            rw [upd_ne (ne_of_none e hFn)]; exact k7 b u hb e
          refine ⟨_, _, rfl, kf, ?_, l ++ [o], by rw [List.length_append, hl]; rfl, hlt.snoc (by rw [hl]; exact ho), by rw [upd_same, List.map_append]; rfl⟩
          obtain ⟨a, b, c, e, r⟩ := w7.ex
          exact ⟨a, b, c, by rw [upd_ne hFw.symm]; exact e, r.1, r.2.1, r.2.2.1, r.2.2.2.1, by omega⟩
  · rintro σ H3 ⟨v5, v6, rfl, k3, w3, l, hl, hlt, hF3⟩
    have e0 : (1 + d0).toNat = sz := by omega
    rw [e0] at w3 hl
    have hlne : l ≠ [] := by
      intro z; rw [z] at hl; rw [← hl] at hsz1; exact absurd hsz1 (by decide)
    -- if _law_draw(well, 3) == 0: return tuple(found)
    refine ⟨_, rfl, wl, _, _, rfl, w3, by omega, by omega, by omega, fun d H4 _ _ k4 w4 => ?_⟩
    have hF4 := k4 F _ hFw hF3
    have k04 := k3.trans k4
    refine ⟨rfl, _, rfl, ?_⟩
    refine ite2 (fun c => ?_) (fun c => ?_)
    · refine ⟨_, rfl, F, _, rfl, .inl ⟨SqL.of hF4, fun t ht => ?_⟩⟩
      have w5 := w4.same ((Same.refl H4).new (o := .tup (l.map hv)) ht)
      have htn : H t = none := by
        cases et : H t with
        | none => rfl
        | some o =>
          by_cases htw : t = wl
          · obtain ⟨l2, e2⟩ := w4.here
            rw [htw, e2] at ht; cases ht
          · have z := k04 t o htw et
            rw [ht] at z; cases z
      refine q t l _ (fo_plain hlne hlt) (by omega) (k04.new ht) (w5.mono (by omega)) htn upd_same
    · -- names, left = [], list(range(size))
      refine ⟨by show 0 ≤ sizeLine; decide, fun N hN => ?_⟩
      refine ⟨_, rfl, _, rfl, RgOk.of_le (by omega) (by omega) (by omega) (by omega), fun L hL => ⟨_, _, rfl, ?_⟩⟩
      have hNn : H N = none := by
        cases et : H N with
        | none => rfl
        | some o =>
          by_cases htw : N = wl
          · obtain ⟨l2, e2⟩ := w4.here
            rw [htw, e2] at hN; cases hN
          · have z := k04 N o htw et
            rw [hN] at z; cases z
      have hNw : N ≠ wl := by
        obtain ⟨l2, e2⟩ := w4.here
        exact (ne_of_none e2 hN).symm
      have hNL : N ≠ L := ne_of_none upd_same hL
      have hNF : F ≠ N := ne_of_none hF4 hN
      have hL4 : H4 L = none := by rw [upd_ne hNL.symm] at hL; exact hL
      have hLw : L ≠ wl := by
        obtain ⟨l2, e2⟩ := w4.here
        exact (ne_of_none e2 hL4).symm
      have hFL : F ≠ L := ne_of_none hF4 hL4
      have hLn : H L = none := by
        cases et : H L with
        | none => rfl
        | some o =>
          have z := k04 L o hLw et
          rw [hL4] at z; cases z
      have kk : ∀ {H' : Hp} {a : Addr} {o : HO}, Keep wl H H' → H a = none → Keep wl H (upd H' a o) := fun {H' a o} k hn b u hb e => by
        rw [upd_ne (ne_of_none e hn)]; exact k b u hb e
      have ww : ∀ {H' : Hp} {a : Addr} {o : HO} {k : Nat}, Well H' wl k → a ≠ wl → Well (upd H' a o) wl k := fun {H' a o k} h hn => by
        obtain ⟨x, y, z, e, r⟩ := h.ex
        exact ⟨x, y, z, by rw [upd_ne hn.symm]; exact e, r⟩
      -- for k in range(size): names.append(left.pop(_law_draw(well, len(left))))
      refine ⟨_, rfl, _, rfl, by omega, by omega, for_it walk_range0 (fun i σ H' => ∃ v5, σ = slF wl F m (1 + d0) way v5 v6 (some (.ref N)) (some (.ref L)) none ∧ Keep wl H H' ∧ Well H' wl (n + 3 + 5 * sz + i) ∧ H' F = some (.lst (l.map hv)) ∧
          ∃ nm lf : List Nat, nm.length = i ∧ (nm ++ lf).Perm (List.range sz) ∧ H' N = some (.lst (nv nm)) ∧ H' L = some (.lst (nv lf)))
        ⟨v5, rfl, kk (kk k04 hNn) hLn, (ww (ww w4 hNw) hLw).mono (by omega), by rw [upd_ne hFL, upd_ne hNF]; exact hF4, [], List.range sz, rfl, List.Perm.refl _, by rw [upd_ne hNL, upd_same]; rfl, by rw [upd_same, hsz, nv_range]⟩ (fun _ _ _ _ _ => trivial) ?_ ?_⟩
      · rintro i x σ H5 H6 hi ⟨v5, rfl, k5, w5, hF5, nm, lf, hnm, hp, hN5, hL5⟩ ⟨rfl, rfl⟩
        have hi' : i < sz := by omega
        have hlf : nm.length + lf.length = sz := by
          have z := hp.length_eq
          rw [List.length_append, List.length_range] at z; exact z
        refine ⟨_, rfl, .inl ⟨rfl, _, SqL.of hN5⟩, ?_⟩
        refine ⟨_, rfl, .inl ⟨rfl, _, SqL.of hL5⟩, ?_⟩
        refine ⟨_, rfl, _, rfl, _, _, rfl, .inl ⟨_, SqL.of hL5, rfl⟩, wl, _, _, rfl, w5, by omega, by rw [nv_length]; omega, by rw [nv_length]; omega, fun d H6 d0 d1 k6 w6 => ?_⟩
        rw [nv_length] at d1
        obtain ⟨j, hj⟩ : ∃ j : Nat, d = (j : Int) := ⟨d.toNat, by omega⟩
        subst hj
        have hjl : j < lf.length := by omega
        have hL6 := k6 L _ hLw hL5
        have hN6 := k6 N _ hNw hN5
        have hF6 := k6 F _ hFw hF5
        refine ⟨L, _, _, j, _, rfl, rfl, hL6, by omega, by omega, by rw [nv_length]; exact seq_nat hjl, nv_get (List.getElem?_eq_getElem hjl), ?_⟩
        refine ⟨N, _, _, rfl, rfl, by rw [upd_ne hNL]; exact hN6, by rw [nv_length]; exact szl (by omega), ?_⟩
        refine ⟨_, rfl, kk (kk (k5.trans k6) hLn) hNn, (ww (ww w6 hLw) hNw).mono (by omega), by rw [upd_ne hNF, upd_ne hFL]; exact hF6, nm ++ [lf[j]], lf.eraseIdx j, by rw [List.length_append, hnm]; rfl, ?_, by rw [upd_same, nv_append]; rfl, by rw [upd_ne hNL.symm, upd_same, nv_erase]⟩
        have pe := erase_perm lf j hjl
        rw [List.append_assoc]
        exact (List.Perm.append_left nm pe).trans hp
      · rintro σ H5 ⟨v5, rfl, k5, w5, hF5, nm, lf, hnm, hp, hN5, hL5⟩
        rw [e0] at hnm w5
        have hlf : nm.length + lf.length = sz := by
          have z := hp.length_eq
          rw [List.length_append, List.length_range] at z; exact z
        have hlf0 : lf = [] := List.eq_nil_of_length_eq_zero (by omega)
        subst hlf0
        rw [List.append_nil] at hp
        -- turned_here = [None] * size
        refine ⟨by show 1 ≤ sizeLine; decide, fun O hO => ?_⟩
        refine ⟨_, rfl, O, _, _, rfl, rfl, upd_same, by omega, by omega, ?_, fun T hT => ?_⟩
        · show 1 * (1 + d0).toNat ≤ sizeLine
          rw [e0, Nat.one_mul]; exact Nat.le_of_lt (szl (by omega))
        have hT5 : H5 T = none := by
          have z := hT
          rw [upd_ne (ne_of_none upd_same hT).symm] at z; exact z
        have fresh : ∀ {a : Addr}, H5 a = none → H a = none ∧ a ≠ wl ∧ F ≠ a ∧ N ≠ a := fun {a} ha => by
          have h1 : a ≠ wl := by
            obtain ⟨l2, e2⟩ := w5.here
            exact (ne_of_none e2 ha).symm
          refine ⟨?_, h1, ne_of_none hF5 ha, ne_of_none hN5 ha⟩
          cases et : H a with
          | none => rfl
          | some o =>
            have z := k5 a o h1 et
            rw [ha] at z; cases z
        obtain ⟨o1, o2, o3, o4⟩ := fresh hO
        obtain ⟨t1, t2, t3, t4⟩ := fresh hT5
        have hnl : ∀ j : Nat, j < sz → ∃ v, nm[j]? = some v ∧ v < sz := fun j hj => by
          have h1 : j < nm.length := by omega
          exact ⟨nm[j], List.getElem?_eq_getElem h1, List.mem_range.mp (hp.mem_iff.mp (List.getElem_mem h1))⟩
        have hnd : nm.Nodup := hp.nodup_iff.mpr List.nodup_range
        -- for k in range(size): turned_here[names[k]] = ..
        refine ⟨_, rfl, _, rfl, by omega, by omega, for_it walk_range0 (fun i σ H' => ∃ v5, σ = slF wl F m (1 + d0) way v5 v6 (some (.ref N)) (some (.ref L)) (some (.ref T)) ∧ Keep wl H H' ∧ Well H' wl (n + 3 + 6 * sz) ∧ H' F = some (.lst (l.map hv)) ∧ H' N = some (.lst (nv nm)) ∧
            ∃ th : Hs, th.length = sz ∧ (∀ (j v : Nat) (o : Option Nat), j < i → nm[j]? = some v → l[j]? = some o → th[v]? = some (ren nm o)) ∧ H' T = some (.lst (th.map hv)))
          ⟨v5, rfl, kk (kk k5 o1) t1, (ww (ww w5 o2) t2).mono (by omega), by rw [upd_ne t3, upd_ne o3]; exact hF5, by rw [upd_ne t4, upd_ne o4]; exact hN5, List.replicate sz none, List.length_replicate, fun j v o hj => absurd hj (Nat.not_lt_zero j), by rw [upd_same, rep_non, e0]⟩ (fun _ _ _ _ _ => trivial) ?_ ?_⟩
        · rintro i x σ H6 H7 hi ⟨v5, rfl, k6, w6, hF6, hN6, th, hth, hr, hT6⟩ ⟨rfl, rfl⟩
          have hi' : i < sz := by omega
          have hil : i < l.length := by omega
          obtain ⟨v, ev, hv'⟩ := hnl i hi'
          have eo : l[i]? = some l[i] := List.getElem?_eq_getElem hil
          generalize l[i] = o at eo
          have fin : ∀ x : V, x = hv (ren nm o) → gSub (tVar 9) (tOp (rIxL K) (tVar 7) (tVar 5)) rSetL x (slF wl F m (1 + d0) way (some (.int (i : Int))) v6 (some (.ref N)) (some (.ref L)) (some (.ref T))) H7
              (fun σ H' => ∃ v5, σ = slF wl F m (1 + d0) way v5 v6 (some (.ref N)) (some (.ref L)) (some (.ref T)) ∧ Keep wl H H' ∧ Well H' wl (n + 3 + 6 * sz) ∧ H' F = some (.lst (l.map hv)) ∧ H' N = some (.lst (nv nm)) ∧
                ∃ th : Hs, th.length = sz ∧ (∀ (j v : Nat) (o : Option Nat), j < i + 1 → nm[j]? = some v → l[j]? = some o → th[v]? = some (ren nm o)) ∧ H' T = some (.lst (th.map hv))) := by
            rintro x rfl
            refine ⟨_, rfl, _, rfl, _, rfl, N, _, _, _, rfl, rfl, SqL.of hN6, atI_nat (nv_get ev), T, _, _, v, rfl, rfl, hT6, by rw [List.length_map, hth]; exact ixN_nat hv', ?_⟩
            refine ⟨_, rfl, kk k6 t1, ww w6 t2, by rw [upd_ne t3]; exact hF6, by rw [upd_ne t4]; exact hN6, th.set v (ren nm o), by rw [List.length_set]; exact hth, ?_, by rw [upd_same, List.map_set]⟩
            intro j v' o' hj e1 e2
            by_cases hji : j = i
            · subst hji
              have q1 : v' = v := Option.some.inj (e1.symm.trans ev)
              have q2 : o' = o := Option.some.inj (e2.symm.trans eo)
              subst q1 q2
              exact List.getElem?_set_self (by rw [hth]; exact hv')
            · have hne : v ≠ v' := fun z => hji (nodup_at hnd e1 (by rw [← z]; exact ev))
              rw [List.getElem?_set_ne hne]
              exact hr j v' o' (by omega) e1 e2
          refine ⟨_, rfl, _, rfl, F, _, _, _, rfl, rfl, SqL.of hF6, atI_nat (hv_at eo), rfl, _, rfl, ?_⟩
          cases o with
          | none => exact iteT (fin _ rfl)
          | some u =>
            have hu := hlt i u eo
            obtain ⟨vu, eu, _⟩ := hnl u (by omega)
            refine iteF ⟨_, rfl, _, rfl, _, rfl, F, _, _, _, rfl, rfl, SqL.of hF6, atI_nat (hv_at eo), N, _, _, _, rfl, rfl, SqL.of hN6, atI_nat (nv_get eu), fin _ ?_⟩
            show V.int (vu : Int) = V.int ((nm.getD u 0 : Nat) : Int)
            rw [List.getD_eq_getElem?_getD, eu]; rfl
        · rintro σ H6 ⟨v5, rfl, k6, w6, hF6, hN6, th, hth, hr, hT6⟩
          rw [e0] at hr
          refine ⟨_, rfl, T, _, rfl, .inl ⟨SqL.of hT6, fun t ht => ?_⟩⟩
          have w7 := w6.same ((Same.refl H6).new (o := .tup (th.map hv)) ht)
          have htn : H t = none := by
            have h1 : t ≠ wl := by
              obtain ⟨l2, e2⟩ := w6.here
              exact (ne_of_none e2 ht).symm
            cases et : H t with
            | none => rfl
            | some o =>
              have z := k6 t o h1 et
              rw [ht] at z; cases z
          refine q t th _ (fo_turned hlne hlt (by rw [hl]; exact hp) (by rw [hth, hl]) fun j v o e1 e2 => hr j v o ?_ e1 e2) (by omega) (k6.new ht) (w7.mono (by omega)) htn upd_same
          have z := (List.getElem?_eq_some_iff.mp e2).1
          omega
end

end My

namespace My
open PySem PySem.Spec PyProof.Rows L2
/-! ### what the functions of heldbehind.forests raise and hand back -/
def spCheckF (C : Addr) : Sp := fun vs H Q E => ∃ x : V, vs = [x] ∧ Askd H x ∧ (IsF H x → ∀ H', Same H H' → Q .non H') ∧ (¬ IsF H x → ∀ H', Same H H' → E (.ref C) none H')
def spCheckT (C : Addr) : Sp := fun vs H Q E => ∃ (a : Addr) (xs : List V) (y : V), vs = [.ref a, y] ∧ H a = some (.tup xs) ∧ Vd H y ∧ (isIdx (xs.length : Int) y = true → Q .non H) ∧ (isIdx (xs.length : Int) y = false → E (.ref C) none H)
/-- a function of a forest alone: R what its answer's list may be -/
def spOf (C : Addr) (R : Hs → List V → Prop) : Sp := fun vs H Q E => ∃ x : V, vs = [x] ∧ Askd H x ∧ (∀ hs : Hs, tupAt H x = some (hs.map hv) → hs.length ≤ 60) ∧ (¬ IsF H x → ∀ H', Same H H' → E (.ref C) none H') ∧
  ∀ hs : Hs, tupAt H x = some (hs.map hv) → Fo hs → ∀ r l H', R hs l → Same H H' → H r = none → H' r = some (.lst l) → Q (.ref r) H'
/-- a function of a forest and a thing -/
def spOf2 (C C2 : Addr) (R : Hs → Nat → List V → Prop) : Sp := fun vs H Q E => ∃ x y : V, vs = [x, y] ∧ Askd H x ∧ Vd H y ∧ (∀ hs : Hs, tupAt H x = some (hs.map hv) → hs.length ≤ 60) ∧ (¬ IsF H x → ∀ H', Same H H' → E (.ref C) none H') ∧
  (∀ hs : Hs, tupAt H x = some (hs.map hv) → Fo hs → isIdx (hs.length : Int) y = false → ∀ H', Same H H' → E (.ref C2) none H') ∧
  ∀ hs : Hs, tupAt H x = some (hs.map hv) → Fo hs → ∀ t : Nat, y = .int (t : Int) → t < hs.length → ∀ r l H', R hs t l → Same H H' → H r = none → H' r = some (.lst l) → Q (.ref r) H'
theorem tupAt_same {H H' : Hp} {x : V} {xs : List V} (h : tupAt H x = some xs) (s : Same H H') : tupAt H' x = some xs := by
  obtain ⟨a, rfl, ha⟩ := tupAt_ref h
  exact tupAt_tup (s _ _ ha)
theorem Askd.same {H H' : Hp} {x : V} (h : Askd H x) (s : Same H H') (hi : ∀ xs, tupAt H' x = some xs → tupAt H x = some xs) : Askd H' x :=
  ⟨h.vd.same s, fun xs e => ⟨(h.items xs (hi xs e)).1, fun y hy => ((h.items xs (hi xs e)).2 y hy).same s⟩⟩
theorem isIdx_true {n : Nat} {y : V} (h : isIdx (n : Int) y = true) : ∃ t : Nat, y = .int (t : Int) ∧ t < n := by
  cases y with
  | int i =>
    have c : (decide (0 ≤ i) && decide (i < (n : Int))) = true := h
    rw [Bool.and_eq_true, decide_eq_true_eq, decide_eq_true_eq] at c
    exact ⟨i.toNat, by congr 1; omega, by omega⟩
  | _ => cases h
theorem vd_hv {H : Hp} (o : Option Nat) : Vd H (hv o) := by
  cases o with
  | none => exact .non
  | some u => exact .int _
section
variable {P : Program} {w : World} {K : PySem.W.Frag} {mg : Str → Option Value} {base : Heap} {CF CT : Addr}
abbrev st_check_forest : Stmt := topS 16
abbrev N_check_forest : List Str := ["forest"]
theorem sc_check_forest : FnScope N_check_forest ["forest"] (defScope st_check_forest) := ⟨rfl, rfl, rfl, by decide +kernel, rfl, by decide +kernel, by decide +kernel⟩
theorem ok_check_forest (D : Df K mg "check_forest" st_check_forest ["forest"]) (B : Bl mg) (EInvalidForest : Ex1 K mg "InvalidForest" CF) (Kis_forest : Kn P w K mg base CX0 4 "is_forest" st_is_forest ["value"] spIsForest) :
    Kn P w K mg base (L2.CX P w) 5 "check_forest" st_check_forest ["forest"] (spCheckF CF) := by
  refine D.okX sc_check_forest (fun vs H Q E h => ?_) (fun f cdv A outer s H vs Q E hr h => ?_)
  · obtain ⟨x, rfl, _⟩ := h; rfl
  obtain ⟨x, rfl, ask, q1, q2⟩ := h
  refine ⟨_, ((pss_one (ps_if (pt_not (pt_val (pe_callF Kis_forest (hr.mono (by decide)) pass0 (pa_cons (pv 0) pa_nil)))) (pss_one (ps_raise rfl (takes_of rfl rfl rfl rfl) (pmk_own0 PySem.F.excBase_ValueError EInvalidForest.x EInvalidForest.g EInvalidForest.k (raises_own EInvalidForest.b EInvalidForest.t) rfl))) pss_nil))), ?_⟩
  refine ⟨_, rfl, x, rfl, ask, fun b H' s' hb => ⟨_, rfl, ?_⟩⟩
  cases b with
  | true => exact iteF (q1 (hb.mp rfl) H' s')
  | false => exact iteT (q2 (fun z => Bool.false_ne_true (hb.mpr z)) H' s')
abbrev st_walk : Stmt := topS 18
abbrev N_walk : List Str := ["forest"]
theorem sc_walk : FnScope N_walk ["forest"] (defScope st_walk) := ⟨rfl, rfl, rfl, by decide +kernel, rfl, by decide +kernel, by decide +kernel⟩
theorem ok_walk (D : Df K mg "walk" st_walk ["forest"]) (B : Bl mg) (Kcheck_forest : Kn P w K mg base (L2.CX P w) 5 "check_forest" st_check_forest ["forest"] (spCheckF CF))
    (K_without_holder : Kn P w K mg base CX0 1 "_without_holder" st__without_holder ["forest"] (spWithout K)) (K_held_lists : Kn P w K mg base CX0 1 "_held_lists" st__held_lists ["forest"] (spHeld K))
    (K_walk_through : Kn P w K mg base CX0 1 "_walk_through" st__walk_through ["held", "starts"] (spWalkT K)) :
    Kn P w K mg base (L2.CX P w) 6 "walk" st_walk ["forest"] (spOf CF fun hs l => ∃ o, l = nv o ∧ WT hs (roots hs) (Rch hs) o []) := by
  refine D.okX sc_walk (fun vs H Q E h => ?_) (fun f cdv A outer s H vs Q E hr h => ?_)
  · obtain ⟨x, rfl, _⟩ := h; rfl
  obtain ⟨x, rfl, ask, _, q2, q⟩ := h
  refine ⟨_, ((pss_cons (ps_expr (pe_callF Kcheck_forest (hr.mono (by decide)) (passX (takes_of rfl rfl rfl rfl)) (pa_cons (pv 0) pa_nil)))
      (pss_one (ps_ret (pe_callF K_walk_through (hr.mono (by decide)) pass0 (pa_cons (pe_callF K_held_lists (hr.mono (by decide)) pass0 (pa_cons (pv 0) pa_nil)) (pa_cons (pe_callF K_without_holder (hr.mono (by decide)) pass0 (pa_cons (pv 0) pa_nil)) pa_nil))))))), ?_⟩
  refine ⟨_, rfl, x, rfl, ask, fun ⟨hs, e, fo⟩ H1 s1 => ?_, q2⟩
  obtain ⟨a, rfl, ha⟩ := tupAt_ref e
  have hl := (ask.items _ e).1
  rw [List.length_map] at hl
  have hS1 : SqT K H1 a (hs.map hv) := SqT.of (s1 _ _ ha)
  refine ⟨_, rfl, a, hs, rfl, hS1, hl, fo.inb, fun p as H2 s2 hp hpc hA => ?_⟩
  refine ⟨_, rfl, a, hs, rfl, s2.tseq hS1, hl, fun p2 H3 s3 hp2 hr2 => ?_⟩
  refine ⟨p, p2, as, hs, roots hs, Rch hs, rfl, hA.same s3, SqL.of hr2, hl, starts_roots hs, fun r l H4 s4 hr4 hl4 hwt => ?_⟩
  have s14 := (s1.trans s2).trans s3
  exact q hs e fo r _ H4 ⟨l, rfl, hwt⟩ (s14.trans s4) (s14.free hr4) hl4
end

/-! ### the ways up -/
inductive Ups (hs : Hs) : Nat → List Nat → Prop where
  | root {v : Nat} (h : hs[v]? = some none) : Ups hs v []
  | step {v u : Nat} {l : List Nat} (h : hs[v]? = some (some u)) (r : Ups hs u l) : Ups hs v (u :: l)
theorem Rch.ups {hs : Hs} {v : Nat} (r : Rch hs v) : ∃ l, Ups hs v l := by
  induction r with
  | root h => exact ⟨[], .root h⟩
  | step h _ ih => obtain ⟨l, hl⟩ := ih; exact ⟨_, .step h hl⟩
theorem Ups.inj {hs : Hs} {v : Nat} {l m : List Nat} (a : Ups hs v l) (b : Ups hs v m) : l = m := by
  induction a generalizing m with
  | root h => cases b with
    | root _ => rfl
    | step h2 _ => rw [h] at h2; cases h2
  | step h r ih => cases b with
    | root h2 => rw [h] at h2; cases h2
    | step h2 r2 =>
      rw [h] at h2; cases h2
      rw [ih r2]
theorem Ups.lt {hs : Hs} {v : Nat} {l : List Nat} (a : Ups hs v l) : v < hs.length := by
  cases a with
  | root h => exact (List.getElem?_eq_some_iff.mp h).1
  | step h r => exact (List.getElem?_eq_some_iff.mp h).1
theorem Ups.mem {hs : Hs} {v : Nat} {l : List Nat} (a : Ups hs v l) : ∀ w ∈ l, ∃ m, Ups hs w m ∧ m.length < l.length := by
  induction a with
  | root h => intro w hw; cases hw
  | step h r ih =>
    intro w hw
    rcases List.mem_cons.mp hw with rfl | hw
    · exact ⟨_, r, Nat.lt_succ_self _⟩
    · obtain ⟨m, hm, hl⟩ := ih w hw
      exact ⟨m, hm, Nat.lt_succ_of_lt hl⟩
theorem Ups.nd {hs : Hs} {v : Nat} {l : List Nat} (a : Ups hs v l) : (v :: l).Nodup := by
  induction a with
  | root h => simp
  | step h r ih =>
    refine List.nodup_cons.mpr ⟨fun hm => ?_, ih⟩
    obtain ⟨m, hm, hl⟩ := (Ups.step h r).mem _ hm
    rw [hm.inj (.step h r)] at hl
    exact Nat.lt_irrefl _ hl
theorem Ups.len {hs : Hs} {v : Nat} {l : List Nat} (a : Ups hs v l) : l.length < hs.length := by
  have q := nodup_len hs.length _ a.nd fun w hw => by
    rcases List.mem_cons.mp hw with rfl | hw
    · exact a.lt
    · obtain ⟨m, hm, _⟩ := a.mem w hw
      exact hm.lt
  rw [List.length_cons] at q; omega
/-- below: a thing's held ones, and theirs -/
inductive Blw (hs : Hs) (t : Nat) : Nat → Prop where
  | kid {v : Nat} (h : hs[v]? = some (some t)) : Blw hs t v
  | step {v u : Nat} (h : hs[v]? = some (some u)) (r : Blw hs t u) : Blw hs t v
theorem Blw.ups {hs : Hs} {t v : Nat} (b : Blw hs t v) {l : List Nat} (a : Ups hs v l) : t ∈ l := by
  induction b generalizing l with
  | kid h => cases a with
    | root h2 => rw [h] at h2; cases h2
    | step h2 r => rw [h] at h2; cases h2; exact List.mem_cons_self
  | step h r ih => cases a with
    | root h2 => rw [h] at h2; cases h2
    | step h2 r2 => rw [h] at h2; cases h2; exact List.mem_cons_of_mem _ (ih r2)
theorem ups_blw {hs : Hs} {t v : Nat} {l : List Nat} (a : Ups hs v l) (h : t ∈ l) : Blw hs t v := by
  induction a with
  | root _ => cases h
  | step e r ih =>
    rcases List.mem_cons.mp h with rfl | h
    · exact .kid e
    · exact .step e (ih h)
theorem Blw.irr {hs : Hs} {t : Nat} (r : Rch hs t) : ¬ Blw hs t t := fun b => by
  obtain ⟨l, a⟩ := r.ups
  exact (List.nodup_cons.mp a.nd).1 (b.ups a)
theorem starts_kids {hs : Hs} {t : Nat} (r : Rch hs t) : Starts hs (kids hs t) (Blw hs t) where
  nd := nodup_kids hs t
  ok := fun s h => ⟨(List.getElem?_eq_some_iff.mp (mem_kids.mp h)).1, .kid (mem_kids.mp h)⟩
  down := fun _ _ e b => .step e b
  no := fun s h u e => by
    rw [mem_kids.mp h] at e
    cases e
    exact Blw.irr r
theorem WT.blw {hs : Hs} {t : Nat} {l : List Nat} (h : WT hs (kids hs t) (Blw hs t) l []) (v : Nat) : v ∈ l ↔ Blw hs t v := by
  have z : ∀ w, w ∈ l ++ [] ↔ w ∈ l := fun w => by rw [List.append_nil]
  refine ⟨fun hv => (h.ok v ((z v).mpr hv)).2.1, fun b => ?_⟩
  induction b with
  | kid e => exact (z _).mp (h.sm _ (mem_kids.mpr e))
  | step e _ ih => exact (z _).mp (h.cl _ _ e ih)
/-! ### sizes -/
def sumP (hs : Hs) (F : List Int) (D : List Nat) (v : Nat) : Int := (((kids hs v).filter fun c => decide (c ∈ D)).map fun c => F.getD c 0).sum
def SizeOk (hs : Hs) (F : List Int) : Prop := F.length = hs.length ∧ ∀ v : Nat, v < hs.length → F.getD v 0 = 1 + ((kids hs v).map fun c => F.getD c 0).sum
theorem filter_cons_sum (f : Nat → Int) (D : List Nat) (t : Nat) (ht : t ∉ D) : ∀ l : List Nat, l.Nodup → ((l.filter fun c => decide (c ∈ t :: D)).map f).sum = ((l.filter fun c => decide (c ∈ D)).map f).sum + (if t ∈ l then f t else 0)
  | [], _ => by simp
  | a :: r, nd => by
    have ih := filter_cons_sum f D t ht r (List.nodup_cons.mp nd).2
    have nd1 := (List.nodup_cons.mp nd).1
    by_cases e : a = t
    · subst e
      have h1 : decide (a ∈ a :: D) = true := decide_eq_true List.mem_cons_self
      have h2 : decide (a ∈ D) = false := decide_eq_false ht
      rw [if_neg nd1] at ih
      rw [List.filter_cons_of_pos (by exact h1), List.filter_cons_of_neg (by rw [h2]; exact Bool.false_ne_true), if_pos List.mem_cons_self, List.map_cons, List.sum_cons, ih]
      omega
    · have h3 : (t ∈ a :: r) ↔ t ∈ r := by
        rw [List.mem_cons]
        exact ⟨fun h => h.resolve_left fun z => e z.symm, .inr⟩
      by_cases hd : a ∈ D
      · have h1 : decide (a ∈ t :: D) = true := decide_eq_true (List.mem_cons_of_mem _ hd)
        have h2 : decide (a ∈ D) = true := decide_eq_true hd
        rw [List.filter_cons_of_pos (by exact h1), List.filter_cons_of_pos (by exact h2), List.map_cons, List.sum_cons, List.map_cons, List.sum_cons, ih]
        by_cases h : t ∈ r
        · rw [if_pos h, if_pos (h3.mpr h)]; omega
        · rw [if_neg h, if_neg (fun z => h (h3.mp z))]; omega
      · have h1 : decide (a ∈ t :: D) = false := decide_eq_false fun z => (List.mem_cons.mp z).elim e hd
        have h2 : decide (a ∈ D) = false := decide_eq_false hd
        rw [List.filter_cons_of_neg (by rw [h1]; exact Bool.false_ne_true), List.filter_cons_of_neg (by rw [h2]; exact Bool.false_ne_true), ih]
        by_cases h : t ∈ r
        · rw [if_pos h, if_pos (h3.mpr h)]
        · rw [if_neg h, if_neg (fun z => h (h3.mp z))]
/-- how far the sizes are summed up: of the things in D all is said to their holders -/
def SizeTo (hs : Hs) (F : List Int) (D : List Nat) : Prop := F.length = hs.length ∧ ∀ v : Nat, v < hs.length → F.getD v 0 = 1 + sumP hs F D v
theorem sumP_nil (hs : Hs) (F : List Int) (v : Nat) : sumP hs F [] v = 0 := by
  unfold sumP
  have e : ((kids hs v).filter fun c => decide (c ∈ ([] : List Nat))) = [] := by simp
  rw [e]; rfl
theorem getD_set_self {F : List Int} {u : Nat} {x : Int} (h : u < F.length) : (F.set u x).getD u 0 = x := by
  rw [List.getD_eq_getElem?_getD, List.getElem?_set_self h]; rfl
theorem getD_set_ne {F : List Int} {u v : Nat} {x : Int} (h : u ≠ v) : (F.set u x).getD v 0 = F.getD v 0 := by
  rw [List.getD_eq_getElem?_getD, List.getElem?_set_ne h, List.getD_eq_getElem?_getD]
theorem sumP_set {hs : Hs} {F : List Int} {D : List Nat} {u : Nat} {x : Int} (v : Nat) (h : u ∉ D) : sumP hs (F.set u x) D v = sumP hs F D v := by
  unfold sumP
  congr 1
  refine List.map_congr_left fun c hc => ?_
  have h2 := of_decide_eq_true (List.mem_filter.mp hc).2
  exact getD_set_ne fun e => h (e ▸ h2)
theorem SizeTo.skip {hs : Hs} {F : List Int} {D : List Nat} {t : Nat} (h : SizeTo hs F D) (ht : t ∉ D) (e : hs[t]? = some none) : SizeTo hs F (t :: D) := by
  refine ⟨h.1, fun v hv => ?_⟩
  rw [h.2 v hv]
  unfold sumP
  rw [filter_cons_sum _ D t ht _ (nodup_kids hs v), if_neg (fun z => by rw [mem_kids.mp z] at e; cases e)]
  omega
theorem SizeTo.put {hs : Hs} {F : List Int} {D : List Nat} {t u : Nat} (h : SizeTo hs F D) (ht : t ∉ D) (hu : u ∉ D) (hut : u ≠ t) (e : hs[t]? = some (some u)) (hul : u < hs.length) : SizeTo hs (F.set u (F.getD u 0 + F.getD t 0)) (t :: D) := by
  have hlu : u < F.length := by rw [h.1]; exact hul
  have hu2 : u ∉ t :: D := fun z => (List.mem_cons.mp z).elim hut hu
  refine ⟨by rw [List.length_set]; exact h.1, fun v hv => ?_⟩
  rw [sumP_set v hu2]
  have q : sumP hs F (t :: D) v = sumP hs F D v + (if t ∈ kids hs v then F.getD t 0 else 0) := filter_cons_sum _ D t ht _ (nodup_kids hs v)
  rw [q]
  by_cases hvu : v = u
  · subst hvu
    rw [getD_set_self hlu, if_pos (mem_kids.mpr e), h.2 v hv]; omega
  · rw [getD_set_ne (fun z => hvu z.symm), if_neg (fun z => by
      rw [mem_kids.mp z] at e; cases e; exact hvu rfl), h.2 v hv]; omega
theorem SizeTo.all {hs : Hs} {F : List Int} {D : List Nat} (h : SizeTo hs F D) (hD : ∀ v : Nat, v < hs.length → v ∈ D) : SizeOk hs F := by
  refine ⟨h.1, fun v hv => ?_⟩
  rw [h.2 v hv]
  unfold sumP
  rw [List.filter_eq_self.mpr]
  intro c hc
  exact decide_eq_true (hD c (List.getElem?_eq_some_iff.mp (mem_kids.mp hc)).1)
/-- a forest's walk has all things, each behind its holder -/
structure Ord (hs : Hs) (l : List Nat) : Prop where
  nd : l.Nodup
  len : l.length = hs.length
  lt : ∀ v ∈ l, v < hs.length
  mem : ∀ v : Nat, v < hs.length → v ∈ l
  od : ∀ i v u : Nat, l[i]? = some v → hs[v]? = some (some u) → ∃ j : Nat, j < i ∧ l[j]? = some u
theorem WT.ord {hs : Hs} {l : List Nat} (fo : Fo hs) (h : WT hs (roots hs) (Rch hs) l []) : Ord hs l := by
  have nd := h.nd
  rw [List.append_nil] at nd
  have lt : ∀ v ∈ l, v < hs.length := fun v hv => (h.ok v (by rw [List.append_nil]; exact hv)).1
  have mem : ∀ v : Nat, v < hs.length → v ∈ l := fun v hv => h.all_found (fo.all v hv)
  refine ⟨nd, ?_, lt, mem, fun i v u e e2 => ?_⟩
  · have h1 := nodup_len hs.length l nd lt
    have h2 := nodup_sub (List.range hs.length) l List.nodup_range fun v hv => mem v (List.mem_range.mp hv)
    rw [List.length_range] at h2; omega
  · rcases h.od i v e with z | ⟨j, u', hj, e3, e4⟩
    · rw [mem_roots.mp z] at e2; cases e2
    · rw [e2] at e4; cases e4
      exact ⟨j, hj, e3⟩
/-! ### depths -/
def DepthOk (hs : Hs) (F : List Int) : Prop := F.length = hs.length ∧ ∀ v : Nat, v < hs.length → ∀ l, Ups hs v l → F.getD v 0 = (l.length : Int)
def iv (l : List Int) : List V := l.map V.int
theorem iv_get {F : List Int} {v : Nat} (h : v < F.length) : (iv F)[v]? = some (.int (F.getD v 0)) := by
  unfold iv
  rw [List.getElem?_map, List.getElem?_eq_getElem h, List.getD_eq_getElem?_getD, List.getElem?_eq_getElem h]; rfl
theorem iv_rep (x : Int) : ∀ k : Nat, (List.replicate k [V.int x]).flatten = iv (List.replicate k x)
  | 0 => rfl
  | k + 1 => by rw [List.replicate_succ, List.flatten_cons, iv_rep x k]; rfl
theorem iv_set (F : List Int) (u : Nat) (x : Int) : (iv F).set u (.int x) = iv (F.set u x) := by unfold iv; rw [List.map_set]
theorem iv_length (F : List Int) : (iv F).length = F.length := List.length_map _
section
variable {P : Program} {w : World} {K : PySem.W.Frag} {mg : Str → Option Value} {base : Heap} {CF CT : Addr}
end

theorem sizeTo_start (hs : Hs) : SizeTo hs (List.replicate hs.length 1) [] := by
  refine ⟨List.length_replicate, fun v hv => ?_⟩
  rw [sumP_nil, List.getD_eq_getElem?_getD, List.getElem?_replicate, if_pos hv]; rfl
theorem drop_back {l : List Nat} {i t : Nat} (hi : i < l.length) (h : l[l.length - 1 - i]? = some t) : l.drop (l.length - (i + 1)) = t :: l.drop (l.length - i) := by
  have e : l.length - (i + 1) = l.length - 1 - i := by omega
  have e2 : l.length - i = l.length - 1 - i + 1 := by omega
  have hlt : l.length - 1 - i < l.length := by omega
  rw [e, e2, List.drop_eq_getElem_cons hlt]
  rw [List.getElem?_eq_getElem hlt] at h
  rw [Option.some.inj h]
theorem nv_at {l : List Nat} {i : Nat} {x : V} (h : (nv l)[i]? = some x) : ∃ t : Nat, l[i]? = some t ∧ x = .int (t : Int) := by
  unfold nv at h
  rw [List.getElem?_map] at h
  cases e : l[i]? with
  | none => rw [e] at h; cases h
  | some t => rw [e] at h; exact ⟨t, rfl, (Option.some.inj h).symm⟩
theorem not_mem_drop {l : List Nat} (nd : l.Nodup) {i j v : Nat} (h : l[i]? = some v) (hij : i < j) : v ∉ l.drop j := fun z => by
  obtain ⟨k, hk⟩ := List.getElem?_of_mem z
  rw [List.getElem?_drop] at hk
  have e := nodup_at nd h hk
  omega
section
variable {P : Program} {w : World} {K : PySem.W.Frag} {mg : Str → Option Value} {base : Heap} {CF CT : Addr}
abbrev st_sizes : Stmt := topS 17
abbrev N_sizes : List Str := ["forest", "order", "found", "thing", "holder"]
theorem sc_sizes : FnScope N_sizes ["forest"] (defScope st_sizes) := ⟨rfl, rfl, rfl, by decide +kernel, rfl, by decide +kernel, by decide +kernel⟩
theorem ok_sizes (D : Df K mg "sizes" st_sizes ["forest"]) (B : Bl mg) (Kwalk : Kn P w K mg base (L2.CX P w) 6 "walk" st_walk ["forest"] (spOf CF fun hs l => ∃ o, l = nv o ∧ WT hs (roots hs) (Rch hs) o [])) :
    Kn P w K mg base (L2.CX P w) 7 "sizes" st_sizes ["forest"] (spOf CF fun hs l => ∃ F, l = iv F ∧ SizeOk hs F) := by
  refine D.okX sc_sizes (fun vs H Q E h => ?_) (fun f cdv A outer s H vs Q E hr h => ?_)
  · obtain ⟨x, rfl, _⟩ := h; rfl
  obtain ⟨x, rfl, ask, q1, q2, q⟩ := h
  refine ⟨_, ((pss_cons (ps_set (i := 1) sc_sizes.nd rfl (Or.inl rfl) (pe_callF Kwalk (hr.mono (by decide)) (passX (takes_of rfl rfl rfl rfl)) (pa_cons (pv 0) pa_nil)))
      (pss_cons (ps_set (i := 2) sc_sizes.nd rfl (Or.inl rfl) (pe_op op_rep (pe_lst (pa_cons pe_int pa_nil)) (pe_callB call_len (by rfl) B.len (by decide +kernel) (pa_cons (pv 1) pa_nil))))
      (pss_cons (ps_for (passes_of rfl) rfl (pi_reversed (by rfl) B.reversed (pa_cons (pv 1) pa_nil)) (pg_name (i := 3) sc_sizes.nd rfl (Or.inl rfl)) (pss_cons (ps_set (i := 4) sc_sizes.nd rfl (Or.inl rfl) (pe_ix ix_tup (pv 0) (pv 3) (fun _ _ => rfl)))
      (pss_one (ps_if (pt_cmpR op_notN (pv 4) pe_non (nomark _)) (pss_one (ps_asg (pe_op op_add (pe_ix ix_list (pv 2) (pv 4) (fun _ _ => rfl)) (pe_ix ix_list (pv 2) (pv 3) (fun _ _ => rfl))) (pg_sub (pv 2) (pv 4) set_list))) pss_nil))))
      (pss_one (ps_ret (pv 2))))))), ?_⟩
  refine ⟨_, rfl, x, rfl, ask, q1, q2, fun hs e fo r l H1 ⟨o, eo, hwt⟩ s1 hrn hr1 => ?_⟩
  subst eo
  obtain ⟨a, rfl, ha⟩ := tupAt_ref e
  have hl := q1 hs e
  have O := hwt.ord fo
  have p63 : (2 : Int) ^ 63 = 9223372036854775808 := by decide
  refine ⟨by show 1 ≤ sizeLine; decide, fun X hX => ⟨_, rfl, _, _, rfl, .inl ⟨nv o, SqL.of (by rw [upd_ne (ne_of_none hr1 hX)]; exact hr1), rfl⟩, X, _, _, rfl, rfl, upd_same, by omega, by rw [nv_length, O.len]; omega, ?_, fun F hF => ?_⟩⟩
  · show 1 * ((nv o).length : Int).toNat ≤ sizeLine
    rw [nv_length, O.len]
    exact Nat.le_of_lt (szl (by omega))
  have hXn : H X = none := s1.free hX
  have s2 : Same H (upd H1 X (.lst [.int 1])) := s1.new hX
  have hFn : H F = none := s2.free hF
  have hr2 : upd (upd H1 X (.lst [.int 1])) F (.lst (List.replicate ((nv o).length : Int).toNat [V.int 1]).flatten) r = some (.lst (nv o)) := by
    have z : upd H1 X (.lst [.int 1]) r = some (.lst (nv o)) := by rw [upd_ne (ne_of_none hr1 hX)]; exact hr1
    rw [upd_ne (ne_of_none z hF)]; exact z
  have hrF : r ≠ F := by
    intro z
    rw [z] at hr2
    have w2 : upd H1 X (.lst [.int 1]) r = some (.lst (nv o)) := by rw [upd_ne (ne_of_none hr1 hX)]; exact hr1
    rw [z, hF] at w2; cases w2
  refine ⟨_, rfl, r, _, rfl, SqL.of hr2, for_it (walk_rev (xs := nv o)) (fun i σ H' => ∃ v3 v4, σ = [some (.ref a), some (.ref r), some (.ref F), v3, v4] ∧ Same H H' ∧ H' r = some (.lst (nv o)) ∧ ∃ Fl, SizeTo hs Fl (o.drop (o.length - i)) ∧ H' F = some (.lst (iv Fl)))
    ⟨none, none, rfl, s2.upd hFn, hr2, List.replicate hs.length 1, ?_, ?_⟩ (fun i σ H' _ p => by obtain ⟨_, _, _, _, p, _⟩ := p; exact SqL.of p) ?_ ?_⟩
  · rw [Nat.sub_zero, List.drop_length]; exact sizeTo_start hs
  · rw [upd_same, iv_rep, nv_length, O.len]
    have z : ((hs.length : Int)).toNat = hs.length := by omega
    rw [z]
  · rintro i x σ H2 H3 hi ⟨v3, v4, rfl, s3, hr3, Fl, hto, hF3⟩ ⟨rfl, e1⟩
    rw [nv_length] at hi e1
    obtain ⟨t, et, rfl⟩ := nv_at e1
    have htl : t < hs.length := O.lt t (List.mem_of_getElem? et)
    obtain ⟨ho, eho⟩ : ∃ o, hs[t]? = some o := ⟨hs[t], List.getElem?_eq_getElem htl⟩
    have sq : SqT K H3 a (hs.map hv) := SqT.of (s3 _ _ ha)
    have hdr := drop_back hi et
    have htD : t ∉ o.drop (o.length - i) := not_mem_drop O.nd et (by omega)
    refine ⟨_, rfl, _, rfl, a, _, _, _, rfl, rfl, sq, atI_nat (hv_at eho), _, rfl, rfl, _, rfl, ?_⟩
    cases ho with
    | none => exact iteF ⟨_, _, rfl, s3, hr3, Fl, by rw [hdr]; exact hto.skip htD eho, hF3⟩
    | some u =>
      obtain ⟨j, hj, ej⟩ := O.od _ t u et eho
      have hul : u < hs.length := O.lt u (List.mem_of_getElem? ej)
      have huD : u ∉ o.drop (o.length - i) := not_mem_drop O.nd ej (by omega)
      have hut : u ≠ t := fun z => by
        rw [z] at ej
        have z2 := nodup_at O.nd ej et
        omega
      have lF := hto.1
      refine iteT ⟨_, rfl, _, rfl, F, _, _, _, rfl, rfl, SqL.of hF3, atI_nat (iv_get (by omega)), _, rfl, _, rfl, F, _, _, _, rfl, rfl, SqL.of hF3, atI_nat (iv_get (by omega)), _, _, rfl, rfl, ?_⟩
      refine ⟨_, rfl, _, rfl, F, _, _, u, rfl, rfl, hF3, by rw [iv_length]; exact ixN_nat (by omega), ?_⟩
      refine ⟨_, _, rfl, s3.upd hFn, by rw [upd_ne hrF]; exact hr3, _, by rw [hdr]; exact hto.put htD huD hut eho hul, by rw [upd_same, iv_set]⟩
  · rintro σ H2 ⟨v3, v4, rfl, s3, hr3, Fl, hto, hF3⟩
    rw [nv_length, Nat.sub_self, List.drop_zero] at hto
    exact ⟨_, rfl, q hs e fo F _ H2 ⟨Fl, rfl, hto.all O.mem⟩ s3 hFn hF3⟩
end

end My

namespace My
open PySem PySem.Spec PyProof.Rows L2
/-! ### lists of naturals as data -/
def nD (l : List Nat) : List PyData := l.map fun v : Nat => PyData.int ((v : Nat) : Int)
theorem dp_nv {K : PySem.W.Frag} {H : Hp} : ∀ l : List Nat, DpAll K H (nv l) (nD l)
  | [] => .nil
  | v :: l => .cons (.int (v : Int)) (dp_nv l)
theorem lay_nD : ∀ l : List Nat, PyData.canLayAll0 (nD l) = true
  | [] => rfl
  | v :: l => by
    show PyData.canLayAll0 (PyData.int (v : Int) :: nD l) = true
    rw [PyData.canLayAll0, lay_nD l]; rfl
theorem deep_nD : ∀ l : List Nat, PyData.depthAll (nD l) = 0
  | [] => rfl
  | v :: l => by
    show PyData.depthAll (PyData.int (v : Int) :: nD l) = 0
    rw [PyData.depthAll, deep_nD l]; rfl
theorem shaped_nD (l : List Nat) : SeqAt.shaped (.list (nD l)) = true := by
  unfold SeqAt.shaped
  rw [PyData.canLay0, lay_nD, PyData.depth, deep_nD]; rfl
theorem eqv_nD : ∀ a b : List Nat, PyData.eqvAll (nD a) (nD b) = decide (a = b)
  | [], [] => rfl
  | [], _ :: _ => rfl
  | _ :: _, [] => rfl
  | x :: a, y :: b => by
    show PyData.eqvAll (PyData.int (x : Int) :: nD a) (PyData.int (y : Int) :: nD b) = _
    rw [PyData.eqvAll, eqv_nD a b, PyData.eqv]
    by_cases h : x = y
    · subst h
      by_cases h2 : a = b
      · subst h2; simp
      · simp [h2]
    · have h3 : ¬ ((x : Int) = (y : Int)) := by omega
      simp [h, h3]
theorem eqv_list (a b : List PyData) : PyData.eqv (.list a) (.list b) = PyData.eqvAll a b := by rw [PyData.eqv]
theorem flat_nv (l : List Nat) : (nv l).all flatV = true := by
  rw [List.all_eq_true]
  intro y hy
  obtain ⟨v, _, rfl⟩ := List.mem_map.mp hy
  rfl
theorem inV_nv (u : Nat) (l : List Nat) : inV (.int (u : Int)) (nv l) = decide (u ∈ l) := by
  unfold inV nv
  rw [List.any_map]
  induction l with
  | nil => rfl
  | cons v l ih =>
    rw [List.any_cons, ih]
    show ((v : Int) == (u : Int) || decide (u ∈ l)) = _
    by_cases h : v = u
    · subst h; simp
    · have h1 : ((v : Int) == (u : Int)) = false := beq_eq_false_iff_ne.mpr (by omega)
      have h2 : ¬ u = v := fun q => h q.symm
      rw [h1, Bool.false_or]
      simp [h2]

theorem askdF {H : Hp} {t : Addr} {hs : Hs} (ht : H t = some (.tup (hs.map hv))) (hl : hs.length ≤ 60) : Askd H (.ref t) := by
  refine ⟨.tup ht, fun xs e => ?_⟩
  rw [tupAt_tup ht] at e
  cases e
  refine ⟨by rw [List.length_map]; omega, fun y hy => ?_⟩
  obtain ⟨o, _, rfl⟩ := List.mem_map.mp hy
  exact vd_hv o

/-! ### heldbehind.integers.lowest, heldbehind.shares._share -/
structure Bm (mg : Str → Option Value) : Prop where
  factorial : mg "factorial" = some (.builtin "math.factorial")
def gcI (a b : Int) : Int := ((Nat.gcd a.natAbs b.natAbs : Nat) : Int)
/-- a fraction in lowest terms -/
def lwV (a b : Int) : List V := [.int (a / gcI a b), .int (b / gcI a b)]
theorem gcI_pos {a b : Int} (h : 1 ≤ b) : 0 < gcI a b := by
  have z : 0 < Nat.gcd a.natAbs b.natAbs := Nat.gcd_pos_of_pos_right _ (by omega)
  unfold gcI; omega
theorem gcI_le {a b : Int} (h : 1 ≤ b) : (gcI a b).natAbs ≤ b.natAbs := by
  have z : Nat.gcd a.natAbs b.natAbs ≤ b.natAbs := Nat.le_of_dvd (by omega) (Nat.gcd_dvd_right _ _)
  unfold gcI; omega
def spLowest : Sp := fun vs H Q _ => ∃ a b : Int, vs = [.int a, .int b] ∧ 1 ≤ b ∧ b.natAbs < 2 ^ 8000 ∧ ∀ p H', Same H H' → H p = none → H' p = some (.tup (lwV a b)) → Q (.ref p) H'
def spShare : Sp := fun vs H Q _ => ∃ (t : Addr) (xs : List V) (a : Int), vs = [.ref t, .int a] ∧ H t = some (.tup xs) ∧ xs.length ≤ 60 ∧ ∀ p H', Same H H' → H p = none → H' p = some (.tup (lwV a ((fct xs.length : Nat) : Int))) → Q (.ref p) H'
section
variable {P : Program} {w : World} {K : PySem.W.Frag} {mg : Str → Option Value} {base : Heap}
end

/-! ### the law's own ways up, and how many things lie at or below each -/
def upF (hs : Hs) : Nat → Nat → List Nat
  | 0, _ => []
  | k + 1, v => match hs[v]? with
    | some (some u) => u :: upF hs k u
    | _ => []
def up (hs : Hs) (v : Nat) : List Nat := upF hs hs.length v
theorem upF_of {hs : Hs} {v : Nat} {l : List Nat} (a : Ups hs v l) : ∀ k : Nat, l.length ≤ k → upF hs k v = l := by
  induction a with
  | root h =>
    intro k _
    cases k with
    | zero => rfl
    | succ k => unfold upF; rw [h]
  | @step v u l h r ih =>
    intro k hk
    cases k with
    | zero => rw [List.length_cons] at hk; omega
    | succ k =>
      rw [List.length_cons] at hk
      unfold upF
      rw [h]
      show u :: upF hs k u = u :: l
      rw [ih k (by omega)]
theorem Ups.up {hs : Hs} {v : Nat} {l : List Nat} (a : Ups hs v l) : My.up hs v = l := upF_of a _ (Nat.le_of_lt a.len)
theorem Fo.ups {hs : Hs} (fo : Fo hs) {v : Nat} (h : v < hs.length) : Ups hs v (up hs v) := by
  obtain ⟨l, a⟩ := (fo.all v h).ups
  rw [a.up]; exact a
def ind (p : Prop) [Decidable p] : Int := if p then 1 else 0
theorem ind_split {hs : Hs} {v w : Nat} {l : List Nat} (a : Ups hs w l) : ind (v ∈ l) = ((kids hs v).map fun c => ind (c = w) + ind (c ∈ l)).sum := by
  have one : ∀ (cs : List Nat) (x : Nat), cs.Nodup → (cs.map fun c => ind (c = x)).sum = ind (x ∈ cs) := fun cs x => by
    induction cs with
    | nil => intro _; rfl
    | cons c cs ih =>
      intro nd
      obtain ⟨n1, n2⟩ := List.nodup_cons.mp nd
      rw [List.map_cons, List.sum_cons, ih n2]
      unfold ind
      by_cases e : c = x
      · subst e
        rw [if_pos rfl, if_neg n1, if_pos List.mem_cons_self]; rfl
      · rw [if_neg e]
        by_cases m : x ∈ cs
        · rw [if_pos m, if_pos (List.mem_cons_of_mem _ m)]; rfl
        · rw [if_neg m, if_neg (fun z => (List.mem_cons.mp z).elim (fun q => e q.symm) m)]; rfl
  have add : ∀ (cs : List Nat) (f g : Nat → Int), (cs.map fun c => f c + g c).sum = (cs.map f).sum + (cs.map g).sum := fun cs f g => by
    induction cs with
    | nil => rfl
    | cons c cs ih => rw [List.map_cons, List.sum_cons, List.map_cons, List.sum_cons, List.map_cons, List.sum_cons, ih]; omega
  induction a with
  | @root w h =>
    rw [add, one _ _ (nodup_kids hs v)]
    have z1 : ¬ w ∈ kids hs v := fun z => by rw [mem_kids.mp z] at h; cases h
    have z2 : ((kids hs v).map fun c => ind (c ∈ ([] : List Nat))).sum = 0 := by
      generalize kids hs v = cs
      induction cs with
      | nil => rfl
      | cons c cs ih =>
        rw [List.map_cons, List.sum_cons, ih]
        unfold ind
        rw [if_neg List.not_mem_nil]; rfl
    rw [z2]
    unfold ind
    rw [if_neg List.not_mem_nil, if_neg z1]; rfl
  | @step w u l h r ih =>
    rw [add] at ih ⊢
    rw [one _ _ (nodup_kids hs v)] at ih ⊢
    have nd := r.nd
    have z1 : ind (w ∈ kids hs v) = ind (v = u) := by
      unfold ind
      by_cases e : v = u
      · subst e
        rw [if_pos (mem_kids.mpr h), if_pos rfl]
      · rw [if_neg e, if_neg fun z => e ?_]
        have q := mem_kids.mp z
        rw [h] at q
        exact (Option.some.inj (Option.some.inj q)).symm
    have z2 : ∀ cs : List Nat, (cs.map fun c => ind (c ∈ u :: l)).sum = (cs.map fun c => ind (c = u)).sum + (cs.map fun c => ind (c ∈ l)).sum := fun cs => by
      rw [← add]
      congr 1
      refine List.map_congr_left fun c _ => ?_
      unfold ind
      by_cases e : c = u
      · subst e
        rw [if_pos List.mem_cons_self, if_pos rfl, if_neg (List.nodup_cons.mp nd).1]; rfl
      · rw [if_neg e]
        by_cases m : c ∈ l
        · rw [if_pos m, if_pos (List.mem_cons_of_mem _ m)]; rfl
        · rw [if_neg m, if_neg (fun z => (List.mem_cons.mp z).elim e m)]; rfl
    have z3 : ind (v ∈ u :: l) = ind (v = u) + ind (v ∈ l) := by
      have z := z2 [v]
      simpa using z
    rw [z1, z2, one _ _ (nodup_kids hs v), z3, ih]
/-- as many things as lie below one -/
def cnt (hs : Hs) (v i : Nat) : Int := ((List.range i).map fun w => ind (v ∈ up hs w)).sum
def Wt (hs : Hs) (F : List Int) : Prop := F.length = hs.length ∧ ∀ v : Nat, v < hs.length → F.getD v 0 = 1 + cnt hs v hs.length
theorem cnt_split {hs : Hs} (fo : Fo hs) (v : Nat) : ∀ i : Nat, i ≤ hs.length → cnt hs v i = ((kids hs v).map fun c => ind (c < i) + cnt hs c i).sum
  | 0, _ => by
    unfold cnt
    rw [List.range_zero]
    generalize kids hs v = cs
    show (0 : Int) = _
    induction cs with
    | nil => rfl
    | cons c cs ih => rw [List.map_cons, List.sum_cons, ← ih]; rfl
  | i + 1, h => by
    have ih := cnt_split fo v i (by omega)
    have suc : ∀ c : Nat, cnt hs c (i + 1) = cnt hs c i + ind (c ∈ up hs i) := fun c => by
      unfold cnt
      rw [List.range_succ, List.map_append, List.sum_append]
      show _ + (ind (c ∈ up hs i) + 0) = _
      omega
    rw [suc, ih, ind_split (v := v) (fo.ups (show i < hs.length by omega))]
    generalize kids hs v = cs
    induction cs with
    | nil => rfl
    | cons c cs ih2 =>
      rw [List.map_cons, List.sum_cons, List.map_cons, List.sum_cons, List.map_cons, List.sum_cons, ← ih2, suc]
      have z : ind (c < i + 1) = ind (c < i) + ind (c = i) := by
        unfold ind
        by_cases e : c = i
        · subst e
          rw [if_pos (Nat.lt_succ_self c), if_neg (Nat.lt_irrefl c), if_pos rfl]; rfl
        · rw [if_neg e]
          by_cases m : c < i
          · rw [if_pos m, if_pos (by omega)]; rfl
          · rw [if_neg m, if_neg (by omega)]; rfl
      rw [z]; omega
theorem Wt.size {hs : Hs} {F : List Int} (fo : Fo hs) (h : Wt hs F) : SizeOk hs F := by
  refine ⟨h.1, fun v hv => ?_⟩
  rw [h.2 v hv, cnt_split fo v _ (Nat.le_refl _)]
  congr 2
  refine List.map_congr_left fun c hc => ?_
  have hcl := (List.getElem?_eq_some_iff.mp (mem_kids.mp hc)).1
  rw [h.2 c hcl]
  unfold ind
  rw [if_pos hcl]
theorem size_one {hs : Hs} {F G : List Int} (fo : Fo hs) (h : SizeOk hs F) (g : SizeOk hs G) : F = G := by
  have key : ∀ (k v : Nat), v < hs.length → hs.length - (up hs v).length = k → F.getD v 0 = G.getD v 0 := fun k => by
    induction k using Nat.strongRecOn with
    | _ k ih =>
      intro v hv e
      rw [h.2 v hv, g.2 v hv]
      congr 2
      refine List.map_congr_left fun c hc => ?_
      have ec := mem_kids.mp hc
      have hcl := (List.getElem?_eq_some_iff.mp ec).1
      have u1 : up hs c = v :: up hs v := (Ups.step ec (fo.ups hv)).up
      have l1 := (fo.ups hcl).len
      refine ih (hs.length - (up hs c).length) ?_ c hcl rfl
      rw [u1, List.length_cons] at l1 ⊢
      omega
  refine List.ext_getElem (h.1.trans g.1.symm) fun i h1 h2 => ?_
  have z := key _ i (by rw [← h.1]; exact h1) rfl
  rw [List.getD_eq_getElem?_getD, List.getD_eq_getElem?_getD, List.getElem?_eq_getElem h1, List.getElem?_eq_getElem h2] at z
  exact z
def spUp : Sp := fun vs H Q _ => ∃ (t : Addr) (hs : Hs) (v : Nat), vs = [.ref t, .int (v : Int)] ∧ H t = some (.tup (hs.map hv)) ∧ Fo hs ∧ hs.length ≤ 1000 ∧ v < hs.length ∧ ∀ p H', Same H H' → H p = none → H' p = some (.lst (nv (up hs v))) → Q (.ref p) H'

theorem cnt_zero (hs : Hs) (v : Nat) : cnt hs v 0 = 0 := rfl
theorem cnt_succ (hs : Hs) (v i : Nat) : cnt hs v (i + 1) = cnt hs v i + ind (v ∈ up hs i) := by
  unfold cnt
  rw [List.range_succ, List.map_append, List.sum_append]
  show _ + (ind (v ∈ up hs i) + 0) = _
  omega
theorem cnt_bound (hs : Hs) (v : Nat) : ∀ i : Nat, 0 ≤ cnt hs v i ∧ cnt hs v i ≤ (i : Int)
  | 0 => by rw [cnt_zero]; exact ⟨Int.le_refl _, Int.le_refl _⟩
  | i + 1 => by
    rw [cnt_succ]
    have h := cnt_bound hs v i
    unfold ind
    split <;> omega
def spWeights : Sp := fun vs H Q _ => ∃ (t : Addr) (hs : Hs), vs = [.ref t] ∧ H t = some (.tup (hs.map hv)) ∧ Fo hs ∧ hs.length ≤ 1000 ∧ ∀ p F H', Same H H' → H p = none → Wt hs F → H' p = some (.lst (iv F)) → Q (.ref p) H'
def spWeights0 : Sp := fun vs H Q _ => ∃ (t : Addr) (hs : Hs), vs = [.ref t] ∧ H t = some (.tup (hs.map hv)) ∧ (hs ≠ [] → Fo hs) ∧ hs.length ≤ 1000 ∧ ∀ p F H', Same H H' → H p = none → Wt hs F → H' p = some (.lst (iv F)) → Q (.ref p) H'
theorem Kn.imp {P : Program} {w : World} {K : PySem.W.Frag} {mg : Str → Option Value} {base : Heap} {CX : CXT} {k : Nat} {x : Str} {st : Stmt} {ps : List Str} {sp sp' : Sp} (F : Kn P w K mg base CX k x st ps sp) (h : ∀ vs H Q E, sp' vs H Q E → sp vs H Q E) : Kn P w K mg base CX k x st ps sp' := by
  obtain ⟨f, fd, ok, r⟩ := F.ex
  exact ⟨f, fd, ok.imp h, r⟩
section
variable {P : Program} {w : World} {K : PySem.W.Frag} {mg : Str → Option Value} {base : Heap}
end

/-! ### heldbehind.shares._place_weights -/
def mulL (a b : List Int) : List Int := List.zipWith (fun x y => x * y) a b
def stayL (l : Int) (ws wy : List Int) : List Int := List.zipWith (fun w s => w * (l - s)) ws wy
def pwStep (wy : List Int) (l : Int) (ws : List Int) : List Int := List.zipWith (fun x y => x + y) (0 :: (mulL ws wy).dropLast) (stayL l ws wy)
def pwTerm (wy ws : List Int) (l : Nat) : Int := (mulL ws wy).getLastD 0 * ((fct l : Nat) : Int)
/-- the weights behind i steps, of n things -/
def pwAt (wy : List Int) (n : Nat) : Nat → List Int
  | 0 => 1 :: List.replicate (wy.length - 1) 0
  | i + 1 => pwStep wy ((n : Int) - (i : Int)) (pwAt wy n i)
/-- for each place the integer whose share of n! is the place's -/
def pw (wy : List Int) (n : Nat) : List Int := (List.range n).map fun i => pwTerm wy (pwAt wy n i) (n - 1 - i)
/-- the sizes on the way down to a thing -/
def wayS (hs : Hs) (F : List Int) (t : Nat) : List Int := ((up hs t).reverse ++ [t]).map fun v => F.getD v 0
def szL (hs : Hs) : List Int := (List.range hs.length).map fun v => 1 + cnt hs v hs.length
theorem szL_wt (hs : Hs) : Wt hs (szL hs) := by
  unfold szL
  refine ⟨by rw [List.length_map, List.length_range], fun v hv => ?_⟩
  rw [List.getD_eq_getElem?_getD, List.getElem?_map, List.getElem?_range hv]; rfl
theorem szL_ok {hs : Hs} (fo : Fo hs) : SizeOk hs (szL hs) := (szL_wt hs).size fo
theorem szL_at {hs : Hs} (fo : Fo hs) {v : Nat} (h : v < hs.length) : 1 ≤ (szL hs).getD v 0 ∧ (szL hs).getD v 0 ≤ (hs.length : Int) := by
  rw [(szL_wt hs).2 v h]
  have z := cnt_bound hs v hs.length
  refine ⟨by omega, ?_⟩
  -- none is below itself
  have z2 : cnt hs v hs.length ≤ (hs.length : Int) - 1 := by
    have h2 : ∀ i : Nat, v < i → i ≤ hs.length → cnt hs v i ≤ (i : Int) - 1 := fun i => by
      induction i with
      | zero => intro q; omega
      | succ i ih =>
        intro q1 q2
        rw [cnt_succ]
        by_cases e : v = i
        · subst e
          have z3 := (cnt_bound hs v v).2
          have z4 : ind (v ∈ up hs v) = 0 := by
            unfold ind
            rw [if_neg (List.nodup_cons.mp (fo.ups h).nd).1]
          omega
        · have z3 := ih (by omega) (by omega)
          have z4 : ind (v ∈ up hs i) ≤ 1 := by unfold ind; split <;> omega
          omega
    exact h2 _ h (Nat.le_refl _)
  omega
theorem mulL_len {a b : List Int} (h : a.length = b.length) : (mulL a b).length = b.length := by
  unfold mulL; rw [List.length_zipWith, h, Nat.min_self]
theorem stayL_len {l : Int} {a b : List Int} (h : a.length = b.length) : (stayL l a b).length = b.length := by
  unfold stayL; rw [List.length_zipWith, h, Nat.min_self]
theorem pwStep_len {wy ws : List Int} {l : Int} (h : ws.length = wy.length) (h1 : 1 ≤ wy.length) : (pwStep wy l ws).length = wy.length := by
  unfold pwStep
  rw [List.length_zipWith, List.length_cons, List.length_dropLast, mulL_len h, stayL_len h]
  omega
theorem pwAt_len {wy : List Int} (n : Nat) (h1 : 1 ≤ wy.length) : ∀ i : Nat, (pwAt wy n i).length = wy.length
  | 0 => by rw [pwAt, List.length_cons, List.length_replicate]; omega
  | i + 1 => by rw [pwAt]; exact pwStep_len (pwAt_len n h1 i) h1
def Bd (B : Nat) (ws : List Int) : Prop := ∀ x ∈ ws, x.natAbs ≤ B
theorem zip_mem {f : Int → Int → Int} {a b : List Int} {x : Int} (h : x ∈ List.zipWith f a b) : ∃ y ∈ a, ∃ z ∈ b, x = f y z := by
  obtain ⟨i, e⟩ := List.getElem?_of_mem h
  rw [List.getElem?_zipWith] at e
  cases ea : a[i]? with
  | none => rw [ea] at e; cases e
  | some y =>
    cases eb : b[i]? with
    | none => rw [ea, eb] at e; cases e
    | some z =>
      rw [ea, eb] at e
      exact ⟨y, List.mem_of_getElem? ea, z, List.mem_of_getElem? eb, (Option.some.inj e).symm⟩
theorem Bd.mul {B C : Nat} {a b : List Int} (h : Bd B a) (g : Bd C b) : Bd (B * C) (mulL a b) := fun x hx => by
  obtain ⟨y, hy, z, hz, rfl⟩ := zip_mem hx
  rw [Int.natAbs_mul]
  exact Nat.mul_le_mul (h y hy) (g z hz)
theorem Bd.stay {B : Nat} {l : Int} {a b : List Int} (h : Bd B a) (g : Bd 60 b) (hl : l.natAbs ≤ 60) : Bd (B * 120) (stayL l a b) := fun x hx => by
  obtain ⟨y, hy, z, hz, rfl⟩ := zip_mem hx
  rw [Int.natAbs_mul]
  have := g z hz
  exact Nat.mul_le_mul (h y hy) (by omega)
theorem Bd.step {B : Nat} {l : Int} {wy ws : List Int} (h : Bd B ws) (g : Bd 60 wy) (hl : l.natAbs ≤ 60) : Bd (B * 256) (pwStep wy l ws) := fun x hx => by
  obtain ⟨y, hy, z, hz, rfl⟩ := zip_mem hx
  have h1 : y.natAbs ≤ B * 60 := by
    rcases List.mem_cons.mp hy with rfl | hy
    · exact Nat.zero_le _
    · exact h.mul g y ((List.dropLast_sublist _).subset hy)
  have h2 := h.stay g hl z hz
  have e : B * 256 = B * 60 + B * 120 + B * 76 := by omega
  omega
theorem pwAt_bd {wy : List Int} {n : Nat} (g : Bd 60 wy) (hn : n ≤ 60) : ∀ i : Nat, i ≤ n → Bd (256 ^ i) (pwAt wy n i)
  | 0, _ => fun x hx => by
    rw [pwAt] at hx
    rcases List.mem_cons.mp hx with rfl | hx
    · decide
    · rw [(List.mem_replicate.mp hx).2]; decide
  | i + 1, h => by
    rw [pwAt, Nat.pow_succ]
    exact (pwAt_bd g hn i (by omega)).step g (by omega)
theorem wayS_len (hs : Hs) (F : List Int) (t : Nat) : 1 ≤ (wayS hs F t).length := by
  unfold wayS
  rw [List.length_map, List.length_append]
  show 1 ≤ _ + 1
  omega
theorem way_lt {hs : Hs} (fo : Fo hs) {t : Nat} (ht : t < hs.length) : ∀ v ∈ (up hs t).reverse ++ [t], v < hs.length := fun v hv => by
  rcases List.mem_append.mp hv with h | h
  · obtain ⟨m, hm, _⟩ := (fo.ups ht).mem v (List.mem_reverse.mp h)
    exact hm.lt
  · rw [List.mem_singleton.mp h]; exact ht
theorem wayS_bd {hs : Hs} (fo : Fo hs) (h60 : hs.length ≤ 60) {t : Nat} (ht : t < hs.length) : Bd 60 (wayS hs (szL hs) t) := fun x hx => by
  obtain ⟨v, hv, rfl⟩ := List.mem_map.mp hx
  have z := szL_at fo (way_lt fo ht v hv)
  omega
theorem iv_at {F : List Int} {i : Nat} {x : V} (h : (iv F)[i]? = some x) : ∃ n : Int, F[i]? = some n ∧ x = .int n := by
  unfold iv at h
  rw [List.getElem?_map] at h
  cases e : F[i]? with
  | none => rw [e] at h; cases h
  | some n => rw [e] at h; exact ⟨n, rfl, (Option.some.inj h).symm⟩
theorem iv_snoc (F : List Int) (n : Int) : iv F ++ [V.int n] = iv (F ++ [n]) := by unfold iv; rw [List.map_append]; rfl
theorem zip_at {f : Int → Int → Int} {a b : List Int} {j : Nat} {y z : Int} (e1 : a[j]? = some y) (e2 : b[j]? = some z) : (List.zipWith f a b).take (j + 1) = (List.zipWith f a b).take j ++ [f y z] := by
  rw [List.take_add_one, List.getElem?_zipWith, e1, e2]; rfl
theorem iv_nv (l : List Nat) : nv l = iv (l.map fun v : Nat => ((v : Nat) : Int)) := by unfold nv iv; rw [List.map_map]; rfl
section
variable {P : Program} {w : World} {K : PySem.W.Frag} {mg : Str → Option Value} {base : Heap} {CF CT : Addr}
end

/-! ### heldbehind.sequences.count_sequences -/
/-- one size after the other divides -/
def divAll (a : Int) (F : List Int) : Int := F.foldl (fun x s => x / s) a
theorem divAll_snoc (a : Int) (F : List Int) (s : Int) : divAll a (F ++ [s]) = divAll a F / s := by
  unfold divAll
  rw [List.foldl_append]; rfl
/-- the number of sequences, as it is reckoned -/
def cntL (hs : Hs) : Int := divAll ((fct hs.length : Nat) : Int) (szL hs)
def spCnt : Sp := fun vs H Q _ => ∃ (a : Addr) (hs : Hs), vs = [.ref a] ∧ H a = some (.tup (hs.map hv)) ∧ Fo hs ∧ hs.length ≤ 60 ∧ ∀ H', Same H H' → Q (.int (cntL hs)) H'
section
variable {P : Program} {w : World} {K : PySem.W.Frag} {mg : Str → Option Value} {base : Heap} {CF : Addr}
abbrev st_count_sequences : Stmt := topS 23
abbrev N_count_sequences : List Str := ["forest", "size_of", "found", "size"]
theorem sc_count_sequences : FnScope N_count_sequences ["forest"] (defScope st_count_sequences) := ⟨rfl, rfl, rfl, by decide +kernel, rfl, by decide +kernel, by decide +kernel⟩
theorem ok_count_sequences (D : Df K mg "count_sequences" st_count_sequences ["forest"]) (B : Bl mg) (BM : Bm mg) (Ksizes : Kn P w K mg base (L2.CX P w) 7 "sizes" st_sizes ["forest"] (spOf CF fun hs l => ∃ F, l = iv F ∧ SizeOk hs F)) :
    Kn P w K mg base (L2.CX P w) 8 "count_sequences" st_count_sequences ["forest"] spCnt := by
  refine D.okX sc_count_sequences (fun vs H Q E h => ?_) (fun f cdv A outer s H vs Q E hr h => ?_)
  · obtain ⟨a, hs, rfl, _⟩ := h; rfl
  obtain ⟨a, hs, rfl, ha, fo, hl, q⟩ := h
  refine ⟨_, ((pss_cons (ps_set (i := 1) sc_count_sequences.nd rfl (Or.inl rfl) (pe_callF Ksizes (hr.mono (by decide)) (passX (takes_of rfl rfl rfl rfl)) (pa_cons (pv 0) pa_nil)))
      (pss_cons (ps_set (i := 2) sc_count_sequences.nd rfl (Or.inl rfl) (pe_callBfun cr_factorial (by rfl) BM.factorial (pa_cons (pe_callB call_len (by rfl) B.len (by decide +kernel) (pa_cons (pv 1) pa_nil)) pa_nil)))
      (pss_cons (ps_for (passes_of rfl) rfl (pi_list (pv 1)) (pg_name (i := 3) sc_count_sequences.nd rfl (Or.inl rfl)) (pss_one (ps_set (i := 2) sc_count_sequences.nd rfl (Or.inl rfl) (pe_op op_fdivW (pv 2) (pv 3)))))
      (pss_one (ps_ret (pv 2))))))), ?_⟩
  have e : tupAt H (.ref a) = some (hs.map hv) := tupAt_tup ha
  have hb : ∀ hs' : Hs, tupAt H (.ref a) = some (hs'.map hv) → hs'.length ≤ 60 := fun hs' e' => by
    rw [e] at e'
    have z := congrArg List.length (Option.some.inj e')
    rw [List.length_map, List.length_map] at z
    omega
  refine ⟨_, rfl, .ref a, rfl, askdF ha hl, hb, fun n => absurd ⟨hs, e, fo⟩ n, fun hs' e' fo' r l H1 ⟨F, el, ok⟩ s1 hrn hr1 => ?_⟩
  have eh : hs = hs' := by
    rw [e] at e'
    exact hv_inj (Option.some.inj e')
  subst eh
  subst el
  have lF := ok.1
  have eF : F = szL hs := size_one fo ok (szL_ok fo)
  subst eF
  refine ⟨_, rfl, _, _, rfl, .inl ⟨_, SqL.of hr1, rfl⟩, (szL hs).length, ?_, by omega, ?_⟩
  · rw [iv_length]
  rw [lF]
  refine ⟨_, rfl, r, rfl, ⟨_, SqL.of hr1⟩, for_it (walk_list (xs := iv (szL hs))) (fun i σ H' => ∃ v3, σ = [some (.ref a), some (.ref r), some (.int (divAll ((fct hs.length : Nat) : Int) ((szL hs).take i))), v3] ∧ Same H1 H') ⟨_, rfl, Same.refl H1⟩ (fun i σ H' _ z => ?_) ?_ ?_⟩
  · obtain ⟨_, _, z⟩ := z
    exact SqL.of (z _ _ hr1)
  · rintro i x σ H2 H3 hi ⟨v3, rfl, s2⟩ ⟨rfl, e1⟩
    rw [iv_length] at hi
    rw [iv_get hi] at e1
    cases e1
    rw [lF] at hi
    have b := szL_at fo hi
    have ds : divAll ((fct hs.length : Nat) : Int) ((szL hs).take (i + 1)) = divAll ((fct hs.length : Nat) : Int) ((szL hs).take i) / (szL hs).getD i 0 := by
      have hi2 : i < (szL hs).length := by omega
      have ei : (szL hs).getD i 0 = (szL hs)[i] := by rw [List.getD_eq_getElem?_getD, List.getElem?_eq_getElem hi2]; rfl
      have tk : (szL hs).take (i + 1) = (szL hs).take i ++ [(szL hs)[i]] := by rw [List.take_add_one, List.getElem?_eq_getElem hi2]; rfl
      rw [tk, divAll_snoc, ei]
    exact ⟨_, rfl, _, rfl, _, _, rfl, rfl, wide_div (b := 64) (by omega) (Nat.lt_of_le_of_lt (show _ ≤ 100 by omega) (by decide)) (by decide) (by decide), some (.int ((szL hs).getD i 0)), by rw [ds]; rfl, s2⟩
  · rintro σ H2 ⟨v3, rfl, s2⟩
    have et : (szL hs).take (iv (szL hs)).length = szL hs := by rw [iv_length, List.take_length]
    rw [et]
    exact ⟨_, rfl, q H2 (s1.trans s2)⟩
end

end My

namespace My
open PySem PySem.Spec PyProof.Rows L2
/-! ### sequences by beginnings: what can be next, and how many ways there are on -/
theorem sum_add (cs : List Nat) (f g : Nat → Int) : (cs.map fun c => f c + g c).sum = (cs.map f).sum + (cs.map g).sum := by
  induction cs with
  | nil => rfl
  | cons c cs ih => rw [List.map_cons, List.sum_cons, List.map_cons, List.sum_cons, List.map_cons, List.sum_cons, ih]; omega
theorem sum_zero {cs : List Nat} {f : Nat → Int} (h : ∀ c ∈ cs, f c = 0) : (cs.map f).sum = 0 := by
  induction cs with
  | nil => rfl
  | cons c cs ih => rw [List.map_cons, List.sum_cons, h c List.mem_cons_self, ih fun x hx => h x (List.mem_cons_of_mem _ hx)]; rfl
theorem sum_one {cs : List Nat} (nd : cs.Nodup) (x : Nat) : (cs.map fun c => ind (x = c)).sum = ind (x ∈ cs) := by
  induction cs with
  | nil => rfl
  | cons c cs ih =>
    obtain ⟨n1, n2⟩ := List.nodup_cons.mp nd
    rw [List.map_cons, List.sum_cons, ih n2]
    unfold ind
    by_cases e : x = c
    · subst e
      rw [if_pos rfl, if_neg n1, if_pos List.mem_cons_self]; rfl
    · rw [if_neg e]
      by_cases m : x ∈ cs
      · rw [if_pos m, if_pos (List.mem_cons_of_mem _ m)]; rfl
      · rw [if_neg m, if_neg (fun z => (List.mem_cons.mp z).elim e m)]; rfl
theorem sum_swap (cs ws : List Nat) (f : Nat → Nat → Int) : (cs.map fun c => (ws.map fun w => f c w).sum).sum = (ws.map fun w => (cs.map fun c => f c w).sum).sum := by
  induction cs with
  | nil => rw [List.map_nil]; exact (sum_zero fun _ _ => rfl).symm
  | cons c cs ih =>
    rw [List.map_cons, List.sum_cons, ih, ← sum_add]
    rfl
theorem sum_const (cs : List Nat) (x : Int) : (cs.map fun _ => x).sum = x * (cs.length : Int) := by
  induction cs with
  | nil => rw [List.map_nil, List.length_nil]; exact (Int.mul_zero x).symm
  | cons c cs ih =>
    rw [List.map_cons, List.sum_cons, ih, List.length_cons]
    have e : ((cs.length + 1 : Nat) : Int) = (cs.length : Int) + 1 := rfl
    rw [e, Int.mul_add, Int.mul_one]
    omega
theorem sum_mul (cs : List Nat) (f : Nat → Int) (x : Int) : (cs.map fun c => x * f c).sum = x * (cs.map f).sum := by
  induction cs with
  | nil => exact (Int.mul_zero x).symm
  | cons c cs ih => rw [List.map_cons, List.sum_cons, ih, List.map_cons, List.sum_cons, Int.mul_add]
def avB (hs : Hs) (r : List Nat) (v : Nat) : Bool := decide (v ∉ r) && (match hs[v]? with
  | some none => true
  | some (some u) => decide (u ∈ r)
  | none => false)
/-- what can be next behind a beginning -/
def av (hs : Hs) (r : List Nat) : List Nat := (List.range hs.length).filter (avB hs r)
structure Pre (hs : Hs) (r : List Nat) : Prop where
  nd : r.Nodup
  lt : ∀ v ∈ r, v < hs.length
  cl : ∀ v ∈ r, ∀ u : Nat, hs[v]? = some (some u) → u ∈ r
theorem av_nd (hs : Hs) (r : List Nat) : (av hs r).Nodup := List.nodup_range.filter _
theorem av_mem {hs : Hs} {r : List Nat} {v : Nat} : v ∈ av hs r ↔ v < hs.length ∧ v ∉ r ∧ ∀ u : Nat, hs[v]? = some (some u) → u ∈ r := by
  unfold av avB
  rw [List.mem_filter, List.mem_range, Bool.and_eq_true, decide_eq_true_eq]
  constructor
  · rintro ⟨h1, h2, h3⟩
    refine ⟨h1, h2, fun u e => ?_⟩
    rw [e] at h3
    exact of_decide_eq_true h3
  · rintro ⟨h1, h2, h3⟩
    refine ⟨h1, h2, ?_⟩
    rw [List.getElem?_eq_getElem h1] at h3 ⊢
    generalize hs[v]'h1 = o at h3 ⊢
    rcases o with _ | u
    · rfl
    · exact decide_eq_true (h3 u rfl)
theorem Pre.ups {hs : Hs} {r : List Nat} (p : Pre hs r) {w : Nat} {l : List Nat} (a : Ups hs w l) : w ∈ r → ∀ x ∈ l, x ∈ r := by
  induction a with
  | root h => intro _ x hx; cases hx
  | @step w u l h _ ih =>
    intro hw x hx
    have hu := p.cl w hw u h
    rcases List.mem_cons.mp hx with rfl | hx
    · exact hu
    · exact ih hu x hx
theorem av_one {hs : Hs} {r : List Nat} (p : Pre hs r) {w : Nat} {l : List Nat} (a : Ups hs w l) : ((av hs r).map fun v => ind (w = v) + ind (v ∈ l)).sum = ind (w ∉ r) := by
  have noav : ∀ v ∈ av hs r, v ∉ r := fun v hv => (av_mem.mp hv).2.1
  induction a with
  | @root w h =>
    have hl := (List.getElem?_eq_some_iff.mp h).1
    have e : (av hs r).map (fun v => ind (w = v) + ind (v ∈ ([] : List Nat))) = (av hs r).map fun v => ind (w = v) := List.map_congr_left fun v _ => by
      have z : ind (v ∈ ([] : List Nat)) = 0 := by unfold ind; rw [if_neg List.not_mem_nil]
      rw [z, Int.add_zero]
    rw [e, sum_one (av_nd hs r)]
    unfold ind
    by_cases c : w ∈ r
    · rw [if_neg (fun z => noav w z c), if_neg (fun z => z c)]
    · rw [if_pos (av_mem.mpr ⟨hl, c, fun u e => by rw [h] at e; cases e⟩), if_pos c]
  | @step w u l h ru ih =>
    have hl := (List.getElem?_eq_some_iff.mp h).1
    have nd := ru.nd
    have split : ∀ v : Nat, ind (v ∈ u :: l) = ind (u = v) + ind (v ∈ l) := fun v => by
      unfold ind
      by_cases e : u = v
      · subst e
        rw [if_pos List.mem_cons_self, if_pos rfl, if_neg (List.nodup_cons.mp nd).1]; rfl
      · rw [if_neg e]
        by_cases m : v ∈ l
        · rw [if_pos m, if_pos (List.mem_cons_of_mem _ m)]; rfl
        · rw [if_neg m, if_neg (fun z => (List.mem_cons.mp z).elim (fun q => e q.symm) m)]; rfl
    have e : (av hs r).map (fun v => ind (w = v) + ind (v ∈ u :: l)) = (av hs r).map fun v => ind (w = v) + (ind (u = v) + ind (v ∈ l)) := List.map_congr_left fun v _ => by rw [split]
    rw [e, sum_add, ih, sum_one (av_nd hs r)]
    unfold ind
    by_cases c : w ∈ r
    · rw [if_neg (fun z => noav w z c), if_neg (fun z => z (p.cl w c u h)), if_neg (fun z => z c)]; rfl
    · by_cases cu : u ∈ r
      · rw [if_pos (av_mem.mpr ⟨hl, c, fun u' e => by rw [h] at e; cases e; exact cu⟩), if_neg (fun z => z cu), if_pos c]; rfl
      · rw [if_neg (fun z => cu ((av_mem.mp z).2.2 u h)), if_pos cu, if_pos c]; rfl
/-- the sizes of what can be next come to what is left -/
theorem av_sum {hs : Hs} (fo : Fo hs) {r : List Nat} (p : Pre hs r) : ((av hs r).map fun v => (szL hs).getD v 0).sum = (hs.length : Int) - (r.length : Int) := by
  have e1 : (av hs r).map (fun v => (szL hs).getD v 0) = (av hs r).map fun v => ((List.range hs.length).map fun w => ind (w = v) + ind (v ∈ up hs w)).sum := List.map_congr_left fun v hv => by
    have hl := (av_mem.mp hv).1
    rw [(szL_wt hs).2 v hl, sum_add]
    have z : ((List.range hs.length).map fun w => ind (w = v)).sum = 1 := by
      have z1 : (List.range hs.length).map (fun w => ind (w = v)) = (List.range hs.length).map fun w => ind (v = w) := List.map_congr_left fun w _ => by
        unfold ind
        by_cases e : w = v
        · rw [if_pos e, if_pos e.symm]
        · rw [if_neg e, if_neg fun z => e z.symm]
      rw [z1, sum_one List.nodup_range]
      unfold ind
      rw [if_pos (List.mem_range.mpr hl)]
    rw [z]; rfl
  rw [e1, sum_swap]
  have e2 : (List.range hs.length).map (fun w => ((av hs r).map fun v => ind (w = v) + ind (v ∈ up hs w)).sum) = (List.range hs.length).map fun w => 1 + (-1) * ((r.map fun x => ind (w = x)).sum) := List.map_congr_left fun w hw => by
    rw [av_one p (fo.ups (List.mem_range.mp hw)), sum_one p.nd]
    unfold ind
    by_cases c : w ∈ r
    · rw [if_neg (fun z => z c), if_pos c]; rfl
    · rw [if_pos c, if_neg c]; rfl
  rw [e2, sum_add, sum_const, sum_mul, sum_swap]
  have e3 : (r.map fun x => ((List.range hs.length).map fun w => ind (w = x)).sum) = r.map fun _ => (1 : Int) := List.map_congr_left fun x hx => by
    have z1 : (List.range hs.length).map (fun w => ind (w = x)) = (List.range hs.length).map fun w => ind (x = w) := List.map_congr_left fun w _ => by
      unfold ind
      by_cases e : w = x
      · rw [if_pos e, if_pos e.symm]
      · rw [if_neg e, if_neg fun z => e z.symm]
    rw [z1, sum_one List.nodup_range]
    unfold ind
    rw [if_pos (List.mem_range.mpr (p.lt x hx))]
  rw [e3, sum_const, List.length_range]
  omega
theorem Pre.nil (hs : Hs) : Pre hs [] := ⟨List.nodup_nil, fun _ h => absurd h List.not_mem_nil, fun _ h => absurd h List.not_mem_nil⟩
theorem Pre.snoc {hs : Hs} {r : List Nat} {v : Nat} (p : Pre hs r) (h : v ∈ av hs r) : Pre hs (r ++ [v]) := by
  obtain ⟨h1, h2, h3⟩ := av_mem.mp h
  refine ⟨List.nodup_append.mpr ⟨p.nd, List.nodup_cons.mpr ⟨List.not_mem_nil, List.nodup_nil⟩, fun a ha b hb => ?_⟩, fun x hx => ?_, fun x hx u e => ?_⟩
  · rw [List.mem_singleton.mp hb]
    intro z; subst z; exact h2 ha
  · rcases List.mem_append.mp hx with hx | hx
    · exact p.lt x hx
    · rw [List.mem_singleton.mp hx]; exact h1
  · rcases List.mem_append.mp hx with hx | hx
    · exact List.mem_append_left _ (p.cl x hx u e)
    · rw [List.mem_singleton.mp hx] at e
      exact List.mem_append_left _ (h3 u e)

/-! ### how many ways there are on behind a beginning -/
def ext (hs : Hs) (r : List Nat) : List (List Nat) := (av hs r).map fun v => r ++ [v]
def rowsAt (hs : Hs) : Nat → List (List Nat)
  | 0 => [[]]
  | k + 1 => (rowsAt hs k).flatMap (ext hs)
def more (hs : Hs) : Nat → List Nat → Int
  | 0, _ => 1
  | k + 1, r => ((av hs r).map fun v => more hs k (r ++ [v])).sum
def facs (hs : Hs) (r : List Nat) (cs : List Nat) : List Int := cs.map fun w => if w ∈ r then 1 else (szL hs).getD w 0
def rest (hs : Hs) (r : List Nat) : Int := (facs hs r (List.range hs.length)).prod
theorem facs_same {hs : Hs} {r : List Nat} {v : Nat} : ∀ {cs : List Nat}, v ∉ cs → facs hs (r ++ [v]) cs = facs hs r cs := fun {cs} hv => List.map_congr_left fun w hw => by
  have e : w ∈ r ++ [v] ↔ w ∈ r := by
    rw [List.mem_append, List.mem_singleton]
    exact ⟨fun h => h.elim id fun z => absurd (z ▸ hw) hv, .inl⟩
  by_cases c : w ∈ r
  · rw [if_pos c, if_pos (e.mpr c)]
  · rw [if_neg c, if_neg fun z => c (e.mp z)]
theorem facs_prod {hs : Hs} {r : List Nat} {v : Nat} (hr : v ∉ r) : ∀ {cs : List Nat}, cs.Nodup → v ∈ cs → (facs hs r cs).prod = (facs hs (r ++ [v]) cs).prod * (szL hs).getD v 0
  | c :: cs, nd, hv => by
    obtain ⟨n1, n2⟩ := List.nodup_cons.mp nd
    show ((if c ∈ r then 1 else (szL hs).getD c 0) :: facs hs r cs).prod = ((if c ∈ r ++ [v] then 1 else (szL hs).getD c 0) :: facs hs (r ++ [v]) cs).prod * _
    rw [List.prod_cons, List.prod_cons]
    by_cases e : v = c
    · subst e
      rw [if_neg hr, if_pos (List.mem_append_right _ List.mem_cons_self), facs_same n1, Int.one_mul, Int.mul_comm]
    · have hv2 : v ∈ cs := (List.mem_cons.mp hv).resolve_left e
      rw [facs_prod hr n2 hv2]
      have e2 : c ∈ r ++ [v] ↔ c ∈ r := by
        rw [List.mem_append, List.mem_singleton]
        exact ⟨fun h => h.elim id fun z => absurd z.symm e, .inl⟩
      by_cases m : c ∈ r
      · rw [if_pos m, if_pos (e2.mpr m), Int.mul_assoc]
      · rw [if_neg m, if_neg (fun z => m (e2.mp z)), Int.mul_assoc]
theorem rest_pos {hs : Hs} (fo : Fo hs) (r : List Nat) : 0 < rest hs r := by
  have key : ∀ cs : List Nat, (∀ c ∈ cs, c < hs.length) → 0 < (facs hs r cs).prod := fun cs => by
    induction cs with
    | nil => intro _; exact Int.one_pos
    | cons c cs ih =>
      intro h
      show 0 < ((if c ∈ r then 1 else (szL hs).getD c 0) :: facs hs r cs).prod
      rw [List.prod_cons]
      have p := ih fun x hx => h x (List.mem_cons_of_mem _ hx)
      have q := (szL_at fo (h c List.mem_cons_self)).1
      refine Int.mul_pos ?_ p
      split <;> omega
  exact key _ fun c hc => List.mem_range.mp hc
theorem rest_step {hs : Hs} {r : List Nat} {v : Nat} (h : v ∈ av hs r) : rest hs r = rest hs (r ++ [v]) * (szL hs).getD v 0 :=
  facs_prod (av_mem.mp h).2.1 List.nodup_range (List.mem_range.mpr (av_mem.mp h).1)
theorem more_rest {hs : Hs} (fo : Fo hs) : ∀ (k : Nat) (r : List Nat), Pre hs r → r.length + k = hs.length → more hs k r * rest hs r = ((fct k : Nat) : Int)
  | 0, r, p, h => by
    have full := mem_of_full hs.length r p.nd p.lt (by omega)
    have e : facs hs r (List.range hs.length) = (List.range hs.length).map fun _ => (1 : Int) := List.map_congr_left fun w hw => if_pos (full w (List.mem_range.mp hw))
    have z : ∀ cs : List Nat, (cs.map fun _ => (1 : Int)).prod = 1 := fun cs => by
      induction cs with
      | nil => rfl
      | cons c cs ih => rw [List.map_cons, List.prod_cons, ih]; rfl
    unfold rest
    rw [e, z]; rfl
  | k + 1, r, p, h => by
    show ((av hs r).map fun v => more hs k (r ++ [v])).sum * rest hs r = _
    have e : ∀ cs : List Nat, (∀ v ∈ cs, v ∈ av hs r) → (cs.map fun v => more hs k (r ++ [v])).sum * rest hs r = ((fct k : Nat) : Int) * (cs.map fun v => (szL hs).getD v 0).sum := fun cs => by
      induction cs with
      | nil => intro _; show (0 : Int) * _ = _ * 0; rw [Int.zero_mul, Int.mul_zero]
      | cons v cs ih =>
        intro hc
        have hv := hc v List.mem_cons_self
        rw [List.map_cons, List.sum_cons, List.map_cons, List.sum_cons, Int.add_mul, ih fun x hx => hc x (List.mem_cons_of_mem _ hx), Int.mul_add]
        congr 1
        rw [rest_step hv, ← Int.mul_assoc, more_rest fo k (r ++ [v]) (p.snoc hv) (by rw [List.length_append]; show _ + 1 + k = _; omega)]
    rw [e _ fun _ h => h, av_sum fo p]
    have z : (hs.length : Int) - (r.length : Int) = ((k + 1 : Nat) : Int) := by omega
    rw [z, fct]; rfl
theorem more_step {hs : Hs} (fo : Fo hs) {k : Nat} {r : List Nat} (p : Pre hs r) (h : r.length + (k + 1) = hs.length) {v : Nat} (hv : v ∈ av hs r) : more hs (k + 1) r * (szL hs).getD v 0 = ((k + 1 : Nat) : Int) * more hs k (r ++ [v]) := by
  have a := more_rest fo (k + 1) r p h
  have b := more_rest fo k (r ++ [v]) (p.snoc hv) (by rw [List.length_append]; show _ + 1 + k = _; omega)
  have c := rest_pos fo (r ++ [v])
  rw [rest_step hv, fct, Int.natCast_mul, ← b] at a
  refine Int.eq_of_mul_eq_mul_right (Int.ne_of_gt c) ?_
  have e1 : more hs (k + 1) r * (szL hs).getD v 0 * rest hs (r ++ [v]) = more hs (k + 1) r * (rest hs (r ++ [v]) * (szL hs).getD v 0) := by rw [Int.mul_assoc, Int.mul_comm ((szL hs).getD v 0)]
  have e2 : ((k + 1 : Nat) : Int) * more hs k (r ++ [v]) * rest hs (r ++ [v]) = more hs k (r ++ [v]) * rest hs (r ++ [v]) * ((k + 1 : Nat) : Int) := by rw [Int.mul_assoc, Int.mul_comm]
  rw [e1, e2, a]
/-- over all beginnings of so many -/
def over (hs : Hs) (j : Nat) (f : List Nat → Int) : Int := ((rowsAt hs j).map f).sum
theorem over_step (hs : Hs) (j : Nat) (f : List Nat → Int) : over hs (j + 1) f = over hs j fun r => ((av hs r).map fun v => f (r ++ [v])).sum := by
  show (((rowsAt hs j).flatMap (ext hs)).map f).sum = _
  unfold over
  generalize rowsAt hs j = rs
  induction rs with
  | nil => rfl
  | cons r rs ih =>
    rw [List.flatMap_cons, List.map_append, List.sum_append, ih, List.map_cons, List.sum_cons]
    congr 1
    unfold ext
    rw [List.map_map]; rfl
theorem rows_pre (hs : Hs) : ∀ (j : Nat) (r : List Nat), r ∈ rowsAt hs j → Pre hs r ∧ r.length = j
  | 0, r, h => by
    rw [List.mem_singleton.mp h]
    exact ⟨Pre.nil hs, rfl⟩
  | j + 1, r, h => by
    obtain ⟨q, hq, hr⟩ := List.mem_flatMap.mp h
    obtain ⟨v, hv, rfl⟩ := List.mem_map.mp hr
    obtain ⟨p, l⟩ := rows_pre hs j q hq
    exact ⟨p.snoc hv, by rw [List.length_append, l]; rfl⟩
theorem over_congr {hs : Hs} {j : Nat} {f g : List Nat → Int} (h : ∀ r, Pre hs r → r.length = j → f r = g r) : over hs j f = over hs j g := by
  unfold over
  congr 1
  exact List.map_congr_left fun r hr => h r (rows_pre hs j r hr).1 (rows_pre hs j r hr).2

theorem over_on {hs : Hs} {f : List Nat → Int} {j0 : Nat} (h : ∀ r v, j0 ≤ r.length → f (r ++ [v]) = f r) : ∀ d j : Nat, j + d = hs.length → j0 ≤ j → over hs hs.length f = over hs j fun r => f r * more hs d r
  | 0, j, e, _ => by
    have ej : j = hs.length := by omega
    subst ej
    refine over_congr fun r _ _ => ?_
    show f r = f r * 1
    rw [Int.mul_one]
  | d + 1, j, e, hj => by
    rw [over_on h d (j + 1) (by omega) (by omega), over_step]
    refine over_congr fun r _ hr => ?_
    have e1 : (av hs r).map (fun v => f (r ++ [v]) * more hs d (r ++ [v])) = (av hs r).map fun v => f r * more hs d (r ++ [v]) := List.map_congr_left fun v _ => by rw [h r v (by omega)]
    rw [e1, sum_mul]; rfl
theorem rows_many (hs : Hs) : ((rowsAt hs hs.length).length : Int) = more hs hs.length [] := by
  have h := over_on (hs := hs) (f := fun _ => 1) (j0 := 0) (fun _ _ _ => rfl) hs.length 0 (Nat.zero_add _) (Nat.le_refl 0)
  have e : over hs hs.length (fun _ => 1) = ((rowsAt hs hs.length).length : Int) := by
    unfold over
    generalize rowsAt hs hs.length = rs
    induction rs with
    | nil => rfl
    | cons r rs ih => rw [List.map_cons, List.sum_cons, ih, List.length_cons]; omega
  rw [← e, h]
  show 1 * more hs hs.length [] + 0 = _
  rw [Int.one_mul, Int.add_zero]

theorem cntL_more {hs : Hs} (fo : Fo hs) : cntL hs = more hs hs.length [] := by
  have a := more_rest fo hs.length [] (Pre.nil hs) (by rw [List.length_nil, Nat.zero_add])
  have key : ∀ (F : List Int) (x : Int), (∀ y ∈ F, 1 ≤ y) → divAll (x * F.prod) F = x := fun F => by
    induction F with
    | nil => intro x _; show x * 1 = x; rw [Int.mul_one]
    | cons y F ih =>
      intro x h
      have hy := h y List.mem_cons_self
      show divAll (x * (y :: F).prod / y) F = x
      rw [List.prod_cons, show x * (y * F.prod) = (x * F.prod) * y by rw [Int.mul_comm y, Int.mul_assoc], Int.mul_ediv_cancel _ (by omega)]
      exact ih x fun z hz => h z (List.mem_cons_of_mem _ hz)
  have e : rest hs [] = (szL hs).prod := by
    unfold rest facs
    congr 1
    have lz : (szL hs).length = hs.length := (szL_ok fo).1
    refine List.ext_getElem (by rw [List.length_map, List.length_range, lz]) fun i h1 h2 => ?_
    rw [List.getElem_map, if_neg List.not_mem_nil, List.getElem_range, List.getD_eq_getElem?_getD, List.getElem?_eq_getElem h2]; rfl
  unfold cntL
  rw [← a, e]
  refine key _ _ fun y hy => ?_
  obtain ⟨i, ei⟩ := List.getElem?_of_mem hy
  have hi := (List.getElem?_eq_some_iff.mp ei).1
  have lz : (szL hs).length = hs.length := (szL_ok fo).1
  have b := szL_at fo (show i < hs.length by omega)
  rw [List.getD_eq_getElem?_getD, ei] at b
  exact b.1
theorem cntL_rows {hs : Hs} (fo : Fo hs) : cntL hs = ((rowsAt hs hs.length).length : Int) := by rw [rows_many, cntL_more fo]

theorem cnt_pos {hs : Hs} (fo : Fo hs) : 1 ≤ cntL hs := by
  rw [cntL_more fo]
  have a := more_rest fo hs.length [] (Pre.nil hs) (by rw [List.length_nil, Nat.zero_add])
  have b := rest_pos fo []
  have f : (0 : Int) < ((fct hs.length : Nat) : Int) := by
    have key : ∀ n, 0 < fct n := fun n => by
      induction n with
      | zero => exact Nat.one_pos
      | succ n ih => rw [fct]; exact Nat.mul_pos ih (Nat.succ_pos n)
    exact Int.ofNat_lt.mpr (key _)
  by_cases c : 1 ≤ more hs hs.length []
  · exact c
  · have z : more hs hs.length [] * rest hs [] ≤ 0 := Int.mul_nonpos_of_nonpos_of_nonneg (by omega) (Int.le_of_lt b)
    omega

structure Rws (H : Hp) (as : List Addr) (rs : List (List Nat)) : Prop where
  len : as.length = rs.length
  at_ : ∀ (i : Nat) (p : Addr) (r : List Nat), as[i]? = some p → rs[i]? = some r → H p = some (.lst (nv r))
theorem Rws.same {H H' : Hp} {as : List Addr} {rs : List (List Nat)} (h : Rws H as rs) (s : Same H H') : Rws H' as rs := ⟨h.len, fun i p r e1 e2 => s _ _ (h.at_ i p r e1 e2)⟩
theorem Rws.but {H : Hp} {as : List Addr} {rs : List (List Nat)} (h : Rws H as rs) {a : Addr} {o : HO} (n : a ∉ as) : Rws (upd H a o) as rs := ⟨h.len, fun i p r e1 e2 => by
  rw [upd_ne (fun z : p = a => n (by rw [← z]; exact List.mem_of_getElem? e1))]; exact h.at_ i p r e1 e2⟩
theorem Rws.grow {H : Hp} {as : List Addr} {rs : List (List Nat)} {p : Addr} {r : List Nat} (h : Rws H as rs) (hp : H p = some (.lst (nv r))) : Rws H (as ++ [p]) (rs ++ [r]) := by
  refine ⟨by rw [List.length_append, List.length_append, h.len]; rfl, fun i q y e1 e2 => ?_⟩
  by_cases c : i < as.length
  · rw [List.getElem?_append_left c] at e1
    rw [List.getElem?_append_left (by rw [← h.len]; exact c)] at e2
    exact h.at_ i q y e1 e2
  · have c2 : as.length ≤ i := by omega
    rw [List.getElem?_append_right c2] at e1
    rw [List.getElem?_append_right (by rw [← h.len]; exact c2), ← h.len] at e2
    rcases hz : i - as.length with _ | m
    · rw [hz] at e1 e2
      cases e1; cases e2; exact hp
    · rw [hz] at e1; cases e1

def rwD (rs : List (List Nat)) : List PyData := rs.map fun r => PyData.list (nD r)
theorem dp_rows {K : PySem.W.Frag} {H : Hp} : ∀ {as : List Addr} {rs : List (List Nat)}, Rws H as rs → DpAll K H (as.map V.ref) (rwD rs)
  | [], [], _ => .nil
  | [], _ :: _, h => by have := h.len; cases this
  | _ :: _, [], h => by have := h.len; cases this
  | a :: as, r :: rs, h => .cons (.lst (SqL.of (h.at_ 0 a r rfl rfl)) (dp_nv r)) (dp_rows ⟨Nat.succ.inj h.len, fun i p q e1 e2 => h.at_ (i + 1) p q e1 e2⟩)
theorem lay_rwD : ∀ rs : List (List Nat), PyData.canLayAll0 (rwD rs) = true
  | [] => rfl
  | r :: rs => by
    show PyData.canLayAll0 (PyData.list (nD r) :: rwD rs) = true
    rw [PyData.canLayAll0, PyData.canLay0, lay_nD, lay_rwD rs]; rfl
theorem deep_rwD : ∀ rs : List (List Nat), PyData.depthAll (rwD rs) = 0 ∨ PyData.depthAll (rwD rs) = 1
  | [] => .inl rfl
  | r :: rs => by
    refine .inr ?_
    show PyData.depthAll (PyData.list (nD r) :: rwD rs) = 1
    rw [PyData.depthAll, PyData.depth, deep_nD]
    rcases deep_rwD rs with z | z <;> rw [z] <;> rfl
theorem shaped_rwD (rs : List (List Nat)) : SeqAt.shaped (.list (rwD rs)) = true := by
  unfold SeqAt.shaped
  rw [PyData.canLay0, lay_rwD, PyData.depth]
  rcases deep_rwD rs with z | z <;> rw [z] <;> rfl
theorem Rws.get {H : Hp} {as : List Addr} {rs : List (List Nat)} (h : Rws H as rs) {i : Nat} {q : Addr} (e : as[i]? = some q) : ∃ r, rs[i]? = some r ∧ H q = some (.lst (nv r)) := by
  have hi := (List.getElem?_eq_some_iff.mp e).1
  have e2 : rs[i]? = some (rs[i]'(by rw [← h.len]; exact hi)) := List.getElem?_eq_getElem _
  exact ⟨_, e2, h.at_ i q _ e e2⟩
theorem ref_at {as : List Addr} {i : Nat} {x : V} (e : (as.map V.ref)[i]? = some x) : ∃ q, as[i]? = some q ∧ x = .ref q := by
  rw [List.getElem?_map] at e
  cases h : as[i]? with
  | none => rw [h] at e; cases e
  | some q => rw [h] at e; exact ⟨q, rfl, (Option.some.inj e).symm⟩

end My

namespace My
open PySem PySem.Spec PyProof.Rows L2
/-! ### what a value reads as, further on -/
theorem tupAt_sameV {H H' : Hp} {x : V} (v : Vd H x) (s : Same H H') : tupAt H' x = tupAt H x := by
  cases v with
  | lst h => rw [tupAt_lst h, tupAt_lst (s _ _ h)]
  | tup h => rw [tupAt_tup h, tupAt_tup (s _ _ h)]
  | dK h => rw [tupAt_dK h, tupAt_dK (s _ _ h)]
  | _ => rfl
theorem Askd.sameV {H H' : Hp} {x : V} (k : Askd H x) (s : Same H H') : Askd H' x :=
  ⟨k.vd.same s, fun xs e => by
    rw [tupAt_sameV k.vd s] at e
    exact ⟨(k.items xs e).1, fun y hy => ((k.items xs e).2 y hy).same s⟩⟩
theorem isF_same {H H' : Hp} {x : V} (v : Vd H x) (s : Same H H') : IsF H' x ↔ IsF H x := by
  unfold IsF
  rw [tupAt_sameV v s]
mutual
theorem Rp.same {z : Bool} {H H' : Hp} (s : Same H H') : ∀ (d : PyData) (x : V), Rp z H x d → Rp z H' x d
  | .none, _, h => by cases h; exact .non
  | .bool b, _, h => by cases h; exact .bl b
  | .int i, _, h => by cases h; exact .int i
  | .str x, _, h => by cases h; exact .str x
  | .list ds, _, h => by
    cases h with
    | lst e n r => exact .lst (s _ _ e) n (Rps.same s ds _ r)
  | .tuple ds, _, h => by
    cases h with
    | tup e r => exact .tup (s _ _ e) (Rps.same s ds _ r)
  | .dict _, _, h => by
    cases h with
    | dct y e => exact .dct y (s _ _ e)
theorem Rps.same {z : Bool} {H H' : Hp} (s : Same H H') : ∀ (ds : List PyData) (xs : List V), Rps z H xs ds → Rps z H' xs ds
  | [], _, h => by cases h; exact .nil
  | d :: ds, _, h => by
    cases h with
    | cons a r => exact .cons (Rp.same s d _ a) (Rps.same s ds _ r)
end
theorem shows_of {d : PyData} (h1 : d.showable = true) (h2 : d.leavesShort 100 = true) (h3 : d.bulk ≤ 100000) (h4 : d.depth ≤ 60) : Shows d := by
  refine ⟨h1, ?_, h4⟩
  have z := PyData.shown_le_bulk 100 (by decide) d h2
  rw [sizeLine_eq]
  omega
structure Small (d : PyData) : Prop where
  ok : d.showable = true
  short : d.leavesShort 100 = true
  bulk : d.bulk ≤ 10
  deep : d.depth ≤ 3
theorem small_all : ∀ ds : List PyData, (∀ d ∈ ds, Small d) → PyData.showableAll ds = true ∧ PyData.leavesShortAll 100 ds = true ∧ PyData.bulkAll ds ≤ 11 * ds.length ∧ PyData.depthAll ds ≤ 3
  | [], _ => ⟨rfl, rfl, Nat.le_refl _, Nat.zero_le _⟩
  | d :: ds, h => by
    obtain ⟨a, b, c, e⟩ := small_all ds fun x hx => h x (List.mem_cons_of_mem _ hx)
    have k := h d List.mem_cons_self
    refine ⟨by rw [PyData.showableAll, k.ok, a]; rfl, by rw [PyData.leavesShortAll, k.short, b]; rfl, ?_, ?_⟩
    · rw [PyData.bulkAll, List.length_cons]
      have := k.bulk
      omega
    · rw [PyData.depthAll]
      exact Nat.max_le.mpr ⟨k.deep, e⟩
theorem shows_tuple {ds : List PyData} (h : ∀ d ∈ ds, Small d) (hl : ds.length ≤ 1000) : Shows (.tuple ds) := by
  obtain ⟨a, b, c, e⟩ := small_all ds h
  exact shows_of (by rw [PyData.showable]; exact a) (by rw [PyData.leavesShort]; exact b) (by rw [PyData.bulk]; omega) (by rw [PyData.depth]; omega)
theorem shows_list {ds : List PyData} (h : ∀ d ∈ ds, Small d) (hl : ds.length ≤ 1000) : Shows (.list ds) := by
  obtain ⟨a, b, c, e⟩ := small_all ds h
  exact shows_of (by rw [PyData.showable]; exact a) (by rw [PyData.leavesShort]; exact b) (by rw [PyData.bulk]; omega) (by rw [PyData.depth]; omega)
theorem small_int {i : Int} (h : i.natAbs < 10 ^ 12) : Small (.int i) := by
  refine ⟨?_, ?_, Nat.zero_le _, Nat.zero_le _⟩
  · have z : i.natAbs < 2 ^ 1920 := Nat.lt_trans h (by decide +kernel)
    exact decide_eq_true (PySem.Flt.log2_lt_of (by decide) z)
  · exact decide_eq_true (Nat.le_trans (PyData.shown_int_le h) (by decide))
theorem small_non : Small .none := ⟨rfl, rfl, Nat.zero_le _, Nat.zero_le _⟩
theorem small_bl (b : Bool) : Small (.bool b) := ⟨rfl, rfl, Nat.zero_le _, Nat.zero_le _⟩

def hD : Option Nat → PyData
  | none => .none
  | some u => .int (u : Int)
theorem rps_hv {z : Bool} {H : Hp} : ∀ hs : Hs, Rps z H (hs.map hv) (hs.map hD)
  | [] => .nil
  | none :: hs => .cons .non (rps_hv hs)
  | some u :: hs => .cons (.int (u : Int)) (rps_hv hs)
theorem small_hD {hs : Hs} (ib : InB hs) (hl : hs.length ≤ 60) : ∀ d ∈ hs.map hD, Small d := fun d hd => by
  obtain ⟨o, ho, rfl⟩ := List.mem_map.mp hd
  obtain ⟨v, e⟩ := List.getElem?_of_mem ho
  cases o with
  | none => exact small_non
  | some u =>
    have q := ib v u e
    exact small_int (by have z : (10 : Nat) ^ 12 = 1000000000000 := by decide
                        omega)

def spLaw (K : PySem.W.Frag) : Sp := fun vs H Q _ => ∃ (a : Addr) (ns : List Int), vs = [.ref a] ∧ SqL K H a (ns.map V.int) ∧ ns.length ≤ 63 ∧ ∀ H', Q (.bl true) H'
theorem Well.ne {H : Hp} {wl p : Addr} {n : Nat} (w : Well H wl n) (h : H p = none) : p ≠ wl := by
  obtain ⟨l, e⟩ := w.here
  exact (ne_of_none e h).symm
theorem thenK {H H1 H2 : Hp} {wl : Addr} (s : Same H H1) (hn : H wl = none) (k : Keep wl H1 H2) : Same H H2 := fun b o e => k b o (ne_of_none e hn) (s b o e)
theorem isF_fo {H : Hp} {x : V} {hs : Hs} (e : tupAt H x = some (hs.map hv)) (h : IsF H x) : Fo hs := by
  obtain ⟨hs', e', fo⟩ := h
  rw [e] at e'
  rw [hv_inj (Option.some.inj e')]; exact fo
/-- values that are no forests: by what their tuple is -/
theorem noF_none {H : Hp} {x : V} (h : tupAt H x = none) : ¬ IsF H x := fun ⟨hs, e, _⟩ => by rw [h] at e; cases e
theorem noF_nil {H : Hp} {x : V} (h : tupAt H x = some []) : ¬ IsF H x := fun ⟨hs, e, fo⟩ => by
  rw [h] at e
  have z := Option.some.inj e
  cases hs with
  | nil => exact fo.ne rfl
  | cons o r => cases z
theorem noF_odd {H : Hp} {x : V} {xs : List V} {y : V} (h : tupAt H x = some (xs ++ [y])) (hy : ∀ o, y ≠ hv o) : ¬ IsF H x := fun ⟨hs, e, fo⟩ => by
  rw [h] at e
  have z := Option.some.inj e
  have hm : y ∈ hs.map hv := by rw [← z]; simp
  obtain ⟨o, _, ho⟩ := List.mem_map.mp hm
  exact hy o ho.symm
theorem snoc_hs {hs hs' : Hs} {o : Option Nat} (h : hs.map hv ++ [hv o] = hs'.map hv) : hs' = hs ++ [o] := by
  have e : (hs ++ [o]).map hv = hs'.map hv := by rw [List.map_append]; exact h
  exact (hv_inj e).symm
theorem noF_self {H : Hp} {x : V} {hs : Hs} (h : tupAt H x = some (hs.map hv ++ [.int (hs.length : Int)])) : ¬ IsF H x := fun ⟨hs', e, fo⟩ => by
  rw [h] at e
  have z := snoc_hs (o := some hs.length) (Option.some.inj e)
  subst z
  have hat : (hs ++ [some hs.length])[hs.length]? = some (some hs.length) := by
    rw [List.getElem?_append_right (Nat.le_refl _), Nat.sub_self]; rfl
  have no : ∀ v, Rch (hs ++ [some hs.length]) v → v ≠ hs.length := fun v r => by
    induction r with
    | root h1 => intro e1; rw [e1, hat] at h1; cases h1
    | step h1 _ ih =>
      intro e1
      rw [e1, hat] at h1
      cases h1
      exact ih rfl
  exact no hs.length (fo.all hs.length (by rw [List.length_append]; exact Nat.lt_succ_self _)) rfl
theorem noF_far {H : Hp} {x : V} {hs : Hs} (h : tupAt H x = some (hs.map hv ++ [.int ((hs.length : Int) + 1)])) : ¬ IsF H x := fun ⟨hs', e, fo⟩ => by
  rw [h] at e
  have z := snoc_hs (o := some (hs.length + 1)) (Option.some.inj e)
  subst z
  have hat : (hs ++ [some (hs.length + 1)])[hs.length]? = some (some (hs.length + 1)) := by
    rw [List.getElem?_append_right (Nat.le_refl _), Nat.sub_self]; rfl
  have q := fo.inb _ _ hat
  rw [List.length_append] at q
  exact Nat.lt_irrefl _ q
theorem askd_tup {H : Hp} {a : Addr} {xs : List V} (h : H a = some (.tup xs)) (hl : xs.length ≤ 1000) (hv' : ∀ y ∈ xs, Vd H y) : Askd H (.ref a) :=
  ⟨.tup h, fun ys e => by rw [tupAt_tup h] at e; cases e; exact ⟨hl, hv'⟩⟩
theorem askd_no {H : Hp} {x : V} (v : Vd H x) (h : tupAt H x = none) : Askd H x := ⟨v, fun ys e => by rw [h] at e; cases e⟩
theorem hv_ne_str (z : Str) (o : Option Nat) : V.str z ≠ hv o := by cases o <;> (intro e; cases e)
theorem hv_ne_bl (z : Bool) (o : Option Nat) : V.bl z ≠ hv o := by cases o <;> (intro e; cases e)
abbrev slL (a t : Addr) (at' : Int) (wl : Addr) (x : V) (way : Int) (y : V) (due : Str) (v7 v8 : Option V) : L2.St := [some (.ref a), some (.int at'), some (.ref wl), some x, some (.int way), some y, some (.str due), v7, v8]

/-! ### a list's method with an argument, in a comprehension -/
theorem mt_indexK {X : Cx} (K : PySem.W.Frag) (e : X.K = K := by rfl) : MtR X "list.index" (rIndex K) := by subst e; exact mt_index
theorem pe_bmK {X : Cx} (K : PySem.W.Frag) {o a : Expr} {es : List Expr} {T name id : String} {r : V → List V → Hp → VK → Prop} {to : TE} {t : TA} {apos cpos : Pos} (pa : PlainAttrs T) (slot : Slot T name id) (hty : typeOf (.builtin id) = pure (.type "method_descriptor")) (hm : MtR X id r) (ho : PE X o to) (ha : PA X (a :: es) t) (e : X.K = K := by rfl)
    (hbase : attributeBase o name X.env (eval o X.env) = eval o X.env := by rfl)
    (hfew : ((backTo cpos (starEach (a :: es) X.env)).all (fun x => !x.1) && (backToKw cpos (keywordEach [] X.env)).all (fun x => x.1.isSome) && decide ((a :: es).length + ([] : List Keyword).length + (if ([] : List Keyword).isEmpty then 0 else 1) < 30)) = true := by rfl)
    (hline : (apos.endLine == cpos.line) = true := by rfl) (hs : starEach (a :: es) X.env = (false, eval a X.env) :: starEach es X.env := by rfl) (hplain : (backTo cpos (starEach es X.env)).any (·.1) = false := by rfl) :
    PE X (.Call (.Attribute o name apos) (a :: es) [] cpos) (tBM K T r to t) := by subst e; exact pe_bm pa slot hty hm ho ha hbase hfew hline hs hplain
theorem mt_popAtK {X : Cx} (K : PySem.W.Frag) : MtR X "list.pop" rPopAt := mt_popAt

/-! ### facts about a heap, kept together -/
structure Kp (H0 H : Hp) (L : List (Addr × HO)) : Prop where
  same : Same H0 H
  has : ∀ q ∈ L, H q.1 = some q.2
theorem Kp.start {H : Hp} : Kp H H [] := ⟨Same.refl H, fun _ h => absurd h List.not_mem_nil⟩
theorem Kp.new {H0 H : Hp} {L : List (Addr × HO)} {p : Addr} {o : HO} (k : Kp H0 H L) (hp : H p = none) : Kp H0 (upd H p o) ((p, o) :: L) := ⟨k.same.new hp, fun q hq => by
  rcases List.mem_cons.mp hq with rfl | hq
  · exact upd_same
  · exact (upd_ne (ne_of_none (k.has q hq) hp)).trans (k.has q hq)⟩
theorem ne_of_hold {H : Hp} {L : List (Addr × HO)} {p : Addr} (h : ∀ q ∈ L, H q.1 = some q.2) (hp : H p = none) : ∀ q ∈ L, q.1 ≠ p := fun q hq => ne_of_none (h q hq) hp
theorem Kp.at {H0 H : Hp} {L : List (Addr × HO)} {p : Addr} {o : HO} (k : Kp H0 H L) (i : Nat) (e : L[i]? = some (p, o) := by rfl) : H p = some o := k.has _ (List.mem_of_getElem? e)
theorem Kp.to {H0 H H' : Hp} {L : List (Addr × HO)} (k : Kp H0 H L) (s : Same H H') : Kp H0 H' L := ⟨k.same.trans s, fun q hq => s _ _ (k.has q hq)⟩
theorem Kp.add {H0 H : Hp} {L : List (Addr × HO)} {p : Addr} {o : HO} (k : Kp H0 H L) (h : H p = some o) : Kp H0 H ((p, o) :: L) := ⟨k.same, fun q hq => by
  rcases List.mem_cons.mp hq with rfl | hq
  · exact h
  · exact k.has q hq⟩

theorem sl_listK {X : Cx} (K : PySem.W.Frag) (e : X.K = K := by rfl) : SlR X (rSlL K) := by subst e; exact sl_list

/-! ### parts of tuples, tuples put together -/
theorem cut_whole (xs : List V) {lo hi : Option Int} (h : HT.sIx xs.length 0 lo = 0 ∧ HT.sIx xs.length xs.length hi = xs.length) : cutV xs lo hi = xs := by
  unfold cutV
  rw [h.1, h.2, List.drop_zero, Nat.sub_zero, List.take_length]
theorem cut_mem {xs : List V} {lo hi : Option Int} {y : V} (h : y ∈ cutV xs lo hi) : y ∈ xs := List.mem_of_mem_drop (List.mem_of_mem_take h)
theorem cut_lo (xs : List V) (d : Nat) : (cutV xs none (some (d : Int))).length ≤ d := by
  unfold cutV
  rw [HT.sIx_nat, HT.sIx_none, List.length_take]
  omega
theorem cut_hi (xs : List V) (d : Nat) : (cutV xs (some (d : Int)) none).length ≤ xs.length - d := by
  unfold cutV
  rw [HT.sIx_nat, HT.sIx_none, List.length_take, List.length_drop]
  omega
theorem slA {K : PySem.W.Frag} {H : Hp} {t : Addr} {xs : List V} {lo hi : Option Int} {Q : VK} (h : H t = some (.tup xs)) (q : ∀ p H', Same H H' → H' p = some (.tup (cutV xs lo hi)) → Q (.ref p) H') : rSlA K (.ref t) lo hi H Q :=
  ⟨t, xs, rfl, SqT.of h, fun c => q t H (Same.refl H) (by rw [cut_whole xs c]; exact h), fun _ p hp => q p _ ((Same.refl H).new hp) upd_same⟩
theorem catA {K : PySem.W.Frag} {H : Hp} {a b : Addr} {xs ys : List V} {Q : VK} (ha : H a = some (.tup xs)) (hb : H b = some (.tup ys)) (hz : xs.length + ys.length ≤ 1000) (q : ∀ p H', Same H H' → H' p = some (.tup (xs ++ ys)) → Q (.ref p) H') : rCatA K (.ref a) (.ref b) H Q := by
  refine ⟨a, b, xs, ys, rfl, rfl, SqT.of ha, SqT.of hb, Nat.le_of_lt (szl hz), fun e => ?_, fun _ e => ?_, fun _ _ p hp => q p _ ((Same.refl H).new hp) upd_same⟩
  · subst e; exact q b H (Same.refl H) hb
  · subst e; exact q a H (Same.refl H) (by rw [List.append_nil]; exact ha)

end My

namespace My
open PySem PySem.Spec PyProof.Rows L2
/-! ### rows by which of two is ahead -/
theorem idx_ne {x a : Nat} {q : List Nat} (h : x ≠ a) : (x :: q).idxOf a = q.idxOf a + 1 := by
  rw [List.idxOf_cons, beq_false_of_ne h]; rfl
theorem sub_idx {a b : Nat} : ∀ {q : List Nat}, q.Nodup → [a, b].Sublist q → q.idxOf a < q.idxOf b
  | [], _, h => by cases h
  | x :: q, nd, h => by
    obtain ⟨n1, n2⟩ := List.nodup_cons.mp nd
    cases h with
    | cons _ h =>
      have ma : a ∈ q := h.subset List.mem_cons_self
      have mb : b ∈ q := h.subset (List.mem_cons_of_mem _ List.mem_cons_self)
      have ih := sub_idx n2 h
      rw [idx_ne (fun z : x = a => n1 (by rw [z]; exact ma)), idx_ne (fun z : x = b => n1 (by rw [z]; exact mb))]
      omega
    | cons_cons _ h =>
      have mb : b ∈ q := h.subset List.mem_cons_self
      rw [List.idxOf_cons_self, idx_ne (fun z : a = b => n1 (by rw [z]; exact mb))]
      omega
theorem idx_sub {a b : Nat} : ∀ {q : List Nat}, b ∈ q → q.idxOf a < q.idxOf b → [a, b].Sublist q
  | [], h, _ => by cases h
  | x :: q, h, l => by
    have nb : x ≠ b := fun z => by rw [z, List.idxOf_cons_self] at l; omega
    have mb : b ∈ q := (List.mem_cons.mp h).elim (fun z => absurd z.symm nb) id
    by_cases e : x = a
    · subst e
      exact .cons_cons _ (List.singleton_sublist.mpr mb)
    · rw [idx_ne e, idx_ne nb] at l
      exact .cons _ (idx_sub mb (by omega))
structure Row (hs : Hs) (q : List Nat) : Prop where
  nd : q.Nodup
  lt : ∀ v ∈ q, v < hs.length
  bh : ∀ v u : Nat, v ∈ q → hs[v]? = some (some u) → [u, v].Sublist q
theorem row_snoc {hs : Hs} {q : List Nat} {v : Nat} : Row hs (q ++ [v]) ↔ Row hs q ∧ v ∈ av hs q := by
  constructor
  · intro r
    obtain ⟨n1, _, n3⟩ := List.nodup_append.mp r.nd
    have nv : v ∉ q := fun m => n3 v m v (List.mem_singleton.mpr rfl) rfl
    have cut : ∀ u w, [u, w].Sublist (q ++ [v]) → (w ∈ q → [u, w].Sublist q) ∧ u ∈ q := fun u w s => by
      obtain ⟨l1, l2, e, s1, s2⟩ := List.sublist_append_iff.mp s
      rcases l1 with _ | ⟨x, _ | ⟨y, _ | ⟨z, l⟩⟩⟩
      · have z := s2.length_le
        rw [List.nil_append] at e
        rw [← e] at z
        exact absurd z (by simp)
      · have e2 := (List.cons.inj e).1
        have e3 : [w] = l2 := (List.cons.inj e).2
        subst e2
        rw [← e3] at s2
        have ew : w = v := List.mem_singleton.mp (s2.subset List.mem_cons_self)
        exact ⟨fun m => absurd (ew ▸ m) nv, s1.subset List.mem_cons_self⟩
      · have e2 := (List.cons.inj e).1
        have e3 := (List.cons.inj (List.cons.inj e).2).1
        subst e2
        subst e3
        exact ⟨fun _ => s1, s1.subset List.mem_cons_self⟩
      · have e3 := (List.cons.inj (List.cons.inj e).2).2
        cases e3
    refine ⟨⟨n1, fun x h => r.lt x (List.mem_append_left _ h), fun x u h e => (cut u x (r.bh x u (List.mem_append_left _ h) e)).1 h⟩, av_mem.mpr ⟨r.lt v (List.mem_append_right _ (List.mem_singleton.mpr rfl)), nv, fun u e => (cut u v (r.bh v u (List.mem_append_right _ (List.mem_singleton.mpr rfl)) e)).2⟩⟩
  · rintro ⟨r, m⟩
    obtain ⟨h1, h2, h3⟩ := av_mem.mp m
    refine ⟨List.nodup_append.mpr ⟨r.nd, List.nodup_cons.mpr ⟨List.not_mem_nil, List.nodup_nil⟩, fun a ha b hb => ?_⟩, fun x hx => ?_, fun x u hx e => ?_⟩
    · rw [List.mem_singleton.mp hb]
      intro z; subst z; exact h2 ha
    · rcases List.mem_append.mp hx with hx | hx
      · exact r.lt x hx
      · rw [List.mem_singleton.mp hx]; exact h1
    · rcases List.mem_append.mp hx with hx | hx
      · exact (r.bh x u hx e).trans (List.sublist_append_left _ _)
      · rw [List.mem_singleton.mp hx] at e ⊢
        exact (List.singleton_sublist.mpr (h3 u e)).append (List.Sublist.refl [v])
theorem row_nil (hs : Hs) : Row hs [] := ⟨List.nodup_nil, fun _ h => absurd h List.not_mem_nil, fun _ _ h => absurd h List.not_mem_nil⟩
theorem rows_mem {hs : Hs} : ∀ {k : Nat} {q : List Nat}, q ∈ rowsAt hs k ↔ Row hs q ∧ q.length = k
  | 0, q => by
    constructor
    · intro h
      rw [List.mem_singleton.mp h]
      exact ⟨row_nil hs, rfl⟩
    · rintro ⟨_, l⟩
      rw [List.length_eq_zero_iff.mp l]
      exact List.mem_singleton.mpr rfl
  | k + 1, q => by
    constructor
    · intro h
      obtain ⟨p, hp, hr⟩ := List.mem_flatMap.mp h
      obtain ⟨v, hv, rfl⟩ := List.mem_map.mp hr
      obtain ⟨r, l⟩ := rows_mem.mp hp
      exact ⟨row_snoc.mpr ⟨r, hv⟩, by rw [List.length_append, l]; rfl⟩
    · rintro ⟨r, l⟩
      rcases List.eq_nil_or_concat q with e | ⟨p, v, e⟩
      · rw [e] at l; cases l
      · rw [List.concat_eq_append] at e
        subst e
        rw [List.length_append] at l
        obtain ⟨r1, m⟩ := row_snoc.mp r
        exact List.mem_flatMap.mpr ⟨p, rows_mem.mpr ⟨r1, Nat.succ.inj l⟩, List.mem_map.mpr ⟨v, m, rfl⟩⟩
theorem row_full {hs : Hs} {q : List Nat} (r : Row hs q) (l : q.length = hs.length) {v : Nat} (h : v < hs.length) : v ∈ q := by
  by_cases c : v ∈ q
  · exact c
  · have z := nodup_len hs.length (v :: q) (List.nodup_cons.mpr ⟨c, r.nd⟩) fun x hx => by
      rcases List.mem_cons.mp hx with rfl | hx
      · exact h
      · exact r.lt x hx
    rw [List.length_cons] at z; omega
theorem row_ex {hs : Hs} (fo : Fo hs) : ∃ q, q ∈ rowsAt hs hs.length := by
  have a := cntL_rows fo
  have b := cnt_pos fo
  cases e : rowsAt hs hs.length with
  | nil => rw [e] at a; have : (([] : List (List Nat)).length : Int) = 0 := rfl; omega
  | cons q _ => exact ⟨q, List.mem_cons_self⟩
/-- the things of a closed set come first -/
theorem row_first {hs : Hs} {q : List Nat} (r : Row hs q) (S : Nat → Bool) (cl : ∀ v u : Nat, hs[v]? = some (some u) → S v = true → S u = true) :
    Row hs (q.filter S ++ q.filter fun v => !S v) ∧ (q.filter S ++ q.filter fun v => !S v).length = q.length ∧ (∀ x y, x ∈ q → y ∈ q → S x = true → S y = false → [x, y].Sublist (q.filter S ++ q.filter fun v => !S v)) ∧
      (∀ x y, S x = true → S y = true → [x, y].Sublist q → [x, y].Sublist (q.filter S ++ q.filter fun v => !S v)) := by
  have two : ∀ x y, S x = true → S y = true → [x, y].Sublist q → [x, y].Sublist (q.filter S ++ q.filter fun v => !S v) := fun x y hx hy s => by
    have z := s.filter S
    rw [List.filter_cons_of_pos hx, List.filter_cons_of_pos hy, List.filter_nil] at z
    exact z.trans (List.sublist_append_left _ _)
  have one : ∀ x y, x ∈ q → y ∈ q → S x = true → S y = false → [x, y].Sublist (q.filter S ++ q.filter fun v => !S v) := fun x y mx my hx hy =>
    (List.singleton_sublist.mpr (List.mem_filter.mpr ⟨mx, hx⟩)).append (List.singleton_sublist.mpr (List.mem_filter.mpr ⟨my, by rw [hy]; rfl⟩))
  refine ⟨⟨?_, fun v h => ?_, fun v u h e => ?_⟩, ?_, one, two⟩
  · refine List.nodup_append.mpr ⟨r.nd.filter _, r.nd.filter _, fun x hx y hy z => ?_⟩
    have a := (List.mem_filter.mp hx).2
    have b := (List.mem_filter.mp hy).2
    rw [← z, a] at b; cases b
  · rcases List.mem_append.mp h with h | h
    · exact r.lt v (List.mem_filter.mp h).1
    · exact r.lt v (List.mem_filter.mp h).1
  · have mv : v ∈ q := by
      rcases List.mem_append.mp h with h | h
      · exact (List.mem_filter.mp h).1
      · exact (List.mem_filter.mp h).1
    have s := r.bh v u mv e
    have mu : u ∈ q := s.subset List.mem_cons_self
    cases cv : S v with
    | true => exact two u v (cl v u e cv) cv s
    | false =>
      cases cu : S u with
      | true => exact one u v mu mv cu cv
      | false =>
        have z := s.filter fun v => !S v
        rw [List.filter_cons_of_pos (p := fun v => !S v) (by rw [cu]; rfl), List.filter_cons_of_pos (p := fun v => !S v) (by rw [cv]; rfl), List.filter_nil] at z
        exact z.trans (List.sublist_append_right _ _)
  · rw [List.length_append]
    have z := List.length_eq_countP_add_countP (p := S) (l := q)
    rw [List.countP_eq_length_filter, List.countP_eq_length_filter] at z
    have e : (q.filter fun v => !S v) = q.filter fun a => decide ¬S a = true := List.filter_congr fun v _ => by cases S v <;> rfl
    rw [e]; omega

/-! ### a closed set, what is ahead in all rows -/
def upS (hs : Hs) (a : Nat) (v : Nat) : Bool := decide (v = a ∨ v ∈ up hs a)
theorem upS_cl {hs : Hs} (fo : Fo hs) {a : Nat} (ha : a < hs.length) : ∀ v u : Nat, hs[v]? = some (some u) → upS hs a v = true → upS hs a u = true := by
  intro v u e h
  have key : ∀ {a : Nat} {l : List Nat}, Ups hs a l → (v = a ∨ v ∈ l) → u ∈ l := fun {a l} r => by
    induction r with
    | @root a h =>
      rintro (rfl | m)
      · rw [h] at e; cases e
      · cases m
    | @step a w l h r ih =>
      rintro (rfl | m)
      · rw [h] at e; cases e; exact List.mem_cons_self
      · exact List.mem_cons_of_mem _ (ih (List.mem_cons.mp m))
  exact decide_eq_true (.inr (key (fo.ups ha) (of_decide_eq_true h)))
theorem up_cons {hs : Hs} (fo : Fo hs) {b u : Nat} (e : hs[b]? = some (some u)) : up hs b = u :: up hs u := by
  have hb := (List.getElem?_eq_some_iff.mp e).1
  have hu := fo.inb b u e
  exact (fo.ups hb).inj (.step e (fo.ups hu))
theorem up_self {hs : Hs} (fo : Fo hs) {a : Nat} (ha : a < hs.length) : ¬ a ∈ up hs a := fun m => (List.nodup_cons.mp (fo.ups ha).nd).1 m
/-- what is above is ahead -/
theorem up_ahead {hs : Hs} (fo : Fo hs) {q : List Nat} (r : Row hs q) {a b : Nat} (hb : b ∈ q) (m : a ∈ up hs b) : q.idxOf a < q.idxOf b := by
  have key : ∀ {b : Nat} {l : List Nat}, Ups hs b l → b ∈ q → a ∈ l → q.idxOf a < q.idxOf b := fun {b l} u => by
    induction u with
    | root h => intro _ m; cases m
    | @step v u l h _ ih =>
      intro hv m
      have s := r.bh v u hv h
      have z := sub_idx r.nd s
      rcases List.mem_cons.mp m with rfl | m
      · exact z
      · have y := ih (s.subset List.mem_cons_self) m
        omega
  exact key (fo.ups (r.lt b hb)) hb m
/-- what isn't above need not be ahead -/
theorem not_ahead {hs : Hs} (fo : Fo hs) {a b : Nat} (ha : a < hs.length) (hb : b < hs.length) (ne : a ≠ b) (m : ¬ a ∈ up hs b) : ∃ q ∈ rowsAt hs hs.length, q.idxOf b < q.idxOf a := by
  obtain ⟨q, hq⟩ := row_ex fo
  obtain ⟨r, l⟩ := rows_mem.mp hq
  obtain ⟨r1, l1, one, _⟩ := row_first r (upS hs b) (upS_cl fo hb)
  refine ⟨_, rows_mem.mpr ⟨r1, l1.trans l⟩, sub_idx r1.nd (one b a (row_full r l hb) (row_full r l ha) (decide_eq_true (.inl rfl)) (decide_eq_false ?_))⟩
  rintro (z | z)
  · exact ne z
  · exact m z
/-- things above one thing are above one another -/
theorem up_chain {hs : Hs} (fo : Fo hs) {b x y : Nat} (hb : b < hs.length) (hx : x ∈ up hs b) (hy : y ∈ up hs b) (ne : x ≠ y) : x ∈ up hs y ∨ y ∈ up hs x := by
  have key : ∀ {b : Nat} {l : List Nat}, Ups hs b l → x ∈ l → y ∈ l → x ∈ up hs y ∨ y ∈ up hs x := fun {b l} u => by
    induction u with
    | root h => intro m; cases m
    | @step v u l h r ih =>
      have eu : up hs u = l := (fo.ups r.lt).inj r
      intro mx my
      rcases List.mem_cons.mp mx with ex | mx2
      · rcases List.mem_cons.mp my with ey | my2
        · exact absurd (ex.trans ey.symm) ne
        · exact .inr (by rw [ex, eu]; exact my2)
      · rcases List.mem_cons.mp my with ey | my2
        · exact .inl (by rw [ey, eu]; exact mx2)
        · exact ih mx2 my2
  exact key (fo.ups hb) hx hy
/-- rows with both of two orders, both ahead of a third thing -/
theorem both_ahead {hs : Hs} (fo : Fo hs) {a b u : Nat} (ha : a < hs.length) (e : hs[b]? = some (some u)) (ne : a ≠ b) (n1 : ¬ a ∈ up hs b) (n2 : ¬ b ∈ up hs a) (n3 : ¬ u ∈ up hs a) :
    (∃ q ∈ rowsAt hs hs.length, q.idxOf u < q.idxOf a ∧ q.idxOf a < q.idxOf b) ∧ ∃ q ∈ rowsAt hs hs.length, q.idxOf a < q.idxOf u ∧ q.idxOf a < q.idxOf b := by
  have hb := (List.getElem?_eq_some_iff.mp e).1
  have hu := fo.inb b u e
  rw [up_cons fo e] at n1
  have nau : a ≠ u := fun z => n1 (z ▸ List.mem_cons_self)
  have nau2 : ¬ a ∈ up hs u := fun z => n1 (List.mem_cons_of_mem _ z)
  have nbu : ¬ (b = u ∨ b ∈ up hs u) := fun z => up_self fo hb (by rw [up_cons fo e]; exact z.elim (fun y => y ▸ List.mem_cons_self) (List.mem_cons_of_mem _))
  let S2 : Nat → Bool := fun v => upS hs u v || upS hs a v
  have cl2 : ∀ v w : Nat, hs[v]? = some (some w) → S2 v = true → S2 w = true := fun v w ew h => by
    rcases Bool.or_eq_true_iff.mp h with h | h
    · exact Bool.or_eq_true_iff.mpr (.inl (upS_cl fo hu v w ew h))
    · exact Bool.or_eq_true_iff.mpr (.inr (upS_cl fo ha v w ew h))
  have s2u : S2 u = true := Bool.or_eq_true_iff.mpr (.inl (decide_eq_true (.inl rfl)))
  have s2a : S2 a = true := Bool.or_eq_true_iff.mpr (.inr (decide_eq_true (.inl rfl)))
  have s2b : S2 b = false := by
    show (upS hs u b || upS hs a b) = false
    have h1 : upS hs u b = false := decide_eq_false nbu
    have h2 : upS hs a b = false := decide_eq_false (by rintro (z | z); exact ne z.symm; exact n2 z)
    rw [h1, h2]; rfl
  obtain ⟨q, hq⟩ := row_ex fo
  obtain ⟨r, l⟩ := rows_mem.mp hq
  have go : ∀ (S : Nat → Bool), (∀ v w : Nat, hs[v]? = some (some w) → S v = true → S w = true) → ∀ x y, S2 x = true → S2 y = true → S x = true → S y = false → x < hs.length → y < hs.length → ∃ q ∈ rowsAt hs hs.length, q.idxOf x < q.idxOf y ∧ q.idxOf a < q.idxOf b := fun S cl x y x2 y2 x1 y1 hx hy => by
    obtain ⟨r1, l1, one, _⟩ := row_first r S cl
    have s1 := one x y (row_full r l hx) (row_full r l hy) x1 y1
    have l1' := l1.trans l
    obtain ⟨r2, l2, one2, two2⟩ := row_first r1 S2 cl2
    exact ⟨_, rows_mem.mpr ⟨r2, l2.trans l1'⟩, sub_idx r2.nd (two2 x y x2 y2 s1), sub_idx r2.nd (one2 a b (row_full r1 l1' ha) (row_full r1 l1' hb) s2a s2b)⟩
  constructor
  · exact go (upS hs u) (upS_cl fo hu) u a s2u s2a (decide_eq_true (.inl rfl)) (decide_eq_false (by rintro (z | z); exact nau z; exact nau2 z)) hu ha
  · exact go (upS hs a) (upS_cl fo ha) a u s2a s2u (decide_eq_true (.inl rfl)) (decide_eq_false (by rintro (z | z); exact nau z.symm; exact n3 z)) ha hu
def keptR (hs : Hs) (a b : Nat) : List (List Nat) := (rowsAt hs hs.length).filter fun q => decide (q.idxOf a < q.idxOf b)
theorem kept_mem {hs : Hs} {a b : Nat} {q : List Nat} : q ∈ keptR hs a b ↔ q ∈ rowsAt hs hs.length ∧ q.idxOf a < q.idxOf b := by
  unfold keptR
  rw [List.mem_filter, decide_eq_true_eq]
/-- no forest has just the rows with a thing ahead of another one -/
theorem no_forest {hs : Hs} (fo : Fo hs) {a b u : Nat} (ha : a < hs.length) (e : hs[b]? = some (some u)) (ne : a ≠ b) (n1 : ¬ a ∈ up hs b) (n2 : ¬ b ∈ up hs a) (n3 : ¬ u ∈ up hs a)
    {G : Hs} (fg : Fo G) (len : G.length = hs.length) : rowsAt G G.length ≠ keptR hs a b := fun z => by
  have hb := (List.getElem?_eq_some_iff.mp e).1
  have hu := fo.inb b u e
  have nau : a ≠ u := fun z => n1 (by rw [up_cons fo e, z]; exact List.mem_cons_self)
  have ab : a ∈ up G b := by
    by_cases m : a ∈ up G b
    · exact m
    · obtain ⟨q, hq, w⟩ := not_ahead fg (by omega) (by omega) ne m
      rw [z] at hq
      have := (kept_mem.mp hq).2
      omega
  have ub : u ∈ up G b := by
    by_cases m : u ∈ up G b
    · exact m
    · have nub : u ≠ b := fun y => by
        have := (fo.ups hb)
        rw [y] at e
        exact up_self fo hb (by rw [up_cons fo e]; exact List.mem_cons_self)
      obtain ⟨q, hq, w⟩ := not_ahead fg (by omega) (by omega) nub m
      rw [z] at hq
      obtain ⟨r, l⟩ := rows_mem.mp (kept_mem.mp hq).1
      have := sub_idx r.nd (r.bh b u (row_full r l hb) e)
      omega
  obtain ⟨⟨q1, h1, w1, x1⟩, ⟨q2, h2, w2, x2⟩⟩ := both_ahead fo ha e ne n1 n2 n3
  have g1 : q1 ∈ rowsAt G G.length := by rw [z]; exact kept_mem.mpr ⟨h1, x1⟩
  have g2 : q2 ∈ rowsAt G G.length := by rw [z]; exact kept_mem.mpr ⟨h2, x2⟩
  obtain ⟨r1, l1⟩ := rows_mem.mp g1
  obtain ⟨r2, l2⟩ := rows_mem.mp g2
  rcases up_chain fg (by omega) ab ub nau with m | m
  · have := up_ahead fg r1 (row_full r1 l1 (by omega)) m
    omega
  · have := up_ahead fg r2 (row_full r2 l2 (by omega)) m
    omega

theorem Ups.rch {hs : Hs} {v : Nat} {l : List Nat} (a : Ups hs v l) : Rch hs v := by
  induction a with
  | root h => exact .root h
  | step h _ ih => exact .step h ih
theorem fo_ups {hs : Hs} (ne : hs ≠ []) (h : ∀ v : Nat, v < hs.length → ∃ l, Ups hs v l) : Fo hs where
  ne := ne
  inb := fun v u e => by
    obtain ⟨l, a⟩ := h v (List.getElem?_eq_some_iff.mp e).1
    cases a with
    | root h2 => rw [e] at h2; cases h2
    | step h2 r => rw [e] at h2; cases h2; exact r.lt
  all := fun v hv => by obtain ⟨l, a⟩ := h v hv; exact a.rch

/-! ### rows of the forest in which a thing holds another one -/
theorem idx_app {a v : Nat} {q : List Nat} : (q ++ [v]).idxOf a = if a ∈ q then q.idxOf a else q.length + (if v = a then 0 else 1) := by
  induction q with
  | nil =>
    rw [if_neg List.not_mem_nil]
    by_cases e : v = a
    · rw [if_pos e, e]; show [a].idxOf a = 0; rw [List.idxOf_cons_self]
    · rw [if_neg e]; show [v].idxOf a = 0 + 1; rw [idx_ne e]; rfl
  | cons x q ih =>
    rw [List.cons_append]
    by_cases e : x = a
    · rw [e, List.idxOf_cons_self, if_pos List.mem_cons_self, List.idxOf_cons_self]
    · rw [idx_ne e, idx_ne e, ih]
      by_cases m : a ∈ q
      · rw [if_pos m, if_pos (List.mem_cons_of_mem _ m)]
      · rw [if_neg m, if_neg (fun z => (List.mem_cons.mp z).elim (fun y => e y.symm) m), List.length_cons]; omega
theorem idx_lt {a : Nat} {q : List Nat} : q.idxOf a < q.length ↔ a ∈ q := by
  induction q with
  | nil => exact ⟨fun h => absurd h (Nat.not_lt_zero _), fun h => by cases h⟩
  | cons x q ih =>
    by_cases e : x = a
    · rw [e, List.idxOf_cons_self]; exact ⟨fun _ => List.mem_cons_self, fun _ => Nat.succ_pos _⟩
    · rw [idx_ne e, List.length_cons]
      exact ⟨fun h => List.mem_cons_of_mem _ (ih.mp (by omega)), fun h => by
        have := ih.mpr ((List.mem_cons.mp h).elim (fun y => absurd y.symm e) id)
        omega⟩
def pkB (a b : Nat) (q : List Nat) : Bool := decide (b ∈ q → q.idxOf a < q.idxOf b)
theorem pk_snoc {a b v : Nat} {q : List Nat} (ne : a ≠ b) (nv : v ∉ q) : pkB a b (q ++ [v]) = if pkB a b q = true then (if v = b then decide (a ∈ q) else true) else false := by
  unfold pkB
  by_cases mb : b ∈ q
  · have nvb : v ≠ b := fun z => nv (z ▸ mb)
    have ib := idx_lt.mpr mb
    by_cases c : q.idxOf a < q.idxOf b
    · have ma : a ∈ q := idx_lt.mp (by omega)
      rw [if_pos (decide_eq_true fun _ => c), if_neg nvb]
      refine decide_eq_true fun _ => ?_
      rw [idx_app, idx_app, if_pos ma, if_pos mb]; exact c
    · rw [if_neg (fun z => c ((of_decide_eq_true z) mb))]
      refine decide_eq_false fun z => ?_
      have y := z (List.mem_append_left _ mb)
      rw [idx_app, idx_app, if_pos mb] at y
      by_cases ma : a ∈ q
      · rw [if_pos ma] at y; exact c y
      · rw [if_neg ma] at y; omega
  · rw [if_pos (decide_eq_true fun z => absurd z mb)]
    by_cases e : v = b
    · rw [if_pos e]
      by_cases ma : a ∈ q
      · rw [decide_eq_true ma]
        refine decide_eq_true fun _ => ?_
        have ia := idx_lt.mpr ma
        rw [idx_app, idx_app, if_pos ma, if_neg mb]; omega
      · rw [decide_eq_false ma]
        refine decide_eq_false fun z => ?_
        have y := z (by rw [e]; exact List.mem_append_right _ (List.mem_singleton.mpr rfl))
        rw [idx_app, idx_app, if_neg ma, if_neg mb, if_pos e, if_neg (fun z => ne (z.symm.trans e))] at y
        omega
    · rw [if_neg e]
      refine decide_eq_true fun z => ?_
      rcases List.mem_append.mp z with z | z
      · exact absurd z mb
      · exact absurd (List.mem_singleton.mp z).symm e
theorem flat_if {α β : Type} (p : α → Bool) (f : α → List β) : ∀ L : List α, (L.filter p).flatMap f = L.flatMap fun x => if p x = true then f x else []
  | [] => rfl
  | x :: L => by
    rw [List.flatMap_cons, ← flat_if p f L]
    by_cases c : p x = true
    · rw [List.filter_cons_of_pos c, List.flatMap_cons, if_pos c]
    · rw [List.filter_cons_of_neg c, if_neg c]; rfl
theorem flat_filter {α β : Type} (p : β → Bool) (f : α → List β) : ∀ L : List α, (L.flatMap f).filter p = L.flatMap fun x => (f x).filter p
  | [] => rfl
  | x :: L => by rw [List.flatMap_cons, List.flatMap_cons, List.filter_append, flat_filter p f L]
theorem flat_congr {α β : Type} {f g : α → List β} : ∀ {L : List α}, (∀ x ∈ L, f x = g x) → L.flatMap f = L.flatMap g
  | [], _ => rfl
  | x :: L, h => by rw [List.flatMap_cons, List.flatMap_cons, h x List.mem_cons_self, flat_congr fun y hy => h y (List.mem_cons_of_mem _ hy)]
def putH (hs : Hs) (a b : Nat) : Hs := hs.set b (some a)
theorem rows_put {hs : Hs} (fo : Fo hs) {a b : Nat} (ha : a < hs.length) (hb : b < hs.length) (ne : a ≠ b) (up1 : ∀ u : Nat, hs[b]? = some (some u) → u ∈ a :: up hs a) : ∀ k : Nat, rowsAt (putH hs a b) k = (rowsAt hs k).filter (pkB a b)
  | 0 => by
    show [[]] = List.filter (pkB a b) [[]]
    rw [List.filter_cons_of_pos (p := pkB a b) (decide_eq_true fun z => absurd z List.not_mem_nil)]; rfl
  | k + 1 => by
    show (rowsAt (putH hs a b) k).flatMap (ext (putH hs a b)) = ((rowsAt hs k).flatMap (ext hs)).filter (pkB a b)
    rw [rows_put fo ha hb ne up1 k, flat_if, flat_filter]
    refine flat_congr fun r hr => ?_
    obtain ⟨p, _⟩ := rows_pre hs k r hr
    have len : (putH hs a b).length = hs.length := List.length_set
    unfold ext
    rw [List.filter_map]
    by_cases c : pkB a b r = true
    · rw [if_pos c]
      congr 1
      unfold av
      rw [len, List.filter_filter]
      refine List.filter_congr fun v hv => ?_
      have hv1 := List.mem_range.mp hv
      show avB (putH hs a b) r v = (pkB a b (r ++ [v]) && avB hs r v)
      by_cases mv : v ∈ r
      · have n1 : avB hs r v = false := by unfold avB; rw [decide_eq_false (fun z => z mv)]; rfl
        have n2 : avB (putH hs a b) r v = false := by unfold avB; rw [decide_eq_false (fun z => z mv)]; rfl
        rw [n1, n2, Bool.and_false]
      · rw [pk_snoc ne mv, if_pos c]
        by_cases e : v = b
        · rw [if_pos e, e]
          have n2 : avB (putH hs a b) r b = decide (a ∈ r) := by
            unfold avB putH
            rw [decide_eq_true (e ▸ mv), List.getElem?_set_self hb]; rfl
          rw [n2]
          by_cases ma : a ∈ r
          · have n1 : avB hs r b = true := by
              unfold avB
              rw [decide_eq_true (e ▸ mv)]
              cases eo : hs[b]? with
              | none => exact absurd (List.getElem?_eq_none_iff.mp eo) (by omega)
              | some o =>
                cases o with
                | none => rfl
                | some u =>
                  have mu : u ∈ r := (List.mem_cons.mp (up1 u eo)).elim (fun z => z ▸ ma) (p.ups (fo.ups ha) ma u)
                  show decide (u ∈ r) = true
                  exact decide_eq_true mu
            rw [n1, Bool.and_true]
          · rw [decide_eq_false ma]; rfl
        · rw [if_neg e, Bool.true_and]
          unfold avB putH
          rw [List.getElem?_set_ne (fun z => e z.symm)]
    · rw [if_neg c]
      symm
      rw [List.map_eq_nil_iff]
      refine List.filter_eq_nil_iff.mpr fun v hv => ?_
      have mv : v ∉ r := (av_mem.mp hv).2.1
      show ¬ pkB a b (r ++ [v]) = true
      rw [pk_snoc ne mv, if_neg c]
      exact Bool.false_ne_true
theorem kept_put {hs : Hs} (fo : Fo hs) {a b : Nat} (ha : a < hs.length) (hb : b < hs.length) (ne : a ≠ b) (up1 : ∀ u : Nat, hs[b]? = some (some u) → u ∈ a :: up hs a) : rowsAt (putH hs a b) (putH hs a b).length = keptR hs a b := by
  have len : (putH hs a b).length = hs.length := List.length_set
  rw [len, rows_put fo ha hb ne up1]
  unfold keptR
  refine List.filter_congr fun q hq => ?_
  obtain ⟨r, l⟩ := rows_mem.mp hq
  have mb := row_full r l hb
  unfold pkB
  by_cases c : q.idxOf a < q.idxOf b
  · rw [decide_eq_true c, decide_eq_true (fun _ => c)]
  · rw [decide_eq_false c, decide_eq_false (fun z => c (z mb))]
/-- a list in which each thing is behind its holder tells a forest -/
theorem fo_row {G : Hs} {q : List Nat} (ne : G ≠ []) (r : Row G q) (l : q.length = G.length) : Fo G := by
  refine fo_ups ne fun v hv => ?_
  have key : ∀ (n v : Nat), v < G.length → q.idxOf v ≤ n → ∃ l, Ups G v l := fun n => by
    induction n with
    | zero =>
      intro v hv h
      obtain ⟨o, ho⟩ : ∃ o, G[v]? = some o := ⟨_, List.getElem?_eq_getElem hv⟩
      cases o with
      | none => exact ⟨_, .root ho⟩
      | some u =>
        have := sub_idx r.nd (r.bh v u (row_full r l hv) ho)
        omega
    | succ n ih =>
      intro v hv h
      obtain ⟨o, ho⟩ : ∃ o, G[v]? = some o := ⟨_, List.getElem?_eq_getElem hv⟩
      cases o with
      | none => exact ⟨_, .root ho⟩
      | some u =>
        have s := r.bh v u (row_full r l hv) ho
        have := sub_idx r.nd s
        obtain ⟨m, hm⟩ := ih u (r.lt u (s.subset List.mem_cons_self)) (by omega)
        exact ⟨_, .step ho hm⟩
  exact key _ v hv (Nat.le_refl _)
theorem rows_fo {G : Hs} {q : List Nat} (ne : G ≠ []) (h : q ∈ rowsAt G G.length) : Fo G := by
  obtain ⟨r, l⟩ := rows_mem.mp h
  exact fo_row ne r l
/-- some row is kept where the other thing isn't above -/
theorem kept_ne {hs : Hs} (fo : Fo hs) {a b : Nat} (ha : a < hs.length) (hb : b < hs.length) (ne : a ≠ b) (m : ¬ b ∈ up hs a) : keptR hs a b ≠ [] := fun z => by
  obtain ⟨q, hq, w⟩ := not_ahead fo hb ha ne.symm m
  have y : q ∈ keptR hs a b := kept_mem.mpr ⟨hq, w⟩
  rw [z] at y; cases y
theorem kept_all {hs : Hs} (fo : Fo hs) {a b : Nat} (hb : b < hs.length) (m : a ∈ up hs b) : keptR hs a b = rowsAt hs hs.length := by
  refine List.filter_eq_self.mpr fun q hq => ?_
  obtain ⟨r, l⟩ := rows_mem.mp hq
  exact decide_eq_true (up_ahead fo r (row_full r l hb) m)
theorem kept_none {hs : Hs} (fo : Fo hs) {a b : Nat} (ha : a < hs.length) (m : b ∈ up hs a) : keptR hs a b = [] := by
  refine List.filter_eq_nil_iff.mpr fun q hq => ?_
  obtain ⟨r, l⟩ := rows_mem.mp hq
  have := up_ahead fo r (row_full r l ha) m
  intro z
  have := of_decide_eq_true z
  omega
theorem put_fo {hs : Hs} (fo : Fo hs) {a b : Nat} (ha : a < hs.length) (hb : b < hs.length) (ne : a ≠ b) (m : ¬ b ∈ up hs a) (up1 : ∀ u : Nat, hs[b]? = some (some u) → u ∈ a :: up hs a) : Fo (putH hs a b) := by
  have len : (putH hs a b).length = hs.length := List.length_set
  cases e : keptR hs a b with
  | nil => exact absurd e (kept_ne fo ha hb ne m)
  | cons q L =>
    refine rows_fo (q := q) (fun z => ?_) (by rw [kept_put fo ha hb ne up1, e]; exact List.mem_cons_self)
    rw [z] at len
    have : ([] : Hs).length = 0 := rfl
    omega

end My

namespace My
open PySem PySem.Spec PyProof.Rows L2
theorem iteT' {b : Bool} {A B : Prop} (e : b = true) (h : A) : if b = true then A else B := by rw [if_pos e]; exact h
theorem iteF' {b : Bool} {A B : Prop} (e : b = false) (h : B) : if b = true then A else B := by rw [if_neg (by rw [e]; exact Bool.false_ne_true)]; exact h

/-! ### [x for x in xs if ..] over a list of naturals -/
theorem lc_nat {K : PySem.W.Frag} {L D : Addr} {l : List Nat} (pr : Nat → Bool) {k : Nat} {tt : TT} {te : TE} {vs : List Nat} {σ : L2.St} {H1 : Hp} {Qd : Hp → Prop} (hL : H1 L = some (.lst (nv l))) (hl : l.length ≤ 1000) (hD : H1 D = none)
    (wi : ∀ v : V, wipe ((wipe σ vs).set k (some v)) vs = wipe σ vs) (val : ∀ (v : V) (H : Hp) (Q : VK), Q v H → te ((wipe σ vs).set k (some v)) H Q)
    (test : ∀ (v : Nat) (H2 : Hp) (Q' : Bool → Hp → Prop), v ∈ l → Same H1 H2 → (∀ H4, Same H2 H4 → Q' (pr v) H4) → tt ((wipe σ vs).set k (some (.int (v : Int)))) H2 Q')
    (done : ∀ H2, Same H1 H2 → H2 D = some (.lst (nv (l.filter pr))) → Qd H2) :
    ∃ W : Nat → Nat → Hp → Prop, (∃ m, W 0 m (upd H1 D (.lst []))) ∧ ∀ i m H, W i m H →
      ((Itl K L).stop i H ∧ Qd H) ∨ ((Itl K L).go i H ∧ ∃ Nx : Hp → Prop, (∀ H', Nx H' → ∃ m', m' < m ∧ W (i + 1) m' H') ∧ ∀ x H', (Itl K L).yld i H x H' → gName k x (wipe σ vs) H' fun σ2 H2 => wipe σ2 vs = wipe σ vs ∧ tt σ2 H2 fun b H3 =>
        if b = true then te σ2 H3 fun y H4 => ∃ acc, H4 D = some (.lst acc) ∧ acc.length < sizeLine ∧ Nx (upd H4 D (.lst (acc ++ [y]))) else Nx H3) := by
  refine lc_it (walk_list (xs := nv l)) (fun i H' => Same H1 H' ∧ H' D = some (.lst (nv ((l.take i).filter pr)))) ⟨(Same.refl H1).new hD, upd_same⟩ (fun i H' _ z => SqL.of (z.1 _ _ hL)) ?_ ?_
  · rintro i x H2 H3 hi ⟨s2, oD⟩ ⟨rfl, e1⟩
    obtain ⟨v, ev, rfl⟩ := nv_at e1
    have mv := List.mem_of_getElem? ev
    have il := (List.getElem?_eq_some_iff.mp ev).1
    have lz : ((l.take i).filter pr).length ≤ i := by
      have z := List.length_filter_le pr (l.take i)
      rw [List.length_take] at z; omega
    have tk : (l.take (i + 1)).filter pr = (l.take i).filter pr ++ (if pr v = true then [v] else []) := by
      rw [List.take_add_one, ev, List.filter_append]
      congr 1
      by_cases c : pr v = true
      · rw [if_pos c]
        show [v].filter _ = _
        rw [List.filter_cons_of_pos c]; rfl
      · rw [if_neg c]
        show [v].filter _ = _
        rw [List.filter_cons_of_neg c]; rfl
    refine ⟨wi _, test v H3 _ mv s2 fun H4 s4 => ?_⟩
    have oD4 := s4 _ _ oD
    by_cases c : pr v = true
    · rw [if_pos c]
      refine val _ _ _ ⟨_, oD4, by rw [nv_length]; exact szl (by omega), (s2.trans s4).upd hD, ?_⟩
      rw [upd_same, tk, if_pos c, nv_append]; rfl
    · rw [if_neg c]
      refine ⟨s2.trans s4, ?_⟩
      rw [tk, if_neg c, List.append_nil]; exact oD4
  · rintro H2 ⟨s2, oD⟩
    rw [nv_length, List.take_length] at oD
    exact done H2 s2 oD

/-! ### what list a value is -/
def lstAt (H : Hp) : V → Option (List V)
  | .ref a => match H a with
    | some (.lst xs) => some xs
    | _ => none
  | _ => none
theorem lstAt_lst {H : Hp} {a : Addr} {xs : List V} (h : H a = some (.lst xs)) : lstAt H (.ref a) = some xs := by simp only [lstAt, h]
theorem lstAt_ref {H : Hp} {x : V} {xs : List V} (h : lstAt H x = some xs) : ∃ a, x = .ref a ∧ H a = some (.lst xs) := by
  cases x with
  | ref a =>
    refine ⟨a, rfl, ?_⟩
    cases e : H a with
    | none => simp only [lstAt, e] at h; cases h
    | some o =>
      cases o with
      | lst ys => simp only [lstAt, e] at h; rw [Option.some.inj h]
      | _ => simp only [lstAt, e] at h; cases h
  | _ => cases h
theorem Vd.tyL {K : PySem.W.Frag} {H : Hp} {x : V} (v : Vd H x) (n : lstAt H x = none) : ∃ t : String, TyX K H x (.type t) ∧ kitB t "list" = some false := by
  cases v with
  | non => exact ⟨_, .base .non, (by decide +kernel : kitB "NoneType" "list" = some false)⟩
  | bl b => exact ⟨_, .base (.bl b), (by decide +kernel : kitB "bool" "list" = some false)⟩
  | int i => exact ⟨_, .base (.int i), (by decide +kernel : kitB "int" "list" = some false)⟩
  | str z => exact ⟨_, .base (.str z), (by decide +kernel : kitB "str" "list" = some false)⟩
  | lst h => rw [lstAt_lst h] at n; cases n
  | tup h => exact ⟨_, .base (.tup h), (by decide +kernel : kitB "tuple" "list" = some false)⟩
  | dK h => exact ⟨_, .base (.dK h), (by decide +kernel : kitB "dict" "list" = some false)⟩

/-! ### heldbehind.told, for right lists -/
def OrdL (l : List Nat) : Prop := l.Nodup ∧ ∀ v ∈ l, v < l.length
structure ToldR (H : Hp) (p : Addr) (as : List Addr) (rs : List (List Nat)) (n : Nat) : Prop where
  at_ : H p = some (.lst (as.map V.ref))
  rw : Rws H as rs
  ne : 1 ≤ rs.length
  many : rs.length ≤ 60
  n1 : 1 ≤ n
  n60 : n ≤ 60
  ord : ∀ r ∈ rs, OrdL r ∧ r.length = n
theorem ToldR.same {H H' : Hp} {p : Addr} {as : List Addr} {rs : List (List Nat)} {n : Nat} (h : ToldR H p as rs n) (s : Same H H') : ToldR H' p as rs n := ⟨s _ _ h.at_, h.rw.same s, h.ne, h.many, h.n1, h.n60, h.ord⟩
def plc (r : List Nat) : List Nat := (List.range r.length).map fun v => r.idxOf v
def aheadB (rs : List (List Nat)) (a b : Nat) : Bool := rs.all fun r => decide (r.idxOf a < r.idxOf b)
def alw (rs : List (List Nat)) (n j : Nat) : List Nat := (List.range n).filter fun m => aheadB rs m j
def alws (rs : List (List Nat)) (n : Nat) : List (List Nat) := (List.range n).map (alw rs n)
/-- a list of new lists -/
structure RwF (H0 H : Hp) (F : Addr) (fs : List Addr) (gs : List (List Nat)) : Prop where
  lst : H F = some (.lst (fs.map V.ref))
  rw : Rws H fs gs
  nd : fs.Nodup
  nF : F ∉ fs
  f0 : H0 F = none
  new : ∀ p ∈ fs, H0 p = none
def chs (gs : List (List Nat)) : Nat := gs.foldl (fun a g => a * (g.length + 1)) 1
def spOrder : Sp := fun vs H Q _ => ∃ (p : Addr) (l : List Nat), vs = [.ref p] ∧ H p = some (.lst (nv l)) ∧ OrdL l ∧ 1 ≤ l.length ∧ l.length ≤ 60 ∧ ∀ H', Same H H' → Q (.bl true) H'
def spCheckTold : Sp := fun vs H Q _ => ∃ (p : Addr) (as : List Addr) (rs : List (List Nat)) (n : Nat), vs = [.ref p] ∧ ToldR H p as rs n ∧ ∀ H', Same H H' → Q .non H'
def spPlaces : Sp := fun vs H Q _ => ∃ (p : Addr) (r : List Nat), vs = [.ref p] ∧ H p = some (.lst (nv r)) ∧ OrdL r ∧ r.length ≤ 60 ∧ ∀ F H', Same H H' → H F = none → H' F = some (.lst (nv (plc r))) → Q (.ref F) H'
def spIsAhead : Sp := fun vs H Q _ => ∃ (P : Addr) (ps : List Addr) (rs : List (List Nat)) (n a b : Nat), vs = [.ref P, .int (a : Int), .int (b : Int)] ∧ H P = some (.lst (ps.map V.ref)) ∧ Rws H ps (rs.map plc) ∧ (∀ r ∈ rs, r.length = n) ∧ a < n ∧ b < n ∧ rs.length ≤ 60 ∧ ∀ H', Same H H' → Q (.bl (aheadB rs a b)) H'
def spAhead : Sp := fun vs H Q _ => ∃ (p : Addr) (as : List Addr) (rs : List (List Nat)) (n : Nat), vs = [.ref p] ∧ ToldR H p as rs n ∧ ∀ F fs H', Same H H' → RwF H H' F fs (alws rs n) → Q (.ref F) H'
def spChoices : Sp := fun vs H Q _ => ∃ (F : Addr) (fs : List Addr) (gs : List (List Nat)), vs = [.ref F] ∧ H F = some (.lst (fs.map V.ref)) ∧ Rws H fs gs ∧ (∀ g ∈ gs, g.length ≤ 60) ∧ Q (.int (chs gs : Nat)) H
theorem ord_full {r : List Nat} (o : OrdL r) {v : Nat} (h : v < r.length) : v ∈ r := mem_of_full r.length r o.1 o.2 rfl v h
theorem plc_len (r : List Nat) : (plc r).length = r.length := by unfold plc; rw [List.length_map, List.length_range]
theorem plc_at {r : List Nat} {v : Nat} (h : v < r.length) : (plc r)[v]? = some (r.idxOf v) := by
  unfold plc
  rw [List.getElem?_map, List.getElem?_range h]; rfl
theorem ref_atT {as : List Addr} {i : Nat} {x : V} (h : (as.map V.ref)[i]? = some x) : ∃ p, as[i]? = some p ∧ x = .ref p := by
  rw [List.getElem?_map] at h
  obtain ⟨p, e, rfl⟩ := Option.map_eq_some_iff.mp h
  exact ⟨p, e, rfl⟩
theorem Rws.get2 {H : Hp} {as : List Addr} {rs : List (List Nat)} (w : Rws H as rs) {i : Nat} {p : Addr} (e : as[i]? = some p) : ∃ r, rs[i]? = some r ∧ r ∈ rs ∧ H p = some (.lst (nv r)) := by
  have hi : i < rs.length := by rw [← w.len]; exact (List.getElem?_eq_some_iff.mp e).1
  exact ⟨rs[i], List.getElem?_eq_getElem hi, List.getElem_mem hi, w.at_ i p _ e (List.getElem?_eq_getElem hi)⟩
theorem true_all (n : Nat) : (List.replicate n true).all id = true := by rw [List.all_eq_true]; intro b hb; exact (List.mem_replicate.mp hb).2

/-! ### heldbehind.integers.are_different, is_order; heldbehind.told._check_told, of any value -/
theorem Vd.lstAt_same {H H' : Hp} {x : V} (v : Vd H x) (s : Same H H') : lstAt H' x = lstAt H x := by
  cases v with
  | lst h => rw [lstAt_lst h, lstAt_lst (s _ _ h)]
  | tup h => simp only [lstAt, h, s _ _ h]
  | dK h => simp only [lstAt, h, s _ _ h]
  | _ => rfl
theorem isIdx_some {n : Int} {x : V} (h : isIdx n x = true) : ∃ v : Nat, x = .int (v : Int) ∧ (v : Int) < n := by
  cases x with
  | int i =>
    have h : (decide (0 ≤ i) && decide (i < n)) = true := h
    rw [Bool.and_eq_true, decide_eq_true_eq, decide_eq_true_eq] at h
    exact ⟨i.toNat, by rw [Int.toNat_of_nonneg h.1], by omega⟩
  | _ => cases h
theorem nats_of {n : Int} : ∀ xs : List V, xs.all (isIdx n) = true → ∃ l : List Nat, xs = nv l ∧ ∀ v ∈ l, (v : Int) < n
  | [], _ => ⟨[], rfl, fun v h => absurd h List.not_mem_nil⟩
  | x :: xs, h => by
    rw [List.all_cons, Bool.and_eq_true] at h
    obtain ⟨v, rfl, hv⟩ := isIdx_some h.1
    obtain ⟨l, rfl, hl⟩ := nats_of xs h.2
    exact ⟨v :: l, rfl, fun u hu => (List.mem_cons.mp hu).elim (fun z => by rw [z]; exact hv) (hl u)⟩
theorem idx_nv {n : Int} : ∀ l : List Nat, (∀ v ∈ l, (v : Int) < n) → (nv l).all (isIdx n) = true
  | [], _ => rfl
  | v :: l, h => by
    show (isIdx n (.int (v : Int)) && (nv l).all (isIdx n)) = true
    rw [idx_nv l fun u hu => h u (List.mem_cons_of_mem _ hu), Bool.and_true]
    show (decide ((0 : Int) ≤ v) && decide ((v : Int) < n)) = true
    rw [decide_eq_true (by omega), decide_eq_true (h v List.mem_cons_self)]; rfl
/-- what is_order answers of a list -/
def IsO (xs : List V) : Prop := ∃ l, xs = nv l ∧ OrdL l ∧ 1 ≤ l.length
theorem nv_inj : ∀ {a b : List Nat}, nv a = nv b → a = b
  | [], [], _ => rfl
  | [], _ :: _, h => by cases h
  | _ :: _, [], h => by cases h
  | x :: a, y :: b, h => by
    have h : V.int (x : Int) :: nv a = V.int (y : Int) :: nv b := h
    obtain ⟨h1, h2⟩ := List.cons.inj h
    have z : (x : Int) = (y : Int) := V.int.inj h1
    rw [nv_inj h2, show x = y by omega]
/-- a value that can be asked about, and its items, and theirs -/
structure OrV (H : Hp) (x : V) : Prop where
  vd : Vd H x
  it : ∀ xs, lstAt H x = some xs → xs.length ≤ 60 ∧ ∀ z ∈ xs, Vd H z
structure TlV (H : Hp) (x : V) : Prop where
  vd : Vd H x
  it : ∀ xs, lstAt H x = some xs → xs.length ≤ 60 ∧ ∀ z ∈ xs, OrV H z
theorem OrV.same {H H' : Hp} {x : V} (o : OrV H x) (s : Same H H') : OrV H' x := ⟨o.vd.same s, fun xs e => by
  rw [o.vd.lstAt_same s] at e
  exact ⟨(o.it xs e).1, fun z hz => ((o.it xs e).2 z hz).same s⟩⟩
theorem TlV.same {H H' : Hp} {x : V} (o : TlV H x) (s : Same H H') : TlV H' x := ⟨o.vd.same s, fun xs e => by
  rw [o.vd.lstAt_same s] at e
  exact ⟨(o.it xs e).1, fun z hz => ((o.it xs e).2 z hz).same s⟩⟩
def IsTold (H : Hp) (x : V) : Prop := ∃ p as rs n, x = .ref p ∧ ToldR H p as rs n
def spDiffA : Sp := fun vs H Q _ => ∃ (p : Addr) (xs : List V), vs = [.ref p, .int (xs.length : Int)] ∧ H p = some (.lst xs) ∧ xs.length ≤ 60 ∧ 1 ≤ xs.length ∧ (∀ z ∈ xs, Vd H z) ∧ (IsO xs → ∀ H', Same H H' → Q (.bl true) H') ∧ (¬ IsO xs → ∀ H', Same H H' → Q (.bl false) H')
def spOrderA : Sp := fun vs H Q _ => ∃ x, vs = [x] ∧ OrV H x ∧ ((∃ xs, lstAt H x = some xs ∧ IsO xs) → ∀ H', Same H H' → Q (.bl true) H') ∧ (¬ (∃ xs, lstAt H x = some xs ∧ IsO xs) → ∀ H', Same H H' → Q (.bl false) H')
def spCheckToldE (CT : Addr) : Sp := fun vs H Q E => ∃ x, vs = [x] ∧ TlV H x ∧ (IsTold H x → ∀ H', Same H H' → Q .non H') ∧ (¬ IsTold H x → ∀ H', Same H H' → E (.ref CT) none H')
theorem told_rows {H : Hp} : ∀ xs : List V, (∀ x ∈ xs, ∃ ys, lstAt H x = some ys ∧ IsO ys) → ∃ (as : List Addr) (rs : List (List Nat)), xs = as.map V.ref ∧ Rws H as rs ∧ ∀ r ∈ rs, OrdL r ∧ 1 ≤ r.length
  | [], _ => ⟨[], [], rfl, ⟨rfl, fun i p r e => by cases e⟩, fun r h => absurd h List.not_mem_nil⟩
  | x :: xs, h => by
    obtain ⟨ys, ey, l, rfl, ol, l1⟩ := h x List.mem_cons_self
    obtain ⟨a, rfl, ha⟩ := lstAt_ref ey
    obtain ⟨as, rs, rfl, w, o⟩ := told_rows xs fun z hz => h z (List.mem_cons_of_mem _ hz)
    refine ⟨a :: as, l :: rs, rfl, ⟨by rw [List.length_cons, List.length_cons, w.len], fun i p r e1 e2 => ?_⟩, fun r hr => ?_⟩
    · cases i with
      | zero => cases e1; cases e2; exact ha
      | succ i => exact w.at_ i p r e1 e2
    · rcases List.mem_cons.mp hr with rfl | hr
      · exact ⟨ol, l1⟩
      · exact o r hr
section
variable {P : Program} {w : World} {K : PySem.W.Frag} {mg : Str → Option Value} {base : Heap} {CT CI : Addr}
abbrev st_are_different : Stmt := topS 12
abbrev N_are_different : List Str := ["values", "many", "value"]
theorem sc_are_different : FnScope N_are_different ["values", "many"] (defScope st_are_different) := ⟨rfl, rfl, rfl, by decide +kernel, rfl, by decide +kernel, by decide +kernel⟩
theorem ok_are_different (D : Df K mg "are_different" st_are_different ["values", "many"]) (B : Bl mg) (Kis_index : Kn P w K mg base CX0 3 "is_index" st_is_index ["value", "many"] spIsIndex) :
    Kn P w K mg base CX0 4 "are_different" st_are_different ["values", "many"] spDiffA := by
  refine D.ok sc_are_different (fun vs H Q E h => ?_) (fun f cdv A outer s H vs Q E hr h => ?_)
  · obtain ⟨p, xs, rfl, _⟩ := h; rfl
  obtain ⟨p, xs, rfl, hp, l60, l1, vd, q1, q2⟩ := h
  refine ⟨_, ((pss_one (ps_ret (pe_and (pe_callB (cr_all rfl) (by rfl) B.all (by decide +kernel) (pa_cons (pe_lc (own := [("value", 2)]) (g := gName 2) rfl sc_are_different.nd (pi_list (pv 0)) (blkOk_by (N := N_are_different) (sc := defScope st_are_different) (own := [("value", 2)]) (by decide +kernel)) (fun _ _ _ _ _ => by (exact (pg_name (i := 2) sc_are_different.nd rfl (Or.inl rfl)))) (fun _ _ _ _ _ => by exact pts_nil) (fun _ _ _ _ _ => by exact (pe_callF Kis_index (hr.mono (by decide)) pass0 (pa_cons (pv 2) (pa_cons (pv 1) pa_nil))))) pa_nil)) (pe_one (pe_cmpR op_eq (pe_lenSetA (by rfl) B.len (by rfl) B.set (pv 0)) (pe_callB call_len (by rfl) B.len (by decide +kernel) (pa_cons (pv 0) pa_nil)) (nomark _))))))), ?_⟩
  refine ⟨_, rfl, p, rfl, ⟨_, SqL.of hp⟩, fun L hL => lc_list (xs := xs) (fun i H' => Same H H' ∧ H' L = some (.lst (((xs.take i).map (isIdx (xs.length : Int))).map V.bl))) ⟨(Same.refl H).new hL, upd_same⟩ (fun i H' _ z => SqL.of (z.1 _ _ hp)) ?_ ?_⟩
  · rintro i x H1 e ⟨s1, hL1⟩
    refine ⟨rfl, _, rfl, _, rfl, x, _, rfl, (vd x (List.mem_of_getElem? e)).same s1, _, hL1, ?_, s1.upd hL, ?_⟩
    · rw [List.length_map, List.length_map, List.length_take]; exact szl (by omega)
    · rw [upd_same, List.take_add_one, e, List.map_append, List.map_append]; rfl
  · rintro H1 ⟨s1, hL1⟩
    rw [List.take_length] at hL1
    refine ⟨L, _, rfl, SqL.of hL1, _, rfl, ?_⟩
    have ea : (xs.map (isIdx (xs.length : Int))).all id = xs.all (isIdx (xs.length : Int)) := by rw [List.all_map]; rfl
    rw [ea]
    cases c : xs.all (isIdx (xs.length : Int)) with
    | false =>
      refine iteF (q2 (fun ⟨l, e, o, _⟩ => ?_) H1 s1)
      have z := idx_nv (n := (xs.length : Int)) l fun v hv => by
        have := o.2 v hv
        rw [e, nv_length]; omega
      rw [← e, c] at z; cases z
    | true =>
      obtain ⟨l, el, hlt⟩ := nats_of xs c
      have ll : xs.length = l.length := by rw [el, nv_length]
      have hp1 := s1 _ _ hp
      refine iteT ⟨_, rfl, p, l.map fun v : Nat => (v : Int), rfl, by rw [List.map_map]; rw [el] at hp1; exact SqL.of hp1, by rw [List.length_map]; omega, ?_⟩
      refine ⟨_, rfl, _, _, rfl, .inl ⟨_, SqL.of hp1, rfl⟩, rfl, ?_⟩
      have iff_ : dstN (l.map fun v : Nat => (v : Int)) = l.length ↔ l.Nodup := by
        have z := dstN_iff (l.map fun v : Nat => (v : Int))
        rw [List.length_map] at z
        rw [z]
        unfold List.Nodup
        rw [List.pairwise_map]
        exact ⟨fun h => h.imp fun {a b} n e => n (by rw [e]), fun h => h.imp fun {a b} n e => n (by omega)⟩
      by_cases nd : l.Nodup
      · have e : decide (V.int ((dstN (l.map fun v : Nat => (v : Int)) : Nat) : Int) = V.int (xs.length : Int)) = true := decide_eq_true (by rw [iff_.mpr nd, ll])
        rw [e]
        exact q1 ⟨l, el, ⟨nd, fun v hv => by have := hlt v hv; omega⟩, by omega⟩ H1 s1
      · have e : decide (V.int ((dstN (l.map fun v : Nat => (v : Int)) : Nat) : Int) = V.int (xs.length : Int)) = false := decide_eq_false fun z => nd (iff_.mp (by have := V.int.inj z; omega))
        rw [e]
        exact q2 (fun ⟨l', e', o, _⟩ => nd (by rw [nv_inj (el.symm.trans e')]; exact o.1)) H1 s1
abbrev st_is_order : Stmt := topS 13
abbrev N_is_order : List Str := ["value"]
theorem sc_is_order : FnScope N_is_order ["value"] (defScope st_is_order) := ⟨rfl, rfl, rfl, by decide +kernel, rfl, by decide +kernel, by decide +kernel⟩
theorem ok_is_order (D : Df K mg "is_order" st_is_order ["value"]) (B : Bl mg) (Kare_different : Kn P w K mg base CX0 4 "are_different" st_are_different ["values", "many"] spDiffA) :
    Kn P w K mg base CX0 5 "is_order" st_is_order ["value"] spOrderA := by
  refine D.ok sc_is_order (fun vs H Q E h => ?_) (fun f cdv A outer s H vs Q E hr h => ?_)
  · obtain ⟨x, rfl, _⟩ := h; rfl
  obtain ⟨x, rfl, ov, q1, q2⟩ := h
  refine ⟨_, ((pss_one (ps_ret (pe_and (pe_callB call_isi (by rfl) B.isinstance (by decide +kernel) (pa_cons (pv 0) (pa_cons (pe_bltn (v := .ty "list") (u := .type "list") (by rfl) B.list (by decide +kernel) rfl) pa_nil))) (pe_and (pe_cmpR op_gt (pe_callB call_len (by rfl) B.len (by decide +kernel) (pa_cons (pv 0) pa_nil)) pe_int (nomark _)) (pe_one (pe_callF Kare_different (hr.mono (by decide)) pass0 (pa_cons (pv 0) (pa_cons (pe_callB call_len (by rfl) B.len (by decide +kernel) (pa_cons (pv 0) pa_nil)) pa_nil))))))))), ?_⟩
  cases e : lstAt H x with
  | none =>
    obtain ⟨t, ty, k⟩ := ov.vd.tyL (K := K) e
    rw [e] at q2
    exact ⟨_, rfl, _, _, _, _, _, rfl, .ty _, ty, kit_ty k, _, rfl, iteF (q2 (fun ⟨xs, z, _⟩ => by cases z) H (Same.refl H))⟩
  | some xs =>
    obtain ⟨p, rfl, hp⟩ := lstAt_ref e
    obtain ⟨l60, vd⟩ := ov.it xs e
    rw [e] at q1 q2
    refine ⟨_, rfl, _, _, _, _, _, rfl, .ty _, .base (.lst hp), kit_ty (by decide +kernel : kitB "list" "list" = some true), _, rfl, ?_⟩
    refine iteT ⟨_, rfl, _, _, rfl, .inl ⟨_, SqL.of hp, rfl⟩, _, _, rfl, rfl, _, rfl, ?_⟩
    by_cases c : 1 ≤ xs.length
    · refine iteT' (decide_eq_true (by omega)) ?_
      exact ⟨_, rfl, _, rfl, _, _, rfl, .inl ⟨_, SqL.of hp, rfl⟩, p, xs, rfl, hp, l60, c, vd, fun o => q1 ⟨xs, rfl, o⟩, fun o => q2 fun ⟨ys, z, oy⟩ => o (by cases z; exact oy)⟩
    · refine iteF' (decide_eq_false (by omega)) (q2 (fun ⟨ys, z, l, el, o, l1⟩ => ?_) H (Same.refl H))
      cases z
      rw [el, nv_length] at c
      exact c l1
abbrev st__check_told : Stmt := topS 30
abbrev N__check_told : List Str := ["told", "sequence"]
theorem sc__check_told : FnScope N__check_told ["told"] (defScope st__check_told) := ⟨rfl, rfl, rfl, by decide +kernel, rfl, by decide +kernel, by decide +kernel⟩
theorem ok__check_told (D : Df K mg "_check_told" st__check_told ["told"]) (B : Bl mg) (EInvalidTold : Ex1 K mg "InvalidTold" CT) (Kis_order : Kn P w K mg base CX0 5 "is_order" st_is_order ["value"] spOrderA) :
    Kn P w K mg base (L2.CX P w) 6 "_check_told" st__check_told ["told"] (spCheckToldE CT) := by
  refine D.okX sc__check_told (fun vs H Q E h => ?_) (fun f cdv A outer s H vs Q E hr h => ?_)
  · obtain ⟨x, rfl, _⟩ := h; rfl
  obtain ⟨x, rfl, tv, q, qe⟩ := h
  refine ⟨_, ((pss_cons (ps_if (PW.pt (pw_or (pt_not (pt_val (pe_callB call_isi (by rfl) B.isinstance (by decide +kernel) (pa_cons (pv 0) (pa_cons (pe_bltn (v := .ty "list") (u := .type "list") (by rfl) B.list (by decide +kernel) rfl) pa_nil))))) (pw_or (pt_cmpR op_eq (pe_callB call_len (by rfl) B.len (by decide +kernel) (pa_cons (pv 0) pa_nil)) pe_int (nomark _)) (pw_or1 (pt_not (pt_val (pe_callB (cr_all rfl) (by rfl) B.all (by decide +kernel) (pa_cons (pe_lc (own := [("sequence", 1)]) (g := gName 1) rfl sc__check_told.nd (pi_list (pv 0)) (blkOk_by (N := N__check_told) (sc := defScope st__check_told) (own := [("sequence", 1)]) (by decide +kernel)) (fun _ _ _ _ _ => by (exact (pg_name (i := 1) sc__check_told.nd rfl (Or.inl rfl)))) (fun _ _ _ _ _ => by exact pts_nil) (fun _ _ _ _ _ => by exact (pe_callF Kis_order (hr.mono (by decide)) pass0 (pa_cons (pv 1) pa_nil)))) pa_nil)))))))) (pss_one (ps_raise rfl (takes_of rfl rfl rfl rfl) (pmk_own0 PySem.F.excBase_ValueError EInvalidTold.x EInvalidTold.g EInvalidTold.k (raises_own EInvalidTold.b EInvalidTold.t) rfl))) pss_nil)
      (pss_one (ps_if (pt_not (pt_val (pe_callB (cr_all rfl) (by rfl) B.all (by decide +kernel) (pa_cons (pe_lc (own := [("sequence", 1)]) (g := gName 1) rfl sc__check_told.nd (pi_list (pv 0)) (blkOk_by (N := N__check_told) (sc := defScope st__check_told) (own := [("sequence", 1)]) (by decide +kernel)) (fun _ _ _ _ _ => by (exact (pg_name (i := 1) sc__check_told.nd rfl (Or.inl rfl)))) (fun _ _ _ _ _ => by exact pts_nil) (fun _ _ _ _ _ => by exact (pe_cmpR op_eq (pe_callB (call_lenK K) (by rfl) B.len (by decide +kernel) (pa_cons (pv 1) pa_nil)) (pe_callB (call_lenK K) (by rfl) B.len (by decide +kernel) (pa_cons (pe_ix (ix_listK K) (pv 0) pe_int (fun _ _ => rfl)) pa_nil)) (nomark _)))) pa_nil)))) (pss_one (ps_raise rfl (takes_of rfl rfl rfl rfl) (pmk_own0 PySem.F.excBase_ValueError EInvalidTold.x EInvalidTold.g EInvalidTold.k (raises_own EInvalidTold.b EInvalidTold.t) rfl))) pss_nil)))), ?_⟩
  cases e : lstAt H x with
  | none =>
    obtain ⟨t, ty, k⟩ := tv.vd.tyL (K := K) e
    exact ⟨_, rfl, _, _, _, _, _, rfl, .ty _, ty, kit_ty k, _, rfl, iteT (qe (fun ⟨p, as, rs, n, ex, T⟩ => by subst ex; rw [lstAt_lst T.at_] at e; cases e) H (Same.refl H))⟩
  | some xs =>
    obtain ⟨p, rfl, hp⟩ := lstAt_ref e
    obtain ⟨l60, ov⟩ := tv.it xs e
    refine ⟨_, rfl, _, _, _, _, _, rfl, .ty _, .base (.lst hp), kit_ty (by decide +kernel : kitB "list" "list" = some true), _, rfl, ?_⟩
    refine iteF ⟨_, rfl, _, _, rfl, .inl ⟨_, SqL.of hp, rfl⟩, rfl, _, rfl, ?_⟩
    by_cases c0 : xs.length = 0
    · refine iteT' (decide_eq_true (by rw [c0]; rfl)) (qe (fun ⟨p', as, rs, n, ex, T⟩ => ?_) H (Same.refl H))
      cases ex
      have z := T.at_
      rw [hp] at z
      have z2 : xs = as.map V.ref := by cases z; rfl
      have := T.ne
      rw [z2, List.length_map, T.rw.len] at c0
      omega
    refine iteF' (decide_eq_false fun z => c0 (by have := V.int.inj z; omega)) ?_
    have stopped : ∀ y ∈ xs, ¬ (∃ ys, lstAt H y = some ys ∧ IsO ys) → ¬ IsTold H (.ref p) := fun y hy no ⟨p', as, rs, n, ex, T⟩ => by
      cases ex
      have z := T.at_
      rw [hp] at z
      have z2 : xs = as.map V.ref := by cases z; rfl
      subst z2
      obtain ⟨i, ei⟩ := List.mem_iff_getElem?.mp hy
      obtain ⟨a, ea, rfl⟩ := ref_atT ei
      obtain ⟨r, er, mr, ha⟩ := T.rw.get2 ea
      obtain ⟨o, lr⟩ := T.ord r mr
      exact no ⟨nv r, lstAt_lst ha, r, rfl, o, by rw [lr]; exact T.n1⟩
    have bk0 : ∀ (j : Nat) (y : V) (b : Bool), xs[j]? = some y → ([] : List Bool)[j]? = some b → (b = true ↔ ∃ ys, lstAt H y = some ys ∧ IsO ys) := fun j y b _ z => by cases z
    refine ⟨_, rfl, p, rfl, ⟨_, SqL.of hp⟩, fun L hL => lc_it (walk_list (xs := xs)) (fun i H' => Same H H' ∧ ∃ bs : List Bool, H' L = some (.lst (bs.map V.bl)) ∧ bs.length = i ∧ ∀ j y b, xs[j]? = some y → bs[j]? = some b → (b = true ↔ ∃ ys, lstAt H y = some ys ∧ IsO ys)) ⟨(Same.refl H).new hL, [], upd_same, rfl, bk0⟩ (fun i H' _ z => SqL.of (z.1 _ _ hp)) ?_ ?_⟩
    · rintro i y H1 H2 hi ⟨s1, bs, hL1, lb, bk⟩ ⟨rfl, e1⟩
      have oy := ov y (List.mem_of_getElem? e1)
      have grow : ∀ b : Bool, (b = true ↔ ∃ ys, lstAt H y = some ys ∧ IsO ys) → ∀ H3, Same H2 H3 → ∃ acc, H3 L = some (.lst acc) ∧ acc.length < sizeLine ∧ Same H (upd H3 L (.lst (acc ++ [V.bl b]))) ∧ ∃ bs : List Bool, upd H3 L (.lst (acc ++ [V.bl b])) L = some (.lst (bs.map V.bl)) ∧ bs.length = i + 1 ∧ ∀ j y b, xs[j]? = some y → bs[j]? = some b → (b = true ↔ ∃ ys, lstAt H y = some ys ∧ IsO ys) := fun b hb H3 s3 => by
        refine ⟨_, s3 _ _ hL1, by rw [List.length_map, lb]; exact szl (by omega), (s1.trans s3).upd hL, bs ++ [b], by rw [upd_same, List.map_append]; rfl, by rw [List.length_append, lb]; rfl, fun j y' b' ey eb => ?_⟩
        by_cases d : j < bs.length
        · rw [List.getElem?_append_left d] at eb
          exact bk j y' b' ey eb
        · have hj : j < (bs ++ [b]).length := (List.getElem?_eq_some_iff.mp eb).1
          rw [List.length_append, List.length_singleton] at hj
          have : j = i := by omega
          subst this
          rw [List.getElem?_append_right (by omega), lb, Nat.sub_self] at eb
          cases eb
          rw [e1] at ey
          cases ey
          exact hb
      refine ⟨rfl, _, rfl, y, rfl, oy.same s1, fun o H3 s3 => ?_, fun o H3 s3 => ?_⟩
      · rw [oy.vd.lstAt_same s1] at o
        exact grow true ⟨fun _ => o, fun _ => rfl⟩ H3 s3
      · rw [oy.vd.lstAt_same s1] at o
        exact grow false ⟨(fun z => by cases z), fun z => absurd z o⟩ H3 s3
    rintro H1 ⟨s1, bs, hL1, lb, bk⟩
    refine ⟨L, _, rfl, SqL.of hL1, _, rfl, ?_⟩
    cases ba : bs.all id with
    | false =>
      refine iteT (qe ?_ H1 s1)
      obtain ⟨b, mb, hb⟩ := List.all_eq_false.mp ba
      have hb : b = false := by cases b with
        | false => rfl
        | true => exact absurd rfl hb
      subst hb
      obtain ⟨j, ej⟩ := List.mem_iff_getElem?.mp mb
      have jl : j < xs.length := by rw [← lb]; exact (List.getElem?_eq_some_iff.mp ej).1
      have ey := List.getElem?_eq_getElem jl
      exact stopped _ (List.mem_of_getElem? ey) fun o => by
        have := (bk j _ _ ey ej).mpr o
        cases this
    | true =>
    refine iteF ?_
    have allO : ∀ y ∈ xs, ∃ ys, lstAt H y = some ys ∧ IsO ys := fun y hy => by
      obtain ⟨j, ej⟩ := List.mem_iff_getElem?.mp hy
      have jl : j < bs.length := by rw [lb]; exact (List.getElem?_eq_some_iff.mp ej).1
      have eb := List.getElem?_eq_getElem jl
      exact (bk j y _ ej eb).mp (List.all_eq_true.mp ba _ (List.mem_of_getElem? eb))
    obtain ⟨as, rs, rfl, wr, ord⟩ := told_rows xs allO
    have lar := wr.len
    rw [List.length_map] at c0 l60
    obtain ⟨a0, ea0⟩ : ∃ a0, as[0]? = some a0 := ⟨_, List.getElem?_eq_getElem (by omega)⟩
    obtain ⟨r0, er0, mr0, ha0⟩ := wr.get2 ea0
    have r60 : ∀ r ∈ rs, r.length ≤ 60 := fun r hr => by
      obtain ⟨j, ej⟩ := List.mem_iff_getElem?.mp hr
      have jl : j < as.length := by rw [lar]; exact (List.getElem?_eq_some_iff.mp ej).1
      have ea := List.getElem?_eq_getElem jl
      have hr2 := wr.at_ j _ r ea ej
      have z := ((ov (.ref as[j]) (List.mem_map_of_mem (List.getElem_mem jl))).it (nv r) (lstAt_lst hr2)).1
      rw [nv_length] at z; exact z
    refine ⟨_, rfl, p, rfl, ⟨_, SqL.of (s1 _ _ hp)⟩, fun L2 hL2 => lc_it (walk_list (xs := as.map V.ref)) (fun i H' => Same H1 H' ∧ H' L2 = some (.lst (((rs.take i).map fun r => decide (r.length = r0.length)).map V.bl))) ⟨(Same.refl H1).new hL2, upd_same⟩ (fun i H' _ z => SqL.of (z.1 _ _ (s1 _ _ hp))) ?_ ?_⟩
    · rintro i y H2 H3 hi ⟨s2, hL3⟩ ⟨rfl, e1⟩
      obtain ⟨a, ea, rfl⟩ := ref_atT e1
      obtain ⟨r, er, mr, ha⟩ := wr.get2 ea
      rw [List.length_map] at hi
      have s12 := s1.trans s2
      refine ⟨rfl, _, rfl, _, _, rfl, .inl ⟨_, SqL.of (s12 _ _ ha), rfl⟩, _, rfl, p, _, _, .ref a0, rfl, rfl, SqL.of (s12 _ _ hp), atI_nat (j := 0) (by rw [List.getElem?_map, ea0]; rfl), _, _, rfl, .inl ⟨_, SqL.of (s12 _ _ ha0), rfl⟩, rfl, _, hL3, ?_, s2.upd hL2, ?_⟩
      · rw [List.length_map, List.length_map, List.length_take]; exact szl (by omega)
      · rw [upd_same, List.take_add_one, er, List.map_append, List.map_append]
        congr 4
        rw [nv_length, nv_length]
        refine congrArg V.bl (decide_eq_decide.mpr ⟨fun z => by have := V.int.inj z; omega, fun z => by rw [z]⟩)
    rintro H2 ⟨s2, hL3⟩
    rw [List.length_map, lar, List.take_length] at hL3
    refine ⟨L2, _, rfl, SqL.of hL3, _, rfl, ?_⟩
    have eb : (rs.map fun r => decide (r.length = r0.length)).all id = decide (∀ r ∈ rs, r.length = r0.length) := by
      rw [List.all_map, Bool.eq_iff_iff, List.all_eq_true, decide_eq_true_eq]
      exact ⟨fun h r hr => of_decide_eq_true (h r hr), fun h r hr => decide_eq_true (h r hr)⟩
    rw [eb]
    by_cases same_ : ∀ r ∈ rs, r.length = r0.length
    · rw [decide_eq_true same_]
      exact iteF (q ⟨p, as, rs, r0.length, rfl, hp, wr, by omega, by omega, (ord r0 mr0).2, r60 r0 mr0, fun r hr => ⟨(ord r hr).1, same_ r hr⟩⟩ H2 (s1.trans s2))
    · rw [decide_eq_false same_]
      refine iteT (qe (fun ⟨p', as', rs', n, ex, T⟩ => same_ fun r hr => ?_) H2 (s1.trans s2))
      cases ex
      have z := T.at_
      rw [hp] at z
      have z2 : as.map V.ref = as'.map V.ref := HO.lst.inj (Option.some.inj z)
      have len_at : ∀ r ∈ rs, r.length = n := fun r hr => by
        obtain ⟨j, ej⟩ := List.mem_iff_getElem?.mp hr
        have jl : j < as.length := by rw [lar]; exact (List.getElem?_eq_some_iff.mp ej).1
        have ea := List.getElem?_eq_getElem jl
        have e1 : (as'.map V.ref)[j]? = some (.ref as[j]) := by rw [← z2, List.getElem?_map, ea]; rfl
        obtain ⟨a', ea', ex⟩ := ref_atT e1
        obtain ⟨r', _, mr', ha'⟩ := T.rw.get2 ea'
        cases ex
        have hr2 := wr.at_ j _ r ea ej
        rw [hr2] at ha'
        have y2 : nv r = nv r' := HO.lst.inj (Option.some.inj ha')
        rw [nv_inj y2]
        exact (T.ord r' mr').2
      rw [len_at r hr, len_at r0 mr0]
end

end My

namespace My
open PySem PySem.Spec PyProof.Rows L2
theorem idx_get {j : Nat} : ∀ {q : List Nat}, j ∈ q → q[q.idxOf j]? = some j
  | x :: q, h => by
    by_cases e : x = j
    · rw [e, List.idxOf_cons_self]; rfl
    · rw [idx_ne e]
      exact idx_get ((List.mem_cons.mp h).elim (fun y => absurd y.symm e) id)
theorem idx_first {j v : Nat} : ∀ {q : List Nat} {m : Nat}, m < q.idxOf j → q[m]? = some v → v ≠ j
  | [], _, _, h => by cases h
  | x :: q, m, l, h => by
    by_cases e : x = j
    · rw [e, List.idxOf_cons_self] at l; omega
    · rw [idx_ne e] at l
      cases m with
      | zero => cases h; exact e
      | succ m => exact idx_first (q := q) (m := m) (by omega) h
theorem idx_take {m : Nat} : ∀ {q : List Nat} {k : Nat}, m ∈ q.take k → q.idxOf m < k
  | [], _, h => by rw [List.take_nil] at h; cases h
  | x :: q, 0, h => by rw [List.take_zero] at h; cases h
  | x :: q, k + 1, h => by
    rw [List.take_succ_cons] at h
    by_cases e : x = m
    · rw [e, List.idxOf_cons_self]; exact Nat.succ_pos _
    · rw [idx_ne e]
      have := idx_take (q := q) ((List.mem_cons.mp h).elim (fun y => absurd y.symm e) id)
      omega
theorem index_ask {K : PySem.W.Frag} {H : Hp} {a : Addr} {q : List Nat} {j : Nat} {Q : VK} (h : H a = some (.lst (nv q))) (m : j ∈ q) (k : Q (.int ((q.idxOf j : Nat) : Int)) H) : rIndex K (.ref a) [.int (j : Int)] H Q := by
  refine ⟨a, nv q, .int (j : Int), q.idxOf j, .int (j : Int), rfl, rfl, SqL.of h, rfl, flat_nv q, nv_get (idx_get m), ?_, fun p z hp hz => ?_, k⟩
  · exact decide_eq_true rfl
  · obtain ⟨v, ev, rfl⟩ := nv_at hz
    have n := idx_first hp ev
    exact decide_eq_false fun e => n (by omega)

theorem rep0 (k : Nat) : (List.replicate k [V.int 0]).flatten = nv (List.replicate k 0) := by
  induction k with
  | zero => rfl
  | succ k ih => rw [List.replicate_succ, List.flatten_cons, ih, List.replicate_succ]; rfl
theorem set_nv (l : List Nat) (i v : Nat) : (nv l).set i (.int (v : Int)) = nv (l.set i v) := by
  unfold nv
  rw [List.map_set]
theorem all_id (l : List Bool) : l.all id = l.all (fun b => b) := rfl
theorem aheadB_map (rs : List (List Nat)) (a b : Nat) : (rs.map fun r => decide (r.idxOf a < r.idxOf b)).all id = aheadB rs a b := by
  unfold aheadB
  rw [List.all_map]; rfl
section
variable {P : Program} {w : World} {K : PySem.W.Frag} {mg : Str → Option Value} {base : Heap} {CT CI : Addr}
abbrev st__places : Stmt := topS 31
abbrev N__places : List Str := ["sequence", "found", "place", "thing"]
theorem sc__places : FnScope N__places ["sequence"] (defScope st__places) := ⟨rfl, rfl, rfl, by decide +kernel, rfl, by decide +kernel, by decide +kernel⟩
theorem ok__places (D : Df K mg "_places" st__places ["sequence"]) (B : Bl mg) : Kn P w K mg base CX0 1 "_places" st__places ["sequence"] spPlaces := by
  refine D.ok sc__places (fun vs H Q E h => ?_) (fun f cdv A outer s H vs Q E hr h => ?_)
  · obtain ⟨p, r, rfl, _⟩ := h; rfl
  obtain ⟨p, r, rfl, hp, o, r60, q⟩ := h
  refine ⟨_, ((pss_cons (ps_set (i := 1) sc__places.nd rfl (Or.inl rfl) (pe_op op_rep (pe_lst (pa_cons pe_int pa_nil)) (pe_callB call_len (by rfl) B.len (by decide +kernel) (pa_cons (pv 0) pa_nil))))
      (pss_cons (ps_for PassesOwn.never rfl (pi_enum (by rfl) B.enumerate (pa_cons (pv 0) pa_nil)) (pg_tup rfl (pgs_cons (pg_name (i := 2) sc__places.nd rfl (Or.inl rfl)) (pgs_cons (pg_name (i := 3) sc__places.nd rfl (Or.inl rfl)) pgs_nil))) (pss_one (ps_asg (pv 2) (pg_sub (pv 1) (pv 3) set_list))))
      (pss_one (ps_ret (pv 1)))))), ?_⟩
  have hn : (nv r).length = r.length := nv_length r
  refine ⟨by show 1 ≤ sizeLine; decide, fun O hO => ?_⟩
  have s1 := (Same.refl H).new (o := .lst [.int 0]) hO
  have oO : upd H O (.lst [.int 0]) O = some (.lst [.int 0]) := upd_same
  generalize upd H O (.lst [.int 0]) = H1 at s1 oO ⊢
  refine ⟨_, rfl, _, _, rfl, .inl ⟨_, SqL.of (s1 _ _ hp), rfl⟩, O, _, _, rfl, rfl, oO, by omega, by rw [hn]; omega, ?_, fun F hF => ?_⟩
  · show 1 * ((nv r).length : Int).toNat ≤ sizeLine
    rw [hn, Int.toNat_natCast, Nat.one_mul]; exact Nat.le_of_lt (szl (by omega))
  have hFn : H F = none := s1.free hF
  rw [hn, Int.toNat_natCast, rep0]
  have s2 := s1.new (o := .lst (nv (List.replicate r.length 0))) hF
  have oF : upd H1 F (.lst (nv (List.replicate r.length 0))) F = some (.lst (nv (List.replicate r.length 0))) := upd_same
  generalize upd H1 F (.lst (nv (List.replicate r.length 0))) = H2 at s2 oF ⊢
  refine ⟨_, rfl, p, _, rfl, SqL.of (s2 _ _ hp), for_it (walk_enum (xs := nv r)) (fun i σ H' => ∃ v2 v3, σ = [some (.ref p), some (.ref F), v2, v3] ∧ Same H H' ∧ ∃ z : List Nat, z.length = r.length ∧ (∀ j v : Nat, j < i → r[j]? = some v → z[v]? = some j) ∧ H' F = some (.lst (nv z)))
    ⟨none, none, rfl, s2, _, List.length_replicate, fun j v h => absurd h (Nat.not_lt_zero j), oF⟩ (fun i σ H' _ z => ?_) ?_ ?_⟩
  · obtain ⟨_, _, _, s, _⟩ := z
    exact SqL.of (s _ _ hp)
  · rintro i x σ H3 H4 hi ⟨v2, v3, rfl, s3, z, lz, hz, oZ⟩ ⟨T, x1, x2, rfl, hT, rfl, e1, e2⟩
    have e1' := Option.some.inj e1; subst e1'
    obtain ⟨v, ev, rfl⟩ := nv_at e2
    have il := (List.getElem?_eq_some_iff.mp ev).1
    have vl : v < r.length := o.2 v (List.mem_of_getElem? ev)
    have s4 := s3.new (o := .tup [.int (i : Int), .int (v : Int)]) hT
    have oT : upd H3 T (.tup [.int (i : Int), .int (v : Int)]) T = some (.tup [.int (i : Int), .int (v : Int)]) := upd_same
    have oZ4 := ((Same.refl H3).new (o := .tup [.int (i : Int), .int (v : Int)]) hT) _ _ oZ
    generalize upd H3 T (.tup [.int (i : Int), .int (v : Int)]) = H5 at s4 oT oZ4 ⊢
    refine ⟨T, _, rfl, SqT.of oT, rfl, _, _, rfl, _, _, rfl, rfl, ?_⟩
    refine ⟨_, rfl, _, rfl, _, rfl, F, _, _, v, rfl, rfl, oZ4, by rw [nv_length, lz]; exact ixN_nat vl, ?_⟩
    refine ⟨_, _, rfl, s4.upd hFn, z.set v i, by rw [List.length_set]; exact lz, fun j u hj ej => ?_, by rw [upd_same, set_nv]⟩
    by_cases c : j = i
    · subst c
      rw [ev] at ej
      cases ej
      exact List.getElem?_set_self (by rw [lz]; exact vl)
    · have ne : v ≠ u := fun k => c (nodup_at o.1 ej (by rw [← k]; exact ev))
      rw [List.getElem?_set_ne ne]
      exact hz j u (by omega) ej
  · rintro σ H3 ⟨v2, v3, rfl, s3, z, lz, hz, oZ⟩
    refine ⟨_, rfl, q F H3 s3 hFn ?_⟩
    rw [oZ]
    have e : z = plc r := by
      refine List.ext_getElem? fun v => ?_
      by_cases c : v < r.length
      · rw [plc_at c]
        have m := ord_full o c
        exact hz _ _ (by rw [nv_length]; exact List.idxOf_lt_length_of_mem m) (idx_get m)
      · rw [List.getElem?_eq_none (by omega), List.getElem?_eq_none (by rw [plc_len]; omega)]
    rw [e]
abbrev st__is_ahead : Stmt := topS 32
abbrev N__is_ahead : List Str := ["place_lists", "other", "thing", "place_of"]
theorem sc__is_ahead : FnScope N__is_ahead ["place_lists", "other", "thing"] (defScope st__is_ahead) := ⟨rfl, rfl, rfl, by decide +kernel, rfl, by decide +kernel, by decide +kernel⟩
theorem ok__is_ahead (D : Df K mg "_is_ahead" st__is_ahead ["place_lists", "other", "thing"]) (B : Bl mg) : Kn P w K mg base CX0 1 "_is_ahead" st__is_ahead ["place_lists", "other", "thing"] spIsAhead := by
  refine D.ok sc__is_ahead (fun vs H Q E h => ?_) (fun f cdv A outer s H vs Q E hr h => ?_)
  · obtain ⟨P', ps, rs, n, a, b, rfl, _⟩ := h; rfl
  obtain ⟨L, ps, rs, n, a, b, rfl, hL, wr, ln, ha, hb, m60, q⟩ := h
  refine ⟨_, ((pss_one (ps_ret (pe_callB (cr_all rfl) (by rfl) B.all (by decide +kernel) (pa_cons (pe_lc (own := [("place_of", 3)]) (g := gName 3) rfl sc__is_ahead.nd (pi_list (pv 0)) (blkOk_by (N := N__is_ahead) (sc := defScope st__is_ahead) (own := [("place_of", 3)]) (by decide +kernel)) (fun _ _ _ _ _ => by (exact (pg_name (i := 3) sc__is_ahead.nd rfl (Or.inl rfl)))) (fun _ _ _ _ _ => by exact pts_nil) (fun _ _ _ _ _ => by exact (pe_cmpR op_lt (pe_ix (ix_listK K) (pv 3) (pv 1) (fun _ _ => rfl)) (pe_ix (ix_listK K) (pv 3) (pv 2) (fun _ _ => rfl)) (nomark _)))) pa_nil))))), ?_⟩
  have lps : (ps.map V.ref).length = rs.length := by rw [List.length_map, wr.len, List.length_map]
  refine ⟨_, rfl, L, rfl, ⟨_, SqL.of hL⟩, fun D2 hD => lc_it (walk_list (xs := ps.map V.ref)) (fun i H' => Same H H' ∧ H' D2 = some (.lst (((rs.take i).map fun r => decide (r.idxOf a < r.idxOf b)).map V.bl))) ⟨(Same.refl H).new hD, upd_same⟩ (fun i H' _ z => SqL.of (z.1 _ _ hL)) ?_ ?_⟩
  · rintro i y H1 H2 hi ⟨s1, oD⟩ ⟨rfl, e1⟩
    obtain ⟨p, ep, rfl⟩ := ref_atT e1
    rw [lps] at hi
    have er : rs[i]? = some rs[i] := List.getElem?_eq_getElem hi
    generalize rs[i] = r at er
    have lr := ln r (List.mem_of_getElem? er)
    have hp := wr.at_ i p (plc r) ep (by rw [List.getElem?_map, er]; rfl)
    have hp1 := s1 _ _ hp
    have pa := nv_get (plc_at (r := r) (v := a) (by omega))
    have pb := nv_get (plc_at (r := r) (v := b) (by omega))
    refine ⟨rfl, _, rfl, _, rfl, p, _, _, _, rfl, rfl, SqL.of hp1, atI_nat pa, _, rfl, _, rfl, p, _, _, _, rfl, rfl, SqL.of hp1, atI_nat pb, _, _, rfl, rfl, _, oD, ?_, s1.upd hD, ?_⟩
    · rw [List.length_map, List.length_map, List.length_take]; exact szl (by omega)
    · rw [upd_same, List.take_add_one, er, List.map_append, List.map_append]
      congr 4
      show V.bl (decide ((r.idxOf a : Int) < (r.idxOf b : Int))) = V.bl (decide (r.idxOf a < r.idxOf b))
      rw [show decide ((r.idxOf a : Int) < (r.idxOf b : Int)) = decide (r.idxOf a < r.idxOf b) from by rw [decide_eq_decide]; omega]
  rintro H1 ⟨s1, oD⟩
  rw [lps, List.take_length] at oD
  refine ⟨D2, _, rfl, SqL.of oD, ?_⟩
  rw [aheadB_map]
  exact q H1 s1
abbrev st__count_choices : Stmt := topS 33
abbrev N__count_choices : List Str := ["ahead", "found", "others"]
theorem sc__count_choices : FnScope N__count_choices ["ahead"] (defScope st__count_choices) := ⟨rfl, rfl, rfl, by decide +kernel, rfl, by decide +kernel, by decide +kernel⟩
theorem ok__count_choices (D : Df K mg "_count_choices" st__count_choices ["ahead"]) (B : Bl mg) : Kn P w K mg base CX0 1 "_count_choices" st__count_choices ["ahead"] spChoices := by
  refine D.ok sc__count_choices (fun vs H Q E h => ?_) (fun f cdv A outer s H vs Q E hr h => ?_)
  · obtain ⟨F, fs, gs, rfl, _⟩ := h; rfl
  obtain ⟨F, fs, gs, rfl, hF, wr, g60, q⟩ := h
  refine ⟨_, ((pss_cons (ps_set (i := 1) sc__count_choices.nd rfl (Or.inl rfl) pe_int)
      (pss_cons (ps_for PassesOwn.never rfl (pi_list (pv 0)) (pg_name (i := 2) sc__count_choices.nd rfl (Or.inl rfl)) (pss_one (ps_set (i := 1) sc__count_choices.nd rfl (Or.inl rfl) (pe_op op_mul (pv 1) (pe_op op_add (pe_callB call_len (by rfl) B.len (by decide +kernel) (pa_cons (pv 2) pa_nil)) pe_int)))))
      (pss_one (ps_ret (pv 1)))))), ?_⟩
  have lfs : (fs.map V.ref).length = gs.length := by rw [List.length_map, wr.len]
  refine ⟨_, rfl, F, rfl, ⟨_, SqL.of hF⟩, for_it (walk_list (xs := fs.map V.ref)) (fun i σ H' => ∃ v2, σ = [some (.ref F), some (.int (chs (gs.take i) : Nat)), v2] ∧ H' = H) ⟨none, rfl, rfl⟩ (fun i σ H' _ z => ?_) ?_ ?_⟩
  · obtain ⟨_, _, rfl⟩ := z
    exact SqL.of hF
  · rintro i x σ H1 H2 hi ⟨v2, rfl, rfl⟩ ⟨rfl, e1⟩
    obtain ⟨p, ep, rfl⟩ := ref_atT e1
    obtain ⟨g, eg, mg', hp⟩ := wr.get2 ep
    have lg := g60 g mg'
    have hn : (nv g).length = g.length := nv_length g
    have p64 : (2 : Int) ^ 64 = 18446744073709551616 := by decide
    refine ⟨_, rfl, _, rfl, _, _, rfl, .inl ⟨_, SqL.of hp, rfl⟩, _, _, rfl, rfl, _, _, rfl, rfl, .inr ⟨by rw [hn, p64]; omega, by rw [hn, p64]; omega⟩, ?_⟩
    refine ⟨some (.ref p), ?_, rfl⟩
    have e : chs (gs.take (i + 1)) = chs (gs.take i) * (g.length + 1) := by
      unfold chs
      rw [List.take_add_one, eg, List.foldl_append]; rfl
    rw [e, hn, Int.natCast_mul]; rfl
  · rintro σ H1 ⟨v2, rfl, rfl⟩
    rw [lfs, List.take_length]
    exact ⟨_, rfl, q⟩
end

end My

namespace My
open PySem PySem.Spec PyProof.Rows L2
/-- a value that is no told lists: InvalidTold -/
def NoTold (CT : Addr) (H : Hp) (x : V) (E : XK) : Prop := TlV H x ∧ ¬ IsTold H x ∧ ∀ H', Same H H' → E (.ref CT) none H'
def spAheadE (CT : Addr) : Sp := fun vs H Q E => (∃ x, vs = [x] ∧ NoTold CT H x E) ∨ spAhead vs H Q E
theorem tlv_of {H : Hp} {p : Addr} {as : List Addr} {rs : List (List Nat)} {n : Nat} (T : ToldR H p as rs n) : TlV H (.ref p) := ⟨.lst T.at_, fun xs e => by
  rw [lstAt_lst T.at_] at e
  cases e
  have m := T.many
  refine ⟨by rw [List.length_map, T.rw.len]; exact m, fun z hz => ?_⟩
  obtain ⟨i, ei⟩ := List.mem_iff_getElem?.mp hz
  obtain ⟨a, ea, rfl⟩ := ref_atT ei
  obtain ⟨r, er, mr, ha⟩ := T.rw.get2 ea
  obtain ⟨o, lr⟩ := T.ord r mr
  refine ⟨.lst ha, fun ys ey => ?_⟩
  rw [lstAt_lst ha] at ey
  cases ey
  exact ⟨by rw [nv_length, lr]; exact T.n60, fun w hw => by
    obtain ⟨v, _, rfl⟩ := List.mem_map.mp hw
    exact .int _⟩⟩
theorem aheadB_lt {rs : List (List Nat)} {n j : Nat} : (alw rs n j).length ≤ n := by
  have z := List.length_filter_le (fun m => aheadB rs m j) (List.range n)
  rw [List.length_range] at z; exact z
theorem alws_len (rs : List (List Nat)) (n : Nat) : (alws rs n).length = n := by unfold alws; rw [List.length_map, List.length_range]
theorem alws_short {rs : List (List Nat)} {n : Nat} : ∀ g ∈ alws rs n, g.length ≤ n := fun g hg => by
  obtain ⟨j, _, rfl⟩ := List.mem_map.mp hg
  exact aheadB_lt
theorem map_range_succ {α : Type} (f : Nat → α) (i : Nat) : (List.range (i + 1)).map f = (List.range i).map f ++ [f i] := by rw [List.range_succ, List.map_append]; rfl
section
variable {P : Program} {w : World} {K : PySem.W.Frag} {mg : Str → Option Value} {base : Heap} {CT CI : Addr}
abbrev st_always_ahead : Stmt := topS 25
abbrev N_always_ahead : List Str := ["told", "place_lists", "things", "sequence", "thing", "other"]
theorem sc_always_ahead : FnScope N_always_ahead ["told"] (defScope st_always_ahead) := ⟨rfl, rfl, rfl, by decide +kernel, rfl, by decide +kernel, by decide +kernel⟩
def scAhead : Scope := { kind := .function, names := [(".0", .local), ("thing", .cell), ("place_lists", .cell), ("things", .cell)], isGenerator := false, isCoroutine := false }
theorem ok_always_ahead (D : Df K mg "always_ahead" st_always_ahead ["told"]) (B : Bl mg) (K_check_told : Kn P w K mg base (L2.CX P w) 6 "_check_told" st__check_told ["told"] (spCheckToldE CT))
    (K_places : Kn P w K mg base CX0 1 "_places" st__places ["sequence"] spPlaces) (K_is_ahead : Kn P w K mg base CX0 1 "_is_ahead" st__is_ahead ["place_lists", "other", "thing"] spIsAhead) :
    Kn P w K mg base (L2.CX P w) 7 "always_ahead" st_always_ahead ["told"] (spAheadE CT) := by
  refine D.okX sc_always_ahead (fun vs H Q E h => ?_) (fun f cdv A outer s H vs Q E hr h => ?_)
  · rcases h with ⟨x, rfl, _⟩ | ⟨p, as, rs, n, rfl, _⟩ <;> rfl
  rcases h with ⟨x, rfl, tv, no, qe⟩ | ⟨p, as, rs, n, rfl, T, q⟩
  all_goals
    refine ⟨_, (pss_cons (ps_expr (pe_callF K_check_told (hr.mono (by decide)) (passX (takes_of rfl rfl rfl rfl)) (pa_cons (pv 0) pa_nil)))
        (pss_cons (ps_set (i := 1) sc_always_ahead.nd rfl (Or.inr rfl) (pe_lc (own := [("sequence", 3)]) (g := gName 3) rfl sc_always_ahead.nd (pi_list (pv 0)) (blkOk_by (N := N_always_ahead) (sc := defScope st_always_ahead) (own := [("sequence", 3)]) (by decide +kernel)) (fun _ _ _ _ _ => by (exact (pg_name (i := 3) sc_always_ahead.nd rfl (Or.inl rfl)))) (fun _ _ _ _ _ => by exact pts_nil) (fun _ _ _ _ _ => by exact (pe_callF K_places (hr.mono (by decide)) pass0 (pa_cons (pv 3) pa_nil)))))
        (pss_cons (ps_set (i := 2) sc_always_ahead.nd rfl (Or.inr rfl) (pe_listRg rfl (by rfl) B.list (prg_1 (by rfl) B.range (pe_callB call_len (by rfl) B.len (by decide +kernel) (pa_cons (pe_ix ix_list (pv 0) pe_int (fun _ _ => rfl)) pa_nil)))))
        (pss_one (ps_ret (pe_lc (own := [("thing", 4)]) (g := gName 4) rfl sc_always_ahead.nd (pi_list (pv 2)) (blkOk_by (N := N_always_ahead) (sc := defScope st_always_ahead) (own := [("thing", 4)]) (by decide +kernel)) (fun _ _ _ _ _ => by (exact (pg_name (i := 4) sc_always_ahead.nd rfl (Or.inr rfl)))) (fun _ _ _ _ _ => by exact pts_nil) (fun _ _ _ _ _ => by exact (pe_lc (own := [("other", 5)]) (g := gName 5) rfl sc_always_ahead.nd (pi_listK K (pv 2)) (blkOk_by (N := N_always_ahead) (sc := scAhead) (own := [("other", 5)]) (by decide +kernel)) (fun _ _ _ _ _ => by (exact (pg_name (i := 5) sc_always_ahead.nd rfl (Or.inl rfl)))) (fun _ _ _ _ _ => by exact (pts_one (pt_val (pe_callF K_is_ahead (hr.mono (by decide)) pass0 (pa_cons (pv 1) (pa_cons (pv 5) (pa_cons (pv 4) pa_nil))))))) (fun _ _ _ _ _ => by exact (pv 5)))))))))), ?_⟩
  · exact ⟨_, rfl, x, rfl, tv, fun t => absurd t no, fun _ H' s' => qe H' s'⟩
  refine ⟨_, rfl, .ref p, rfl, tlv_of T, fun _ H1 s1 => ?_, fun no => absurd ⟨p, as, rs, n, rfl, T⟩ no⟩
  have T1 := T.same s1
  have hla : (as.map V.ref).length = rs.length := by rw [List.length_map, T.rw.len]
  have m60 := T.many
  have n60 := T.n60
  refine ⟨_, rfl, p, rfl, ⟨_, SqL.of T1.at_⟩, fun L hL => lc_it (walk_list (xs := as.map V.ref)) (fun i H' => Same H1 H' ∧ ∃ ps : List Addr, H' L = some (.lst (ps.map V.ref)) ∧ Rws H' ps ((rs.take i).map plc) ∧ L ∉ ps) ⟨(Same.refl H1).new hL, [], upd_same, ⟨rfl, fun i p r e => by cases e⟩, List.not_mem_nil⟩ (fun i H' _ z => SqL.of (z.1 _ _ T1.at_)) ?_ ?_⟩
  · rintro i x H2 H3 hi ⟨s2, ps, oL, wp, nL⟩ ⟨rfl, e1⟩
    obtain ⟨a, ea, rfl⟩ := ref_atT e1
    obtain ⟨r, er, mr, ha⟩ := T1.rw.get2 ea
    obtain ⟨o, lr⟩ := T.ord r mr
    rw [hla] at hi
    have lps := wp.len
    rw [List.length_map, List.length_take] at lps
    refine ⟨rfl, _, rfl, a, r, rfl, s2 _ _ ha, o, by omega, fun F H4 s4 hF0 hF => ⟨_, s4 _ _ oL, ?_, (s2.trans s4).upd hL, ps ++ [F], by rw [upd_same, List.map_append]; rfl, ?_, ?_⟩⟩
    · rw [List.length_map]; exact szl (by omega)
    · have et : (rs.take (i + 1)).map plc = (rs.take i).map plc ++ [plc r] := by rw [List.take_add_one, er, List.map_append]; rfl
      rw [et]
      refine ((wp.same s4).but nL).grow ?_
      rw [upd_ne (ne_of_none oL hF0).symm]; exact hF
    · exact fun z => (List.mem_append.mp z).elim nL fun z => by
        rw [← List.mem_singleton.mp z, oL] at hF0; cases hF0
  rintro H2 ⟨s2, ps, oL, wp, nL⟩
  rw [hla, List.take_length] at wp
  have s12 := s1.trans s2
  obtain ⟨a0, ea0⟩ : ∃ a0, as[0]? = some a0 := ⟨_, List.getElem?_eq_getElem (by rw [T.rw.len]; exact T.ne)⟩
  obtain ⟨r0, er0, mr0, ha0⟩ := T.rw.get2 ea0
  have lr0 := (T.ord r0 mr0).2
  have hn0 : (nv r0).length = n := by rw [nv_length, lr0]
  have p62 : (2 : Int) ^ 62 = 4611686018427387904 := by decide
  have p63 : (2 : Int) ^ 63 = 9223372036854775808 := by decide
  -- things
  refine ⟨_, rfl, p, _, _, .ref a0, rfl, rfl, SqL.of (s12 _ _ T.at_), atI_nat (j := 0) (by rw [List.getElem?_map, ea0]; rfl), _, _, rfl, .inl ⟨_, SqL.of (s12 _ _ ha0), rfl⟩, _, rfl, RgOk.of_le (by omega) (by omega) (by omega) (by omega), fun C hC => ?_⟩
  rw [hn0, nv_range]
  have s3 := s12.new (o := .lst (nv (List.range n))) hC
  have s23 := (Same.refl H2).new (o := .lst (nv (List.range n))) hC
  have oC : upd H2 C (.lst (nv (List.range n))) C = some (.lst (nv (List.range n))) := upd_same
  generalize upd H2 C (.lst (nv (List.range n))) = H3 at s3 s23 oC ⊢
  have oL3 := s23 _ _ oL
  have wp3 := wp.same s23
  have lrg : (nv (List.range n)).length = n := by rw [nv_length, List.length_range]
  refine ⟨_, rfl, C, rfl, ⟨_, SqL.of oC⟩, fun F hF => lc_it (walk_list (xs := nv (List.range n))) (fun i H' => Same H3 H' ∧ ∃ fs : List Addr, H' F = some (.lst (fs.map V.ref)) ∧ Rws H' fs ((List.range i).map (alw rs n)) ∧ fs.Nodup ∧ F ∉ fs ∧ ∀ q ∈ fs, H q = none) ⟨(Same.refl H3).new hF, [], upd_same, ⟨rfl, fun i p r e => by cases e⟩, List.nodup_nil, List.not_mem_nil, fun q h => by cases h⟩ (fun i H' _ z => SqL.of (z.1 _ _ oC)) ?_ ?_⟩
  · rintro i x H4 H5 hi ⟨s4, fs, oF, wf, nd, nF, fr⟩ ⟨rfl, e1⟩
    obtain ⟨i', ei, rfl⟩ := nv_at e1
    rw [lrg] at hi
    have ei' : i = i' := by
      rw [List.getElem?_range hi] at ei
      exact Option.some.inj ei
    subst ei'
    have lfs := wf.len
    rw [List.length_map, List.length_range] at lfs
    refine ⟨rfl, _, rfl, C, rfl, ⟨_, SqL.of (s4 _ _ oC)⟩, fun D hD => lc_nat (fun m => aheadB rs m i) (s4 _ _ oC) (by rw [List.length_range]; omega) hD (fun _ => rfl) (fun _ _ _ q => ⟨_, rfl, q⟩) (fun m H6 Q' mm s6 q => ?_) (fun H6 s6 oD => ?_)⟩
    · exact ⟨_, rfl, _, rfl, _, rfl, L, ps, rs, n, m, i, rfl, s6 _ _ (s4 _ _ oL3), (wp3.same s4).same s6, fun r hr => (T.ord r hr).2, List.mem_range.mp mm, hi, m60, fun H' s' => ⟨_, rfl, q _ s'⟩⟩
    · have oF6 := s6 _ _ oF
      have nDF : D ≠ F := fun z => by rw [z, oF] at hD; cases hD
      refine ⟨_, oF6, ?_, (s4.trans s6).upd hF, fs ++ [D], by rw [upd_same, List.map_append]; rfl, ?_, ?_, ?_, ?_⟩
      · rw [List.length_map]; exact szl (by omega)
      · rw [map_range_succ]
        refine ((wf.same s6).but nF).grow ?_
        rw [upd_ne nDF]; exact oD
      · refine List.nodup_append.mpr ⟨nd, by simp, fun a ha b hb => ?_⟩
        rw [List.mem_singleton.mp hb]
        intro z
        obtain ⟨k, ek⟩ := List.getElem?_of_mem ha
        obtain ⟨g, _, _, hg⟩ := wf.get2 ek
        rw [z, hD] at hg; cases hg
      · exact fun z => (List.mem_append.mp z).elim nF fun z => nDF (List.mem_singleton.mp z).symm
      · intro q hq
        rcases List.mem_append.mp hq with hq | hq
        · exact fr q hq
        · rw [List.mem_singleton.mp hq]; exact (s3.trans s4).free hD
  rintro H4 ⟨s4, fs, oF, wf, nd, nF, fr⟩
  rw [lrg] at wf
  exact q F fs H4 (s3.trans s4) ⟨oF, wf, nd, nF, s3.free hF, fr⟩
end

end My

namespace My
open PySem PySem.Spec PyProof.Rows L2
theorem isIdx_nat {n t : Nat} (h : t < n) : isIdx (n : Int) (.int (t : Int)) = true := by
  show (decide (0 ≤ (t : Int)) && decide ((t : Int) < (n : Int))) = true
  rw [decide_eq_true (by omega), decide_eq_true (by omega)]; rfl

def pickO (g : List Nat) (k : Nat) : Option Nat := if k = 0 then none else g[k - 1]?
def nthR : List (List Nat) → Nat → Hs
  | [], _ => []
  | g :: r, i => pickO g (i % (g.length + 1)) :: nthR r (i / (g.length + 1))
def nthF (gs : List (List Nat)) (i : Nat) : Hs := (nthR gs.reverse i).reverse
theorem nthR_len : ∀ (gs : List (List Nat)) (i : Nat), (nthR gs i).length = gs.length
  | [], _ => rfl
  | g :: r, i => by rw [nthR, List.length_cons, List.length_cons, nthR_len r]
theorem nthF_len (gs : List (List Nat)) (i : Nat) : (nthF gs i).length = gs.length := by unfold nthF; rw [List.length_reverse, nthR_len, List.length_reverse]
theorem map_hv_rev (l : Hs) : (l.map hv).reverse = l.reverse.map hv := List.map_reverse.symm
def spCountF : Sp := fun vs H Q _ => ∃ (p : Addr) (as : List Addr) (rs : List (List Nat)) (n : Nat), vs = [.ref p] ∧ ToldR H p as rs n ∧ ∀ H', Same H H' → Q (.int (chs (alws rs n) : Nat)) H'
def spNthF : Sp := fun vs H Q _ => ∃ (p : Addr) (as : List Addr) (rs : List (List Nat)) (n i : Nat), vs = [.ref p, .int (i : Int)] ∧ ToldR H p as rs n ∧ i < chs (alws rs n) ∧ ∀ r H', Same H H' → H' r = some (.tup ((nthF (alws rs n) i).map hv)) → Q (.ref r) H'
def spCountFE (CT : Addr) : Sp := fun vs H Q E => (∃ x, vs = [x] ∧ NoTold CT H x E) ∨ spCountF vs H Q E
def spNthFE (CT CI : Addr) : Sp := fun vs H Q E => (∃ x y, vs = [x, y] ∧ NoTold CT H x E) ∨ (∃ (p : Addr) (as : List Addr) (rs : List (List Nat)) (n : Nat) (y : V), vs = [.ref p, y] ∧ ToldR H p as rs n ∧ Vd H y ∧ isIdx ((chs (alws rs n) : Nat) : Int) y = false ∧ ∀ H', Same H H' → E (.ref CI) none H') ∨ spNthF vs H Q E
section
variable {P : Program} {w : World} {K : PySem.W.Frag} {mg : Str → Option Value} {base : Heap} {CT CI : Addr}
abbrev st_count_forests : Stmt := topS 26
abbrev N_count_forests : List Str := ["told"]
theorem sc_count_forests : FnScope N_count_forests ["told"] (defScope st_count_forests) := ⟨rfl, rfl, rfl, by decide +kernel, rfl, by decide +kernel, by decide +kernel⟩
theorem ok_count_forests (D : Df K mg "count_forests" st_count_forests ["told"]) (B : Bl mg) (Kalways_ahead : Kn P w K mg base (L2.CX P w) 7 "always_ahead" st_always_ahead ["told"] (spAheadE CT))
    (K_count_choices : Kn P w K mg base CX0 1 "_count_choices" st__count_choices ["ahead"] spChoices) : Kn P w K mg base (L2.CX P w) 8 "count_forests" st_count_forests ["told"] (spCountFE CT) := by
  refine D.okX sc_count_forests (fun vs H Q E h => ?_) (fun f cdv A outer s H vs Q E hr h => ?_)
  · rcases h with ⟨x, rfl, _⟩ | ⟨p, as, rs, n, rfl, _⟩ <;> rfl
  rcases h with ⟨x, rfl, nt⟩ | ⟨p, as, rs, n, rfl, T, q⟩
  all_goals refine ⟨_, ((pss_one (ps_ret (pe_callF K_count_choices (hr.mono (by decide)) pass0 (pa_cons (pe_callF Kalways_ahead (hr.mono (by decide)) (passX (takes_of rfl rfl rfl rfl)) (pa_cons (pv 0) pa_nil)) pa_nil))))), ?_⟩
  · exact ⟨_, rfl, .inl ⟨x, rfl, nt⟩⟩
  exact ⟨_, rfl, .inr ⟨p, as, rs, n, rfl, T, fun F fs H1 s1 R => ⟨F, fs, alws rs n, rfl, R.lst, R.rw, fun g hg => Nat.le_trans (alws_short g hg) T.n60, q H1 s1⟩⟩⟩
abbrev st_nth_forest : Stmt := topS 27
abbrev N_nth_forest : List Str := ["told", "index", "ahead", "found", "others", "at"]
theorem sc_nth_forest : FnScope N_nth_forest ["told", "index"] (defScope st_nth_forest) := ⟨rfl, rfl, rfl, by decide +kernel, rfl, by decide +kernel, by decide +kernel⟩
theorem ok_nth_forest (D : Df K mg "nth_forest" st_nth_forest ["told", "index"]) (B : Bl mg) (Bdivmod : mg "divmod" = none) (EInvalidIndex : Ex1 K mg "InvalidIndex" CI) (Kis_index : Kn P w K mg base CX0 3 "is_index" st_is_index ["value", "many"] spIsIndex)
    (Kalways_ahead : Kn P w K mg base (L2.CX P w) 7 "always_ahead" st_always_ahead ["told"] (spAheadE CT))
    (K_count_choices : Kn P w K mg base CX0 1 "_count_choices" st__count_choices ["ahead"] spChoices) : Kn P w K mg base (L2.CX P w) 8 "nth_forest" st_nth_forest ["told", "index"] (spNthFE CT CI) := by
  refine D.okX sc_nth_forest (fun vs H Q E h => ?_) (fun f cdv A outer s H vs Q E hr h => ?_)
  · rcases h with ⟨x, y, rfl, _⟩ | ⟨p, as, rs, n, y, rfl, _⟩ | ⟨p, as, rs, n, i, rfl, _⟩ <;> rfl
  rcases h with ⟨x, y, rfl, nt⟩ | ⟨p, as, rs, n, y, rfl, T, vy, iy, qe⟩ | ⟨p, as, rs, n, idx, rfl, T, hi0, q⟩
  all_goals refine ⟨_, ((pss_cons (ps_set (i := 2) sc_nth_forest.nd rfl (Or.inl rfl) (pe_callF Kalways_ahead (hr.mono (by decide)) (passX (takes_of rfl rfl rfl rfl)) (pa_cons (pv 0) pa_nil)))
      (pss_cons (ps_if (pt_not (pt_val (pe_callF Kis_index (hr.mono (by decide)) pass0 (pa_cons (pv 1) (pa_cons (pe_callF K_count_choices (hr.mono (by decide)) pass0 (pa_cons (pv 2) pa_nil)) pa_nil))))) (pss_one (ps_raise rfl (takes_of rfl rfl rfl rfl) (pmk_own0 PySem.F.excBase_ValueError EInvalidIndex.x EInvalidIndex.g EInvalidIndex.k (raises_own EInvalidIndex.b EInvalidIndex.t) rfl))) pss_nil)
      (pss_cons (ps_set (i := 3) sc_nth_forest.nd rfl (Or.inl rfl) (pe_lst pa_nil))
      (pss_cons (ps_for (passes_of rfl) rfl (pi_reversed (by rfl) B.reversed (pa_cons (pv 2) pa_nil)) (pg_name (i := 4) sc_nth_forest.nd rfl (Or.inl rfl)) (pss_cons (ps_asg (pe_callB call_divmodW (by rfl) Bdivmod (by decide +kernel) (pa_cons (pv 1) (pa_cons (pe_op op_add (pe_callB call_len (by rfl) B.len (by decide +kernel) (pa_cons (pv 4) pa_nil)) pe_int) pa_nil))) (pg_tup rfl (pgs_cons (pg_name (i := 1) sc_nth_forest.nd rfl (Or.inl rfl)) (pgs_cons (pg_name (i := 5) sc_nth_forest.nd rfl (Or.inl rfl)) pgs_nil))))
      (pss_one (ps_expr (pe_bm PySem.F.plainAttrs_list PySem.F.slot_list_append PySem.F.type_list_append mt_append (pv 3) (pa_cons (pe_ifExp (pt_cmpR op_eq (pv 5) pe_int (nomark _)) pe_non (pe_ix ix_list (pv 4) (pe_op op_sub (pv 5) pe_int) (fun _ _ => rfl))) pa_nil))))))
      (pss_one (ps_ret (pe_callTy call_tuple_of (by rfl) B.tuple (by decide +kernel) (pa_cons (pe_revL (pv 3)) pa_nil))))))))), ?_⟩
  · exact ⟨_, rfl, .inl ⟨x, rfl, nt⟩⟩
  · refine ⟨_, rfl, .inr ⟨p, as, rs, n, rfl, T, fun F fs H1 s1 R => ?_⟩⟩
    have g60 : ∀ g ∈ alws rs n, g.length ≤ 60 := fun g hg => Nat.le_trans (alws_short g hg) T.n60
    refine ⟨_, rfl, _, rfl, F, fs, alws rs n, rfl, R.lst, R.rw, g60, y, ((chs (alws rs n) : Nat) : Int), rfl, vy.same s1, _, rfl, ?_⟩
    exact iteT' (by rw [iy]; rfl) (qe H1 s1)
  refine ⟨_, rfl, .inr ⟨p, as, rs, n, rfl, T, fun F fs H1 s1 R => ?_⟩⟩
  have g60 : ∀ g ∈ alws rs n, g.length ≤ 60 := fun g hg => Nat.le_trans (alws_short g hg) T.n60
  refine ⟨_, rfl, _, rfl, F, fs, alws rs n, rfl, R.lst, R.rw, g60, .int (idx : Int), ((chs (alws rs n) : Nat) : Int), rfl, .int _, _, rfl, ?_⟩
  refine iteF' (by rw [isIdx_nat hi0]; rfl) ?_
  refine ⟨by show 0 ≤ sizeLine; decide, fun O hO => ?_⟩
  have s2 := s1.new (o := .lst []) hO
  have oO : upd H1 O (.lst []) O = some (.lst []) := upd_same
  have s12 := (Same.refl H1).new (o := .lst []) hO
  have hOn : H O = none := s1.free hO
  generalize upd H1 O (.lst []) = H2 at s2 oO s12 ⊢
  have lf : (fs.map V.ref).length = (alws rs n).length := by rw [List.length_map, R.rw.len]
  have ln : (alws rs n).length ≤ 60 := by rw [alws_len]; exact T.n60
  have wr := R.rw
  have hF1 := R.lst
  generalize alws rs n = gs at *
  have wr2 := wr.same s12
  have hF2 := s12 _ _ hF1
  have nOF : O ≠ F := fun z => by rw [z, hF1] at hO; cases hO
  have nOf : O ∉ fs := fun z => by
    obtain ⟨k, ek⟩ := List.getElem?_of_mem z
    obtain ⟨g, _, _, hg⟩ := wr.get2 ek
    rw [hO] at hg; cases hg
  refine ⟨_, rfl, F, _, rfl, SqL.of hF2, for_it (walk_rev (xs := fs.map V.ref)) (fun i σ H' => ∃ (cur : Nat) (done : Hs) (v4 v5 : Option V), σ = [some (.ref p), some (.int (cur : Int)), some (.ref F), some (.ref O), v4, v5] ∧ Same H H' ∧ H' F = some (.lst (fs.map V.ref)) ∧ Rws H' fs gs ∧ H' O = some (.lst (done.map hv)) ∧ done.length = i ∧ nthR gs.reverse idx = done ++ nthR (gs.reverse.drop i) cur)
    ⟨idx, [], none, none, rfl, s2, hF2, wr2, oO, rfl, rfl⟩ (fun i σ H' _ z => ?_) ?_ ?_⟩
  · obtain ⟨_, _, _, _, _, _, z, _⟩ := z
    exact SqL.of z
  · rintro i x σ H3 H4 hi ⟨cur, done, v4, v5, rfl, s3, hF3, wr3, oO3, ld, ed⟩ ⟨rfl, e1⟩
    rw [lf] at hi
    obtain ⟨a, ea, rfl⟩ := ref_atT e1
    obtain ⟨g, eg, mg', hg⟩ := wr3.get2 ea
    have lg := g60 g mg'
    have hn : (nv g).length = g.length := nv_length g
    have er : gs.reverse[i]? = some g := by
      rw [List.getElem?_reverse hi, ← eg, lf]
    refine ⟨_, rfl, _, rfl, _, _, rfl, .inl ⟨_, SqL.of hg, rfl⟩, _, _, rfl, rfl, _, _, rfl, wide_div (b := 64) (by omega) (Nat.lt_of_le_of_lt (show _ ≤ 100 by rw [hn]; omega) (by decide)) (by decide) (by decide), fun D2 hD => ?_⟩
    rw [hn]
    have s4 := s3.new (o := .tup [.int ((cur : Int) / ((g.length : Int) + 1)), .int ((cur : Int) % ((g.length : Int) + 1))]) hD
    have s34 := (Same.refl H4).new (o := .tup [.int ((cur : Int) / ((g.length : Int) + 1)), .int ((cur : Int) % ((g.length : Int) + 1))]) hD
    have oD : upd H4 D2 (.tup [.int ((cur : Int) / ((g.length : Int) + 1)), .int ((cur : Int) % ((g.length : Int) + 1))]) D2 = some (.tup [.int ((cur : Int) / ((g.length : Int) + 1)), .int ((cur : Int) % ((g.length : Int) + 1))]) := upd_same
    generalize upd H4 D2 (.tup [.int ((cur : Int) / ((g.length : Int) + 1)), .int ((cur : Int) % ((g.length : Int) + 1))]) = H5 at s4 s34 oD ⊢
    refine ⟨D2, _, rfl, SqT.of oD, rfl, _, _, rfl, _, _, rfl, rfl, ?_⟩
    have hF5 := s34 _ _ hF3
    have wr5 := wr3.same s34
    have oO5 := s34 _ _ oO3
    have hg5 := s34 _ _ hg
    have dq : (cur : Int) / ((g.length : Int) + 1) = ((cur / (g.length + 1) : Nat) : Int) := by rw [Int.natCast_ediv]; rfl
    have dm : (cur : Int) % ((g.length : Int) + 1) = ((cur % (g.length + 1) : Nat) : Int) := by rw [Int.natCast_emod]; rfl
    have ml : cur % (g.length + 1) < g.length + 1 := Nat.mod_lt _ (Nat.succ_pos _)
    rw [dq, dm]
    have edr : gs.reverse.drop i = g :: gs.reverse.drop (i + 1) := (by
      have z := @List.drop_eq_getElem?_toList_append _ gs.reverse i
      rw [er] at z; exact z)
    have fin : ∀ x : V, x = hv (pickO g (cur % (g.length + 1))) → ∃ (cur' : Nat) (done' : Hs) (v4 v5 : Option V), [some (V.ref p), some (V.int ((cur / (g.length + 1) : Nat) : Int)), some (.ref F), some (.ref O), some (.ref a), some (V.int ((cur % (g.length + 1) : Nat) : Int))] = [some (V.ref p), some (.int (cur' : Int)), some (.ref F), some (.ref O), v4, v5] ∧ Same H (upd H5 O (.lst (done.map hv ++ [x]))) ∧ (upd H5 O (.lst (done.map hv ++ [x]))) F = some (.lst (fs.map V.ref)) ∧ Rws (upd H5 O (.lst (done.map hv ++ [x]))) fs gs ∧ (upd H5 O (.lst (done.map hv ++ [x]))) O = some (.lst (done'.map hv)) ∧ done'.length = i + 1 ∧ nthR gs.reverse idx = done' ++ nthR (gs.reverse.drop (i + 1)) cur' := by
      rintro x rfl
      refine ⟨cur / (g.length + 1), done ++ [pickO g (cur % (g.length + 1))], _, _, rfl, s4.upd hOn, (upd_ne nOF.symm).trans hF5, wr5.but nOf, by rw [upd_same, List.map_append]; rfl, by rw [List.length_append, ld]; rfl, ?_⟩
      rw [ed, edr, nthR, List.append_assoc]; rfl
    refine ⟨_, rfl, .inl ⟨rfl, _, SqL.of oO5⟩, _, rfl, rfl, _, rfl, ite2 (fun c => ?_) (fun c => ?_)⟩
    · have c0 : cur % (g.length + 1) = 0 := by
        have z := V.int.inj (of_decide_eq_true c)
        omega
      refine ⟨O, _, _, rfl, rfl, oO5, by rw [List.length_map]; exact szl (by omega), fin _ ?_⟩
      unfold pickO
      rw [if_pos c0]; rfl
    · have c0 : cur % (g.length + 1) ≠ 0 := fun z => c (by rw [z]; exact decide_eq_true rfl)
      obtain ⟨gv, eg2⟩ : ∃ gv, g[cur % (g.length + 1) - 1]? = some gv := ⟨_, List.getElem?_eq_getElem (by omega)⟩
      refine ⟨_, rfl, _, rfl, _, _, rfl, rfl, a, _, _, .int (gv : Int), rfl, rfl, SqL.of hg5, ?_, O, _, _, rfl, rfl, oO5, by rw [List.length_map]; exact szl (by omega), fin _ ?_⟩
      · rw [show ((cur % (g.length + 1) : Nat) : Int) - 1 = ((cur % (g.length + 1) - 1 : Nat) : Int) by omega]
        exact atI_nat (nv_get eg2)
      · unfold pickO
        rw [if_neg c0, eg2]; rfl
  · rintro σ H3 ⟨cur, done, v4, v5, rfl, s3, hF3, wr3, oO3, ld, ed⟩
    rw [lf] at ld ed
    rw [List.drop_of_length_le (by rw [List.length_reverse]; exact Nat.le_refl _)] at ed
    have ed2 : nthR gs.reverse idx = done := by rw [ed, nthR, List.append_nil]
    refine ⟨_, rfl, O, _, rfl, SqL.of oO3, fun R2 hR => ?_⟩
    rw [map_hv_rev]
    have s4 := s3.new (o := .lst (done.reverse.map hv)) hR
    have oR : upd H3 R2 (.lst (done.reverse.map hv)) R2 = some (.lst (done.reverse.map hv)) := upd_same
    generalize upd H3 R2 (.lst (done.reverse.map hv)) = H4 at s4 oR ⊢
    refine ⟨R2, _, rfl, .inl ⟨SqL.of oR, fun r hr2 => q r _ (s4.new hr2) ?_⟩⟩
    rw [upd_same]
    unfold nthF
    rw [ed2]
end

theorem cut_to (xs : List V) (d : Nat) : cutV xs none (some (d : Int)) = xs.take d := by
  unfold cutV
  rw [HT.sIx_nat, HT.sIx_none, List.drop_zero, Nat.sub_zero]
  by_cases c : d ≤ xs.length
  · rw [Nat.min_eq_left c]
  · rw [Nat.min_eq_right (by omega), List.take_of_length_le (Nat.le_refl _), List.take_of_length_le (by omega)]
theorem cut_from (xs : List V) (d : Nat) : cutV xs (some (d : Int)) none = xs.drop d := by
  unfold cutV
  rw [HT.sIx_nat, HT.sIx_none]
  by_cases c : d ≤ xs.length
  · rw [Nat.min_eq_left c, List.take_of_length_le (by rw [List.length_drop]; omega)]
  · rw [Nat.min_eq_right (by omega), List.drop_of_length_le (Nat.le_refl _), List.drop_of_length_le (by omega), List.take_nil]
theorem cut_mid (xs : List V) {i j : Nat} (h : i ≤ j) (hj : j ≤ xs.length) : cutV xs (some (i : Int)) (some (j : Int)) = (xs.drop i).take (j - i) := by
  unfold cutV
  rw [HT.sIx_nat, HT.sIx_nat, Nat.min_eq_left (by omega), Nat.min_eq_left (by omega)]
theorem nv_take (l : List Nat) (d : Nat) : (nv l).take d = nv (l.take d) := by unfold nv; rw [List.map_take]
theorem nv_drop (l : List Nat) (d : Nat) : (nv l).drop d = nv (l.drop d) := by unfold nv; rw [List.map_drop]

/-! ### the law's own lists of what is always ahead -/
def spAlwaysX : Sp := fun vs H Q _ => ∃ (p : Addr) (as : List Addr) (rs : List (List Nat)) (n : Nat), vs = [.ref p] ∧ ToldR H p as rs n ∧ ∀ F fs H', Same H H' → RwF H H' F fs (alws rs n) → Q (.ref F) H'
theorem aheadB_snoc (rs : List (List Nat)) (row : List Nat) (a b : Nat) : aheadB (rs ++ [row]) a b = (aheadB rs a b && decide (row.idxOf a < row.idxOf b)) := by
  unfold aheadB
  rw [List.all_append]
  simp
theorem take_idx {m : Nat} : ∀ {q : List Nat} {k : Nat}, m ∈ q → q.idxOf m < k → m ∈ q.take k := fun {q k} h l => by
  have z := idx_get h
  have z2 : (q.take k)[q.idxOf m]? = some m := by rw [List.getElem?_take, if_pos l]; exact z
  exact List.mem_of_getElem? z2
def prodF : Nat → Nat
  | 0 => 1
  | k + 1 => prodF k * (k + 1)
def spProd : Sp := fun vs H Q _ => ∃ n : Nat, vs = [.int (n : Int)] ∧ n ≤ 60 ∧ Q (.int (prodF n : Nat)) H
section
variable {P : Program} {w : World} {K : PySem.W.Frag} {mg : Str → Option Value} {base : Heap}
abbrev st__law_always : Stmt := topS 41
abbrev N__law_always : List Str := ["rows", "found", "one", "good", "row", "mate"]
theorem sc__law_always : FnScope N__law_always ["rows"] (defScope st__law_always) := ⟨rfl, rfl, rfl, by decide +kernel, rfl, by decide +kernel, by decide +kernel⟩
theorem ok__law_always (D : Df K mg "_law_always" st__law_always ["rows"]) (B : Bl mg) : Kn P w K mg base CX0 1 "_law_always" st__law_always ["rows"] spAlwaysX := by
  refine D.ok sc__law_always (fun vs H Q E h => ?_) (fun f cdv A outer s H vs Q E hr h => ?_)
  · obtain ⟨p, as, rs, n, rfl, _⟩ := h; rfl
  obtain ⟨R, as, rs, n, rfl, T, q⟩ := h
  refine ⟨_, ((pss_cons (ps_set (i := 1) sc__law_always.nd rfl (Or.inl rfl) (pe_lst pa_nil))
      (pss_cons (ps_for PassesOwn.never rfl (pi_range1 (by rfl) B.range (pa_cons (pe_callB call_len (by rfl) B.len (by decide +kernel) (pa_cons (pe_ix ix_list (pv 0) pe_int (fun _ _ => rfl)) pa_nil)) pa_nil)) (pg_name (i := 2) sc__law_always.nd rfl (Or.inr rfl)) (pss_cons (ps_set (i := 3) sc__law_always.nd rfl (Or.inl rfl) (pe_listRg rfl (by rfl) B.list (prg_1 (by rfl) B.range (pe_callB call_len (by rfl) B.len (by decide +kernel) (pa_cons (pe_ix ix_list (pv 0) pe_int (fun _ _ => rfl)) pa_nil)))))
      (pss_cons (ps_for PassesOwn.never rfl (pi_list (pv 0)) (pg_name (i := 4) sc__law_always.nd rfl (Or.inr rfl)) (pss_one (ps_setLc (i := 3) (own := [("mate", 5)]) (g := gName 5) rfl sc__law_always.nd rfl rfl (sw_true rfl rfl rfl (by decide +kernel)) (pi_list (pv 3)) (blkOk_by (N := N__law_always) (sc := defScope st__law_always) (own := [("mate", 5)]) (by decide +kernel)) (fun _ _ _ _ _ => by (exact (pg_name (i := 5) sc__law_always.nd rfl (Or.inl rfl)))) (fun _ _ _ _ _ => by exact (pts_one (pt_cmpR (op_in_seqK K) (pv 5) (pe_slice (sl_listK K) (pv 4) po_none (po_some (pe_bmK K PySem.F.plainAttrs_list PySem.F.slot_list_index PySem.F.type_list_index (mt_indexK K) (pv 4) (pa_cons (pv 2) pa_nil)))) (by rfl)))) (fun _ _ _ _ _ => by exact (pv 5)))))
      (pss_one (ps_expr (pe_bm PySem.F.plainAttrs_list PySem.F.slot_list_append PySem.F.type_list_append mt_append (pv 1) (pa_cons (pv 3) pa_nil)))))))
      (pss_one (ps_ret (pv 1)))))), ?_⟩
  have wr := T.rw
  have hR := T.at_
  have hn := T.n60
  obtain ⟨a0, ea0⟩ : ∃ a0, as[0]? = some a0 := ⟨_, List.getElem?_eq_getElem (by rw [wr.len]; exact T.ne)⟩
  obtain ⟨q0, e0, m0, h0⟩ := wr.get2 ea0
  have l0 := (T.ord q0 m0).2
  have ea : (as.map V.ref)[0]? = some (.ref a0) := by rw [List.getElem?_map, ea0]; rfl
  have p62 : (2 : Int) ^ 62 = 4611686018427387904 := by decide
  have p63 : (2 : Int) ^ 63 = 9223372036854775808 := by decide
  -- found = []
  refine ⟨by show 0 ≤ sizeLine; decide, fun F hF => ?_⟩
  have s1 := (Same.refl H).new (o := .lst []) hF
  have oF : upd H F (.lst []) F = some (.lst []) := upd_same
  generalize upd H F (.lst []) = H1 at s1 oF ⊢
  have len0 : ∀ {H' : Hp}, Same H H' → SqL K H' R (as.map V.ref) ∧ SqL K H' a0 (nv q0) := fun s => ⟨SqL.of (s _ _ hR), SqL.of (s _ _ h0)⟩
  refine ⟨_, rfl, R, _, _, .ref a0, rfl, rfl, (len0 s1).1, atI_nat (j := 0) ea, _, _, rfl, .inl ⟨_, (len0 s1).2, rfl⟩, _, rfl, by rw [nv_length]; omega, by rw [nv_length]; omega, for_it walk_range0 (fun i σ H' => ∃ v2 v3 v4 fs, σ = [some (.ref R), some (.ref F), v2, v3, v4, none] ∧ Same H H' ∧ H' F = some (.lst (fs.map V.ref)) ∧ Rws H' fs ((List.range i).map (alw rs n)) ∧ fs.Nodup ∧ F ∉ fs ∧ ∀ p ∈ fs, H p = none)
    ⟨_, _, _, [], rfl, s1, oF, ⟨rfl, fun i p r e _ => by cases e⟩, List.nodup_nil, List.not_mem_nil, fun p h => absurd h List.not_mem_nil⟩ (fun _ _ _ _ _ => trivial) ?_ ?_⟩
  · rintro i x σ H2 H2' hi ⟨v2, v3, v4, fs, rfl, s2, oF, wf, nd, nF, fr⟩ ⟨rfl, rfl⟩
    rw [nv_length, l0] at hi
    have hi : i < n := by omega
    -- good = list(range(n))
    refine ⟨_, rfl, R, _, _, .ref a0, rfl, rfl, (len0 s2).1, atI_nat (j := 0) ea, _, _, rfl, .inl ⟨_, (len0 s2).2, rfl⟩, ?_⟩
    rw [nv_length, l0]
    refine ⟨_, rfl, RgOk.of_le (by omega) (by omega) (by omega) (by omega), fun L hL => ?_⟩
    rw [nv_range]
    have s3 := s2.new (o := .lst (nv (List.range n))) hL
    have oL : upd H2' L (.lst (nv (List.range n))) L = some (.lst (nv (List.range n))) := upd_same
    have oF3 := ((Same.refl H2').new (o := .lst (nv (List.range n))) hL) _ _ oF
    have wf3 := wf.same ((Same.refl H2').new (o := .lst (nv (List.range n))) hL)
    have old : ∀ a, H2' a = none → H a = none ∧ a ≠ F ∧ a ∉ fs := fun a ha => ⟨s2.free ha, fun z => by (rw [z, oF] at ha; cases ha), fun z => by
      obtain ⟨k, ek⟩ := List.getElem?_of_mem z
      obtain ⟨g, _, _, hg⟩ := wf.get2 ek
      rw [ha] at hg; cases hg⟩
    have nL := old L hL
    have back : ∀ a, upd H2' L (.lst (nv (List.range n))) a = none → H2' a = none := fun a ha => by
      by_cases c : a = L
      · rw [c, upd_same] at ha; cases ha
      · rw [upd_ne c] at ha; exact ha
    generalize upd H2' L (.lst (nv (List.range n))) = H3 at s3 oL oF3 wf3 back ⊢
    refine ⟨_, rfl, R, rfl, ⟨_, (len0 s3).1⟩, for_it (walk_list (xs := as.map V.ref)) (fun k σ H' => ∃ v4 g, σ = [some (.ref R), some (.ref F), some (.int (i : Int)), some (.ref g), v4, none] ∧ Same H3 H' ∧ H' g = some (.lst (nv ((List.range n).filter fun m => aheadB (rs.take k) m i))) ∧ H g = none ∧ g ≠ F ∧ g ∉ fs)
      ⟨_, L, rfl, Same.refl H3, by rw [oL, List.take_zero]; exact (congrArg (fun l => some (HO.lst (nv l))) (List.filter_eq_self.mpr (fun a _ => rfl)).symm), nL.1, nL.2.1, nL.2.2⟩ (fun k σ H' _ z => ?_) ?_ ?_⟩
    · obtain ⟨_, _, _, z, _⟩ := z
      exact (len0 (s3.trans z)).1
    · rintro k x σ H4 H5 hk ⟨v4, g, rfl, s4, og, g0, ngF, ngf⟩ ⟨rfl, e1⟩
      obtain ⟨qa, eq, rfl⟩ := ref_atT e1
      obtain ⟨row, er2, mrow, hq2⟩ := (wr.same (s3.trans s4)).get2 eq
      obtain ⟨o, lr⟩ := T.ord row mrow
      have fr2 : i ∈ row := ord_full o (by omega)
      have tk : rs.take (k + 1) = rs.take k ++ [row] := by rw [List.take_add_one, er2]; rfl
      have lg : ((List.range n).filter fun m => aheadB (rs.take k) m i).length ≤ n := by
        have z := List.length_filter_le (fun m => aheadB (rs.take k) m i) (List.range n)
        rw [List.length_range] at z; exact z
      refine ⟨_, rfl, g, rfl, ⟨_, SqL.of og⟩, fun D hD => lc_nat (fun m => decide (row.idxOf m < row.idxOf i)) og (by omega) hD (fun _ => rfl) (fun _ _ _ q => ⟨_, rfl, q⟩) (fun m H6 Q' mm s6 q => ?_) (fun H6 s6 oD => ?_)⟩
      · have hq6 := s6 _ _ hq2
        have mn : m ∈ row := ord_full o (by have := List.mem_range.mp (List.mem_filter.mp mm).1; omega)
        refine ⟨_, rfl, _, rfl, ?_⟩
        dsimp only [tNoPart]
        refine ⟨_, rfl, .inl ⟨rfl, _, SqL.of hq6⟩, _, rfl, ?_⟩
        dsimp only [tNil, tCons, tC, List.nil_append, List.append_nil, List.cons_append, List.reverse_cons, List.reverse_nil]
        refine index_ask hq6 fr2 ⟨_, rfl, qa, _, rfl, SqL.of hq6, fun S hS => ?_⟩
        rw [cut_to, nv_take]
        have s8 := (Same.refl H6).new (o := .lst (nv (row.take (row.idxOf i)))) hS
        have oS : upd H6 S (.lst (nv (row.take (row.idxOf i)))) S = some (.lst (nv (row.take (row.idxOf i)))) := upd_same
        generalize upd H6 S (.lst (nv (row.take (row.idxOf i)))) = H8 at s8 oS ⊢
        have ei : inV (.int (m : Int)) (nv (row.take (row.idxOf i))) = decide (row.idxOf m < row.idxOf i) := by
          rw [inV_nv, decide_eq_decide]
          exact ⟨idx_take, take_idx mn⟩
        refine ⟨S, _, rfl, .inl (SqL.of oS), rfl, flat_nv _, _, rfl, ?_⟩
        rw [show inV (V.int (m : Int)) (nv (row.take (row.idxOf i))) = decide (row.idxOf m < row.idxOf i) from ei]
        exact q H8 s8
      · have hD5 : H2' D = none := by
          cases e : H3 D with
          | none => exact back D e
          | some u => rw [s4 _ _ e] at hD; cases hD
        obtain ⟨d1, d2, d3⟩ := old D hD5
        refine ⟨_, D, rfl, s4.trans s6, ?_, d1, d2, d3⟩
        rw [oD, List.filter_filter, tk]
        congr 2
        refine congrArg nv (List.filter_congr fun m _ => ?_)
        rw [aheadB_snoc, Bool.and_comm]
    · rintro σ H4 ⟨v4, g, rfl, s4, og, g0, ngF, ngf⟩
      have et : rs.take (as.map V.ref).length = rs := by rw [List.length_map, wr.len, List.take_length]
      rw [et] at og
      have oF4 := s4 _ _ oF3
      have lfs := wf3.len
      rw [List.length_map, List.length_range] at lfs
      refine ⟨_, rfl, .inl ⟨rfl, _, SqL.of oF4⟩, _, rfl, F, _, _, rfl, rfl, oF4, by rw [List.length_map]; exact szl (by omega), _, _, _, fs ++ [g], rfl, (s3.trans s4).upd hF, by rw [upd_same, List.map_append]; rfl, ?_, ?_, ?_, ?_⟩
      · rw [map_range_succ]
        refine ((wf3.same s4).but nF).grow ?_
        rw [upd_ne ngF]; exact og
      · refine List.nodup_append.mpr ⟨nd, by simp, fun a ha b hb => ?_⟩
        rw [List.mem_singleton.mp hb]
        exact fun z => ngf (by rw [← z]; exact ha)
      · exact fun z => (List.mem_append.mp z).elim nF fun z => ngF (List.mem_singleton.mp z).symm
      · intro p hp
        rcases List.mem_append.mp hp with hp | hp
        · exact fr p hp
        · rw [List.mem_singleton.mp hp]; exact g0
  · rintro σ H2 ⟨v2, v3, v4, fs, rfl, s2, oF, wf, nd, nF, fr⟩
    rw [nv_length, l0, Int.toNat_natCast] at wf
    exact ⟨_, rfl, q F fs H2 s2 ⟨oF, wf, nd, nF, hF, fr⟩⟩
end

end My

namespace My
open PySem PySem.Spec PyProof.Rows L2
/-! ### a plan that lets a row; the plan of a number -/
/-- what the plan's thing o holds against the row -/
def badL (hs : Hs) (r : List Nat) (o : Nat) : Bool := match hs[o]? with
  | some (some u) => decide (r.idxOf o < r.idxOf u)
  | _ => false
def letsB (hs : Hs) (r : List Nat) : Bool := decide (r.filter (badL hs r) = [])

/-! ### all plans in a row, and those that let the lists -/
def snocs (cs : List (Option Nat)) (hs : List Hs) : List Hs := hs.flatMap fun h => cs.map fun o => h ++ [o]
def prodL (gs : List (List Nat)) : List Hs := gs.foldl (fun acc g => snocs (none :: g.map some) acc) [[]]
def choN (n : Nat) : List (Option Nat) := none :: (List.range n).map some
def allP (n : Nat) : Nat → List Hs
  | 0 => [[]]
  | k + 1 => snocs (choN n) (allP n k)
theorem chs_snoc (gs : List (List Nat)) (g : List Nat) : chs (gs ++ [g]) = chs gs * (g.length + 1) := by
  unfold chs
  rw [List.foldl_append]; rfl
theorem prodL_snoc (gs : List (List Nat)) (g : List Nat) : prodL (gs ++ [g]) = snocs (none :: g.map some) (prodL gs) := by
  unfold prodL
  rw [List.foldl_append]; rfl
theorem nthF_snoc (gs : List (List Nat)) (g : List Nat) (k : Nat) : nthF (gs ++ [g]) k = nthF gs (k / (g.length + 1)) ++ [pickO g (k % (g.length + 1))] := by
  unfold nthF
  rw [List.reverse_append]
  show (nthR (g :: gs.reverse) k).reverse = _
  rw [nthR, List.reverse_cons]
theorem range_mul {α : Type} (f : Nat → α) (b : Nat) : ∀ a : Nat, (List.range (a * b)).map f = (List.range a).flatMap fun i => (List.range b).map fun j => f (i * b + j)
  | 0 => by rw [Nat.zero_mul]; rfl
  | a + 1 => by
    rw [Nat.succ_mul, List.range_add, List.map_append, range_mul f b a, List.range_succ, List.flatMap_append, List.map_map]
    congr 1
    rw [List.flatMap_cons, List.flatMap_nil, List.append_nil]; rfl
theorem fm_congr {α β : Type} {l : List α} {f g : α → List β} (h : ∀ x ∈ l, f x = g x) : l.flatMap f = l.flatMap g := by
  rw [List.flatMap_def, List.flatMap_def, List.map_congr_left h]
theorem picks (g : List Nat) : (List.range (g.length + 1)).map (pickO g) = none :: g.map some := by
  rw [List.range_succ_eq_map, List.map_cons, List.map_map]
  congr 1
  refine List.ext_getElem? fun i => ?_
  rw [List.getElem?_map, List.getElem?_map]
  by_cases c : i < g.length
  · rw [List.getElem?_range c, List.getElem?_eq_getElem c]
    show some (pickO g (i + 1)) = _
    unfold pickO
    rw [if_neg (Nat.succ_ne_zero i), Nat.add_sub_cancel, List.getElem?_eq_getElem c]; rfl
  · rw [List.getElem?_eq_none (by rw [List.length_range]; omega), List.getElem?_eq_none (by omega)]; rfl
theorem nth_prod' : ∀ l : List (List Nat), (List.range (chs l.reverse)).map (nthF l.reverse) = prodL l.reverse
  | [] => rfl
  | g :: l => by
    rw [List.reverse_cons, chs_snoc, prodL_snoc, range_mul, ← nth_prod' l]
    unfold snocs
    rw [List.flatMap_map]
    refine fm_congr fun i _ => ?_
    rw [← picks g, List.map_map]
    refine List.map_congr_left fun j hj => ?_
    have jl := List.mem_range.mp hj
    show nthF (l.reverse ++ [g]) (i * (g.length + 1) + j) = nthF l.reverse i ++ [pickO g j]
    rw [nthF_snoc]
    have e1 : (i * (g.length + 1) + j) / (g.length + 1) = i := by
      rw [Nat.mul_comm, Nat.mul_add_div (Nat.succ_pos _), Nat.div_eq_of_lt jl, Nat.add_zero]
    have e2 : (i * (g.length + 1) + j) % (g.length + 1) = j := by
      rw [Nat.mul_comm, Nat.mul_add_mod, Nat.mod_eq_of_lt jl]
    rw [e1, e2]
theorem nth_prod (gs : List (List Nat)) : (List.range (chs gs)).map (nthF gs) = prodL gs := by
  have z := nth_prod' gs.reverse
  rw [List.reverse_reverse] at z; exact z
/-- what thing o's holder may be -/
def okO (rs : List (List Nat)) (o : Nat) : Option Nat → Bool
  | none => true
  | some u => aheadB rs u o
def okP (rs : List (List Nat)) (h : Hs) : Bool := (List.range h.length).all fun o => okO rs o (h[o]?.getD none)
theorem okP_snoc (rs : List (List Nat)) (h : Hs) (o : Option Nat) : okP rs (h ++ [o]) = (okP rs h && okO rs h.length o) := by
  unfold okP
  rw [List.length_append, List.length_singleton, List.range_succ, List.all_append]
  congr 1
  · have e : ∀ l : List Nat, (∀ x ∈ l, x < h.length) → (l.all fun i => okO rs i ((h ++ [o])[i]?.getD none)) = l.all fun i => okO rs i (h[i]?.getD none) := by
      intro l hl
      induction l with
      | nil => rfl
      | cons x l ih =>
        rw [List.all_cons, List.all_cons, ih fun y hy => hl y (List.mem_cons_of_mem _ hy), List.getElem?_append_left (hl x List.mem_cons_self)]
    exact e _ fun x hx => List.mem_range.mp hx
  · rw [List.all_cons, List.all_nil, Bool.and_true, List.getElem?_append_right (Nat.le_refl _), Nat.sub_self]; rfl
theorem allP_len {n : Nat} : ∀ (k : Nat) (h : Hs), h ∈ allP n k → h.length = k ∧ ∀ o u : Nat, h[o]? = some (some u) → u < n
  | 0, h, m => by
    rw [List.mem_singleton.mp m]
    exact ⟨rfl, fun o u e => by cases e⟩
  | k + 1, h, m => by
    obtain ⟨h', m', m2⟩ := List.mem_flatMap.mp m
    obtain ⟨o, mo, rfl⟩ := List.mem_map.mp m2
    obtain ⟨l, lt⟩ := allP_len k h' m'
    refine ⟨by rw [List.length_append, l]; rfl, fun i u e => ?_⟩
    by_cases c : i < h'.length
    · rw [List.getElem?_append_left c] at e
      exact lt i u e
    · rw [List.getElem?_append_right (by omega)] at e
      rcases hz : i - h'.length with _ | z
      · rw [hz] at e
        have eo : o = some u := Option.some.inj e
        subst eo
        rcases List.mem_cons.mp mo with z | z
        · cases z
        · obtain ⟨v, hv1, hv2⟩ := List.mem_map.mp z
          cases hv2
          exact List.mem_range.mp hv1
      · rw [hz] at e; cases e
theorem filter_snocs (rs : List (List Nat)) (cs : List (Option Nat)) (k : Nat) : ∀ hs : List Hs, (∀ h ∈ hs, h.length = k) → (snocs cs hs).filter (okP rs) = snocs (cs.filter (okO rs k)) (hs.filter (okP rs))
  | [], _ => rfl
  | h :: hs, hl => by
    have ih := filter_snocs rs cs k hs fun x hx => hl x (List.mem_cons_of_mem _ hx)
    have lk := hl h List.mem_cons_self
    have e : ((cs.map fun o => h ++ [o]).filter (okP rs)) = if okP rs h = true then (cs.filter (okO rs k)).map fun o => h ++ [o] else [] := by
      rw [List.filter_map]
      by_cases c : okP rs h = true
      · rw [if_pos c]
        congr 1
        refine List.filter_congr fun o _ => ?_
        show okP rs (h ++ [o]) = _
        rw [okP_snoc, c, lk, Bool.true_and]
      · rw [if_neg c]
        have z : cs.filter (okP rs ∘ fun o => h ++ [o]) = [] := List.filter_eq_nil_iff.mpr fun o _ => by
          show ¬ okP rs (h ++ [o]) = true
          rw [okP_snoc]
          intro y
          rw [Bool.and_eq_true] at y
          exact c y.1
        rw [z]; rfl
    show ((cs.map fun o => h ++ [o]) ++ snocs cs hs).filter (okP rs) = _
    rw [List.filter_append, ih, e]
    by_cases c : okP rs h = true
    · rw [if_pos c, List.filter_cons_of_pos c]; rfl
    · rw [if_neg c, List.filter_cons_of_neg c]; rfl
theorem filter_cho (rs : List (List Nat)) (n k : Nat) : (choN n).filter (okO rs k) = none :: (alw rs n k).map some := by
  unfold choN
  rw [List.filter_cons_of_pos (show okO rs k none = true from rfl), List.filter_map]
  rfl
theorem filter_all (rs : List (List Nat)) (n : Nat) : ∀ k : Nat, (allP n k).filter (okP rs) = prodL ((List.range k).map (alw rs n))
  | 0 => rfl
  | k + 1 => by
    rw [map_range_succ, prodL_snoc, ← filter_all rs n k, ← filter_cho rs n k]
    exact filter_snocs rs (choN n) k (allP n k) fun h m => (allP_len k h m).1

/-! ### a plan lets the lists and all its things come to an end: just when each holder is always ahead -/
def stp (h : Hs) : Option Nat → Option Nat
  | none => none
  | some v => h[v]?.getD none
def itN (h : Hs) (k : Nat) (o : Option Nat) : Option Nat := (List.range k).foldl (fun a _ => stp h a) o
theorem itN_succ (h : Hs) (k : Nat) (o : Option Nat) : itN h (k + 1) o = stp h (itN h k o) := by
  unfold itN
  rw [List.range_succ, List.foldl_append]; rfl
def endsB (h : Hs) (m : Nat) : Bool := decide (itN h h.length (some m) = none)
theorem letsB_iff {h : Hs} {r : List Nat} : letsB h r = true ↔ ∀ o ∈ r, badL h r o = false := by
  unfold letsB
  rw [decide_eq_true_iff, List.filter_eq_nil_iff]
  exact ⟨fun z o ho => Bool.eq_false_iff.mpr (z o ho), fun z o ho => Bool.eq_false_iff.mp (z o ho)⟩
theorem aheadB_iff {rs : List (List Nat)} {a b : Nat} : aheadB rs a b = true ↔ ∀ r ∈ rs, r.idxOf a < r.idxOf b := by
  unfold aheadB
  rw [List.all_eq_true]
  exact ⟨fun z r hr => of_decide_eq_true (z r hr), fun z r hr => decide_eq_true (z r hr)⟩
theorem okP_iff {rs : List (List Nat)} {h : Hs} : okP rs h = true ↔ ∀ o u : Nat, h[o]? = some (some u) → ∀ r ∈ rs, r.idxOf u < r.idxOf o := by
  unfold okP
  rw [List.all_eq_true]
  refine ⟨fun z o u e => ?_, fun z o ho => ?_⟩
  · have y := z o (List.mem_range.mpr (List.getElem?_eq_some_iff.mp e).1)
    rw [e] at y
    exact aheadB_iff.mp y
  · cases e : h[o]? with
    | none => rfl
    | some ov =>
      cases ov with
      | none => rfl
      | some u => exact aheadB_iff.mpr (z o u e)
theorem ok_ends {rs : List (List Nat)} {h : Hs} {n : Nat} (l : h.length = n) (hr : ∀ r ∈ rs, OrdL r ∧ r.length = n) (ne : rs ≠ []) : ((∀ m, m < n → endsB h m = true) ∧ ∀ r ∈ rs, letsB h r = true) ↔ okP rs h = true := by
  rw [okP_iff]
  refine ⟨fun ⟨he, hl⟩ o u e r mr => ?_, fun z => ⟨fun m hm => ?_, fun r mr => ?_⟩⟩
  · have ol : o < h.length := (List.getElem?_eq_some_iff.mp e).1
    obtain ⟨ord, lr⟩ := hr r mr
    have mo : o ∈ r := ord_full ord (by omega)
    have b := letsB_iff.mp (hl r mr) o mo
    unfold badL at b
    rw [e] at b
    have b2 : ¬ r.idxOf o < r.idxOf u := of_decide_eq_false b
    have ne' : u ≠ o := fun eq => by
      subst eq
      have fix : ∀ k, itN h k (some u) = some u := fun k => by
        induction k with
        | zero => rfl
        | succ k ih => rw [itN_succ, ih]; show h[u]?.getD none = some u; rw [e]; rfl
      have y := of_decide_eq_true (he u (by omega))
      rw [fix] at y; cases y
    have ni : r.idxOf u ≠ r.idxOf o := fun eq => by
      have e1 := idx_get mo
      rw [← eq] at e1
      by_cases mu : u ∈ r
      · have e2 := idx_get mu
        rw [e1] at e2
        exact ne' (Option.some.inj e2).symm
      · have lt := List.idxOf_lt_length_of_mem mo
        rw [← eq, List.idxOf_eq_length mu] at lt
        exact Nat.lt_irrefl _ lt
    omega
  · obtain ⟨r0, rest, er⟩ : ∃ r0 rest, rs = r0 :: rest := by
      cases rs with
      | nil => exact absurd rfl ne
      | cons a b => exact ⟨a, b, rfl⟩
    have m0 : r0 ∈ rs := by rw [er]; exact List.mem_cons_self
    obtain ⟨ord, lr⟩ := hr r0 m0
    have low : ∀ k v, itN h k (some m) = some v → r0.idxOf v + k ≤ r0.idxOf m := fun k => by
      induction k with
      | zero => intro v e; cases (Option.some.inj e); exact Nat.le_refl _
      | succ k ih =>
        intro v e
        rw [itN_succ] at e
        cases ek : itN h k (some m) with
        | none => rw [ek] at e; cases e
        | some y =>
          rw [ek] at e
          have e2 : h[y]? = some (some v) := by
            show h[y]? = _
            have e3 : h[y]?.getD none = some v := e
            cases eh : h[y]? with
            | none => rw [eh] at e3; cases e3
            | some ov => rw [eh] at e3; exact congrArg some e3
          have q1 := z y v e2 r0 m0
          have q2 := ih y ek
          omega
    refine decide_eq_true ?_
    cases e : itN h h.length (some m) with
    | none => rfl
    | some v =>
      have q1 := low _ v e
      have q2 := List.idxOf_lt_length_of_mem (ord_full ord (show m < r0.length by omega))
      omega
  · refine letsB_iff.mpr fun o mo => ?_
    unfold badL
    cases e : h[o]? with
    | none => rfl
    | some ov =>
      cases ov with
      | none => rfl
      | some u =>
        have q := z o u e r mr
        exact decide_eq_false (by omega)
/-- the plans that are kept: in the order in which numbers tell them -/
theorem kept_plans {rs : List (List Nat)} {n : Nat} (hr : ∀ r ∈ rs, OrdL r ∧ r.length = n) (ne : rs ≠ []) :
    ((allP n n).filter fun h => (List.range n).all (endsB h)).filter (fun h => rs.all (letsB h)) = (List.range (chs (alws rs n))).map (nthF (alws rs n)) := by
  rw [nth_prod, List.filter_filter]
  unfold alws
  rw [← filter_all]
  refine List.filter_congr fun h m => ?_
  have l := (allP_len n h m).1
  have k := ok_ends l hr ne
  rw [Bool.eq_iff_iff, Bool.and_eq_true, List.all_eq_true, List.all_eq_true, ← k]
  exact ⟨fun ⟨a, b⟩ => ⟨fun i hi => b i (List.mem_range.mpr hi), a⟩, fun ⟨a, b⟩ => ⟨b, fun i hi => a i (List.mem_range.mp hi)⟩⟩

/-! ### a plan under new names -/
def spFresh : Sp := fun vs H Q _ => ∃ (wl t : Addr) (n : Nat) (hs : Hs), vs = [.ref wl, .ref t] ∧ Well H wl n ∧ n < 2 ^ 50 ∧ H t = some (.tup (hs.map hv)) ∧ LtF hs ∧ hs ≠ [] ∧ hs.length ≤ 60 ∧
  ∀ t' hs' H', Fo hs' → hs'.length = hs.length → Keep wl H H' → Well H' wl (n + 60) → H t' = none → H' t' = some (.tup (hs'.map hv)) → Q (.ref t') H'
theorem keep_free {H H' : Hp} {wl a : Addr} (k : Keep wl H H') (n : a ≠ wl) (h : H' a = none) : H a = none := by
  cases e : H a with
  | none => rfl
  | some o =>
    have z := k a o n e
    rw [h] at z; cases z
theorem keep_upd {H H' : Hp} {wl a : Addr} {o : HO} (k : Keep wl H H') (h : H a = none) : Keep wl H (upd H' a o) := fun b u hb e => (upd_ne (ne_of_none e h)).trans (k b u hb e)
theorem Well.updN {H : Hp} {wl a : Addr} {o : HO} {n : Nat} (w : Well H wl n) (h : a ≠ wl) : Well (upd H a o) wl n := by
  obtain ⟨x, y, z, e, r⟩ := w.ex
  exact ⟨x, y, z, (upd_ne h.symm).trans e, r⟩
theorem Well.neT2 {H : Hp} {wl p : Addr} {n : Nat} (w : Well H wl n) {xs : List V} (h : H p = some (.tup xs)) : p ≠ wl := fun e => by
  obtain ⟨l, e2⟩ := w.here
  rw [e, e2] at h; cases h
section
variable {P : Program} {w : World} {K : PySem.W.Frag} {mg : Str → Option Value} {base : Heap}
abbrev st__law_fresh : Stmt := topS 39
abbrev N__law_fresh : List Str := ["well", "plan", "names", "left", "k", "found"]
theorem sc__law_fresh : FnScope N__law_fresh ["well", "plan"] (defScope st__law_fresh) := ⟨rfl, rfl, rfl, by decide +kernel, rfl, by decide +kernel, by decide +kernel⟩
theorem ok__law_fresh (D : Df K mg "_law_fresh" st__law_fresh ["well", "plan"]) (B : Bl mg) (K_law_draw : Kn P w K mg base CX0 1 "_law_draw" st__law_draw ["well", "most"] spDraw) :
    Kn P w K mg base CX0 2 "_law_fresh" st__law_fresh ["well", "plan"] spFresh := by
  refine D.ok sc__law_fresh (fun vs H Q E h => ?_) (fun f cdv A outer s H vs Q E hr h => ?_)
  · obtain ⟨wl, t, n, hs, rfl, _⟩ := h; rfl
  obtain ⟨wl, t, n, hs, rfl, hw, hn, ht, hlt, hne, l60, q⟩ := h
  refine ⟨_, ((pss_cons (ps_par (i := 2) (j := 3) (by rfl) sc__law_fresh.nd rfl rfl (by decide) rfl rfl (pa_cons (pe_lst pa_nil) (pa_cons (pe_listRg rfl (by rfl) B.list (prg_1 (by rfl) B.range (pe_callB call_len (by rfl) B.len (by decide +kernel) (pa_cons (pv 1) pa_nil)))) pa_nil)) (by rfl))
      (pss_cons (ps_for PassesOwn.never rfl (pi_range1 (by rfl) B.range (pa_cons (pe_callB call_len (by rfl) B.len (by decide +kernel) (pa_cons (pv 1) pa_nil)) pa_nil)) (pg_name (i := 4) sc__law_fresh.nd rfl (Or.inl rfl)) (pss_one (ps_expr (pe_bm PySem.F.plainAttrs_list PySem.F.slot_list_append PySem.F.type_list_append mt_append (pv 2) (pa_cons (pe_bm PySem.F.plainAttrs_list PySem.F.slot_list_pop PySem.F.type_list_pop mt_popAt (pv 3) (pa_cons (pe_callF K_law_draw (hr.mono (by decide)) pass0 (pa_cons (pv 0) (pa_cons (pe_callB call_len (by rfl) B.len (by decide +kernel) (pa_cons (pv 3) pa_nil)) pa_nil))) pa_nil)) pa_nil)))))
      (pss_cons (ps_set (i := 5) sc__law_fresh.nd rfl (Or.inl rfl) (pe_op op_rep (pe_lst (pa_cons pe_non pa_nil)) (pe_callB call_len (by rfl) B.len (by decide +kernel) (pa_cons (pv 1) pa_nil))))
      (pss_cons (ps_for PassesOwn.never rfl (pi_range1 (by rfl) B.range (pa_cons (pe_callB call_len (by rfl) B.len (by decide +kernel) (pa_cons (pv 1) pa_nil)) pa_nil)) (pg_name (i := 4) sc__law_fresh.nd rfl (Or.inl rfl)) (pss_one (ps_asg (pe_ifExp (pt_cmpR op_isN (pe_ix ix_tup (pv 1) (pv 4) (fun _ _ => rfl)) pe_non (nomark _)) pe_non (pe_ix ix_list (pv 2) (pe_ix ix_tup (pv 1) (pv 4) (fun _ _ => rfl)) (fun _ _ => rfl))) (pg_sub (pv 5) (pe_ix ix_list (pv 2) (pv 4) (fun _ _ => rfl)) set_list))))
      (pss_one (ps_ret (pe_callTy call_tuple_of (by rfl) B.tuple (by decide +kernel) (pa_cons (pv 5) pa_nil))))))))), ?_⟩
  have p50 : (2 : Nat) ^ 50 = 1125899906842624 := by decide
  have p60 : (2 : Nat) ^ 60 = 1152921504606846976 := by decide
  have p100 : (2 : Nat) ^ 100 = 1267650600228229401496703205376 := by decide +kernel
  have p62 : (2 : Int) ^ 62 = 4611686018427387904 := by decide
  have p63 : (2 : Int) ^ 63 = 9223372036854775808 := by decide
  have hlm : (hs.map hv).length = hs.length := List.length_map _
  have tw : t ≠ wl := hw.neT2 ht
  -- names, left
  refine ⟨by show 0 ≤ sizeLine; decide, fun N hN => ?_⟩
  have s1 := (Same.refl H).new (o := .lst []) hN
  have oN : upd H N (.lst []) N = some (.lst (nv [])) := upd_same
  have nNw := hw.ne hN
  have w1 := hw.same s1
  generalize upd H N (.lst []) = H1 at s1 oN w1 ⊢
  refine ⟨_, rfl, _, _, rfl, .inr ⟨_, SqT.of (s1 _ _ ht), rfl⟩, _, rfl, RgOk.of_le (by omega) (by omega) (by omega) (by omega), fun L hL => ⟨_, _, rfl, ?_⟩⟩
  rw [hlm, nv_range]
  have hLn := s1.free hL
  have nLw := hw.ne hLn
  have nNL : N ≠ L := ne_of_none oN hL
  have s2 := s1.new (o := .lst (nv (List.range hs.length))) hL
  have w2 := w1.same ((Same.refl H1).new (o := .lst (nv (List.range hs.length))) hL)
  have oL : upd H1 L (.lst (nv (List.range hs.length))) L = some (.lst (nv (List.range hs.length))) := upd_same
  have oN2 := ((Same.refl H1).new (o := .lst (nv (List.range hs.length))) hL) _ _ oN
  generalize upd H1 L (.lst (nv (List.range hs.length))) = H2 at s2 w2 oL oN2 ⊢
  -- names.append(left.pop(draw))
  refine ⟨_, rfl, _, _, rfl, .inr ⟨_, SqT.of (s2 _ _ ht), rfl⟩, _, rfl, by omega, by omega, for_it walk_range0 (fun i σ H' => ∃ v4, σ = [some (.ref wl), some (.ref t), some (.ref N), some (.ref L), v4, none] ∧ Keep wl H H' ∧ Well H' wl (n + i) ∧
      ∃ nm lf : List Nat, nm.length = i ∧ (nm ++ lf).Perm (List.range hs.length) ∧ H' N = some (.lst (nv nm)) ∧ H' L = some (.lst (nv lf)))
    ⟨none, rfl, s2.keep, w2, [], List.range hs.length, rfl, List.Perm.refl _, oN2, oL⟩ (fun _ _ _ _ _ => trivial) ?_ ?_⟩
  · rintro i x σ H5 H6 hi ⟨v4, rfl, k5, w5, nm, lf, hnm, hp, hN5, hL5⟩ ⟨rfl, rfl⟩
    have hi' : i < hs.length := by omega
    have hlf : nm.length + lf.length = hs.length := by
      have z := hp.length_eq
      rw [List.length_append, List.length_range] at z; exact z
    refine ⟨_, rfl, .inl ⟨rfl, _, SqL.of hN5⟩, ?_⟩
    refine ⟨_, rfl, .inl ⟨rfl, _, SqL.of hL5⟩, ?_⟩
    refine ⟨_, rfl, _, rfl, _, _, rfl, .inl ⟨_, SqL.of hL5, rfl⟩, wl, _, _, rfl, w5, by omega, by rw [nv_length]; omega, by rw [nv_length]; omega, fun d H6 d0 d1 k6 w6 => ?_⟩
    rw [nv_length] at d1
    obtain ⟨j, hj⟩ : ∃ j : Nat, d = (j : Int) := ⟨d.toNat, by omega⟩
    subst hj
    have hjl : j < lf.length := by omega
    have hL6 := k6 L _ nLw hL5
    have hN6 := k6 N _ nNw hN5
    refine ⟨L, _, _, j, _, rfl, rfl, hL6, by omega, by omega, by rw [nv_length]; exact seq_nat hjl, nv_get (List.getElem?_eq_getElem hjl), ?_⟩
    refine ⟨N, _, _, rfl, rfl, by rw [upd_ne nNL]; exact hN6, by rw [nv_length]; exact szl (by omega), ?_⟩
    refine ⟨_, rfl, keep_upd (keep_upd (k5.trans k6) hLn) hN, (w6.updN nLw).updN nNw, nm ++ [lf[j]], lf.eraseIdx j, by rw [List.length_append, hnm]; rfl, ?_, by rw [upd_same, nv_append]; rfl, by rw [upd_ne nNL.symm, upd_same, nv_erase]⟩
    have pe := erase_perm lf j hjl
    rw [List.append_assoc]
    exact (List.Perm.append_left nm pe).trans hp
  · rintro σ H5 ⟨v4, rfl, k5, w5, nm, lf, hnm, hp, hN5, hL5⟩
    rw [hlm, Int.toNat_natCast] at hnm w5
    have hlf : nm.length + lf.length = hs.length := by
      have z := hp.length_eq
      rw [List.length_append, List.length_range] at z; exact z
    have hlf0 : lf = [] := List.eq_nil_of_length_eq_zero (by omega)
    subst hlf0
    rw [List.append_nil] at hp
    have ht5 := k5 t _ tw ht
    -- found = [None] * len(plan)
    refine ⟨by show 1 ≤ sizeLine; decide, fun O hO => ?_⟩
    refine ⟨_, rfl, _, _, rfl, .inr ⟨_, SqT.of (((Same.refl H5).new (o := .lst [.non]) hO) _ _ ht5), rfl⟩, O, _, _, rfl, rfl, upd_same, by omega, by omega, ?_, fun T hT => ?_⟩
    · show 1 * ((hs.map hv).length : Int).toNat ≤ sizeLine
      rw [hlm, Int.toNat_natCast, Nat.one_mul]; exact Nat.le_of_lt (szl (by omega))
    have hT5 : H5 T = none := by
      have z := hT
      rw [upd_ne (ne_of_none upd_same hT).symm] at z; exact z
    have o2 : O ≠ wl := w5.ne hO
    have t2 : T ≠ wl := w5.ne hT5
    have o1 := keep_free k5 o2 hO
    have t1 := keep_free k5 t2 hT5
    have t4 : N ≠ T := ne_of_none hN5 hT5
    have o4 : N ≠ O := ne_of_none hN5 hO
    have hnl : ∀ j : Nat, j < hs.length → ∃ v, nm[j]? = some v ∧ v < hs.length := fun j hj => by
      have h1 : j < nm.length := by omega
      exact ⟨nm[j], List.getElem?_eq_getElem h1, List.mem_range.mp (hp.mem_iff.mp (List.getElem_mem h1))⟩
    have hnd : nm.Nodup := hp.nodup_iff.mpr List.nodup_range
    have ht6 := ((Same.refl (upd H5 O (.lst [.non]))).new (o := .lst ((List.replicate ((hs.map hv).length : Int).toNat [V.non]).flatten)) hT) _ _ (((Same.refl H5).new (o := .lst [.non]) hO) _ _ ht5)
    -- found[names[k]] = ..
    refine ⟨_, rfl, _, _, rfl, .inr ⟨_, SqT.of ht6, rfl⟩, _, rfl, by omega, by omega, for_it walk_range0 (fun i σ H' => ∃ v4, σ = [some (.ref wl), some (.ref t), some (.ref N), some (.ref L), v4, some (.ref T)] ∧ Keep wl H H' ∧ Well H' wl (n + hs.length) ∧ H' N = some (.lst (nv nm)) ∧
        ∃ th : Hs, th.length = hs.length ∧ (∀ (j v : Nat) (o : Option Nat), j < i → nm[j]? = some v → hs[j]? = some o → th[v]? = some (ren nm o)) ∧ H' T = some (.lst (th.map hv)))
      ⟨v4, rfl, keep_upd (keep_upd k5 o1) t1, (w5.updN o2).updN t2, by rw [upd_ne t4, upd_ne o4]; exact hN5, List.replicate hs.length none, List.length_replicate, fun j v o hj => absurd hj (Nat.not_lt_zero j), by rw [upd_same, rep_non, hlm, Int.toNat_natCast]⟩ (fun _ _ _ _ _ => trivial) ?_ ?_⟩
    · rintro i x σ H6 H7 hi ⟨v4, rfl, k6, w6, hN6, th, hth, hr', hT6⟩ ⟨rfl, rfl⟩
      have hi' : i < hs.length := by omega
      obtain ⟨v, ev, hv'⟩ := hnl i hi'
      have eo : hs[i]? = some hs[i] := List.getElem?_eq_getElem hi'
      generalize hs[i] = o at eo
      have ht7 := k6 t _ tw ht
      have fin : ∀ x : V, x = hv (ren nm o) → gSub (tVar 5) (tOp (rIxL K) (tVar 2) (tVar 4)) rSetL x [some (.ref wl), some (.ref t), some (.ref N), some (.ref L), some (.int (i : Int)), some (.ref T)] H7
          (fun σ H' => ∃ v4, σ = [some (.ref wl), some (.ref t), some (.ref N), some (.ref L), v4, some (.ref T)] ∧ Keep wl H H' ∧ Well H' wl (n + hs.length) ∧ H' N = some (.lst (nv nm)) ∧
            ∃ th : Hs, th.length = hs.length ∧ (∀ (j v : Nat) (o : Option Nat), j < i + 1 → nm[j]? = some v → hs[j]? = some o → th[v]? = some (ren nm o)) ∧ H' T = some (.lst (th.map hv))) := by
        rintro x rfl
        refine ⟨_, rfl, _, rfl, _, rfl, N, _, _, _, rfl, rfl, SqL.of hN6, atI_nat (nv_get ev), T, _, _, v, rfl, rfl, hT6, by rw [List.length_map, hth]; exact ixN_nat hv', ?_⟩
        refine ⟨_, rfl, keep_upd k6 t1, w6.updN t2, by rw [upd_ne t4]; exact hN6, th.set v (ren nm o), by rw [List.length_set]; exact hth, ?_, by rw [upd_same, List.map_set]⟩
        intro j v' o' hj e1 e2
        by_cases hji : j = i
        · subst hji
          have q1 : v' = v := Option.some.inj (e1.symm.trans ev)
          have q2 : o' = o := Option.some.inj (e2.symm.trans eo)
          subst q1 q2
          exact List.getElem?_set_self (by rw [hth]; exact hv')
        · have hne : v ≠ v' := fun z => hji (nodup_at hnd e1 (by rw [← z]; exact ev))
          rw [List.getElem?_set_ne hne]
          exact hr' j v' o' (by omega) e1 e2
      refine ⟨_, rfl, _, rfl, t, _, _, _, rfl, rfl, SqT.of ht7, atI_nat (hv_at eo), rfl, _, rfl, ?_⟩
      cases o with
      | none => exact iteT (fin _ rfl)
      | some u =>
        have hu := hlt i u eo
        obtain ⟨vu, eu, _⟩ := hnl u (by omega)
        refine iteF ⟨_, rfl, _, rfl, _, rfl, t, _, _, _, rfl, rfl, SqT.of ht7, atI_nat (hv_at eo), N, _, _, _, rfl, rfl, SqL.of hN6, atI_nat (nv_get eu), fin _ ?_⟩
        show V.int (vu : Int) = V.int ((nm.getD u 0 : Nat) : Int)
        rw [List.getD_eq_getElem?_getD, eu]; rfl
    · rintro σ H6 ⟨v4, rfl, k6, w6, hN6, th, hth, hr', hT6⟩
      rw [hlm, Int.toNat_natCast] at hr'
      refine ⟨_, rfl, T, _, rfl, .inl ⟨SqL.of hT6, fun r hr2 => ?_⟩⟩
      have rw' := w6.ne hr2
      refine q r th _ (fo_turned hne hlt hp hth fun j v o e1 e2 => hr' j v o (List.getElem?_eq_some_iff.mp e2).1 e1 e2) hth (keep_upd k6 (keep_free k6 rw' hr2)) ((w6.updN rw').mono (by omega)) (keep_free k6 rw' hr2) upd_same
end

/-! ### drawn lists of one another's order -/
theorem one_fo {hs : Hs} (fo : Fo hs) (l : hs.length ≤ 1) : hs = [none] := by
  match hs, fo, l with
  | [], fo, _ => exact absurd rfl fo.ne
  | [none], _, _ => rfl
  | [some u], fo, _ =>
    have hu : u < 1 := fo.inb 0 u rfl
    have e0 : u = 0 := by omega
    subst e0
    have key : ∀ v, Rch [some 0] v → v ≠ 0 := fun v r => by
      induction r with
      | root h1 => intro e; rw [e] at h1; cases h1
      | step h1 _ ih =>
        intro e
        rw [e] at h1
        cases h1
        exact ih rfl
    exact absurd rfl (key 0 (fo.all 0 (by decide)))
  | _ :: _ :: _, _, l =>
    rw [List.length_cons, List.length_cons] at l
    omega
def Bhd (hs : Hs) (r : List Nat) : Prop := ∀ v u : Nat, v ∈ r → hs[v]? = some (some u) → u ∈ r
def rdy (hs : Hs) (way : Int) (r : List Nat) (o : Nat) : Bool := decide (way = 3) || (match hs[o]? with
  | some (some u) => decide (u ∈ r)
  | _ => true)
theorem rdy_some {hs : Hs} {way : Int} {r : List Nat} (fo : Fo hs) : ∀ v, Rch hs v → v ∉ r → ∃ o, o ∉ r ∧ o < hs.length ∧ rdy hs way r o = true := fun v rc => by
  induction rc with
  | @root v h1 =>
    intro nv'
    refine ⟨v, nv', (List.getElem?_eq_some_iff.mp h1).1, ?_⟩
    unfold rdy
    rw [h1, Bool.or_true]
  | @step v u h1 _ ih =>
    intro nv'
    by_cases c : u ∈ r
    · refine ⟨v, nv', (List.getElem?_eq_some_iff.mp h1).1, ?_⟩
      unfold rdy
      rw [h1]
      show (_ || decide (u ∈ r)) = true
      rw [decide_eq_true c, Bool.or_true]
    · exact ih c
/-- a row under way -/
structure RowW (hs : Hs) (way : Int) (n : Nat) (r lf : List Nat) : Prop where
  nd : r.Nodup
  lt : ∀ v ∈ r, v < n
  go : r.length < n → lf = (List.range n).filter (fun o => decide (o ∉ r)) ∧ (way = 3 ∨ Bhd hs r)
theorem RowW.nil (hs : Hs) (way : Int) (n : Nat) : RowW hs way n [] (List.range n) := ⟨List.nodup_nil, fun v h => absurd h List.not_mem_nil, fun _ => ⟨(List.filter_eq_self.mpr fun a _ => rfl).symm, .inr fun v u h => absurd h List.not_mem_nil⟩⟩
theorem RowW.full {hs : Hs} {way : Int} {n : Nat} {r lf : List Nat} (o : OrdL r) (l : r.length = n) : RowW hs way n r lf := ⟨o.1, fun v h => by rw [← l]; exact o.2 v h, fun z => absurd z (by omega)⟩
theorem RowW.len {hs : Hs} {way : Int} {n : Nat} {r lf : List Nat} (w : RowW hs way n r lf) : r.length ≤ n := nodup_len n r w.nd w.lt
theorem RowW.ready {hs : Hs} {way : Int} {n : Nat} {r lf : List Nat} (w : RowW hs way n r lf) (fo : Fo hs) (hl : hs.length = n) (l : r.length < n) : 1 ≤ (lf.filter (rdy hs way r)).length := by
  obtain ⟨e, _⟩ := w.go l
  obtain ⟨v, hv1, hv2⟩ : ∃ v, v < n ∧ v ∉ r := by
    by_cases c : ∃ v, v < n ∧ v ∉ r
    · exact c
    · have all : ∀ v, v ∈ List.range n → v ∈ r := fun v hv => by
        by_cases y : v ∈ r
        · exact y
        · exact absurd ⟨v, List.mem_range.mp hv, y⟩ c
      have z := nodup_sub (List.range n) r List.nodup_range all
      rw [List.length_range] at z; omega
  obtain ⟨o, o1, o2, o3⟩ := rdy_some (way := way) fo v (fo.all v (by omega)) hv2
  refine List.length_pos_of_mem (a := o) (List.mem_filter.mpr ⟨?_, o3⟩)
  rw [e]
  exact List.mem_filter.mpr ⟨List.mem_range.mpr (by omega), decide_eq_true o1⟩
theorem RowW.step {hs : Hs} {way : Int} {n : Nat} {r lf : List Nat} (w : RowW hs way n r lf) (l : r.length < n) {v : Nat} (hv1 : v ∈ lf.filter (rdy hs way r)) : RowW hs way n (r ++ [v]) (lf.filter fun o => !decide (o = v)) := by
  obtain ⟨e, c⟩ := w.go l
  obtain ⟨m1, m2⟩ := List.mem_filter.mp hv1
  rw [e] at m1
  obtain ⟨m3, m4⟩ := List.mem_filter.mp m1
  have nr := of_decide_eq_true m4
  have vn := List.mem_range.mp m3
  refine ⟨List.nodup_append.mpr ⟨w.nd, by simp, fun a ha b hb => ?_⟩, fun x hx => ?_, fun _ => ⟨?_, ?_⟩⟩
  · rw [List.mem_singleton.mp hb]
    exact fun z => nr (by rw [← z]; exact ha)
  · rcases List.mem_append.mp hx with hx | hx
    · exact w.lt x hx
    · rw [List.mem_singleton.mp hx]; exact vn
  · rw [e, List.filter_filter]
    refine List.filter_congr fun x _ => ?_
    by_cases c1 : x ∈ r
    · simp [c1]
    · by_cases c2 : x = v <;> simp [c1, c2]
  · by_cases c3 : way = 3
    · exact .inl c3
    · refine .inr fun x u hx hu => ?_
      have bh := c.resolve_left c3
      rcases List.mem_append.mp hx with hx | hx
      · exact List.mem_append_left _ (bh x u hx hu)
      · rw [List.mem_singleton.mp hx] at hu
        unfold rdy at m2
        rw [hu, decide_eq_false c3, Bool.false_or] at m2
        exact List.mem_append_left _ (of_decide_eq_true m2)
/-- two neighbours in a row changed -/
theorem swapL {r : List Nat} {k : Nat} : (r.take k ++ ((r.drop k).take 2).reverse ++ r.drop (k + 2)).Perm r := by
  have e : r = r.take k ++ (r.drop k).take 2 ++ r.drop (k + 2) := by
    rw [List.append_assoc]
    conv => lhs; rw [← List.take_append_drop k r]
    congr 1
    conv => lhs; rw [← List.take_append_drop 2 (r.drop k)]
    rw [List.drop_drop]
  conv => rhs; rw [e]
  exact ((List.Perm.refl _).append (List.reverse_perm _)).append (List.Perm.refl _)
theorem ord_perm {r s : List Nat} (p : s.Perm r) (o : OrdL r) : OrdL s ∧ s.length = r.length := ⟨⟨p.nodup_iff.mpr o.1, fun v hv => by rw [p.length_eq]; exact o.2 v (p.mem_iff.mp hv)⟩, p.length_eq⟩

end My

namespace My
open PySem PySem.Spec PyProof.Rows L2
def spLists : Sp := fun vs H Q _ => ∃ (wl : Addr) (n size most : Nat), vs = [.ref wl, .int (size : Int), .int (most : Int)] ∧ Well H wl n ∧ n < 2 ^ 45 ∧ 1 ≤ size ∧ size ≤ 30 ∧ 1 ≤ most ∧ most ≤ 30 ∧
  ∀ R as rs H', Keep wl H H' → Well H' wl (n + 3000) → ToldR H' R as rs size → R ≠ wl → (∀ a ∈ as, a ≠ wl) → R ≠ sysModules → (∀ a ∈ as, a ≠ sysModules) → rs.length ≤ 2 * most → Q (.ref R) H'
theorem pad_at (hs : Hs) (u : Option Nat) : (hs.map hv) ++ [hv u] = (hs ++ [u]).map hv := by rw [List.map_append]; rfl
theorem cut_two (xs : List V) (i j : Nat) (h : i ≤ j) : cutV xs (some (i : Int)) (some (j : Int)) = (xs.drop i).take (j - i) := by
  unfold cutV
  rw [HT.sIx_nat, HT.sIx_nat]
  by_cases c : i ≤ xs.length
  · rw [Nat.min_eq_left c]
    by_cases d : j ≤ xs.length
    · rw [Nat.min_eq_left d]
    · rw [Nat.min_eq_right (by omega), List.take_of_length_le (by rw [List.length_drop]; exact Nat.le_refl _), List.take_of_length_le (by rw [List.length_drop]; omega)]
  · rw [List.drop_of_length_le (show xs.length ≤ min i xs.length by omega), List.drop_of_length_le (by omega), List.take_nil, List.take_nil]
/-- the lists under way -/
structure LS (H H' : Hp) (wl t R p l : Addr) (gs : Hs) (as : List Addr) (rs : List (List Nat)) (r lf : List Nat) (m : Nat) : Prop where
  kp : Keep wl H H'
  w : Well H' wl m
  ht : H' t = some (.tup (gs.map hv))
  hR : H' R = some (.lst (as.map V.ref))
  wr : Rws H' as rs
  hr : H' p = some (.lst (nv r))
  hl : H' l = some (.lst (nv lf))
  np : H p = none
  pw : p ≠ wl
  pR : p ≠ R
  pa : p ∉ as
  pl : p ≠ l
  lw : l ≠ wl
  tw : t ≠ wl
  rw : R ≠ wl
  aw : ∀ a ∈ as, a ≠ wl
  ps : p ≠ sysModules
theorem rws_keep {H H' : Hp} {wl : Addr} {as : List Addr} {rs : List (List Nat)} (w : Rws H as rs) (k : Keep wl H H') (aw : ∀ a ∈ as, a ≠ wl) : Rws H' as rs := ⟨w.len, fun i p r e1 e2 => k p _ (aw p (List.mem_of_getElem? e1)) (w.at_ i p r e1 e2)⟩
theorem LS.draw {H H' H2 : Hp} {wl t R p l : Addr} {gs : Hs} {as : List Addr} {rs : List (List Nat)} {r lf : List Nat} {m m2 : Nat} (S : LS H H' wl t R p l gs as rs r lf m) (k : Keep wl H' H2) (w : Well H2 wl m2) : LS H H2 wl t R p l gs as rs r lf m2 :=
  ⟨S.kp.trans k, w, k _ _ S.tw S.ht, k _ _ S.rw S.hR, rws_keep S.wr k S.aw, k _ _ S.pw S.hr, k _ _ S.lw S.hl, S.np, S.pw, S.pR, S.pa, S.pl, S.lw, S.tw, S.rw, S.aw, S.ps⟩
theorem LS.same {H H' H2 : Hp} {wl t R p l : Addr} {gs : Hs} {as : List Addr} {rs : List (List Nat)} {r lf : List Nat} {m : Nat} (S : LS H H' wl t R p l gs as rs r lf m) (s : Same H' H2) : LS H H2 wl t R p l gs as rs r lf m := S.draw s.keep (S.w.same s)
theorem LS.mono {H H' : Hp} {wl t R p l : Addr} {gs : Hs} {as : List Addr} {rs : List (List Nat)} {r lf : List Nat} {m m2 : Nat} (S : LS H H' wl t R p l gs as rs r lf m) (h : m ≤ m2) : LS H H' wl t R p l gs as rs r lf m2 :=
  ⟨S.kp, S.w.mono h, S.ht, S.hR, S.wr, S.hr, S.hl, S.np, S.pw, S.pR, S.pa, S.pl, S.lw, S.tw, S.rw, S.aw, S.ps⟩
theorem LS.put {H H' : Hp} {wl t R p l : Addr} {gs : Hs} {as : List Addr} {rs : List (List Nat)} {r lf r2 : List Nat} {m : Nat} (S : LS H H' wl t R p l gs as rs r lf m) : LS H (upd H' p (.lst (nv r2))) wl t R p l gs as rs r2 lf m :=
  ⟨keep_upd S.kp S.np, S.w.updN S.pw, (upd_ne (show t ≠ p from fun z => by
    have y := S.ht
    rw [z, S.hr] at y; cases y)).trans S.ht, (upd_ne S.pR.symm).trans S.hR, S.wr.but S.pa, upd_same, (upd_ne S.pl.symm).trans S.hl, S.np, S.pw, S.pR, S.pa, S.pl, S.lw, S.tw, S.rw, S.aw, S.ps⟩
/-- another list of what is left -/
theorem LS.left {H H' : Hp} {wl t R p l l2 : Addr} {gs : Hs} {as : List Addr} {rs : List (List Nat)} {r lf lf2 : List Nat} {m : Nat} (S : LS H H' wl t R p l gs as rs r lf m) (h : H' l2 = some (.lst (nv lf2))) (n1 : p ≠ l2) (n2 : l2 ≠ wl) : LS H H' wl t R p l2 gs as rs r lf2 m :=
  ⟨S.kp, S.w, S.ht, S.hR, S.wr, S.hr, h, S.np, S.pw, S.pR, S.pa, n1, n2, S.tw, S.rw, S.aw, S.ps⟩
/-- another row -/
theorem LS.row {H H' : Hp} {wl t R p p2 l : Addr} {gs : Hs} {as : List Addr} {rs : List (List Nat)} {r r2 lf : List Nat} {m : Nat} (S : LS H H' wl t R p l gs as rs r lf m) (h : H' p2 = some (.lst (nv r2))) (n0 : H p2 = none) (n1 : p2 ≠ wl) (n2 : p2 ≠ R) (n3 : p2 ∉ as) (n4 : p2 ≠ l) (n5 : p2 ≠ sysModules) : LS H H' wl t R p2 l gs as rs r2 lf m :=
  ⟨S.kp, S.w, S.ht, S.hR, S.wr, h, S.hl, n0, n1, n2, n3, n4, S.lw, S.tw, S.rw, S.aw, n5⟩
section
variable {P : Program} {w : World} {K : PySem.W.Frag} {mg : Str → Option Value} {base : Heap}
abbrev st__law_lists : Stmt := topS 40
abbrev N__law_lists : List Str := ["well", "size", "most", "plan", "way", "some", "rows", "turn", "row", "left", "spot", "ready_here", "one"]
theorem sc__law_lists : FnScope N__law_lists ["well", "size", "most"] (defScope st__law_lists) := ⟨rfl, rfl, rfl, by decide +kernel, rfl, by decide +kernel, by decide +kernel⟩
theorem ok__law_lists (D : Df K mg "_law_lists" st__law_lists ["well", "size", "most"]) (B : Bl mg) (K_law_draw : Kn P w K mg base CX0 1 "_law_draw" st__law_draw ["well", "most"] spDraw)
    (K_law_forest : Kn P w K mg base CX0 3 "_law_forest" st__law_forest ["well", "most"] spLForest) (K_law_fresh : Kn P w K mg base CX0 2 "_law_fresh" st__law_fresh ["well", "plan"] spFresh) :
    Kn P w K mg base CX0 4 "_law_lists" st__law_lists ["well", "size", "most"] spLists := by
  refine D.ok sc__law_lists (fun vs H Q E h => ?_) (fun f cdv A outer s H vs Q E hr h => ?_)
  · obtain ⟨wl, n, size, most, rfl, _⟩ := h; rfl
  obtain ⟨wl, n, size, most, rfl, hw, hn, z1, z30, m1, m30, q⟩ := h
  refine ⟨_, ((pss_cons (ps_asg (pe_tup (pa_cons (pe_callF K_law_forest (hr.mono (by decide)) pass0 (pa_cons (pv 0) (pa_cons pe_int pa_nil))) (pa_cons (pe_callF K_law_draw (hr.mono (by decide)) pass0 (pa_cons (pv 0) (pa_cons pe_int pa_nil))) pa_nil))) (pg_tup rfl (pgs_cons (pg_name (i := 3) sc__law_lists.nd rfl (Or.inr rfl)) (pgs_cons (pg_name (i := 4) sc__law_lists.nd rfl (Or.inr rfl)) pgs_nil))))
      (pss_cons (ps_while PassesOwn.never (pt_cmpR op_lt (pe_callB call_len (by rfl) B.len (by decide +kernel) (pa_cons (pv 3) pa_nil)) (pv 1) (nomark _)) (pss_cons (ps_set (i := 5) sc__law_lists.nd rfl (Or.inl rfl) (pe_lst (pa_cons pe_non (pa_cons (pe_op op_sub (pe_callB call_len (by rfl) B.len (by decide +kernel) (pa_cons (pv 3) pa_nil)) pe_int) (pa_cons (pe_callF K_law_draw (hr.mono (by decide)) pass0 (pa_cons (pv 0) (pa_cons (pe_callB call_len (by rfl) B.len (by decide +kernel) (pa_cons (pv 3) pa_nil)) pa_nil))) pa_nil)))))
      (pss_one (ps_set (i := 3) sc__law_lists.nd rfl (Or.inr rfl) (pe_op op_catA (pv 3) (pe_tup (pa_cons (pe_ix ix_list (pv 5) (pe_callF K_law_draw (hr.mono (by decide)) pass0 (pa_cons (pv 0) (pa_cons pe_int pa_nil))) (fun _ _ => rfl)) pa_nil)))))))
      (pss_cons (ps_asg (pe_tup (pa_cons (pe_callF K_law_fresh (hr.mono (by decide)) pass0 (pa_cons (pv 0) (pa_cons (pv 3) pa_nil))) (pa_cons (pe_lstN pa_nil) pa_nil))) (pg_tup rfl (pgs_cons (pg_name (i := 3) sc__law_lists.nd rfl (Or.inr rfl)) (pgs_cons (pg_name (i := 6) sc__law_lists.nd rfl (Or.inl rfl)) pgs_nil))))
      (pss_cons (ps_for PassesOwn.never rfl (pi_range1 (by rfl) B.range (pa_cons (pe_op op_add pe_int (pe_callF K_law_draw (hr.mono (by decide)) pass0 (pa_cons (pv 0) (pa_cons (pv 2) pa_nil)))) pa_nil)) (pg_name (i := 7) sc__law_lists.nd rfl (Or.inl rfl)) (pss_cons (ps_asg (pe_tup (pa_cons (pe_lstN pa_nil) (pa_cons (pe_listRg rfl (by rfl) B.list (prg_1 (by rfl) B.range (pv 1))) pa_nil))) (pg_tup rfl (pgs_cons (pg_name (i := 8) sc__law_lists.nd rfl (Or.inr rfl)) (pgs_cons (pg_name (i := 9) sc__law_lists.nd rfl (Or.inl rfl)) pgs_nil))))
      (C8.pss_cut (ps_if (PW.pt (pw_and (pt_cmpR op_eq (pv 4) pe_int (nomark _)) (pw_and1 (pt_cmpR (op_neD hr.units) (pv 6) (pe_lstN pa_nil) (nomark _))))) (pss_cons (ps_set (i := 8) sc__law_lists.nd rfl (Or.inr rfl) (pe_callTy call_list_ofN (by rfl) B.list (by decide +kernel) (pa_cons (pe_ix ix_list (pv 6) (pe_callF K_law_draw (hr.mono (by decide)) pass0 (pa_cons (pv 0) (pa_cons (pe_callB call_len (by rfl) B.len (by decide +kernel) (pa_cons (pv 6) pa_nil)) pa_nil))) (fun _ _ => rfl)) pa_nil)))
      (pss_cons (ps_set (i := 10) sc__law_lists.nd rfl (Or.inl rfl) (pe_callF K_law_draw (hr.mono (by decide)) pass0 (pa_cons (pv 0) (pa_cons (pv 1) pa_nil))))
      (pss_one (ps_set (i := 8) sc__law_lists.nd rfl (Or.inr rfl) (pe_op op_catN (pe_op op_catN (pe_slice sl_list (pv 8) po_none (po_some (pv 10))) (pe_revL (pe_slice sl_list (pv 8) (po_some (pv 10)) (po_some (pe_op op_add (pv 10) pe_int))))) (pe_slice sl_list (pv 8) (po_some (pe_op op_add (pv 10) pe_int)) po_none)))))) pss_nil)
      (pss_cons (ps_while PassesOwn.never (pt_cmpR op_lt (pe_callB call_len (by rfl) B.len (by decide +kernel) (pa_cons (pv 8) pa_nil)) (pv 1) (nomark _)) (pss_cons (ps_setLc (i := 11) (own := [("one", 12)]) (g := gName 12) rfl sc__law_lists.nd rfl rfl (sw_true rfl rfl rfl (by decide +kernel)) (pi_list (pv 9)) (blkOk_by (N := N__law_lists) (sc := defScope st__law_lists) (own := [("one", 12)]) (by decide +kernel)) (fun _ _ _ _ _ => by (exact (pg_name (i := 12) sc__law_lists.nd rfl (Or.inl rfl)))) (fun _ _ _ _ _ => by exact (pts_one (PW.pt (pw_or (pt_cmpR op_eq (pv 4) pe_int (nomark _)) (pw_or (pt_cmpR op_isN (pe_ix (ix_tupK K) (pv 3) (pv 12) (fun _ _ => rfl)) pe_non (nomark _)) (pw_or1 (pt_cmpR (op_in_seqK K) (pe_ix (ix_tupK K) (pv 3) (pv 12) (fun _ _ => rfl)) (pv 8) (by rfl)))))))) (fun _ _ _ _ _ => by exact (pv 12)))
      (pss_cons (ps_expr (pe_bm PySem.F.plainAttrs_list PySem.F.slot_list_append PySem.F.type_list_append mt_append (pv 8) (pa_cons (pe_ix ix_list (pv 11) (pe_callF K_law_draw (hr.mono (by decide)) pass0 (pa_cons (pv 0) (pa_cons (pe_callB call_len (by rfl) B.len (by decide +kernel) (pa_cons (pv 11) pa_nil)) pa_nil))) (fun _ _ => rfl)) pa_nil)))
      (pss_one (ps_setLc (i := 9) (own := [("one", 12)]) (g := gName 12) rfl sc__law_lists.nd rfl rfl (sw_true rfl rfl rfl (by decide +kernel)) (pi_list (pv 9)) (blkOk_by (N := N__law_lists) (sc := defScope st__law_lists) (own := [("one", 12)]) (by decide +kernel)) (fun _ _ _ _ _ => by (exact (pg_name (i := 12) sc__law_lists.nd rfl (Or.inl rfl)))) (fun _ _ _ _ _ => by exact (pts_one (pt_cmpR op_ne (pv 12) (pe_ix (ix_listK K) (pv 8) (pe_un un_neg pe_int) (fun _ _ => rfl)) (nomark _)))) (fun _ _ _ _ _ => by exact (pv 12)))))))
      (pss_cons (ps_expr (pe_bm PySem.F.plainAttrs_list PySem.F.slot_list_append PySem.F.type_list_append mt_append (pv 6) (pa_cons (pv 8) pa_nil)))
      (pss_one (ps_if (pt_cmpR op_eq (pe_callF K_law_draw (hr.mono (by decide)) pass0 (pa_cons (pv 0) (pa_cons pe_int pa_nil))) pe_int (nomark _)) (pss_one (ps_expr (pe_bm PySem.F.plainAttrs_list PySem.F.slot_list_append PySem.F.type_list_append mt_append (pv 6) (pa_cons (pe_callTy call_list_ofN (by rfl) B.list (by decide +kernel) (pa_cons (pv 8) pa_nil)) pa_nil)))) pss_nil)))))))
      (pss_one (ps_ret (pv 6)))))))), ?_⟩
  have p45 : (2 : Nat) ^ 45 = 35184372088832 := by decide
  have p50 : (2 : Nat) ^ 50 = 1125899906842624 := by decide
  have p60 : (2 : Nat) ^ 60 = 1152921504606846976 := by decide
  have p100 : (2 : Nat) ^ 100 = 1267650600228229401496703205376 := by decide +kernel
  have p62 : (2 : Int) ^ 62 = 4611686018427387904 := by decide
  have p63 : (2 : Int) ^ 63 = 9223372036854775808 := by decide
  -- plan, way
  refine ⟨_, rfl, wl, n, 1, rfl, hw, by omega, by decide, by decide, fun t0 hs0 H1 fo0 l0 k1 w1 ht00 ht0 => ?_⟩
  refine ⟨_, rfl, wl, _, _, rfl, w1, by omega, by decide, by decide, fun way H2 _ _ k2 w2 => ?_⟩
  refine ⟨by show 2 ≤ sizeLine; decide, fun T hT => ?_⟩
  have nt0 := w1.neT2 ht0
  have ht02 := k2 _ _ nt0 ht0
  have sT := (Same.refl H2).new (o := .tup [.ref t0, .int way]) hT
  have oT : upd H2 T (.tup [.ref t0, .int way]) T = some (.tup [.ref t0, .int way]) := upd_same
  have w3 := w2.same sT
  have k3 := (k1.trans k2).trans sT.keep
  have ht3 := sT _ _ ht02
  generalize upd H2 T (.tup [.ref t0, .int way]) = H3 at sT oT w3 k3 ht3 ⊢
  refine ⟨T, _, rfl, SqT.of oT, rfl, _, _, rfl, _, _, rfl, rfl, ?_⟩
  have e0 := one_fo fo0 (by omega)
  subst e0
  -- while len(plan) < size
  refine ⟨fun m σ H' => ∃ (t : Addr) (hs : Hs) (v5 : Option V), σ = [some (.ref wl), some (.int (size : Int)), some (.int (most : Int)), some (.ref t), some (.int way), v5, none, none, none, none, none, none, none] ∧ Keep wl H H' ∧ Well H' wl (n + 401 + 2 * hs.length) ∧ H' t = some (.tup (hs.map hv)) ∧ LtF hs ∧ 1 ≤ hs.length ∧ hs.length ≤ size ∧ m = size - hs.length,
    ⟨_, t0, [none], none, rfl, k3, w3.mono (by show n + 400 + 1 ≤ n + 401 + 2 * 1; omega), ht3, fun j u e => (by
      rcases j with _ | j
      · cases e
      · cases e), Nat.le_refl _, z1, rfl⟩, ?_⟩
  rintro m σ H4 ⟨t, hs, v5, rfl, k4, w4, ht4, hlt, hs1, hs2, rfl⟩
  have hlm : (hs.map hv).length = hs.length := List.length_map _
  have nt := w4.neT2 ht4
  refine ⟨_, rfl, _, _, rfl, .inr ⟨_, SqT.of ht4, rfl⟩, _, rfl, _, _, rfl, rfl, _, rfl, ite2 (fun c => ?_) (fun c => ?_)⟩
  · have cl : hs.length < size := by
      have z := of_decide_eq_true c
      rw [hlm] at z; omega
    refine ⟨fun σ' H' => ∃ m', m' < size - hs.length ∧ ∃ (t : Addr) (hs : Hs) (v5 : Option V), σ' = [some (.ref wl), some (.int (size : Int)), some (.int (most : Int)), some (.ref t), some (.int way), v5, none, none, none, none, none, none, none] ∧ Keep wl H H' ∧ Well H' wl (n + 401 + 2 * hs.length) ∧ H' t = some (.tup (hs.map hv)) ∧ LtF hs ∧ 1 ≤ hs.length ∧ hs.length ≤ size ∧ m' = size - hs.length, fun _ _ h => h, ?_⟩
    refine ⟨_, rfl, _, _, rfl, .inr ⟨_, SqT.of ht4, rfl⟩, _, _, rfl, rfl, _, rfl, _, rfl, _, _, rfl, .inr ⟨_, SqT.of ht4, rfl⟩, wl, _, _, rfl, w4, by omega, by rw [hlm]; omega, by rw [hlm]; omega, fun d H5 d0 d1 k5 w5 => ⟨by show 3 ≤ sizeLine; decide, fun L hL => ?_⟩⟩
    rw [hlm] at d1
    have sL := (Same.refl H5).new (o := .lst [.non, .int (((hs.map hv).length : Int) - 1), .int d]) hL
    have oL : upd H5 L (.lst [.non, .int (((hs.map hv).length : Int) - 1), .int d]) L = some (.lst [.non, .int (((hs.map hv).length : Int) - 1), .int d]) := upd_same
    have nL := w5.ne hL
    have w6 := w5.same sL
    have ht6 := sL _ _ (k5 _ _ nt ht4)
    have k6 := (k4.trans k5).trans sL.keep
    generalize upd H5 L (.lst [.non, .int (((hs.map hv).length : Int) - 1), .int d]) = H6 at sL oL w6 ht6 k6 ⊢
    refine ⟨_, rfl, _, rfl, _, rfl, wl, _, _, rfl, w6, by omega, by decide, by decide, fun d2 H7 e0 e1 k7 w7 => ?_⟩
    obtain ⟨v, hv1, hv2⟩ := pick (xs := [.non, .int (((hs.map hv).length : Int) - 1), .int d]) e0 e1
    obtain ⟨o, rfl, ho⟩ : ∃ o, v = hv o ∧ ∀ u, o = some u → u < hs.length := by
      simp only [List.mem_cons, List.not_mem_nil, or_false] at hv1
      rcases hv1 with rfl | rfl | rfl
      · exact ⟨none, rfl, fun u e => by cases e⟩
      · refine ⟨some (hs.length - 1), ?_, fun u e => by cases e; omega⟩
        show V.int _ = V.int _
        rw [hlm]; congr 1; omega
      · refine ⟨some d.toNat, ?_, fun u e => by cases e; omega⟩
        show V.int _ = V.int _
        congr 1; omega
    refine ⟨L, _, _, _, rfl, rfl, SqL.of (k7 _ _ nL oL), hv2, by show 1 ≤ sizeLine; decide, fun T2 hT2 => ?_⟩
    have ht7 := k7 _ _ nt ht6
    have sT2 := (Same.refl H7).new (o := .tup [hv o]) hT2
    have oT2 : upd H7 T2 (.tup [hv o]) T2 = some (.tup [hv o]) := upd_same
    refine catA (sT2 _ _ ht7) oT2 (by rw [hlm]; show hs.length + 1 ≤ 1000; omega) fun p H9 s9 op => ?_
    rw [pad_at] at op
    refine ⟨_, ?_, p, hs ++ [o], _, rfl, ((k6.trans k7).trans sT2.keep).trans s9.keep, ((w7.same sT2).same s9).mono (by rw [List.length_append]; show n + 401 + 2 * hs.length + 1 + 1 ≤ n + 401 + 2 * (hs.length + 1); omega), op, hlt.snoc ho, by rw [List.length_append]; omega, by rw [List.length_append]; show hs.length + 1 ≤ size; omega, rfl⟩
    rw [List.length_append]
    show size - (hs.length + 1) < _
    omega
  have esz : hs.length = size := by
    by_cases y : hs.length < size
    · exact absurd (decide_eq_true (by rw [hlm]; omega)) c
    · omega
  -- plan, rows
  refine ⟨_, rfl, _, rfl, wl, t, _, hs, rfl, w4, by omega, ht4, hlt, (fun z => by rw [z] at hs1; exact absurd hs1 (by decide)), by omega, fun t2 gs H5 fo lg k5 w5 ht20 ht2 => ?_⟩
  refine ⟨by show 0 ≤ sizeLine; decide, fun R hR nRs => ⟨by show 2 ≤ sizeLine; decide, fun T3 hT3 => ?_⟩⟩
  have nt2 := w5.neT2 ht2
  have nR := w5.ne hR
  have sR := (Same.refl H5).new (o := .lst []) hR
  have oR : upd H5 R (.lst []) R = some (.lst (([] : List Addr).map V.ref)) := upd_same
  generalize upd H5 R (.lst []) = H6 at sR oR hT3 ⊢
  have s3 := sR.new (o := .tup [.ref t2, .ref R]) hT3
  have s63 := (Same.refl H6).new (o := .tup [.ref t2, .ref R]) hT3
  have oT3 : upd H6 T3 (.tup [.ref t2, .ref R]) T3 = some (.tup [.ref t2, .ref R]) := upd_same
  have oR3 := s63 _ _ oR
  generalize upd H6 T3 (.tup [.ref t2, .ref R]) = H7 at s3 oT3 oR3 ⊢
  refine ⟨T3, _, rfl, SqT.of oT3, rfl, _, _, rfl, _, _, rfl, rfl, ?_⟩
  have w7 := w5.same s3
  have k7 : Keep wl H H7 := (k4.trans k5).trans s3.keep
  have ht7 := s3 _ _ ht2
  have hRn : H R = none := keep_free (k4.trans k5) nR hR
  have lg2 : gs.length = size := by omega
  -- for turn in range(1 + draw(most))
  refine ⟨_, rfl, _, rfl, wl, _, _, rfl, w7, by omega, by omega, by omega, fun dt H8 e0 e1 k8 w8 => ⟨_, _, rfl, rfl, _, rfl, by omega, by omega, ?_⟩⟩
  have oR8 := k8 _ _ nR oR3
  have ht8 := k8 _ _ nt2 ht7
  have k08 := k7.trans k8
  refine for_it walk_range0 (fun i σ H' => ∃ (v5 v7 v8 v9 v10 v11 : Option V) (as : List Addr) (rs : List (List Nat)), σ = [some (.ref wl), some (.int (size : Int)), some (.int (most : Int)), some (.ref t2), some (.int way), v5, some (.ref R), v7, v8, v9, v10, v11, none] ∧ Keep wl H H' ∧ Well H' wl (n + 600 + 40 * i) ∧ H' t2 = some (.tup (gs.map hv)) ∧ H' R = some (.lst (as.map V.ref)) ∧ Rws H' as rs ∧ (∀ r ∈ rs, OrdL r ∧ r.length = size) ∧ i ≤ rs.length ∧ rs.length ≤ 2 * i ∧ R ∉ as ∧ (∀ a ∈ as, a ≠ wl) ∧ ∀ a ∈ as, a ≠ sysModules)
    ⟨_, none, none, none, none, none, [], [], rfl, k08, w8.mono (by omega), ht8, oR8, ⟨rfl, fun i p r e => by cases e⟩, fun r h => absurd h List.not_mem_nil, Nat.le_refl _, Nat.le_refl _, List.not_mem_nil, (fun a h => absurd h List.not_mem_nil), fun a h => absurd h List.not_mem_nil⟩ (fun _ _ _ _ _ => trivial) ?_ ?_
  · rintro i x σ H9 H10 hi ⟨v5, v7, v8, v9, v10, v11, as, rs, rfl, k9, w9, ht9, oR9, wr, ord, l1, l2, nRa, aw, asy⟩ ⟨rfl, rfl⟩
    have hi' : i < 30 := by omega
    -- row, left
    refine ⟨by show 0 ≤ sizeLine; decide, fun p hp nps => ?_⟩
    have sp := (Same.refl H10).new (o := .lst []) hp
    have op : upd H10 p (.lst []) p = some (.lst (nv [])) := upd_same
    have npw := w9.ne hp
    have npR : p ≠ R := fun z => by rw [z, oR9] at hp; cases hp
    have npa : p ∉ as := fun z => by
      obtain ⟨k, ek⟩ := List.getElem?_of_mem z
      obtain ⟨g, _, _, hg⟩ := wr.get2 ek
      rw [hp] at hg; cases hg
    have np0 := keep_free k9 npw hp
    generalize upd H10 p (.lst []) = H11 at sp op ⊢
    refine ⟨_, rfl, _, rfl, RgOk.of_le (by omega) (by omega) (by omega) (by omega), fun l hl => ?_⟩
    rw [nv_range]
    have sl := sp.new (o := .lst (nv (List.range size))) hl
    have op2 := ((Same.refl H11).new (o := .lst (nv (List.range size))) hl) _ _ op
    have ol : upd H11 l (.lst (nv (List.range size))) l = some (.lst (nv (List.range size))) := upd_same
    have npl : p ≠ l := ne_of_none op hl
    have nlw := w9.ne (sp.free hl)
    generalize upd H11 l (.lst (nv (List.range size))) = H12 at sl op2 ol ⊢
    have S12 : LS H H12 wl t2 R p l gs as rs [] (List.range size) (n + 600 + 40 * i) := ⟨k9.trans sl.keep, w9.same sl, sl _ _ ht9, sl _ _ oR9, wr.same sl, op2, ol, np0, npw, npR, npa, npl, nlw, nt2, nR, aw, nps⟩
    refine ⟨by show 2 ≤ sizeLine; decide, fun T4 hT4 => ?_⟩
    have s4 := (Same.refl H12).new (o := .tup [.ref p, .ref l]) hT4
    have oT4 : upd H12 T4 (.tup [.ref p, .ref l]) T4 = some (.tup [.ref p, .ref l]) := upd_same
    have S13 := S12.same s4
    generalize upd H12 T4 (.tup [.ref p, .ref l]) = H13 at s4 oT4 S13 ⊢
    refine ⟨T4, _, rfl, SqT.of oT4, rfl, _, _, rfl, _, _, rfl, rfl, ?_⟩
    -- if way == 1 and rows != []
    refine ⟨fun σ' H' => ∃ (v10 : Option V) (p : Addr) (r : List Nat), σ' = [some (.ref wl), some (.int (size : Int)), some (.int (most : Int)), some (.ref t2), some (.int way), v5, some (.ref R), some (.int (i : Int)), some (.ref p), some (.ref l), v10, v11, none] ∧ LS H H' wl t2 R p l gs as rs r (List.range size) (n + 600 + 40 * i + 2) ∧ RowW gs way size r (List.range size), ?_, ?_⟩
    · have stay : ∀ H', Same H13 H' → ∃ (v10' : Option V) (p' : Addr) (r : List Nat), [some (.ref wl), some (.int (size : Int)), some (.int (most : Int)), some (.ref t2), some (.int way), v5, some (.ref R), some (.int (i : Int)), some (.ref p), some (.ref l), v10, v11, none] = [some (.ref wl), some (.int (size : Int)), some (.int (most : Int)), some (.ref t2), some (.int way), v5, some (.ref R), some (.int (i : Int)), some (.ref p'), some (.ref l), v10', v11, none] ∧ LS H H' wl t2 R p' l gs as rs r (List.range size) (n + 600 + 40 * i + 2) ∧ RowW gs way size r (List.range size) :=
        fun H' s' => ⟨_, p, [], rfl, (S13.same s').mono (by omega), RowW.nil gs way size⟩
      refine ⟨_, rfl, rfl, _, rfl, ite2 (fun c => ?_) (fun c => stay H13 (Same.refl _))⟩
      refine ⟨_, rfl, by show 0 ≤ sizeLine; decide, fun Z hZ _ => ?_⟩
      have sZ := (Same.refl H13).new (o := .lst []) hZ
      have oZ : upd H13 Z (.lst []) Z = some (.lst []) := upd_same
      have SZ := S13.same sZ
      generalize upd H13 Z (.lst []) = H14 at sZ oZ SZ ⊢
      refine ⟨.list (rwD rs), .list [], .lst (SqL.of SZ.hR) (dp_rows SZ.wr), .lst (SqL.of oZ) .nil, shaped_rwD rs, by decide +kernel, _, rfl, ite2 (fun c2 => ?_) (fun c2 => stay H14 sZ)⟩
      have rne : 1 ≤ rs.length := by
        cases rs with
        | nil => exact absurd c2 (by decide +kernel)
        | cons a b => exact Nat.succ_le_succ (Nat.zero_le _)
      have lar : (as.map V.ref).length = rs.length := by rw [List.length_map, SZ.wr.len]
      -- row = list(rows[draw])
      refine ⟨_, rfl, _, rfl, _, rfl, _, _, rfl, .inl ⟨_, SqL.of SZ.hR, rfl⟩, wl, _, _, rfl, SZ.w, by omega, by rw [lar]; omega, by rw [lar]; omega, fun d H15 d0 d1 k15 w15 => ?_⟩
      rw [lar] at d1
      obtain ⟨j, rfl⟩ : ∃ j : Nat, d = (j : Int) := ⟨d.toNat, by omega⟩
      have S15 := SZ.draw k15 w15
      obtain ⟨a, ea⟩ : ∃ a, as[j]? = some a := ⟨_, List.getElem?_eq_getElem (by rw [SZ.wr.len]; omega)⟩
      obtain ⟨r0, er0, mr0, ha⟩ := S15.wr.get2 ea
      obtain ⟨o0, lr0⟩ := ord r0 mr0
      refine ⟨R, _, _, .ref a, rfl, rfl, SqL.of S15.hR, atI_nat (by rw [List.getElem?_map, ea]; rfl), a, _, rfl, .inl (SqL.of ha), fun p1 hp1 _ => ?_⟩
      have s16 := (Same.refl H15).new (o := .lst (nv r0)) hp1
      have o16 : upd H15 p1 (.lst (nv r0)) p1 = some (.lst (nv r0)) := upd_same
      have S16 := S15.same s16
      have np1 := S15.w.ne hp1
      generalize upd H15 p1 (.lst (nv r0)) = H16 at s16 o16 S16 ⊢
      refine ⟨_, rfl, _, rfl, wl, _, _, rfl, S16.w, by omega, by omega, by omega, fun sp H17 e0 e1 k17 w17 => ?_⟩
      obtain ⟨k, rfl⟩ : ∃ k : Nat, sp = (k : Int) := ⟨sp.toNat, by omega⟩
      have S17 := S16.draw k17 w17
      have o17 := k17 _ _ np1 o16
      have hn0 : (nv r0).length = r0.length := nv_length r0
      -- row[:spot]
      refine ⟨_, rfl, ?_⟩
      dsimp only [tNoPart]
      refine ⟨_, rfl, _, rfl, p1, _, rfl, SqL.of o17, fun q1 hq1 => ?_⟩
      rw [cut_to, nv_take]
      have t1 := (Same.refl H17).new (o := .lst (nv (r0.take k))) hq1
      have oq1 : upd H17 q1 (.lst (nv (r0.take k))) q1 = some (.lst (nv (r0.take k))) := upd_same
      generalize upd H17 q1 (.lst (nv (r0.take k))) = H18 at t1 oq1 ⊢
      -- row[spot:spot + 2][::-1]
      refine ⟨_, rfl, _, rfl, _, rfl, _, rfl, _, _, rfl, rfl, _, rfl, p1, _, rfl, SqL.of (t1 _ _ o17), fun q2 hq2 => ?_⟩
      rw [show (k : Int) + 2 = ((k + 2 : Nat) : Int) by omega, cut_two _ _ _ (by omega), show k + 2 - k = 2 by omega, nv_drop, nv_take]
      have t2' := t1.new (o := .lst (nv ((r0.drop k).take 2))) hq2
      have oq12 := ((Same.refl H18).new (o := .lst (nv ((r0.drop k).take 2))) hq2) _ _ oq1
      have oq2 : upd H18 q2 (.lst (nv ((r0.drop k).take 2))) q2 = some (.lst (nv ((r0.drop k).take 2))) := upd_same
      generalize upd H18 q2 (.lst (nv ((r0.drop k).take 2))) = H19 at t2' oq12 oq2 ⊢
      refine ⟨q2, _, rfl, SqL.of oq2, fun q3 hq3 => ?_⟩
      have er : (nv ((r0.drop k).take 2)).reverse = nv (((r0.drop k).take 2).reverse) := List.map_reverse.symm
      rw [er]
      have t3 := t2'.new (o := .lst (nv (((r0.drop k).take 2).reverse))) hq3
      have oq13 := ((Same.refl H19).new (o := .lst (nv (((r0.drop k).take 2).reverse))) hq3) _ _ oq12
      have oq3 : upd H19 q3 (.lst (nv (((r0.drop k).take 2).reverse))) q3 = some (.lst (nv (((r0.drop k).take 2).reverse))) := upd_same
      generalize upd H19 q3 (.lst (nv (((r0.drop k).take 2).reverse))) = H20 at t3 oq13 oq3 ⊢
      refine ⟨q1, q3, _, _, rfl, rfl, oq13, oq3, by rw [nv_length, nv_length, List.length_take, List.length_reverse, List.length_take]; exact Nat.le_of_lt (szl (by omega)), fun q4 hq4 _ => ?_⟩
      rw [← nv_append]
      have t4 := t3.new (o := .lst (nv (r0.take k ++ ((r0.drop k).take 2).reverse))) hq4
      have oq4 : upd H20 q4 (.lst (nv (r0.take k ++ ((r0.drop k).take 2).reverse))) q4 = some (.lst (nv (r0.take k ++ ((r0.drop k).take 2).reverse))) := upd_same
      generalize upd H20 q4 (.lst (nv (r0.take k ++ ((r0.drop k).take 2).reverse))) = H21 at t4 oq4 ⊢
      -- row[spot + 2:]
      refine ⟨_, rfl, _, rfl, _, _, rfl, rfl, _, rfl, ?_⟩
      dsimp only [tNoPart]
      refine ⟨p1, _, rfl, SqL.of (t4 _ _ o17), fun q5 hq5 => ?_⟩
      rw [show (k : Int) + 2 = ((k + 2 : Nat) : Int) by omega, cut_from, nv_drop]
      have t5 := t4.new (o := .lst (nv (r0.drop (k + 2)))) hq5
      have oq45 := ((Same.refl H21).new (o := .lst (nv (r0.drop (k + 2)))) hq5) _ _ oq4
      have oq5 : upd H21 q5 (.lst (nv (r0.drop (k + 2)))) q5 = some (.lst (nv (r0.drop (k + 2)))) := upd_same
      generalize upd H21 q5 (.lst (nv (r0.drop (k + 2)))) = H22 at t5 oq45 oq5 ⊢
      refine ⟨q4, q5, _, _, rfl, rfl, oq45, oq5, by simp only [nv_length, List.length_append, List.length_take, List.length_reverse, List.length_drop]; exact Nat.le_of_lt (szl (by omega)), fun q6 hq6 nq6s => ?_⟩
      rw [← nv_append]
      have t6 := t5.new (o := .lst (nv (r0.take k ++ ((r0.drop k).take 2).reverse ++ r0.drop (k + 2)))) hq6
      have oq6 : upd H22 q6 (.lst (nv (r0.take k ++ ((r0.drop k).take 2).reverse ++ r0.drop (k + 2)))) q6 = some (.lst (nv (r0.take k ++ ((r0.drop k).take 2).reverse ++ r0.drop (k + 2)))) := upd_same
      have hq617 : H17 q6 = none := t5.free hq6
      generalize upd H22 q6 (.lst (nv (r0.take k ++ ((r0.drop k).take 2).reverse ++ r0.drop (k + 2)))) = H23 at t6 oq6 ⊢
      have S23 := S17.same t6
      have nq := S17.w.ne hq617
      obtain ⟨o6, l6⟩ := ord_perm (swapL (r := r0) (k := k)) o0
      refine ⟨_, q6, _, rfl, (S23.row oq6 (keep_free S17.kp nq hq617) nq (fun z => by rw [z, S17.hR] at hq617; cases hq617) (fun z => ?_) (fun z => by rw [z, S17.hl] at hq617; cases hq617) nq6s).mono (by omega), RowW.full o6 (by rw [l6, lr0])⟩
      obtain ⟨x, ex⟩ := List.getElem?_of_mem z
      obtain ⟨g, _, _, hg⟩ := S17.wr.get2 ex
      rw [hq617] at hg; cases hg
    rintro σ' H14 ⟨v10, p, r, rfl, S14, W14⟩
    clear S13 S12 s4 oT4 sl op2 ol npl nlw hT4 hl
    -- while len(row) < size
    refine ⟨fun m σ H' => ∃ (l : Addr) (r lf : List Nat) (v11 : Option V), σ = [some (.ref wl), some (.int (size : Int)), some (.int (most : Int)), some (.ref t2), some (.int way), v5, some (.ref R), some (.int (i : Int)), some (.ref p), some (.ref l), v10, v11, none] ∧ LS H H' wl t2 R p l gs as rs r lf (n + 600 + 40 * i + 2 + r.length) ∧ RowW gs way size r lf ∧ m = size - r.length,
      ⟨_, l, r, _, v11, rfl, S14.mono (by omega), W14, rfl⟩, ?_⟩
    rintro m σ H15 ⟨l, r, lf, v11, rfl, S, W, rfl⟩
    have hnr : (nv r).length = r.length := nv_length r
    have wlen := W.len
    refine ⟨_, rfl, _, _, rfl, .inl ⟨_, SqL.of S.hr, rfl⟩, _, rfl, _, _, rfl, rfl, _, rfl, ite2 (fun c => ?_) (fun c => ?_)⟩
    · have cl : r.length < size := by
        have z := of_decide_eq_true c
        rw [hnr] at z; omega
      have llf : lf.length ≤ 30 := by
        rw [(W.go cl).1]
        have z := List.length_filter_le (fun o => decide (o ∉ r)) (List.range size)
        rw [List.length_range] at z; omega
      refine ⟨fun σ' H' => ∃ m', m' < size - r.length ∧ ∃ (l : Addr) (r lf : List Nat) (v11 : Option V), σ' = [some (.ref wl), some (.int (size : Int)), some (.int (most : Int)), some (.ref t2), some (.int way), v5, some (.ref R), some (.int (i : Int)), some (.ref p), some (.ref l), v10, v11, none] ∧ LS H H' wl t2 R p l gs as rs r lf (n + 600 + 40 * i + 2 + r.length) ∧ RowW gs way size r lf ∧ m' = size - r.length, fun _ _ h => h, ?_⟩
      -- ready_here
      refine ⟨_, rfl, l, rfl, ⟨_, SqL.of S.hl⟩, fun G hG => lc_nat (rdy gs way r) S.hl (by omega) hG (fun _ => rfl) (fun _ _ _ q => ⟨_, rfl, q⟩) (fun o H2 Q' mo s2 q => ?_) (fun H16 s16 oG => ?_)⟩
      · have S2 := S.same s2
        have ml : o < gs.length := by
          rw [(W.go cl).1] at mo
          have := List.mem_range.mp (List.mem_filter.mp mo).1
          omega
        obtain ⟨ov, ho⟩ : ∃ ov, gs[o]? = some ov := ⟨_, List.getElem?_eq_getElem ml⟩
        refine ⟨_, rfl, rfl, _, rfl, ite2 (fun c3 => ?_) (fun c3 => ?_)⟩
        · have c3' : way = 3 := V.int.inj (of_decide_eq_true c3)
          have e : rdy gs way r o = true := by unfold rdy; rw [decide_eq_true c3', Bool.true_or]
          rw [← e]; exact q H2 (Same.refl _)
        · have c3' : ¬ way = 3 := fun z => c3 (by rw [z]; exact decide_eq_true rfl)
          refine ⟨_, rfl, _, rfl, t2, _, _, hv ov, rfl, rfl, SqT.of S2.ht, atI_nat (hv_at ho), rfl, _, rfl, ?_⟩
          cases ov with
          | none =>
            have e : rdy gs way r o = true := by unfold rdy; rw [ho, Bool.or_true]
            refine iteT' (decide_eq_true rfl) ?_
            rw [← e]; exact q H2 (Same.refl _)
          | some u =>
            have e : rdy gs way r o = decide (u ∈ r) := by unfold rdy; rw [ho, decide_eq_false c3', Bool.false_or]
            refine iteF' (decide_eq_false (show ¬ hv (some u) = V.non from fun z => by cases z)) ?_
            refine ⟨_, rfl, _, rfl, t2, _, _, hv (some u), rfl, rfl, SqT.of S2.ht, atI_nat (hv_at ho), _, rfl, p, _, rfl, .inl (SqL.of S2.hr), rfl, flat_nv _, decide (u ∈ r), congrArg V.bl (inV_nv _ _), ?_⟩
            rw [← e]; exact q H2 (Same.refl _)
      have S16 := S.same s16
      have rd := W.ready fo lg2 cl
      have lG := List.length_filter_le (rdy gs way r) lf
      have nGw : G ≠ wl := S.w.ne hG
      -- row.append(ready_here[draw])
      refine ⟨_, rfl, .inl ⟨rfl, _, SqL.of S16.hr⟩, _, rfl, _, rfl, _, rfl, _, _, rfl, .inl ⟨_, SqL.of oG, rfl⟩, wl, _, _, rfl, S16.w, by omega, by rw [nv_length]; omega, by rw [nv_length]; omega, fun d H17 d0 d1 k17 w17 => ?_⟩
      rw [nv_length] at d1
      obtain ⟨j, rfl⟩ : ∃ j : Nat, d = (j : Int) := ⟨d.toNat, by omega⟩
      have S17 := S16.draw k17 w17
      obtain ⟨v, ev⟩ : ∃ v, (lf.filter (rdy gs way r))[j]? = some v := ⟨_, List.getElem?_eq_getElem (by omega)⟩
      have mv := List.mem_of_getElem? ev
      refine ⟨G, _, _, .int (v : Int), rfl, rfl, SqL.of (k17 _ _ nGw oG), atI_nat (nv_get ev), p, _, _, rfl, rfl, S17.hr, by rw [hnr]; exact szl (by omega), ?_⟩
      have ex : nv r ++ [V.int (v : Int)] = nv (r ++ [v]) := by rw [nv_append]; rfl
      rw [ex]
      have S18 : LS H _ wl t2 R p l gs as rs (r ++ [v]) lf _ := S17.put (r2 := r ++ [v])
      generalize upd H17 p (.lst (nv (r ++ [v]))) = H18 at S18 ⊢
      -- left
      refine ⟨_, rfl, l, rfl, ⟨_, SqL.of S18.hl⟩, fun G2 hG2 => lc_nat (fun o : Nat => !decide (V.int (o : Int) = V.int (v : Int))) S18.hl (by omega) hG2 (fun _ => rfl) (fun _ _ _ q => ⟨_, rfl, q⟩) (fun o H2 Q' mo s2 q => ?_) (fun H19 s19 oG2 => ?_)⟩
      · have S2 := S18.same s2
        have a1 : atI (nv (r ++ [v])) (-1) = some (V.int (v : Int)) := by rw [nv_append]; exact L2.atI_last (nv r) (V.int (v : Int))
        exact ⟨_, rfl, _, rfl, _, rfl, p, _, _, .int (v : Int), rfl, rfl, SqL.of S2.hr, a1, rfl, _, rfl, q _ (Same.refl _)⟩
      have nG2p : p ≠ G2 := fun z => by rw [← z, S18.hr] at hG2; cases hG2
      have S19 := (S18.same s19).left oG2 nG2p (S18.w.ne hG2)
      have ef : (lf.filter fun o : Nat => !decide (V.int (o : Int) = V.int (v : Int))) = lf.filter fun o : Nat => !decide (o = v) := List.filter_congr fun o _ => by
        have e : decide (V.int (o : Int) = V.int (v : Int)) = decide (o = v) := by
          rw [decide_eq_decide]
          exact ⟨fun z => by have := V.int.inj z; omega, fun z => by rw [z]⟩
        rw [e]
      rw [ef] at S19
      refine ⟨_, ?_, G2, r ++ [v], _, _, rfl, S19.mono (by rw [List.length_append]; exact Nat.le_refl _), W.step cl mv, rfl⟩
      rw [List.length_append]
      show size - (r.length + 1) < _
      omega
    have esr : r.length = size := by
      by_cases y : r.length < size
      · exact absurd (decide_eq_true (by rw [hnr]; omega)) c
      · omega
    have or' : OrdL r := ⟨W.nd, fun v h => by rw [esr]; exact W.lt v h⟩
    -- rows.append(row)
    refine ⟨_, rfl, .inl ⟨rfl, _, SqL.of S.hR⟩, _, rfl, R, _, _, rfl, rfl, S.hR, by rw [List.length_map, S.wr.len]; exact szl (by omega), ?_⟩
    have lra := S.wr.len
    have eR : as.map V.ref ++ [V.ref p] = (as ++ [p]).map V.ref := by rw [List.map_append]; rfl
    rw [eR]
    have k20 := keep_upd (o := .lst ((as ++ [p]).map V.ref)) S.kp hRn
    have w20 := S.w.updN (o := .lst ((as ++ [p]).map V.ref)) nR
    have ht20' : upd H15 R (.lst ((as ++ [p]).map V.ref)) t2 = some (.tup (gs.map hv)) := (upd_ne (show t2 ≠ R from fun z => by
      have y := S.ht
      rw [z, S.hR] at y; cases y)).trans S.ht
    have oR20 : upd H15 R (.lst ((as ++ [p]).map V.ref)) R = some (.lst ((as ++ [p]).map V.ref)) := upd_same
    have op20 : upd H15 R (.lst ((as ++ [p]).map V.ref)) p = some (.lst (nv r)) := (upd_ne S.pR).trans S.hr
    have wr20 : Rws (upd H15 R (.lst ((as ++ [p]).map V.ref))) (as ++ [p]) (rs ++ [r]) := (S.wr.but nRa).grow op20
    generalize upd H15 R (.lst ((as ++ [p]).map V.ref)) = H20 at k20 w20 ht20' oR20 op20 wr20 ⊢
    have ord2 : ∀ x ∈ rs ++ [r], OrdL x ∧ x.length = size := fun x hx => by
      rcases List.mem_append.mp hx with hx | hx
      · exact ord x hx
      · rw [List.mem_singleton.mp hx]; exact ⟨or', esr⟩
    have nR2 : R ∉ as ++ [p] := fun z => (List.mem_append.mp z).elim nRa fun z => S.pR (List.mem_singleton.mp z).symm
    have aw2 : ∀ a ∈ as ++ [p], a ≠ wl := fun a ha => by
      rcases List.mem_append.mp ha with ha | ha
      · exact aw a ha
      · rw [List.mem_singleton.mp ha]; exact S.pw
    have asy2 : ∀ a ∈ as ++ [p], a ≠ sysModules := fun a ha => by
      rcases List.mem_append.mp ha with ha | ha
      · exact asy a ha
      · rw [List.mem_singleton.mp ha]; exact S.ps
    have l3 : (rs ++ [r]).length = rs.length + 1 := by rw [List.length_append]; rfl
    -- if draw == 0: rows.append(list(row))
    refine ⟨_, rfl, wl, _, _, rfl, w20, by omega, by decide, by decide, fun d H21 _ _ k21 w21 => ⟨rfl, _, rfl, ite2 (fun c2 => ?_) (fun c2 => ?_)⟩⟩
    · have oR21 := k21 _ _ nR oR20
      have op21 := k21 _ _ S.pw op20
      have wr21 := rws_keep wr20 k21 aw2
      refine ⟨_, rfl, .inl ⟨rfl, _, SqL.of oR21⟩, _, rfl, p, _, rfl, .inl (SqL.of op21), fun p2 hp2 np2s => ?_⟩
      have s22 := (Same.refl H21).new (o := .lst (nv r)) hp2
      have op2 : upd H21 p2 (.lst (nv r)) p2 = some (.lst (nv r)) := upd_same
      have np2w := w21.ne hp2
      have np2R : p2 ≠ R := fun z => by rw [z, oR21] at hp2; cases hp2
      generalize upd H21 p2 (.lst (nv r)) = H22 at s22 op2 ⊢
      refine ⟨R, _, _, rfl, rfl, s22 _ _ oR21, by rw [List.length_map, List.length_append, lra]; exact szl (by show rs.length + 1 ≤ 1000; omega), ?_⟩
      have eR2 : (as ++ [p]).map V.ref ++ [V.ref p2] = (as ++ [p] ++ [p2]).map V.ref := by rw [List.map_append (l₁ := as ++ [p])]; rfl
      rw [eR2]
      refine ⟨v5, _, _, _, _, _, as ++ [p] ++ [p2], rs ++ [r] ++ [r], rfl, keep_upd ((k20.trans k21).trans s22.keep) hRn, ((w21.same s22).updN nR).mono (by omega), ?_, upd_same, ?_, ?_, by rw [List.length_append, l3]; show i + 1 ≤ rs.length + 1 + 1; omega, by rw [List.length_append, l3]; show rs.length + 1 + 1 ≤ 2 * (i + 1); omega, ?_, ?_, ?_⟩
      · have y := s22 _ _ (k21 _ _ nt2 ht20')
        exact (upd_ne (fun z => by rw [z, s22 _ _ oR21] at y; cases y)).trans y
      · exact (((wr21.same s22).but nR2).grow ((upd_ne np2R).trans op2))
      · intro x hx
        rcases List.mem_append.mp hx with hx | hx
        · exact ord2 x hx
        · rw [List.mem_singleton.mp hx]; exact ⟨or', esr⟩
      · exact fun z => (List.mem_append.mp z).elim nR2 fun z => np2R (List.mem_singleton.mp z).symm
      · intro a ha
        rcases List.mem_append.mp ha with ha | ha
        · exact aw2 a ha
        · rw [List.mem_singleton.mp ha]; exact np2w
      · intro a ha
        rcases List.mem_append.mp ha with ha | ha
        · exact asy2 a ha
        · rw [List.mem_singleton.mp ha]; exact np2s
    · exact ⟨v5, _, _, _, _, _, as ++ [p], rs ++ [r], rfl, k20.trans k21, w21.mono (by omega), k21 _ _ nt2 ht20', k21 _ _ nR oR20, rws_keep wr20 k21 aw2, ord2, by omega, by omega, nR2, aw2, asy2⟩
  · rintro σ H9 ⟨v5, v7, v8, v9, v10, v11, as, rs, rfl, k9, w9, ht9, oR9, wr, ord, l1, l2, nRa, aw, asy⟩
    exact ⟨_, rfl, q R as rs H9 k9 (w9.mono (by omega)) ⟨oR9, wr, by omega, by omega, z1, by omega, ord⟩ nR aw nRs asy (by omega)⟩
end

end My

namespace My
open PySem PySem.Spec PyProof.Rows L2
/-- the last of the given by the first list -/
def nr (r g : List Nat) : Option Nat := (r.filter fun m => decide (m ∈ g)).getLast?
theorem nr_some {r g : List Nat} {u : Nat} (nd : r.Nodup) (hu : u ∈ r) (hg : u ∈ g) (mx : ∀ x ∈ r, x ∈ g → r.idxOf x ≤ r.idxOf u) : nr r g = some u := by
  have hL : u ∈ r.filter fun m => decide (m ∈ g) := List.mem_filter.mpr ⟨hu, decide_eq_true hg⟩
  have sL : (r.filter fun m => decide (m ∈ g)).Sublist r := List.filter_sublist
  have mL : ∀ x ∈ r.filter fun m => decide (m ∈ g), x ∈ r ∧ x ∈ g := fun x hx => ⟨(List.mem_filter.mp hx).1, of_decide_eq_true (List.mem_filter.mp hx).2⟩
  unfold nr
  generalize (r.filter fun m => decide (m ∈ g)) = L at hL sL mL
  obtain ⟨a, b, e⟩ := List.append_of_mem hL
  subst e
  cases b with
  | nil => simp
  | cons y ys =>
    exfalso
    have hz : ∃ z, (y :: ys).getLast? = some z ∧ z ∈ y :: ys := ⟨(y :: ys).getLast (by simp), List.getLast?_eq_some_getLast (by simp), List.getLast_mem _⟩
    obtain ⟨z, _, mz⟩ := hz
    have s1 : [u, z].Sublist (a ++ u :: y :: ys) := ((List.singleton_sublist.mpr mz).cons₂ u).trans (List.sublist_append_right _ _)
    have i1 := sub_idx nd (s1.trans sL)
    have m := mL z (List.mem_append_right _ (List.mem_cons_of_mem _ mz))
    have := mx z m.1 m.2
    omega
theorem nr_none {r g : List Nat} (h : ∀ x ∈ r, ¬ x ∈ g) : nr r g = none := by
  unfold nr
  have e : (r.filter fun m => decide (m ∈ g)) = [] := List.filter_eq_nil_iff.mpr fun x hx z => h x hx (of_decide_eq_true z)
  rw [e]; rfl
/-- the nearest plan -/
def nearH (rs : List (List Nat)) (n : Nat) : Hs := (alws rs n).map (nr (rs.headD []))
theorem near_len (rs : List (List Nat)) (n : Nat) : (nearH rs n).length = n := by unfold nearH; rw [List.length_map, alws_len]
def spLastOne : Sp := fun vs H Q _ => ∃ (p q F : Addr) (r g : List Nat), vs = [.ref p, .ref q, .ref F] ∧ H p = some (.lst (nv r)) ∧ OrdL r ∧ H q = some (.lst (nv (plc r))) ∧ H F = some (.lst (nv g)) ∧ (∀ v ∈ g, v < r.length) ∧ g.length ≤ 60 ∧ r.length ≤ 60 ∧ ∀ H', Same H H' → Q (hv (nr r g)) H'
def spNear : Sp := fun vs H Q _ => ∃ (p : Addr) (as : List Addr) (rs : List (List Nat)) (n : Nat), vs = [.ref p] ∧ ToldR H p as rs n ∧ ∀ r H', Same H H' → H r = none → H' r = some (.tup ((nearH rs n).map hv)) → Q (.ref r) H'
def spNearE (CT : Addr) : Sp := fun vs H Q E => (∃ x, vs = [x] ∧ NoTold CT H x E) ∨ spNear vs H Q E
section
variable {P : Program} {w : World} {K : PySem.W.Frag} {mg : Str → Option Value} {base : Heap} {CT : Addr}
abbrev st__last_one : Stmt := topS 34
abbrev N__last_one : List Str := ["sequence", "place_of", "things", "thing"]
theorem sc__last_one : FnScope N__last_one ["sequence", "place_of", "things"] (defScope st__last_one) := ⟨rfl, rfl, rfl, by decide +kernel, rfl, by decide +kernel, by decide +kernel⟩
theorem ok__last_one (D : Df K mg "_last_one" st__last_one ["sequence", "place_of", "things"]) (B : Bl mg) : Kn P w K mg base CX0 1 "_last_one" st__last_one ["sequence", "place_of", "things"] spLastOne := by
  refine D.ok sc__last_one (fun vs H Q E h => ?_) (fun f cdv A outer s H vs Q E hr h => ?_)
  · obtain ⟨p, q, F, r, g, rfl, _⟩ := h; rfl
  obtain ⟨p, q', F, r, g, rfl, hp, o, hq, hg, lt, l60, r60, q⟩ := h
  refine ⟨_, ((pss_one (ps_ret (pe_ifExp (pt_cmpR op_gt (pe_callB call_len (by rfl) B.len (by decide +kernel) (pa_cons (pv 2) pa_nil)) pe_int (nomark _)) (pe_ix ix_list (pv 0) (pe_callB (cr_max rfl) (by rfl) B.max (by decide +kernel) (pa_cons (pe_lc (own := [("thing", 3)]) (g := gName 3) rfl sc__last_one.nd (pi_list (pv 2)) (blkOk_by (N := N__last_one) (sc := defScope st__last_one) (own := [("thing", 3)]) (by decide +kernel)) (fun _ _ _ _ _ => by (exact (pg_name (i := 3) sc__last_one.nd rfl (Or.inl rfl)))) (fun _ _ _ _ _ => by exact pts_nil) (fun _ _ _ _ _ => by exact (pe_ix (ix_listK K) (pv 1) (pv 3) (fun _ _ => rfl)))) pa_nil)) (fun _ _ => rfl)) pe_non)))), ?_⟩
  refine ⟨_, rfl, _, _, rfl, .inl ⟨_, SqL.of hg, rfl⟩, _, _, rfl, rfl, _, rfl, ite2 (fun c => ?_) (fun c => ?_)⟩
  · have gp : 0 < g.length := by
      have z := of_decide_eq_true c
      rw [nv_length] at z; omega
    have lg : (nv g).length = g.length := nv_length g
    refine ⟨_, rfl, _, rfl, F, rfl, ⟨_, SqL.of hg⟩, fun D2 hD => lc_it (walk_list (xs := nv g)) (fun i H' => Same H H' ∧ H' D2 = some (.lst (nv ((g.take i).map fun v => r.idxOf v)))) ⟨(Same.refl H).new hD, upd_same⟩ (fun i H' _ z => SqL.of (z.1 _ _ hg)) ?_ ?_⟩
    · rintro i y H1 H2 hi ⟨s1, oD⟩ ⟨rfl, e1⟩
      obtain ⟨v, ev, rfl⟩ := nv_at e1
      rw [lg] at hi
      have pv := nv_get (plc_at (r := r) (v := v) (lt v (List.mem_of_getElem? ev)))
      refine ⟨rfl, _, rfl, _, rfl, q', _, _, _, rfl, rfl, SqL.of (s1 _ _ hq), atI_nat pv, _, oD, ?_, s1.upd hD, ?_⟩
      · rw [nv_length, List.length_map, List.length_take]; exact szl (by omega)
      · rw [upd_same, List.take_add_one, ev, List.map_append, nv_append]; rfl
    rintro H1 ⟨s1, oD⟩
    rw [lg, List.take_length] at oD
    refine ⟨D2, (g.map fun v => r.idxOf v).map fun (k : Nat) => (k : Int), rfl, ?_, by rw [List.length_map, List.length_map]; exact gp, fun m hm mx => ?_⟩
    · have e : nv (g.map fun v => r.idxOf v) = ((g.map fun v => r.idxOf v).map fun (k : Nat) => (k : Int)).map V.int := by unfold nv; simp only [List.map_map]; rfl
      rw [← e]; exact SqL.of oD
    obtain ⟨k, hk, rfl⟩ := List.mem_map.mp hm
    obtain ⟨u, hu, rfl⟩ := List.mem_map.mp hk
    have ur : u ∈ r := ord_full o (lt u hu)
    have eN : nr r g = some u := nr_some o.1 ur hu fun x hx hxg => by
      have z := mx ((r.idxOf x : Nat) : Int) (List.mem_map.mpr ⟨_, List.mem_map.mpr ⟨x, hxg, rfl⟩, rfl⟩)
      omega
    have ex : r[r.idxOf u]? = some u := List.getElem?_eq_some_iff.mpr ⟨List.idxOf_lt_length_iff.mpr ur, List.getElem_idxOf _⟩
    have q1 := q H1 s1
    rw [eN] at q1
    exact ⟨p, _, _, _, rfl, rfl, SqL.of (s1 _ _ hp), atI_nat (nv_get ex), q1⟩
  · have g0 : g = [] := by
      cases g with
      | nil => rfl
      | cons x g => exact absurd (decide_eq_true (by rw [nv_length, List.length_cons]; omega)) c
    subst g0
    have q1 := q H (Same.refl H)
    rw [nr_none fun x _ => List.not_mem_nil] at q1
    exact q1
abbrev st_nearest_forest : Stmt := topS 29
abbrev N_nearest_forest : List Str := ["told", "ahead", "place_of", "others"]
theorem sc_nearest_forest : FnScope N_nearest_forest ["told"] (defScope st_nearest_forest) := ⟨rfl, rfl, rfl, by decide +kernel, rfl, by decide +kernel, by decide +kernel⟩
theorem ok_nearest_forest (D : Df K mg "nearest_forest" st_nearest_forest ["told"]) (B : Bl mg) (Kalways_ahead : Kn P w K mg base (L2.CX P w) 7 "always_ahead" st_always_ahead ["told"] (spAheadE CT))
    (K_places : Kn P w K mg base CX0 1 "_places" st__places ["sequence"] spPlaces) (K_last_one : Kn P w K mg base CX0 1 "_last_one" st__last_one ["sequence", "place_of", "things"] spLastOne) :
    Kn P w K mg base (L2.CX P w) 8 "nearest_forest" st_nearest_forest ["told"] (spNearE CT) := by
  refine D.okX sc_nearest_forest (fun vs H Q E h => ?_) (fun f cdv A outer s H vs Q E hr h => ?_)
  · rcases h with ⟨x, rfl, _⟩ | ⟨p, as, rs, n, rfl, _⟩ <;> rfl
  rcases h with ⟨x, rfl, nt⟩ | ⟨p, as, rs, n, rfl, T, q⟩
  all_goals refine ⟨_, ((pss_cons (ps_set (i := 1) sc_nearest_forest.nd rfl (Or.inl rfl) (pe_callF Kalways_ahead (hr.mono (by decide)) (passX (takes_of rfl rfl rfl rfl)) (pa_cons (pv 0) pa_nil)))
      (pss_cons (ps_set (i := 2) sc_nearest_forest.nd rfl (Or.inr rfl) (pe_callF K_places (hr.mono (by decide)) pass0 (pa_cons (pe_ix ix_list (pv 0) pe_int (fun _ _ => rfl)) pa_nil)))
      (pss_one (ps_ret (pe_callTy call_tuple_of (by rfl) B.tuple (by decide +kernel) (pa_cons (pe_lc (own := [("others", 3)]) (g := gName 3) rfl sc_nearest_forest.nd (pi_list (pv 1)) (blkOk_by (N := N_nearest_forest) (sc := defScope st_nearest_forest) (own := [("others", 3)]) (by decide +kernel)) (fun _ _ _ _ _ => by (exact (pg_name (i := 3) sc_nearest_forest.nd rfl (Or.inl rfl)))) (fun _ _ _ _ _ => by exact pts_nil) (fun _ _ _ _ _ => by exact (pe_callF K_last_one (hr.mono (by decide)) pass0 (pa_cons (pe_ix (ix_listK K) (pv 0) pe_int (fun _ _ => rfl)) (pa_cons (pv 2) (pa_cons (pv 3) pa_nil)))))) pa_nil))))))), ?_⟩
  · exact ⟨_, rfl, .inl ⟨x, rfl, nt⟩⟩
  obtain ⟨a0, ea0⟩ : ∃ a0, as[0]? = some a0 := ⟨_, List.getElem?_eq_getElem (by rw [T.rw.len]; exact T.ne)⟩
  obtain ⟨r0, er0, mr0, ha0⟩ := T.rw.get2 ea0
  obtain ⟨o0, lr0⟩ := T.ord r0 mr0
  have hd0 : rs.headD [] = r0 := by
    cases rs with
    | nil => cases er0
    | cons x xs => exact Option.some.inj er0
  have n60 := T.n60
  have eas : (as.map V.ref)[0]? = some (.ref a0) := by rw [List.getElem?_map, ea0]; rfl
  refine ⟨_, rfl, .inr ⟨p, as, rs, n, rfl, T, fun F fs H1 s1 R => ?_⟩⟩
  refine ⟨_, rfl, p, _, _, .ref a0, rfl, rfl, SqL.of (s1 _ _ T.at_), atI_nat (j := 0) eas, a0, r0, rfl, s1 _ _ ha0, o0, by omega, fun C H2 s2 hC hC2 => ?_⟩
  have s12 := s1.trans s2
  have wr := R.rw.same s2
  have hF2 := s2 _ _ R.lst
  have lf : (fs.map V.ref).length = n := by rw [List.length_map, R.rw.len, alws_len]
  refine ⟨_, rfl, F, rfl, ⟨_, SqL.of hF2⟩, fun D2 hD => lc_it (walk_list (xs := fs.map V.ref)) (fun i H' => Same H2 H' ∧ H' D2 = some (.lst ((((alws rs n).take i).map (nr r0)).map hv))) ⟨(Same.refl H2).new hD, upd_same⟩ (fun i H' _ z => SqL.of (z.1 _ _ hF2)) ?_ ?_⟩
  · rintro i y H3 H4 hi ⟨s3, oD⟩ ⟨rfl, e1⟩
    obtain ⟨a, ea, rfl⟩ := ref_atT e1
    obtain ⟨g, eg, mg', hg⟩ := wr.get2 ea
    rw [lf] at hi
    have gl : ∀ v ∈ g, v < n := fun v hv => by
      obtain ⟨j, _, rfl⟩ := List.mem_map.mp mg'
      exact List.mem_range.mp (List.mem_filter.mp hv).1
    have g60 := Nat.le_trans (alws_short g mg') n60
    refine ⟨rfl, _, rfl, p, _, _, .ref a0, rfl, rfl, SqL.of (s3 _ _ (s12 _ _ T.at_)), atI_nat (j := 0) eas, ?_⟩
    refine ⟨_, rfl, _, rfl, a0, C, a, r0, g, rfl, s3 _ _ (s12 _ _ ha0), o0, s3 _ _ hC2, s3 _ _ hg, fun v hv => by rw [lr0]; exact gl v hv, g60, by omega, fun H' s' => ⟨_, s' _ _ oD, ?_, (s3.trans s').upd hD, ?_⟩⟩
    · rw [List.length_map, List.length_map, List.length_take]; exact szl (by omega)
    · rw [upd_same, List.take_add_one, eg, List.map_append, List.map_append]; rfl
  rintro H3 ⟨s3, oD⟩
  rw [lf, List.take_of_length_le (by rw [alws_len]; exact Nat.le_refl _)] at oD
  refine ⟨D2, _, rfl, .inl ⟨SqL.of oD, fun l hl => ?_⟩⟩
  have en : (alws rs n).map (nr r0) = nearH rs n := by unfold nearH; rw [hd0]
  rw [en]
  exact q l _ ((s12.trans s3).new hl) ((s12.trans s3).free hl) upd_same
end

end My

namespace My
open PySem PySem.Spec PyProof.Rows L2
/-! ### the nearest plan -/
theorem nr_mem {r g : List Nat} {u : Nat} (e : nr r g = some u) : u ∈ r ∧ u ∈ g := by
  have m := List.mem_of_getLast? e
  exact ⟨(List.mem_filter.mp m).1, of_decide_eq_true (List.mem_filter.mp m).2⟩
theorem alw_mem {rs : List (List Nat)} {n j m : Nat} : m ∈ alw rs n j ↔ m < n ∧ ∀ r ∈ rs, r.idxOf m < r.idxOf j := by
  unfold alw
  rw [List.mem_filter, List.mem_range, aheadB_iff]
theorem alws_at {rs : List (List Nat)} {n i : Nat} (h : i < n) : (alws rs n)[i]? = some (alw rs n i) := by
  unfold alws
  rw [List.getElem?_map, List.getElem?_range h]; rfl
theorem near_at {rs : List (List Nat)} {n i : Nat} (h : i < n) : (nearH rs n)[i]? = some (nr (rs.headD []) (alw rs n i)) := by
  unfold nearH
  rw [List.getElem?_map, alws_at h]; rfl
theorem okP_row {rs : List (List Nat)} {h : Hs} {n : Nat} (l : h.length = n) (hr : ∀ r ∈ rs, OrdL r ∧ r.length = n) (ok : okP rs h = true) : ∀ r ∈ rs, Row h r := fun r mr => by
  obtain ⟨o, lr⟩ := hr r mr
  exact ⟨o.1, fun v hv => by have := o.2 v hv; omega, fun v u hv e => idx_sub hv (okP_iff.mp ok v u e r mr)⟩
theorem okP_mem {rs : List (List Nat)} {h : Hs} {n : Nat} (l : h.length = n) (hr : ∀ r ∈ rs, OrdL r ∧ r.length = n) (ok : okP rs h = true) : ∀ r ∈ rs, r ∈ rowsAt h h.length := fun r mr =>
  rows_mem.mpr ⟨okP_row l hr ok r mr, by rw [(hr r mr).2, l]⟩
theorem okP_fo {rs : List (List Nat)} {h : Hs} {n : Nat} (l : h.length = n) (n1 : 1 ≤ n) (hr : ∀ r ∈ rs, OrdL r ∧ r.length = n) (ne : rs ≠ []) (ok : okP rs h = true) : Fo h := by
  obtain ⟨r, mr⟩ := List.exists_mem_of_ne_nil _ ne
  exact rows_fo (fun z => by rw [z] at l; rw [← l] at n1; exact absurd n1 (by decide)) (okP_mem l hr ok r mr)
theorem near_ok (rs : List (List Nat)) (n : Nat) : okP rs (nearH rs n) = true := okP_iff.mpr fun o u e r mr => by
  have ho : o < n := by
    have := (List.getElem?_eq_some_iff.mp e).1
    rw [near_len] at this; exact this
  rw [near_at ho] at e
  exact (alw_mem.mp (nr_mem (Option.some.inj e)).2).2 r mr
theorem near_fo {rs : List (List Nat)} {n : Nat} (n1 : 1 ≤ n) (hr : ∀ r ∈ rs, OrdL r ∧ r.length = n) (ne : rs ≠ []) : Fo (nearH rs n) := okP_fo (near_len rs n) n1 hr ne (near_ok rs n)
theorem headD_mem {rs : List (List Nat)} (ne : rs ≠ []) : rs.headD [] ∈ rs := by
  cases rs with
  | nil => exact absurd rfl ne
  | cons r rs => exact List.mem_cons_self
/-- a forest whose rows are the told ones is the nearest -/
theorem near_uniq {rs : List (List Nat)} {h : Hs} {n : Nat} (l : h.length = n) (fo : Fo h) (hr : ∀ r ∈ rs, OrdL r ∧ r.length = n) (ne : rs ≠ []) (sub : ∀ r ∈ rs, r ∈ rowsAt h h.length) (sup : ∀ q ∈ rowsAt h h.length, q ∈ rs) : h = nearH rs n := by
  refine List.ext_getElem? fun i => ?_
  by_cases hi : i < n
  · rw [near_at hi]
    have mr0 := headD_mem ne
    generalize rs.headD [] = r0 at mr0
    obtain ⟨o0, l0⟩ := hr r0 mr0
    obtain ⟨w0, _⟩ := rows_mem.mp (sub r0 mr0)
    have toUp : ∀ m, m ∈ alw rs n i → m ∈ up h i := fun m hm => by
      obtain ⟨m1, m2⟩ := alw_mem.mp hm
      by_cases c : m ∈ up h i
      · exact c
      · have ne' : m ≠ i := fun z => by have := m2 r0 mr0; rw [z] at this; omega
        obtain ⟨q, hq, lt⟩ := not_ahead fo (a := m) (b := i) (by omega) (by omega) ne' c
        have := m2 q (sup q hq)
        omega
    obtain ⟨ov, ho⟩ : ∃ ov, h[i]? = some ov := ⟨_, List.getElem?_eq_getElem (by omega)⟩
    rw [ho]
    cases ov with
    | none =>
      rw [nr_none fun x _ hx => ?_]
      have := toUp x hx
      rw [(fo.ups (show i < h.length by omega)).inj (.root ho)] at this
      cases this
    | some u =>
      have hu := fo.inb i u ho
      have ua : u ∈ alw rs n i := alw_mem.mpr ⟨by omega, fun r mr => by
        obtain ⟨w, lr⟩ := rows_mem.mp (sub r mr)
        exact sub_idx w.nd (w.bh i u (row_full w lr (by omega)) ho)⟩
      rw [nr_some o0.1 (ord_full o0 (by omega)) ua fun x hx hxa => ?_]
      have z := toUp x hxa
      rw [up_cons fo ho] at z
      rcases List.mem_cons.mp z with rfl | z
      · exact Nat.le_refl _
      · exact Nat.le_of_lt (up_ahead fo w0 (ord_full o0 (by omega)) z)
  · rw [List.getElem?_eq_none (by omega), List.getElem?_eq_none (by rw [near_len]; omega)]
/-! ### the different ones of the told -/
def ddF (rs : List (List Nat)) : List (List Nat) := rs.foldl (fun a r => if r ∈ a then a else a ++ [r]) []
theorem ddF_snoc (rs : List (List Nat)) (r : List Nat) : ddF (rs ++ [r]) = if r ∈ ddF rs then ddF rs else ddF rs ++ [r] := by
  unfold ddF
  rw [List.foldl_append]; rfl
theorem dd_all : ∀ (rs a : List (List Nat)), a.Nodup → (rs.foldl (fun a r => if r ∈ a then a else a ++ [r]) a).Nodup ∧ ∀ x, x ∈ rs.foldl (fun a r => if r ∈ a then a else a ++ [r]) a ↔ x ∈ a ∨ x ∈ rs
  | [], a, nd => ⟨nd, fun x => ⟨.inl, fun z => z.elim id fun z => by cases z⟩⟩
  | r :: rs, a, nd => by
    rw [List.foldl_cons]
    by_cases c : r ∈ a
    · rw [if_pos c]
      obtain ⟨h1, h2⟩ := dd_all rs a nd
      refine ⟨h1, fun x => (h2 x).trans ⟨fun z => z.imp id (List.mem_cons_of_mem _), fun z => z.elim .inl fun z => ?_⟩⟩
      rcases List.mem_cons.mp z with rfl | z
      · exact .inl c
      · exact .inr z
    · rw [if_neg c]
      have nd2 : (a ++ [r]).Nodup := List.nodup_append.mpr ⟨nd, by simp, fun x hx y hy => by
        rw [List.mem_singleton.mp hy]
        exact fun z => c (z ▸ hx)⟩
      obtain ⟨h1, h2⟩ := dd_all rs (a ++ [r]) nd2
      refine ⟨h1, fun x => (h2 x).trans ?_⟩
      rw [List.mem_append, List.mem_singleton, List.mem_cons, or_assoc]
theorem dd_nd (rs : List (List Nat)) : (ddF rs).Nodup := (dd_all rs [] List.nodup_nil).1
theorem dd_mem {rs : List (List Nat)} {x : List Nat} : x ∈ ddF rs ↔ x ∈ rs := ((dd_all rs [] List.nodup_nil).2 x).trans ⟨fun z => z.elim (fun z => by cases z) id, .inr⟩
theorem nd_len {α : Type} [DecidableEq α] : ∀ (l m : List α), l.Nodup → (∀ x ∈ l, x ∈ m) → l.length ≤ m.length
  | [], _, _, _ => Nat.zero_le _
  | x :: l, m, nd, h => by
    obtain ⟨h1, h2⟩ := List.nodup_cons.mp nd
    have hx := h x List.mem_cons_self
    have z := nd_len l (m.erase x) h2 fun y hy => (List.mem_erase_of_ne (fun (e : y = x) => h1 (e ▸ hy))).mpr (h y (List.mem_cons_of_mem _ hy))
    rw [List.length_erase_of_mem hx] at z
    have := List.length_pos_of_mem hx
    rw [List.length_cons]; omega
/-! ### rows in their order -/
def zI (r : List Nat) : List Int := r.map fun (v : Nat) => (v : Int)
theorem zI_nv (r : List Nat) : nv r = (zI r).map V.int := by unfold nv zI; rw [List.map_map]; rfl
theorem zI_inj {a b : List Nat} (e : zI a = zI b) : a = b := by
  have z := congrArg (List.map Int.toNat) e
  unfold zI at z
  rw [List.map_map, List.map_map] at z
  have k : (Int.toNat ∘ fun (v : Nat) => (v : Int)) = id := funext fun v => Int.toNat_natCast v
  rw [k, List.map_id, List.map_id] at z
  exact z
theorem lt_app : ∀ {a b : List Int}, a.length = b.length → a < b → ∀ s t : List Int, a ++ s < b ++ t
  | [], [], _, h, _, _ => absurd h (List.lt_irrefl [])
  | [], _ :: _, e, _, _, _ => by cases e
  | _ :: _, [], e, _, _, _ => by cases e
  | x :: a, y :: b, e, h, s, t => by
    rw [List.cons_append, List.cons_append]
    rcases List.cons_lt_cons_iff.mp h with h | ⟨h1, h2⟩
    · exact List.cons_lt_cons_iff.mpr (.inl h)
    · exact List.cons_lt_cons_iff.mpr (.inr ⟨h1, lt_app (Nat.succ.inj e) h2 s t⟩)
theorem lt_end : ∀ (a : List Int) {x y : Int}, x < y → a ++ [x] < a ++ [y]
  | [], x, y, h => List.cons_lt_cons_iff.mpr (.inl h)
  | z :: a, x, y, h => List.cons_lt_cons_iff.mpr (.inr ⟨rfl, lt_end a h⟩)
theorem zI_app (a b : List Nat) : zI (a ++ b) = zI a ++ zI b := List.map_append
theorem rows_lt (hs : Hs) : ∀ k : Nat, (rowsAt hs k).Pairwise fun a b => zI a < zI b
  | 0 => List.pairwise_singleton _ _
  | k + 1 => by
    refine List.pairwise_flatMap.mpr ⟨fun a _ => ?_, ?_⟩
    · unfold ext
      rw [List.pairwise_map]
      refine List.Pairwise.imp (fun {v w} h => ?_) ((List.pairwise_lt_range (n := hs.length)).filter (avB hs a))
      rw [zI_app, zI_app]
      exact lt_end _ (by show (v : Int) < (w : Int); omega)
    · refine List.Pairwise.imp_of_mem (fun {a b} ha hb h x hx y hy => ?_) (rows_lt hs k)
      obtain ⟨v, _, rfl⟩ := List.mem_map.mp hx
      obtain ⟨w, _, rfl⟩ := List.mem_map.mp hy
      rw [zI_app, zI_app]
      refine lt_app ?_ h _ _
      unfold zI
      rw [List.length_map, List.length_map, (rows_mem.mp ha).2, (rows_mem.mp hb).2]
theorem rows_nd (hs : Hs) (k : Nat) : (rowsAt hs k).Nodup := (rows_lt hs k).imp fun {a b} h z => by
  rw [z] at h; exact List.lt_irrefl _ h
theorem rows_sort {hs : Hs} {k : Nat} {S D : List (List Nat)} (pm : S.Perm D) (st : S.Pairwise fun a b => zI a ≤ zI b) : rowsAt hs k = S ↔ (rowsAt hs k).Perm D :=
  ⟨fun e => by rw [e]; exact pm, fun p => List.Perm.eq_of_pairwise (le := fun a b => zI a ≤ zI b) (fun a b _ _ h1 h2 => zI_inj (List.le_antisymm h1 h2)) ((rows_lt hs k).imp fun h => List.le_of_lt h) st (p.trans pm.symm)⟩
/-! ### the forest of the told -/
def foH (rs : List (List Nat)) (n : Nat) : Option Hs := if cntL (nearH rs n) = ((ddF rs).length : Int) then some (nearH rs n) else none
/-- what the law asks of a plan -/
def JP (rs : List (List Nat)) (h : Hs) : Prop := cntL h = ((ddF rs).length : Int) ∧ (rowsAt h h.length).Perm (ddF rs)
theorem jp_near {rs : List (List Nat)} {n : Nat} (n1 : 1 ≤ n) (hr : ∀ r ∈ rs, OrdL r ∧ r.length = n) (ne : rs ≠ []) (e : cntL (nearH rs n) = ((ddF rs).length : Int)) : JP rs (nearH rs n) := by
  refine ⟨e, ?_⟩
  have fo := near_fo n1 hr ne
  rw [cntL_rows fo] at e
  have sub := okP_mem (near_len rs n) hr (near_ok rs n)
  have nd := rows_nd (nearH rs n) (nearH rs n).length
  refine (List.perm_ext_iff_of_nodup nd (dd_nd rs)).mpr fun q => ⟨fun hq => ?_, fun hq => sub q (dd_mem.mp hq)⟩
  by_cases c : q ∈ ddF rs
  · exact c
  · have z := nd_len (q :: ddF rs) (rowsAt (nearH rs n) (nearH rs n).length) (List.nodup_cons.mpr ⟨c, dd_nd rs⟩) fun x hx => by
      rcases List.mem_cons.mp hx with rfl | hx
      · exact hq
      · exact sub x (dd_mem.mp hx)
    rw [List.length_cons] at z; omega
theorem jp_is {rs : List (List Nat)} {n : Nat} {h : Hs} (l : h.length = n) (fo : Fo h) (hr : ∀ r ∈ rs, OrdL r ∧ r.length = n) (ne : rs ≠ []) (j : JP rs h) : foH rs n = some h := by
  have e := near_uniq l fo hr ne (fun r mr => j.2.mem_iff.mpr (dd_mem.mpr mr)) (fun q hq => dd_mem.mp (j.2.mem_iff.mp hq))
  unfold foH
  rw [if_pos (by rw [← e]; exact j.1), ← e]
theorem prod_map (f : List Nat → Option Nat) (hf : ∀ g, f g = none ∨ ∃ u ∈ g, f g = some u) : ∀ gs : List (List Nat), gs.map f ∈ gs.foldl (fun acc g => snocs (none :: g.map some) acc) [[]] := by
  have key : ∀ (gs : List (List Nat)) (acc : List Hs) (h : Hs), h ∈ acc → h ++ gs.map f ∈ gs.foldl (fun acc g => snocs (none :: g.map some) acc) acc := fun gs => by
    induction gs with
    | nil => intro acc h m; rw [List.map_nil, List.append_nil]; exact m
    | cons g gs ih =>
      intro acc h m
      rw [List.foldl_cons, List.map_cons, show h ++ f g :: gs.map f = (h ++ [f g]) ++ gs.map f by rw [List.append_assoc]; rfl]
      refine ih _ _ (List.mem_flatMap.mpr ⟨h, m, List.mem_map.mpr ⟨f g, ?_, rfl⟩⟩)
      rcases hf g with e | ⟨u, hu, e⟩
      · rw [e]; exact List.mem_cons_self
      · rw [e]; exact List.mem_cons_of_mem _ (List.mem_map.mpr ⟨u, hu, rfl⟩)
  exact fun gs => key gs [[]] [] List.mem_cons_self
theorem near_prod (rs : List (List Nat)) (n : Nat) : nearH rs n ∈ prodL (alws rs n) := prod_map _ (fun g => by
  cases e : nr (rs.headD []) g with
  | none => exact .inl rfl
  | some u => exact .inr ⟨u, (nr_mem e).2, rfl⟩) _
theorem prod_ok {rs : List (List Nat)} {n : Nat} {h : Hs} (m : h ∈ prodL (alws rs n)) : h.length = n ∧ okP rs h = true := by
  have e := filter_all rs n n
  have m2 : h ∈ (allP n n).filter (okP rs) := by rw [e]; exact m
  exact ⟨(allP_len n h (List.mem_filter.mp m2).1).1, (List.mem_filter.mp m2).2⟩
theorem jp_none {rs : List (List Nat)} {n : Nat} (n1 : 1 ≤ n) (hr : ∀ r ∈ rs, OrdL r ∧ r.length = n) (ne : rs ≠ []) (no : ∀ h ∈ prodL (alws rs n), ¬ JP rs h) : foH rs n = none := by
  unfold foH
  exact if_neg fun e => no _ (near_prod rs n) (jp_near n1 hr ne e)
/-! ### one list told twice -/
theorem near_twice (r : List Nat) (n : Nat) : nearH [r, r] n = nearH [r] n := by
  unfold nearH alws alw
  rw [List.map_map, List.map_map]
  refine List.map_congr_left fun j _ => ?_
  show nr r _ = nr r _
  congr 1
  refine List.filter_congr fun m _ => ?_
  unfold aheadB
  simp
theorem chain_one {r : List Nat} {n : Nat} (o : OrdL r) (l : r.length = n) (n1 : 1 ≤ n) : cntL (nearH [r] n) = 1 := by
  have hr : ∀ q ∈ [r], OrdL q ∧ q.length = n := fun q hq => by rw [List.mem_singleton.mp hq]; exact ⟨o, l⟩
  have ne : [r] ≠ ([] : List (List Nat)) := by simp
  have fo := near_fo n1 hr ne
  have lh := near_len [r] n
  have idx : ∀ k (h : k < n), r.idxOf (r[k]'(by omega)) = k := fun k h => List.Nodup.idxOf_getElem o.1 k (by omega)
  have one : ∀ q ∈ rowsAt (nearH [r] n) (nearH [r] n).length, q = r := fun q hq => by
    obtain ⟨w, lq⟩ := rows_mem.mp hq
    have inq : ∀ k (h : k < n), r[k]'(by omega) ∈ q := fun k h => row_full w lq (by
      have := o.2 _ (List.getElem_mem (show k < r.length by omega))
      omega)
    have step : ∀ k (h : k + 1 < n), q.idxOf (r[k]'(by omega)) < q.idxOf (r[k + 1]'(by omega)) := fun k h => by
      have lv := o.2 _ (List.getElem_mem (show k + 1 < r.length by omega))
      have lu := o.2 _ (List.getElem_mem (show k < r.length by omega))
      refine sub_idx w.nd (w.bh _ _ (inq (k + 1) h) ?_)
      rw [near_at (by omega)]
      refine congrArg some (nr_some o.1 (List.getElem_mem _) (alw_mem.mpr ⟨by omega, fun q' hq' => ?_⟩) fun x hx hxa => ?_)
      · rw [List.mem_singleton.mp hq', idx k (by omega), idx (k + 1) h]; omega
      · have z := (alw_mem.mp hxa).2 r (List.mem_singleton.mpr rfl)
        rw [idx (k + 1) h] at z
        show r.idxOf x ≤ r.idxOf _
        rw [idx k (by omega)]; omega
    have far : ∀ j k (h : k + j < n), q.idxOf (r[k]'(by omega)) + j ≤ q.idxOf (r[k + j]'(by omega)) := fun j => by
      induction j with
      | zero => intro k h; exact Nat.le_refl _
      | succ j ih =>
        intro k h
        have a := ih k (by omega)
        have b := step (k + j) (by omega)
        have e : r[k + (j + 1)]'(by omega) = r[k + j + 1]'(by omega) := rfl
        rw [e]; omega
    have at_ : ∀ k (h : k < n), q.idxOf (r[k]'(by omega)) = k := fun k h => by
      have a := far k 0 (by omega)
      have b := far (n - 1 - k) k (by omega)
      have c := List.idxOf_lt_length_iff.mpr (inq (k + (n - 1 - k)) (by omega))
      have e : r[0 + k]'(by omega) = r[k]'(by omega) := by congr 1; omega
      rw [e] at a
      omega
    refine List.ext_getElem (by omega) fun k h1 h2 => ?_
    have a := at_ k (by omega)
    have b := List.getElem_idxOf (List.idxOf_lt_length_iff.mpr (inq k (by omega)))
    rw [← b]
    congr 1
    exact a.symm
  have nd := rows_nd (nearH [r] n) (nearH [r] n).length
  have me := okP_mem lh hr (near_ok [r] n) r (List.mem_singleton.mpr rfl)
  rw [cntL_rows fo]
  generalize rowsAt (nearH [r] n) (nearH [r] n).length = L at one nd me
  cases L with
  | nil => cases me
  | cons a L =>
    cases L with
    | nil => rfl
    | cons b L =>
      have ea := one a List.mem_cons_self
      have eb := one b (List.mem_cons_of_mem _ List.mem_cons_self)
      exact absurd (by rw [ea, eb]; exact List.mem_cons_self) (List.nodup_cons.mp nd).1
theorem fo_twice {r : List Nat} {n : Nat} (o : OrdL r) (l : r.length = n) (n1 : 1 ≤ n) : foH [r, r] n = some (nearH [r] n) := by
  have e : ddF [r, r] = [r] := by simp [ddF]
  unfold foH
  rw [near_twice, e, chain_one o l n1]
  exact if_pos rfl

end My

namespace My
open PySem PySem.Spec PyProof.Rows L2
/-! ### {tuple for x in ..} by turns; forest_of -/
theorem ts_it {P : Program} {w : World} {K : PySem.W.Frag} {J : It} {n : Nat} {G : Hp → Prop} {Y : Nat → Hp → V → Hp → Prop} (wk : Walk J n G Y) {g : TG} {tt : TT} {te : TE} {vs : List Nat} {σ : L2.St} {H1 : Hp} {D : Addr} {Qd : Hp → Prop} (Pv : Nat → Hp → Prop) (h0 : Pv 0 (upd H1 D (SetTO P w D []))) (hG : ∀ i H, i ≤ n → Pv i H → G H)
    (hs : ∀ i x H H', i < n → Pv i H → Y i H x H' → g x (wipe σ vs) H' fun σ2 H2 => wipe σ2 vs = wipe σ vs ∧ tt σ2 H2 fun b H3 =>
      if b = true then te σ2 H3 fun y H4 => ∃ (a : Addr) (k : List Int) (L : List Rw), y = .ref a ∧ SqT K H4 a (k.map V.int) ∧ H4 D = some (SetTO P w D L) ∧ (∀ p ∈ L, SqT K H4 p.1 (p.2.map V.int)) ∧ L.length + 1 < 64 ∧
        ∀ L', (k ∈ L.map (·.2) → L' = L) → (k ∉ L.map (·.2) → L'.Perm ((a, k) :: L)) → Pv (i + 1) (upd H4 D (SetTO P w D L')) else Pv (i + 1) H3) (hd : ∀ H, Pv n H → Qd H) :
    ∃ W : Nat → Nat → Hp → Prop, (∃ m, W 0 m (upd H1 D (SetTO P w D []))) ∧ ∀ i m H, W i m H →
      (J.stop i H ∧ Qd H) ∨ (J.go i H ∧ ∃ Nx : Hp → Prop, (∀ H', Nx H' → ∃ m', m' < m ∧ W (i + 1) m' H') ∧ ∀ x H', J.yld i H x H' → g x (wipe σ vs) H' fun σ2 H2 => wipe σ2 vs = wipe σ vs ∧ tt σ2 H2 fun b H3 =>
        if b = true then te σ2 H3 fun y H4 => ∃ (a : Addr) (k : List Int) (L : List Rw), y = .ref a ∧ SqT K H4 a (k.map V.int) ∧ H4 D = some (SetTO P w D L) ∧ (∀ p ∈ L, SqT K H4 p.1 (p.2.map V.int)) ∧ L.length + 1 < 64 ∧
          ∀ L', (k ∈ L.map (·.2) → L' = L) → (k ∉ L.map (·.2) → L'.Perm ((a, k) :: L)) → Nx (upd H4 D (SetTO P w D L')) else Nx H3) := by
  refine ⟨fun i m H => i + m = n ∧ Pv i H, ⟨n, by omega, h0⟩, fun i m H ⟨e, p⟩ => ?_⟩
  have gH := hG i H (by omega) p
  cases m with
  | zero =>
    have ei : i = n := by omega
    subst ei
    exact .inl ⟨wk.stops H gH, hd H p⟩
  | succ m => exact .inr ⟨wk.goes i H (by omega) gH, Pv (i + 1), fun H' p' => ⟨m, Nat.lt_succ_self _, by omega, p'⟩, fun x H' y => hs i x H H' (by omega) p (wk.yields i H x H' (by omega) gH y)⟩
/-- what forest_of answers -/
def HoV (H H' : Hp) (x : V) : Option Hs → Prop
  | none => x = .non
  | some hs => ∃ r, x = .ref r ∧ H r = none ∧ H' r = some (.tup (hs.map hv))
def spForestOf : Sp := fun vs H Q _ => ∃ (p : Addr) (as : List Addr) (rs : List (List Nat)) (n : Nat), vs = [.ref p] ∧ ToldR H p as rs n ∧ ∀ x H', Same H H' → HoV H H' x (foH rs n) → Q x H'
/-- the set's tuples after the first lists -/
structure SetR (H' : Hp) (L : List Rw) (rs : List (List Nat)) : Prop where
  at_ : ∀ p ∈ L, H' p.1 = some (.tup (p.2.map V.int))
  nd : (L.map (·.2)).Nodup
  mem : ∀ k, k ∈ L.map (·.2) ↔ k ∈ rs.map zI
  len : L.length ≤ rs.length
theorem SetR.many {H' : Hp} {L : List Rw} {rs : List (List Nat)} (S : SetR H' L rs) : L.length = (ddF rs).length := by
  have pm : (L.map (·.2)).Perm ((ddF rs).map zI) := (List.perm_ext_iff_of_nodup S.nd (List.Pairwise.map zI (fun a b (h : a ≠ b) z => h (zI_inj z)) (dd_nd rs))).mpr fun k => by
    rw [S.mem, List.mem_map, List.mem_map]
    exact ⟨fun ⟨a, ha, e⟩ => ⟨a, dd_mem.mpr ha, e⟩, fun ⟨a, ha, e⟩ => ⟨a, dd_mem.mp ha, e⟩⟩
  have z := pm.length_eq
  rw [List.length_map, List.length_map] at z
  exact z
theorem SetR.next {H' H4 : Hp} {L L' : List Rw} {rs : List (List Nat)} {r : List Nat} {a : Addr} (S : SetR H' L rs) (k : ∀ p ∈ L, H4 p.1 = H' p.1) (ha : H4 a = some (.tup ((zI r).map V.int))) (c1 : zI r ∈ L.map (·.2) → L' = L) (c2 : zI r ∉ L.map (·.2) → L'.Perm ((a, zI r) :: L)) : SetR H4 L' (rs ++ [r]) := by
  by_cases c : zI r ∈ L.map (·.2)
  · rw [c1 c]
    refine ⟨fun p hp => (k p hp).trans (S.at_ p hp), S.nd, fun q => ?_, by rw [List.length_append]; exact Nat.le_trans S.len (Nat.le_add_right _ _)⟩
    rw [S.mem, List.map_append, List.mem_append]
    refine ⟨.inl, fun z => z.elim id fun z => ?_⟩
    rw [List.mem_singleton.mp z]
    exact (S.mem _).mp c
  · have pm := c2 c
    have pk : (L'.map (·.2)).Perm (zI r :: L.map (·.2)) := pm.map (·.2)
    refine ⟨fun p hp => ?_, pk.nodup_iff.mpr (List.nodup_cons.mpr ⟨c, S.nd⟩), fun q => ?_, ?_⟩
    · rcases List.mem_cons.mp (pm.mem_iff.mp hp) with rfl | z
      · exact ha
      · exact (k p z).trans (S.at_ p z)
    · rw [pk.mem_iff, List.mem_cons, S.mem, List.map_append, List.mem_append]
      refine ⟨fun z => z.elim (fun z => .inr (List.mem_singleton.mpr z)) .inl, fun z => z.elim .inr fun z => .inl (List.mem_singleton.mp z)⟩
    · rw [pm.length_eq, List.length_cons, List.length_append]
      exact Nat.succ_le_succ S.len
def spForestOfE (CT : Addr) : Sp := fun vs H Q E => (∃ x, vs = [x] ∧ NoTold CT H x E) ∨ spForestOf vs H Q E
section
variable {P : Program} {w : World} {K : PySem.W.Frag} {mg : Str → Option Value} {base : Heap} {CT : Addr}
abbrev st_forest_of : Stmt := topS 28
abbrev N_forest_of : List Str := ["told", "nearest", "many", "sequence"]
theorem sc_forest_of : FnScope N_forest_of ["told"] (defScope st_forest_of) := ⟨rfl, rfl, rfl, by decide +kernel, rfl, by decide +kernel, by decide +kernel⟩
theorem ok_forest_of (D : Df K mg "forest_of" st_forest_of ["told"]) (B : Bl mg) (Knearest_forest : Kn P w K mg base (L2.CX P w) 8 "nearest_forest" st_nearest_forest ["told"] (spNearE CT))
    (Kcount_sequences : Kn P w K mg base (L2.CX P w) 8 "count_sequences" st_count_sequences ["forest"] spCnt) : Kn P w K mg base (L2.CX P w) 9 "forest_of" st_forest_of ["told"] (spForestOfE CT) := by
  refine D.okX sc_forest_of (fun vs H Q E h => ?_) (fun f cdv A outer s H vs Q E hr h => ?_)
  · rcases h with ⟨x, rfl, _⟩ | ⟨p, as, rs, n, rfl, _⟩ <;> rfl
  rcases h with ⟨x, rfl, nt⟩ | ⟨p, as, rs, n, rfl, T, q⟩
  all_goals refine ⟨_, ((pss_cons (ps_set (i := 1) sc_forest_of.nd rfl (Or.inl rfl) (pe_callF Knearest_forest (hr.mono (by decide)) (passX (takes_of rfl rfl rfl rfl)) (pa_cons (pv 0) pa_nil)))
      (pss_cons (ps_set (i := 2) sc_forest_of.nd rfl (Or.inl rfl) (pe_callB cr_lenTs (by rfl) B.len (by decide +kernel) (pa_cons (pe_tsc (own := [("sequence", 3)]) (gA := gName 3) rfl hr.units sc_forest_of.nd (pi_list (pv 0)) (blkOk_by (N := N_forest_of) (sc := defScope st_forest_of) (own := [("sequence", 3)]) (by decide +kernel)) (fun _ _ _ _ _ => by (exact (pg_name (i := 3) sc_forest_of.nd rfl (Or.inl rfl)))) (fun _ _ _ _ _ => by exact pts_nil) (fun _ _ _ _ _ => by exact (pe_callTy (call_tuple_ofK K) (by rfl) B.tuple (by decide +kernel) (pa_cons (pv 3) pa_nil)))) pa_nil)))
      (pss_one (ps_ret (pe_ifExp (pt_cmpR op_eq (pe_callF Kcount_sequences (hr.mono (by decide)) (passX (takes_of rfl rfl rfl rfl)) (pa_cons (pv 1) pa_nil)) (pv 2) (nomark _)) (pv 1) pe_non)))))), ?_⟩
  · exact ⟨_, rfl, .inl ⟨x, rfl, nt⟩⟩
  have ne : rs ≠ [] := fun z => by have := T.ne; rw [z] at this; exact absurd this (by decide)
  have m60 := T.many
  have hla : (as.map V.ref).length = rs.length := by rw [List.length_map, T.rw.len]
  refine ⟨_, rfl, .inr ⟨p, as, rs, n, rfl, T, fun r H1 s1 hr0 hr1 => ?_⟩⟩
  refine ⟨_, rfl, p, rfl, ⟨_, SqL.of (s1 _ _ T.at_)⟩, fun D2 hD => ts_it (walk_list (xs := as.map V.ref)) (fun i H' => Same H1 H' ∧ ∃ L, H' D2 = some (SetTO P w D2 L) ∧ SetR H' L (rs.take i)) ⟨(Same.refl H1).new hD, [], upd_same, ⟨(fun p h => by cases h), List.nodup_nil, (fun k => ⟨(fun h => by cases h), (fun h => by cases h)⟩), Nat.le_refl _⟩⟩ (fun i H' _ z => SqL.of (z.1 _ _ (s1 _ _ T.at_))) ?_ ?_⟩
  · rintro i y H2 H3 hi ⟨s2, L, oD, S⟩ ⟨rfl, e1⟩
    obtain ⟨a, ea, rfl⟩ := ref_atT e1
    obtain ⟨g, eg, mg', hg⟩ := T.rw.get2 ea
    rw [hla] at hi
    have hg2 := s2 _ _ (s1 _ _ hg)
    refine ⟨rfl, _, rfl, a, _, rfl, .inl ⟨SqL.of hg2, fun l hl => ?_⟩⟩
    have nl : l ≠ D2 := fun z => by rw [z, oD] at hl; cases hl
    have at_ : ∀ p ∈ L, p.1 ≠ l := fun p hp z => by
      have := S.at_ p hp
      rw [z, hl] at this; cases this
    have atD : ∀ p ∈ L, p.1 ≠ D2 := fun p hp z => by
      have := S.at_ p hp
      rw [z, oD] at this; cases this
    have lk := S.len
    rw [List.length_take] at lk
    refine ⟨l, zI g, L, rfl, SqT.of (by rw [upd_same, zI_nv]), by rw [upd_ne nl.symm]; exact oD, fun p hp => SqT.of (by rw [upd_ne (at_ p hp)]; exact S.at_ p hp), by omega, fun L' c1 c2 => ⟨(s2.new hl).upd hD, L', upd_same, ?_⟩⟩
    rw [List.take_add_one, eg]
    refine S.next (fun p hp => ?_) ?_ c1 c2
    · rw [upd_ne (atD p hp), upd_ne (at_ p hp)]
    · rw [upd_ne nl, upd_same, zI_nv]
  rintro H2 ⟨s2, L, oD, S⟩
  rw [hla, List.take_length] at S
  have ml := S.many
  refine ⟨D2, L, rfl, oD, fun p hp => SqT.of (S.at_ p hp), ?_⟩
  have fo := near_fo T.n1 T.ord ne
  have ln := near_len rs n
  have n60 := T.n60
  refine ⟨_, rfl, r, _, rfl, s2 _ _ hr1, fo, by omega, fun H3 s3 => ?_⟩
  have s13 := s1.trans (s2.trans s3)
  refine ⟨_, rfl, rfl, _, rfl, ite2 (fun c => ?_) (fun c => ?_)⟩
  · refine ⟨_, rfl, q _ H3 s13 ?_⟩
    unfold foH
    rw [if_pos (by rw [← ml]; exact V.int.inj (of_decide_eq_true c))]
    exact ⟨r, rfl, hr0, s3 _ _ (s2 _ _ hr1)⟩
  · refine q _ H3 s13 ?_
    unfold foH
    rw [if_neg (fun z => c (decide_eq_true (by rw [ml, z])))]
    exact rfl
end

end My

namespace My
open PySem PySem.Spec PyProof.Rows L2
/-- the heap without some of its objects (the well, the row that grows) -/
def Off (P : Addr → Bool) (H : Hp) : Hp := fun a => if P a = true then none else H a
theorem Off.at {P : Addr → Bool} {p : Addr} {H : Hp} {o : HO} (n : P p = false) (h : H p = some o) : Off P H p = some o := by
  unfold Off; rw [if_neg (by rw [n]; exact Bool.false_ne_true)]; exact h
theorem Off.keep {P : Addr → Bool} {wl : Addr} {H H' : Hp} (k : Keep wl H H') (pw : P wl = true) : Same (Off P H) (Off P H') := fun b o h => by
  unfold Off at h ⊢
  by_cases c : P b = true
  · rw [if_pos c] at h; cases h
  · rw [if_neg c] at h ⊢
    exact k b o (fun e => c (by rw [e]; exact pw)) h
theorem Off.same {P : Addr → Bool} {H : Hp} : Same (Off P H) H := fun b o h => by
  unfold Off at h
  by_cases c : P b = true
  · rw [if_pos c] at h; cases h
  · rw [if_neg c] at h; exact h
theorem Off.upd {P : Addr → Bool} {H : Hp} {a : Addr} {o : HO} (pa : P a = true) : Same (Off P H) (Off P (upd H a o)) := Off.keep (Keep.upd a H o) pa
theorem ne_P {P : Addr → Bool} {wl p : Addr} (pw : P wl = true) (n : P p = false) : p ≠ wl := fun e => by rw [e, pw] at n; cases n
theorem catA_w {K : PySem.W.Frag} {H : Hp} {a b : Addr} {P : Addr → Bool} {xs ys : List V} {Q : VK} (ha : H a = some (.tup xs)) (hb : H b = some (.tup ys)) (na : P a = false) (nb : P b = false) (hz : xs.length + ys.length ≤ 1000) (pn : ∀ a, H a = none → P a = false)
    (q : ∀ p H', Same H H' → P p = false → H' p = some (.tup (xs ++ ys)) → Q (.ref p) H') : rCatA K (.ref a) (.ref b) H Q := by
  refine ⟨a, b, xs, ys, rfl, rfl, SqT.of ha, SqT.of hb, Nat.le_of_lt (szl hz), fun e => ?_, fun _ e => ?_, fun _ _ p hp => q p _ ((Same.refl H).new hp) (pn p hp) upd_same⟩
  · subst e; exact q b H (Same.refl H) nb hb
  · subst e; exact q a H (Same.refl H) na (by rw [List.append_nil]; exact ha)
theorem slA_w {K : PySem.W.Frag} {H : Hp} {t : Addr} {P : Addr → Bool} {xs : List V} {lo hi : Option Int} {Q : VK} (h : H t = some (.tup xs)) (nt : P t = false) (pn : ∀ a, H a = none → P a = false) (q : ∀ p H', Same H H' → P p = false → H' p = some (.tup (cutV xs lo hi)) → Q (.ref p) H') : rSlA K (.ref t) lo hi H Q :=
  ⟨t, xs, rfl, SqT.of h, fun c => q t H (Same.refl H) nt (by rw [cut_whole xs c]; exact h), fun _ p hp => q p _ ((Same.refl H).new hp) (pn p hp) upd_same⟩
/-- what can be shown, a little larger -/
structure Md (d : PyData) : Prop where
  ok : d.showable = true
  short : d.leavesShort 100 = true
  bulk : d.bulk ≤ 2000
  deep : d.depth ≤ 20
theorem Small.md {d : PyData} (s : Small d) : Md d := ⟨s.ok, s.short, Nat.le_trans s.bulk (by decide), Nat.le_trans s.deep (by decide)⟩
theorem md_big : Md (.int ((10 : Int) ^ (39 : Int).toNat)) := ⟨by decide +kernel, by decide +kernel, Nat.zero_le _, Nat.zero_le _⟩
theorem md_gib : Md (.int (0 - (10 : Int) ^ (39 : Int).toNat)) := ⟨by decide +kernel, by decide +kernel, Nat.zero_le _, Nat.zero_le _⟩
theorem small_s0 : Small (.str "0") := ⟨by decide +kernel, by decide +kernel, by decide +kernel, by decide +kernel⟩
theorem small_s1 : Small (.str "-") := ⟨by decide +kernel, by decide +kernel, by decide +kernel, by decide +kernel⟩
theorem small_s2 : Small (.str "") := ⟨by decide +kernel, by decide +kernel, by decide +kernel, by decide +kernel⟩
theorem small_t0 : Small (.tuple [.int 0]) := ⟨by decide +kernel, by decide +kernel, by decide +kernel, by decide +kernel⟩
theorem small_l0 : Small (.list [.int 0]) := ⟨by decide +kernel, by decide +kernel, by decide +kernel, by decide +kernel⟩
theorem small_ln : Small (.list [.none]) := ⟨by decide +kernel, by decide +kernel, by decide +kernel, by decide +kernel⟩
theorem small_d0 : Small (.dict []) := ⟨by decide +kernel, by decide +kernel, by decide +kernel, by decide +kernel⟩
theorem md_tuple {ds : List PyData} (h : ∀ d ∈ ds, Small d) (hl : ds.length ≤ 60) : Md (.tuple ds) := by
  obtain ⟨a, b, c, e⟩ := small_all ds h
  exact ⟨by rw [PyData.showable]; exact a, by rw [PyData.leavesShort]; exact b, by rw [PyData.bulk]; omega, by rw [PyData.depth]; omega⟩
theorem md_list {ds : List PyData} (h : ∀ d ∈ ds, Small d) (hl : ds.length ≤ 60) : Md (.list ds) := by
  obtain ⟨a, b, c, e⟩ := small_all ds h
  exact ⟨by rw [PyData.showable]; exact a, by rw [PyData.leavesShort]; exact b, by rw [PyData.bulk]; omega, by rw [PyData.depth]; omega⟩
theorem md_inner {ds : List PyData} (h : ∀ d ∈ ds, Small d) (hl : ds.length ≤ 60) : Md (.tuple [.tuple ds]) := by
  obtain ⟨a, b, c, e⟩ := small_all ds h
  refine ⟨?_, ?_, ?_, ?_⟩
  · rw [PyData.showable, PyData.showableAll, PyData.showable, a]; rfl
  · rw [PyData.leavesShort, PyData.leavesShortAll, PyData.leavesShort, b]; rfl
  · rw [PyData.bulk, PyData.bulkAll, PyData.bulk, PyData.bulkAll]; omega
  · rw [PyData.depth, PyData.depthAll, PyData.depth, PyData.depthAll]; omega
theorem md_row : ∀ ds : List PyData, (∀ d ∈ ds, Md d) → PyData.showableAll ds = true ∧ PyData.leavesShortAll 100 ds = true ∧ PyData.bulkAll ds ≤ 2001 * ds.length ∧ PyData.depthAll ds ≤ 20
  | [], _ => ⟨rfl, rfl, Nat.le_refl _, Nat.zero_le _⟩
  | d :: ds, h => by
    obtain ⟨a, b, c, e⟩ := md_row ds fun x hx => h x (List.mem_cons_of_mem _ hx)
    have k := h d List.mem_cons_self
    refine ⟨by rw [PyData.showableAll, k.ok, a]; rfl, by rw [PyData.leavesShortAll, k.short, b]; rfl, ?_, ?_⟩
    · rw [PyData.bulkAll, List.length_cons]
      have := k.bulk
      omega
    · rw [PyData.depthAll]
      exact Nat.max_le.mpr ⟨k.deep, e⟩
theorem shows_row {ds : List PyData} (h : ∀ d ∈ ds, Md d) (hl : ds.length ≤ 10) : Shows (.list ds) := by
  obtain ⟨a, b, c, e⟩ := md_row ds h
  exact shows_of (by rw [PyData.showable]; exact a) (by rw [PyData.leavesShort]; exact b) (by rw [PyData.bulk]; omega) (by rw [PyData.depth]; omega)
theorem Rps.app {z : Bool} {H : Hp} : ∀ {xs : List V} {ds : List PyData} {ys : List V} {es : List PyData}, Rps z H xs ds → Rps z H ys es → Rps z H (xs ++ ys) (ds ++ es)
  | _, _, _, _, .nil, b => b
  | _, _, _, _, .cons h r, b => .cons h (Rps.app r b)
/-- no forest: some things hold one another in a ring -/
theorem noF_ring {H : Hp} {x : V} {hs : Hs} (h : tupAt H x = some (hs.map hv)) (S : Nat → Prop) {v0 : Nat} (h0 : S v0) (hl : v0 < hs.length) (cl : ∀ v, S v → ∃ u, hs[v]? = some (some u) ∧ S u) : ¬ IsF H x := fun ⟨hs', e, fo⟩ => by
  rw [h] at e
  have z := hv_inj (Option.some.inj e)
  subst z
  have no : ∀ v, Rch hs v → ¬ S v := fun v r => by
    induction r with
    | root h1 =>
      intro s
      obtain ⟨u, e1, _⟩ := cl _ s
      rw [h1] at e1; cases e1
    | step h1 _ ih =>
      intro s
      obtain ⟨u, e1, s1⟩ := cl _ s
      rw [h1] at e1
      have := Option.some.inj (Option.some.inj e1)
      exact ih (by rw [this]; exact s1)
  exact no v0 (fo.all v0 hl) h0

theorem cut_init (xs : List V) : cutV xs none (some (-1)) = xs.take (xs.length - 1) := by
  unfold cutV
  have e : HT.sIx xs.length xs.length (some (-1)) = xs.length - 1 := by
    show (if (-1 : Int) < 0 then ((-1 : Int) + (xs.length : Int)).toNat else min (-1 : Int).toNat xs.length) = _
    rw [if_pos (by decide)]; omega
  rw [e, HT.sIx_none, List.drop_zero, Nat.sub_zero]
theorem cut_end (xs : List V) : cutV xs (some (-1)) none = xs.drop (xs.length - 1) := by
  unfold cutV
  have e : HT.sIx xs.length 0 (some (-1)) = xs.length - 1 := by
    show (if (-1 : Int) < 0 then ((-1 : Int) + (xs.length : Int)).toNat else min (-1 : Int).toNat xs.length) = _
    rw [if_pos (by decide)]; omega
  rw [e, HT.sIx_none, List.take_of_length_le (by rw [List.length_drop]; omega)]
theorem cut_from_one (xs : List V) : cutV xs (some 1) none = xs.drop 1 := cut_from xs 1
theorem cut_to_one (xs : List V) : cutV xs none (some 1) = xs.take 1 := cut_to xs 1

/-! ### odd values of told lists -/
theorem rps_nt {z : Bool} {H : Hp} : ∀ l : List Nat, Rps z H (nv l) (nD l)
  | [] => .nil
  | x :: l => .cons (.int (x : Int)) (rps_nt l)
/-- an item of a list -/
structure ItV (H : Hp) (z : V) : Prop where
  vd : Vd H z
  rp : ∃ d, Small d ∧ Rp true H z d
theorem ItV.int {H : Hp} {i : Int} (h : i.natAbs < 10 ^ 12) : ItV H (.int i) := ⟨.int i, _, small_int h, .int i⟩
theorem ItV.nat {H : Hp} {v : Nat} (h : v ≤ 1000) : ItV H (.int (v : Int)) := .int (by
  have z : (10 : Nat) ^ 12 = 1000000000000 := by decide
  omega)
theorem ItV.big {H : Hp} : ItV H (.int ((10 : Int) ^ (39 : Int).toNat)) := ⟨.int _, _, ⟨by decide +kernel, by decide +kernel, Nat.zero_le _, Nat.zero_le _⟩, .int _⟩
theorem ItV.same {H H' : Hp} {z : V} (b : ItV H z) (s : Same H H') : ItV H' z := ⟨b.vd.same s, by
  obtain ⟨d, sd, r⟩ := b.rp
  exact ⟨d, sd, Rp.same s _ _ r⟩⟩
/-- a value among told lists that isn't a right list of m things -/
structure BtV (H : Hp) (m : Nat) (v : V) : Prop where
  ov : OrV H v
  no : ∀ l, lstAt H v = some (nv l) → OrdL l → l.length = m → False
  rp : ∃ d, Md d ∧ Rp true H v d
theorem BtV.same {H H' : Hp} {m : Nat} {v : V} (b : BtV H m v) (s : Same H H') : BtV H' m v := ⟨b.ov.same s, fun l e => by
  rw [b.ov.vd.lstAt_same s] at e
  exact b.no l e, by
  obtain ⟨d, md, r⟩ := b.rp
  exact ⟨d, md, Rp.same s _ _ r⟩⟩
theorem bt_list {H : Hp} {a : Addr} {xs : List V} {m : Nat} (h : H a = some (.lst xs)) (na : a ≠ sysModules) (hl : xs.length ≤ 60) (it : ∀ z ∈ xs, ItV H z) (no : ∀ l, xs = nv l → OrdL l → l.length = m → False) : BtV H m (.ref a) := by
  refine ⟨⟨.lst h, fun ys e => ?_⟩, fun l e => ?_, ?_⟩
  · rw [lstAt_lst h] at e
    cases e
    exact ⟨hl, fun z hz => (it z hz).vd⟩
  · rw [lstAt_lst h] at e
    exact no l (Option.some.inj e)
  · have key : ∀ ys : List V, (∀ z ∈ ys, ItV H z) → ∃ ds : List PyData, ds.length = ys.length ∧ (∀ d ∈ ds, Small d) ∧ Rps true H ys ds := fun ys => by
      induction ys with
      | nil => exact fun _ => ⟨[], rfl, (fun d hd => absurd hd List.not_mem_nil), .nil⟩
      | cons z ys ih =>
        intro k
        obtain ⟨d, sd, r⟩ := (k z List.mem_cons_self).rp
        obtain ⟨ds, el, sds, rs⟩ := ih fun y hy => k y (List.mem_cons_of_mem _ hy)
        exact ⟨d :: ds, by rw [List.length_cons, List.length_cons, el], fun e he => (List.mem_cons.mp he).elim (fun q => by rw [q]; exact sd) (sds e), .cons r rs⟩
    obtain ⟨ds, el, sd, r⟩ := key xs it
    exact ⟨_, md_list sd (by omega), .lst h (fun _ => na) r⟩
theorem bt_none {H : Hp} {v : V} {m : Nat} (vd : Vd H v) (e : lstAt H v = none) (rp : ∃ d, Md d ∧ Rp true H v d) : BtV H m v := ⟨⟨vd, (fun ys z => by rw [e] at z; cases z)⟩, (fun l z => by rw [e] at z; cases z), rp⟩
theorem bt_tup {H : Hp} {a : Addr} {o : List Nat} {m : Nat} (h : H a = some (.tup (nv o))) (hl : o.length ≤ 60) (lt : ∀ v ∈ o, v ≤ 1000) : BtV H m (.ref a) := by
  refine bt_none (.tup h) (by simp only [lstAt, h]) ⟨.tuple (nD o), md_tuple (fun d hd => ?_) (by unfold nD; rw [List.length_map]; exact hl), .tup h (rps_nt o)⟩
  obtain ⟨v, mv, rfl⟩ := List.mem_map.mp hd
  have z : (10 : Nat) ^ 12 = 1000000000000 := by decide
  have := lt v mv
  exact small_int (by omega)
theorem no_item {xs : List V} {x : V} {m : Nat} (hx : x ∈ xs) (h : ∀ v : Nat, x = .int (v : Int) → ¬ v < m) : ∀ l, xs = nv l → OrdL l → l.length = m → False := fun l e o el => by
  subst e
  obtain ⟨v, mv, rfl⟩ := List.mem_map.mp hx
  exact h v rfl (by rw [← el]; exact o.2 v mv)
theorem no_len {xs : List V} {m : Nat} (h : xs.length ≠ m) : ∀ l, xs = nv l → OrdL l → l.length = m → False := fun l e _ el => h (by rw [e, nv_length, el])
theorem no_twice {o : List Nat} {m : Nat} (h : ¬ o.Nodup) : ∀ l, nv o = nv l → OrdL l → l.length = m → False := fun l e ol _ => h (by rw [nv_inj e]; exact ol.1)
theorem it_nv {H : Hp} {o : List Nat} (lt : ∀ v ∈ o, v ≤ 1000) : ∀ z ∈ nv o, ItV H z := fun z hz => by
  obtain ⟨v, mv, rfl⟩ := List.mem_map.mp hz
  exact .nat (lt v mv)
theorem it_mid {H : Hp} {a b : List Nat} {x : V} (ha : ∀ v ∈ a, v ≤ 1000) (hb : ∀ v ∈ b, v ≤ 1000) (hx : ItV H x) : ∀ z ∈ nv a ++ [x] ++ nv b, ItV H z := fun z hz => by
  rcases List.mem_append.mp hz with h | h
  · rcases List.mem_append.mp h with h | h
    · exact it_nv ha z h
    · rw [List.mem_singleton.mp h]; exact hx
  · exact it_nv hb z h
/-- what can be shown, larger still -/
structure Bg (d : PyData) : Prop where
  ok : d.showable = true
  short : d.leavesShort 100 = true
  bulk : d.bulk ≤ 40000
  deep : d.depth ≤ 40
theorem Md.bg {d : PyData} (s : Md d) : Bg d := ⟨s.ok, s.short, Nat.le_trans s.bulk (by decide), Nat.le_trans s.deep (by decide)⟩
theorem bg_list {ds : List PyData} (h : ∀ d ∈ ds, Md d) (hl : ds.length ≤ 15) : Bg (.list ds) := by
  obtain ⟨a, b, c, e⟩ := md_row ds h
  exact ⟨by rw [PyData.showable]; exact a, by rw [PyData.leavesShort]; exact b, by rw [PyData.bulk]; omega, by rw [PyData.depth]; omega⟩
theorem bg_tup {ds : List PyData} (h : ∀ d ∈ ds, Md d) (hl : ds.length ≤ 15) : Bg (.tuple ds) := by
  obtain ⟨a, b, c, e⟩ := md_row ds h
  exact ⟨by rw [PyData.showable]; exact a, by rw [PyData.leavesShort]; exact b, by rw [PyData.bulk]; omega, by rw [PyData.depth]; omega⟩
theorem shows_two {d e : PyData} (hd : Bg d) (he : Bg e) : Shows (.list [d, e]) := by
  refine shows_of ?_ ?_ ?_ ?_
  · rw [PyData.showable, PyData.showableAll, PyData.showableAll, hd.ok, he.ok]; rfl
  · rw [PyData.leavesShort, PyData.leavesShortAll, PyData.leavesShortAll, hd.short, he.short]; rfl
  · have a := hd.bulk
    have b := he.bulk
    rw [PyData.bulk, PyData.bulkAll, PyData.bulkAll, PyData.bulkAll]; omega
  · have a := hd.deep
    have b := he.deep
    rw [PyData.depth, PyData.depthAll, PyData.depthAll, PyData.depthAll]; omega
/-- the lists that are handed in: whether right or not, they can be shown -/
structure RowsV (H : Hp) (v : V) : Prop where
  tv : TlV H v
  rp : ∃ d, Bg d ∧ Rp true H v d
theorem RowsV.same {H H' : Hp} {v : V} (b : RowsV H v) (s : Same H H') : RowsV H' v := ⟨b.tv.same s, by
  obtain ⟨d, md, r⟩ := b.rp
  exact ⟨d, md, Rp.same s _ _ r⟩⟩
/-- a list of lists or odd values -/
theorem rows_list {H : Hp} {a : Addr} {xs : List V} (h : H a = some (.lst xs)) (na : a ≠ sysModules) (hl : xs.length ≤ 15) (it : ∀ z ∈ xs, OrV H z ∧ ∃ d, Md d ∧ Rp true H z d) : RowsV H (.ref a) := by
  refine ⟨⟨.lst h, fun ys e => ?_⟩, ?_⟩
  · rw [lstAt_lst h] at e
    cases e
    exact ⟨by omega, fun z hz => (it z hz).1⟩
  · have key : ∀ ys : List V, (∀ z ∈ ys, OrV H z ∧ ∃ d, Md d ∧ Rp true H z d) → ∃ ds : List PyData, ds.length = ys.length ∧ (∀ d ∈ ds, Md d) ∧ Rps true H ys ds := fun ys => by
      induction ys with
      | nil => exact fun _ => ⟨[], rfl, (fun d hd => absurd hd List.not_mem_nil), .nil⟩
      | cons z ys ih =>
        intro k
        obtain ⟨d, sd, r⟩ := (k z List.mem_cons_self).2
        obtain ⟨ds, el, sds, rs⟩ := ih fun y hy => k y (List.mem_cons_of_mem _ hy)
        exact ⟨d :: ds, by rw [List.length_cons, List.length_cons, el], fun e he => (List.mem_cons.mp he).elim (fun q => by rw [q]; exact sd) (sds e), .cons r rs⟩
    obtain ⟨ds, el, sd, r⟩ := key xs it
    exact ⟨_, bg_list sd (by omega), .lst h (fun _ => na) r⟩
/-- a right row, as an item -/
theorem row_it {H : Hp} {a : Addr} {o : List Nat} (h : H a = some (.lst (nv o))) (na : a ≠ sysModules) (hl : o.length ≤ 60) (lt : ∀ v ∈ o, v ≤ 1000) : OrV H (.ref a) ∧ ∃ d, Md d ∧ Rp true H (.ref a) d := by
  have b := bt_list (m := o.length + 1) h na (by rw [nv_length]; exact hl) (it_nv lt) (no_len (by rw [nv_length]; omega))
  exact ⟨b.ov, b.rp⟩
theorem told_rv {H : Hp} {p : Addr} {as : List Addr} {rs : List (List Nat)} {n : Nat} (T : ToldR H p as rs n) (hl : rs.length ≤ 15) (np : p ≠ sysModules) (na : ∀ a ∈ as, a ≠ sysModules) : RowsV H (.ref p) := by
  refine rows_list T.at_ np (by rw [List.length_map, T.rw.len]; exact hl) fun z hz => ?_
  obtain ⟨i, ei⟩ := List.mem_iff_getElem?.mp hz
  obtain ⟨a, ea, rfl⟩ := ref_atT ei
  obtain ⟨r, er, mr, ha⟩ := T.rw.get2 ea
  obtain ⟨o, lr⟩ := T.ord r mr
  have := T.n60
  exact row_it ha (na a (List.mem_of_getElem? ea)) (by omega) fun v hv => by have := o.2 v hv; omega

end My

namespace My
open PySem PySem.Spec PyProof.Rows L2
/-! ### broken told lists -/
def spBroken32 : Sp := fun vs H Q _ => ∃ (wl p : Addr) (n : Nat) (as : List Addr) (rs : List (List Nat)) (m : Nat), vs = [.ref wl, .ref p] ∧ Well H wl n ∧ n < 2 ^ 50 ∧ ToldR H p as rs m ∧ m ≤ 6 ∧ rs.length ≤ 8 ∧ p ≠ wl ∧ (∀ a ∈ as, a ≠ wl) ∧ (∀ a ∈ as, a ≠ sysModules) ∧
  ∀ v H', Keep wl H H' → RowsV H' v → ¬ IsTold H' v → Q v H'
theorem no_told_len {H : Hp} {a b : Addr} {xs : List V} {r : List Nat} {x : V} {m : Nat} (h : H a = some (.lst xs)) (hb : V.ref b ∈ xs) (hr : H b = some (.lst (nv r))) (lr : r.length = m) (hx : x ∈ xs) (bt : BtV H m x) : ¬ IsTold H (.ref a) := fun ⟨p', as', rs', n', ex, T⟩ => by
  cases ex
  have z := T.at_
  rw [h] at z
  have z2 : xs = as'.map V.ref := HO.lst.inj (Option.some.inj z)
  subst z2
  have get : ∀ y ∈ as'.map V.ref, ∃ r', lstAt H y = some (nv r') ∧ OrdL r' ∧ r'.length = n' := fun y hy => by
    obtain ⟨i, ei⟩ := List.mem_iff_getElem?.mp hy
    obtain ⟨a', ea', rfl⟩ := ref_atT ei
    obtain ⟨r', _, mr', ha'⟩ := T.rw.get2 ea'
    exact ⟨r', lstAt_lst ha', (T.ord r' mr').1, (T.ord r' mr').2⟩
  obtain ⟨r1, e1, _, l1⟩ := get _ hb
  rw [lstAt_lst hr] at e1
  have e2 := nv_inj (Option.some.inj e1)
  obtain ⟨r2, f1, o2, l2⟩ := get _ hx
  exact bt.no r2 f1 o2 (by rw [l2, ← l1, ← e2, lr])
theorem ToldR.keep {H H1 H2 : Hp} {R : Addr} {bs : List Addr} {us : List (List Nat)} {m : Nat} {o : HO} (T : ToldR H R bs us m) (s : Same H H1) (S : Addr) (hS : H S = none) (s2 : Same H1 H2) : ToldR (upd H2 S o) R bs us m :=
  ⟨(upd_ne (ne_of_none T.at_ hS)).trans (s2 _ _ (s _ _ T.at_)), ⟨T.rw.len, fun i p r e1 e2 => (upd_ne (ne_of_none (T.rw.at_ i p r e1 e2) hS)).trans (s2 _ _ (s _ _ (T.rw.at_ i p r e1 e2)))⟩, T.ne, T.many, T.n1, T.n60, T.ord⟩
theorem ToldR.put {H : Hp} {R S : Addr} {bs : List Addr} {us : List (List Nat)} {m : Nat} {o : HO} (T : ToldR H R bs us m) (n1 : R ≠ S) (n2 : ∀ a ∈ bs, a ≠ S) : ToldR (upd H S o) R bs us m :=
  ⟨(upd_ne n1).trans T.at_, ⟨T.rw.len, fun i p r e1 e2 => (upd_ne (n2 p (List.mem_of_getElem? e1))).trans (T.rw.at_ i p r e1 e2)⟩, T.ne, T.many, T.n1, T.n60, T.ord⟩
/-- handed in in the lists' place: not told lists -/
def KdV (H : Hp) (v : V) : Prop := RowsV H v ∧ ¬ IsTold H v
theorem no_told_none {H : Hp} {v : V} (e : lstAt H v = none) : ¬ IsTold H v := fun ⟨p, as, rs, n, ex, T⟩ => by
  subst ex
  rw [lstAt_lst T.at_] at e; cases e
theorem no_told_nil {H : Hp} {a : Addr} (h : H a = some (.lst [])) : ¬ IsTold H (.ref a) := fun ⟨p, as, rs, n, ex, T⟩ => by
  cases ex
  have z := T.at_
  rw [h] at z
  have z2 : ([] : List V) = as.map V.ref := HO.lst.inj (Option.some.inj z)
  have z3 := congrArg List.length z2
  rw [List.length_map, T.rw.len] at z3
  have := T.ne
  have z4 : 0 = rs.length := z3
  omega
theorem no_told_item {H : Hp} {a : Addr} {xs : List V} {x : V} (h : H a = some (.lst xs)) (hx : x ∈ xs) (no : ∀ l, lstAt H x = some (nv l) → OrdL l → 1 ≤ l.length → False) : ¬ IsTold H (.ref a) := fun ⟨p, as, rs, n, ex, T⟩ => by
  cases ex
  have z := T.at_
  rw [h] at z
  have z2 : xs = as.map V.ref := HO.lst.inj (Option.some.inj z)
  subst z2
  obtain ⟨i, ei⟩ := List.mem_iff_getElem?.mp hx
  obtain ⟨a', ea', rfl⟩ := ref_atT ei
  obtain ⟨r', _, mr', ha'⟩ := T.rw.get2 ea'
  exact no r' (lstAt_lst ha') (T.ord r' mr').1 (by rw [(T.ord r' mr').2]; exact T.n1)
theorem told_back {H H' : Hp} {v : V} (tv : TlV H v) (s : Same H H') (t : IsTold H' v) : IsTold H v := by
  obtain ⟨p, as, rs, n, rfl, T⟩ := t
  have e := tv.vd.lstAt_same s
  rw [lstAt_lst T.at_] at e
  obtain ⟨p', ep, hp⟩ := lstAt_ref e.symm
  cases ep
  refine ⟨p, as, rs, n, rfl, hp, ⟨T.rw.len, fun i a r e1 e2 => ?_⟩, T.ne, T.many, T.n1, T.n60, T.ord⟩
  have ov := (tv.it _ e.symm).2 (.ref a) (List.mem_map_of_mem (List.mem_of_getElem? e1))
  have f := ov.vd.lstAt_same s
  rw [lstAt_lst (T.rw.at_ i a r e1 e2)] at f
  obtain ⟨a', ea, ha⟩ := lstAt_ref f.symm
  cases ea
  exact ha
theorem KdV.same {H H' : Hp} {v : V} (k : KdV H v) (s : Same H H') : KdV H' v := ⟨k.1.same s, fun t => k.2 (told_back k.1.tv s t)⟩
theorem small_s01 : Small (.str "0 1") := ⟨by decide +kernel, by decide +kernel, by decide +kernel, by decide +kernel⟩
theorem vd_nvK {H : Hp} {row : List Nat} : ∀ z ∈ nv row, Vd H z := fun z hz => by
  obtain ⟨v, _, rfl⟩ := List.mem_map.mp hz
  exact .int _
theorem told_tup {H : Hp} {p t : Addr} {as : List Addr} {rs : List (List Nat)} {n : Nat} (T : ToldR H p as rs n) (h : H t = some (.tup (as.map V.ref))) (hl : rs.length ≤ 15) (na : ∀ a ∈ as, a ≠ sysModules) : RowsV H (.ref t) := by
  refine ⟨⟨.tup h, fun xs e => by simp only [lstAt, h] at e; cases e⟩, ?_⟩
  have key : ∀ ys : List V, (∀ z ∈ ys, z ∈ as.map V.ref) → ∃ ds : List PyData, ds.length = ys.length ∧ (∀ d ∈ ds, Md d) ∧ Rps true H ys ds := fun ys => by
    induction ys with
    | nil => exact fun _ => ⟨[], rfl, (fun d hd => absurd hd List.not_mem_nil), .nil⟩
    | cons z ys ih =>
      intro k
      obtain ⟨i, ei⟩ := List.mem_iff_getElem?.mp (k z List.mem_cons_self)
      obtain ⟨a, ea, rfl⟩ := ref_atT ei
      obtain ⟨r, er, mr, ha⟩ := T.rw.get2 ea
      obtain ⟨o, lr⟩ := T.ord r mr
      have := T.n60
      obtain ⟨_, d, sd, rp⟩ := row_it ha (na a (List.mem_of_getElem? ea)) (by omega) fun v hv => by have := o.2 v hv; omega
      obtain ⟨ds, el, sds, rs'⟩ := ih fun y hy => k y (List.mem_cons_of_mem _ hy)
      exact ⟨d :: ds, by rw [List.length_cons, List.length_cons, el], fun e he => (List.mem_cons.mp he).elim (fun q => by rw [q]; exact sd) (sds e), .cons rp rs'⟩
  obtain ⟨ds, el, sd, r⟩ := key _ fun z hz => hz
  exact ⟨_, bg_tup sd (by rw [el, List.length_map, T.rw.len]; exact hl), .tup h r⟩
section
variable {P : Program} {w : World} {K : PySem.W.Frag} {mg : Str → Option Value} {base : Heap}
abbrev st__law_broken : Stmt := topS 42
abbrev N__law_broken : List Str := ["well", "rows", "size", "spot", "row", "at", "some", "one", "bent", "kinds", "kind"]
theorem sc__law_broken : FnScope N__law_broken ["well", "rows"] (defScope st__law_broken) := ⟨rfl, rfl, rfl, by decide +kernel, rfl, by decide +kernel, by decide +kernel⟩
theorem ok__law_broken (D : Df K mg "_law_broken" st__law_broken ["well", "rows"]) (B : Bl mg) (K_law_draw : Kn P w K mg base CX0 1 "_law_draw" st__law_draw ["well", "most"] spDraw) :
    Kn P w K mg base CX0 2 "_law_broken" st__law_broken ["well", "rows"] spBroken32 := by
  refine D.ok sc__law_broken (fun vs H Q E h => ?_) (fun f cdv A outer s H vs Q E hr h => ?_)
  · obtain ⟨wl, p, n, as, rs, m, rfl, _⟩ := h; rfl
  obtain ⟨wl, p, n, as, rs, m, rfl, w0, hn, T, m6, l8, npw, aw, asy, q⟩ := h
  refine ⟨_, ((pss_cons (ps_set (i := 1) sc__law_broken.nd rfl (Or.inl rfl) (pe_op op_catN (pv 1) (pe_lstN (pa_cons (pe_callTy call_list_ofN (by rfl) B.list (by decide +kernel) (pa_cons (pe_ix ix_list (pv 1) pe_int (fun _ _ => rfl)) pa_nil)) pa_nil))))
      (pss_cons (ps_par (i := 2) (j := 3) (by rfl) sc__law_broken.nd rfl rfl (by decide) rfl rfl (pa_cons (pe_callB call_len (by rfl) B.len (by decide +kernel) (pa_cons (pe_ix ix_list (pv 1) pe_int (fun _ _ => rfl)) pa_nil)) (pa_cons (pe_callF K_law_draw (hr.mono (by decide)) pass0 (pa_cons (pv 0) (pa_cons (pe_callB call_len (by rfl) B.len (by decide +kernel) (pa_cons (pv 1) pa_nil)) pa_nil))) pa_nil)) (by rfl))
      (pss_cons (ps_set (i := 4) sc__law_broken.nd rfl (Or.inl rfl) (pe_ix ix_list (pv 1) (pv 3) (fun _ _ => rfl)))
      (pss_cons (ps_set (i := 5) sc__law_broken.nd rfl (Or.inl rfl) (pe_callF K_law_draw (hr.mono (by decide)) pass0 (pa_cons (pv 0) (pa_cons (pv 2) pa_nil))))
      (pss_cons (ps_set (i := 6) sc__law_broken.nd rfl (Or.inl rfl) (pe_lstN (pa_cons (pe_op op_catN (pv 4) (pe_lstN (pa_cons (pv 2) pa_nil))) (pa_cons (pe_op op_catN (pe_slice sl_listN (pv 4) po_none (po_some (pe_un un_neg pe_int))) (pe_lstN (pa_cons (pv 2) pa_nil))) (pa_cons (pe_op op_catN (pv 4) (pe_lstN (pa_cons (pe_ix ix_list (pv 4) pe_int (fun _ _ => rfl)) pa_nil))) (pa_cons (pe_callTy call_tuple_of (by rfl) B.tuple (by decide +kernel) (pa_cons (pv 4) pa_nil)) (pa_cons pe_non (pa_cons pe_int (pa_cons pe_str (pa_cons pe_dnewK (pa_cons (pe_lstN pa_nil) pa_nil)))))))))))
      (pss_cons (ps_expr (pe_bm PySem.F.plainAttrs_list PySem.F.slot_list_append PySem.F.type_list_append mt_append (pv 6) (pa_cons (pe_op op_catN (pe_op op_catN (pe_slice sl_listN (pv 4) po_none (po_some (pv 5))) (pe_lstN (pa_cons (pe_un un_neg pe_int) pa_nil))) (pe_slice sl_listN (pv 4) (po_some (pe_op op_add (pv 5) pe_int)) po_none)) pa_nil)))
      (pss_cons (ps_for PassesOwn.never rfl (pi_tup (pe_tup (pa_cons pe_non (pa_cons pe_bl (pa_cons pe_bl (pa_cons pe_str (pa_cons (pe_lstN (pa_cons pe_int pa_nil)) (pa_cons (pe_tup (pa_cons pe_int pa_nil)) (pa_cons (pe_op op_powW pe_int pe_int) pa_nil))))))))) (pg_name (i := 7) sc__law_broken.nd rfl (Or.inl rfl)) (pss_one (ps_expr (pe_bm PySem.F.plainAttrs_list PySem.F.slot_list_append PySem.F.type_list_append mt_append (pv 6) (pa_cons (pe_op op_catN (pe_op op_catN (pe_slice sl_listN (pv 4) po_none (po_some (pv 5))) (pe_lstN (pa_cons (pv 7) pa_nil))) (pe_slice sl_listN (pv 4) (po_some (pe_op op_add (pv 5) pe_int)) po_none)) pa_nil)))))
      (C8.pss_cut (ps_if (pt_cmpR op_gt (pv 2) pe_int (nomark _)) (pss_one (ps_set (i := 6) sc__law_broken.nd rfl (Or.inl rfl) (pe_op op_catN (pv 6) (pe_lstN (pa_cons (pe_slice sl_listN (pv 4) po_none (po_some (pe_un un_neg pe_int))) (pa_cons (pe_op op_catN (pe_slice sl_listN (pv 4) po_none (po_some (pe_un un_neg pe_int))) (pe_lstN (pa_cons (pe_ix ix_list (pv 4) pe_int (fun _ _ => rfl)) pa_nil))) (pa_cons (pe_op op_catN (pe_slice sl_listN (pv 4) po_none (po_some (pv 5))) (pe_slice sl_listN (pv 4) (po_some (pe_op op_add (pv 5) pe_int)) po_none)) pa_nil))))))) pss_nil)
      (pss_cons (ps_set (i := 8) sc__law_broken.nd rfl (Or.inl rfl) (pe_ix ix_list (pv 6) (pe_callF K_law_draw (hr.mono (by decide)) pass0 (pa_cons (pv 0) (pa_cons (pe_callB call_len (by rfl) B.len (by decide +kernel) (pa_cons (pv 6) pa_nil)) pa_nil))) (fun _ _ => rfl)))
      (pss_cons (ps_set (i := 9) sc__law_broken.nd rfl (Or.inl rfl) (pe_lstN (pa_cons pe_non (pa_cons pe_int (pa_cons pe_bl (pa_cons pe_str (pa_cons pe_str (pa_cons pe_dnewK (pa_cons (pe_tup pa_nil) (pa_cons (pe_lstN pa_nil) (pa_cons (pe_callTy call_tuple_of (by rfl) B.tuple (by decide +kernel) (pa_cons (pv 1) pa_nil)) (pa_cons (pe_ix ix_list (pv 1) pe_int (fun _ _ => rfl)) (pa_cons (pe_lstN (pa_cons pe_non pa_nil)) (pa_cons (pe_lstN (pa_cons (pe_tup pa_nil) pa_nil)) pa_nil))))))))))))))
      (pss_cons (ps_set (i := 9) sc__law_broken.nd rfl (Or.inl rfl) (pe_op op_catN (pv 9) (pe_lstN (pa_cons (pe_lstN (pa_cons (pe_lstN (pa_cons pe_int pa_nil)) (pa_cons (pe_lstN (pa_cons pe_int (pa_cons pe_int pa_nil))) pa_nil))) (pa_cons (pe_lstN (pa_cons (pe_lstN (pa_cons pe_int pa_nil)) pa_nil)) (pa_cons (pe_lstN (pa_cons (pe_lstN (pa_cons pe_int (pa_cons pe_int pa_nil))) pa_nil)) (pa_cons (pe_lstN (pa_cons (pe_lstN pa_nil) pa_nil)) (pa_cons (pe_lstN (pa_cons (pe_lstN pa_nil) (pa_cons (pe_lstN pa_nil) pa_nil))) pa_nil))))))))
      (pss_cons (ps_set (i := 10) sc__law_broken.nd rfl (Or.inl rfl) (pe_ix ix_list (pv 9) (pe_callF K_law_draw (hr.mono (by decide)) pass0 (pa_cons (pv 0) (pa_cons pe_int pa_nil))) (fun _ _ => rfl)))
      (pss_one (ps_ret (pe_ifExp (pt_cmpR op_eq (pe_callF K_law_draw (hr.mono (by decide)) pass0 (pa_cons (pv 0) (pa_cons pe_int pa_nil))) pe_int (nomark _)) (pv 10) (pe_op op_catN (pe_op op_catN (pe_slice sl_listN (pv 1) po_none (po_some (pv 3))) (pe_lstN (pa_cons (pv 8) pa_nil))) (pe_slice sl_listN (pv 1) (po_some (pe_op op_add (pv 3) pe_int)) po_none)))))))))))))))))), ?_⟩
  have p50 : (2 : Nat) ^ 50 = 1125899906842624 := by decide
  have p60 : (2 : Nat) ^ 60 = 1152921504606846976 := by decide
  have p100 : (2 : Nat) ^ 100 = 1267650600228229401496703205376 := by decide +kernel
  have n1 := T.n1
  have ne := T.ne
  obtain ⟨a0, ea0⟩ : ∃ a0, as[0]? = some a0 := ⟨_, List.getElem?_eq_getElem (by rw [T.rw.len]; exact ne)⟩
  obtain ⟨r0, er0, mr0, ha0⟩ := T.rw.get2 ea0
  obtain ⟨o0, lr0⟩ := T.ord r0 mr0
  have lar : (as.map V.ref).length = rs.length := by rw [List.length_map, T.rw.len]
  delta tNoPart
  -- rows = rows + [list(rows[0])]
  refine ⟨_, rfl, _, rfl, p, _, _, .ref a0, rfl, rfl, SqL.of T.at_, atI_nat (j := 0) (by rw [List.getElem?_map, ea0]; rfl), a0, _, rfl, .inl (SqL.of ha0), fun C hC mC => ?_⟩
  have sC := (Same.refl H).new (o := .lst (nv r0)) hC
  have oC : upd H C (.lst (nv r0)) C = some (.lst (nv r0)) := upd_same
  generalize upd H C (.lst (nv r0)) = H1 at sC oC ⊢
  refine ⟨by show 1 ≤ sizeLine; decide, fun L hL mL => ?_⟩
  have sL := (Same.refl H1).new (o := .lst [.ref C]) hL
  have oL : upd H1 L (.lst [.ref C]) L = some (.lst [.ref C]) := upd_same
  generalize upd H1 L (.lst [.ref C]) = H2 at sL oL ⊢
  have f2 := sC.trans sL
  refine ⟨p, L, _, _, rfl, rfl, f2 _ _ T.at_, oL, by rw [lar]; exact Nat.le_of_lt (szl (by show rs.length + 1 ≤ 1000; omega)), fun R hR mR => ?_⟩
  rw [show as.map V.ref ++ [V.ref C] = (as ++ [C]).map V.ref by rw [List.map_append]; rfl]
  have sR := (Same.refl H2).new (o := .lst ((as ++ [C]).map V.ref)) hR
  have oR : upd H2 R (.lst ((as ++ [C]).map V.ref)) R = some (.lst ((as ++ [C]).map V.ref)) := upd_same
  generalize upd H2 R (.lst ((as ++ [C]).map V.ref)) = H3 at sR oR ⊢
  have f3 := f2.trans sR
  have T3 : ToldR H3 R (as ++ [C]) (rs ++ [r0]) m := ⟨oR, (T.rw.same f3).grow (sR _ _ (sL _ _ oC)), by rw [List.length_append]; omega, by rw [List.length_append]; show rs.length + 1 ≤ 60; omega, n1, T.n60, fun r hr2 => (List.mem_append.mp hr2).elim (T.ord r) fun z => by rw [List.mem_singleton.mp z]; exact ⟨o0, lr0⟩⟩
  have w3 := w0.same f3
  have nCw : C ≠ wl := w0.ne hC
  have nRw : R ≠ wl := w0.ne (f2.free hR)
  have aw3 : ∀ a ∈ as ++ [C], a ≠ wl := fun a ha => (List.mem_append.mp ha).elim (aw a) fun z => by rw [List.mem_singleton.mp z]; exact nCw
  have asy3 : ∀ a ∈ as ++ [C], a ≠ sysModules := fun a ha => (List.mem_append.mp ha).elim (asy a) fun z => by rw [List.mem_singleton.mp z]; exact mC
  have two : 2 ≤ (rs ++ [r0]).length := by rw [List.length_append]; show 2 ≤ rs.length + 1; omega
  have l9 : (rs ++ [r0]).length ≤ 9 := by rw [List.length_append]; show rs.length + 1 ≤ 9; omega
  have k03 : Keep wl H H3 := f3.keep
  clear oL sL sC oC oR sR f2 hL hC hR
  generalize as ++ [C] = bs at T3 aw3 asy3
  generalize rs ++ [r0] = us at T3 two l9
  clear T er0 mr0 ha0 ea0 lar l8 ne aw asy o0 lr0
  have lbr : (bs.map V.ref).length = us.length := by rw [List.length_map, T3.rw.len]
  obtain ⟨b0, eb0⟩ : ∃ b0, bs[0]? = some b0 := ⟨_, List.getElem?_eq_getElem (by rw [T3.rw.len]; omega)⟩
  obtain ⟨u0, eu0, mu0, hb0⟩ := T3.rw.get2 eb0
  obtain ⟨ou0, lu0⟩ := T3.ord u0 mu0
  -- size, spot
  refine ⟨_, rfl, R, _, _, .ref b0, rfl, rfl, SqL.of T3.at_, atI_nat (j := 0) (by rw [List.getElem?_map, eb0]; rfl), _, _, rfl, .inl ⟨_, SqL.of hb0, rfl⟩, _, rfl, _, rfl, _, _, rfl, .inl ⟨_, SqL.of T3.at_, rfl⟩, wl, n, _, rfl, w3, by omega, by rw [lbr]; omega, by rw [lbr]; omega, fun d H4 d0 d1 k4 w4 => ⟨_, _, rfl, ?_⟩⟩
  rw [lbr] at d1
  obtain ⟨sp, rfl⟩ : ∃ sp : Nat, d = (sp : Int) := ⟨d.toNat, by omega⟩
  have T4 : ToldR H4 R bs us m := ⟨k4 _ _ nRw T3.at_, rws_keep T3.rw k4 aw3, T3.ne, T3.many, T3.n1, T3.n60, T3.ord⟩
  have k04 := k03.trans k4
  obtain ⟨ar, ear⟩ : ∃ ar, bs[sp]? = some ar := ⟨_, List.getElem?_eq_getElem (by rw [T3.rw.len]; omega)⟩
  obtain ⟨o, eo, mo, har⟩ := T4.rw.get2 ear
  obtain ⟨oo, lo⟩ := T4.ord o mo
  have narw := aw3 ar (List.mem_of_getElem? ear)
  -- row
  refine ⟨_, rfl, _, rfl, R, _, _, .ref ar, rfl, rfl, SqL.of T4.at_, atI_nat (by rw [List.getElem?_map, ear]; rfl), ?_⟩
  have e0 : (nv u0).length = m := by rw [nv_length, lu0]
  rw [e0]
  -- at
  refine ⟨_, rfl, _, rfl, wl, _, _, rfl, w4, by omega, by omega, by omega, fun d H5 e0' e1' k5 w5 => ?_⟩
  obtain ⟨at_, rfl⟩ : ∃ at_ : Nat, d = (at_ : Int) := ⟨d.toNat, by omega⟩
  have T5 : ToldR H5 R bs us m := ⟨k5 _ _ nRw T4.at_, rws_keep T4.rw k5 aw3, T4.ne, T4.many, T4.n1, T4.n60, T4.ord⟩
  have k05 := k04.trans k5
  have har5 := k5 _ _ narw har
  have q0 := Same.refl H5
  have ol6 : o.length ≤ 6 := by omega
  refine ⟨_, rfl, _, rfl, by show 1 ≤ sizeLine; decide, fun A1 hA1 mA1 => ?_⟩
  have g1 := (Same.refl H5).new (o := .lst [.int (m : Int)]) hA1
  have oA1 : upd H5 A1 (.lst [.int (m : Int)]) A1 = some (.lst [.int (m : Int)]) := upd_same
  generalize upd H5 A1 (.lst [.int (m : Int)]) = J1 at g1 oA1 ⊢
  have q1 := q0.trans g1
  have nA1 : A1 ≠ wl := w5.ne (q0.free hA1)
  refine ⟨ar, A1, _, _, rfl, rfl, (q1 _ _ har5), oA1, by simp only [List.length_append, List.length_cons, List.length_nil, nv_length, List.length_take, List.length_drop]; exact Nat.le_of_lt (szl (by omega)), fun A2 hA2 mA2 => ?_⟩
  have g2 := (Same.refl J1).new (o := .lst (nv o ++ [.int (m : Int)])) hA2
  have oA2 : upd J1 A2 (.lst (nv o ++ [.int (m : Int)])) A2 = some (.lst (nv o ++ [.int (m : Int)])) := upd_same
  generalize upd J1 A2 (.lst (nv o ++ [.int (m : Int)])) = J2 at g2 oA2 ⊢
  have q2 := q1.trans g2
  have nA2 : A2 ≠ wl := w5.ne (q1.free hA2)
  refine ⟨_, rfl, _, rfl, _, rfl, ar, _, rfl, SqL.of (q2 _ _ har5), fun A3 hA3 mA3 => ?_⟩
  rw [cut_init, nv_take, nv_length]
  have g3 := (Same.refl J2).new (o := .lst (nv (o.take (o.length - 1)))) hA3
  have oA3 : upd J2 A3 (.lst (nv (o.take (o.length - 1)))) A3 = some (.lst (nv (o.take (o.length - 1)))) := upd_same
  generalize upd J2 A3 (.lst (nv (o.take (o.length - 1)))) = J3 at g3 oA3 ⊢
  have q3 := q2.trans g3
  have nA3 : A3 ≠ wl := w5.ne (q2.free hA3)
  refine ⟨_, rfl, by show 1 ≤ sizeLine; decide, fun A4 hA4 mA4 => ?_⟩
  have g4 := (Same.refl J3).new (o := .lst [.int (m : Int)]) hA4
  have oA4 : upd J3 A4 (.lst [.int (m : Int)]) A4 = some (.lst [.int (m : Int)]) := upd_same
  generalize upd J3 A4 (.lst [.int (m : Int)]) = J4 at g4 oA4 ⊢
  have q4 := q3.trans g4
  have nA4 : A4 ≠ wl := w5.ne (q3.free hA4)
  refine ⟨A3, A4, _, _, rfl, rfl, (g4 _ _ oA3), oA4, by simp only [List.length_append, List.length_cons, List.length_nil, nv_length, List.length_take, List.length_drop]; exact Nat.le_of_lt (szl (by omega)), fun A5 hA5 mA5 => ?_⟩
  have g5 := (Same.refl J4).new (o := .lst (nv (o.take (o.length - 1)) ++ [.int (m : Int)])) hA5
  have oA5 : upd J4 A5 (.lst (nv (o.take (o.length - 1)) ++ [.int (m : Int)])) A5 = some (.lst (nv (o.take (o.length - 1)) ++ [.int (m : Int)])) := upd_same
  generalize upd J4 A5 (.lst (nv (o.take (o.length - 1)) ++ [.int (m : Int)])) = J5 at g5 oA5 ⊢
  have q5 := q4.trans g5
  have nA5 : A5 ≠ wl := w5.ne (q4.free hA5)
  obtain ⟨v0, ev0⟩ : ∃ v, o[0]? = some v := ⟨_, List.getElem?_eq_getElem (by omega)⟩
  refine ⟨_, rfl, _, rfl, ar, _, _, .int (v0 : Int), rfl, rfl, SqL.of (q5 _ _ har5), atI_nat (j := 0) (nv_get ev0), by show 1 ≤ sizeLine; decide, fun A6 hA6 mA6 => ?_⟩
  have g6 := (Same.refl J5).new (o := .lst [.int (v0 : Int)]) hA6
  have oA6 : upd J5 A6 (.lst [.int (v0 : Int)]) A6 = some (.lst [.int (v0 : Int)]) := upd_same
  generalize upd J5 A6 (.lst [.int (v0 : Int)]) = J6 at g6 oA6 ⊢
  have q6 := q5.trans g6
  have nA6 : A6 ≠ wl := w5.ne (q5.free hA6)
  refine ⟨ar, A6, _, _, rfl, rfl, (q6 _ _ har5), oA6, by simp only [List.length_append, List.length_cons, List.length_nil, nv_length, List.length_take, List.length_drop]; exact Nat.le_of_lt (szl (by omega)), fun A7 hA7 mA7 => ?_⟩
  have g7 := (Same.refl J6).new (o := .lst (nv o ++ [.int (v0 : Int)])) hA7
  have oA7 : upd J6 A7 (.lst (nv o ++ [.int (v0 : Int)])) A7 = some (.lst (nv o ++ [.int (v0 : Int)])) := upd_same
  generalize upd J6 A7 (.lst (nv o ++ [.int (v0 : Int)])) = J7 at g7 oA7 ⊢
  have q7 := q6.trans g7
  have nA7 : A7 ≠ wl := w5.ne (q6.free hA7)
  refine ⟨_, rfl, ar, _, rfl, .inl ⟨SqL.of (q7 _ _ har5), fun A8 hA8 => ?_⟩⟩
  have g8 := (Same.refl J7).new (o := .tup (nv o)) hA8
  have oA8 : upd J7 A8 (.tup (nv o)) A8 = some (.tup (nv o)) := upd_same
  generalize upd J7 A8 (.tup (nv o)) = J8 at g8 oA8 ⊢
  have q8 := q7.trans g8
  have nA8 : A8 ≠ wl := w5.ne (q7.free hA8)
  intro A9 hA9
  have g9 := (Same.refl J8).new (o := .dK []) hA9
  have oA9 : upd J8 A9 (.dK []) A9 = some (.dK []) := upd_same
  generalize upd J8 A9 (.dK []) = J9 at g9 oA9 ⊢
  have q9 := q8.trans g9
  have nA9 : A9 ≠ wl := w5.ne (q8.free hA9)
  refine ⟨by show 0 ≤ sizeLine; decide, fun Aa hAa mAa => ?_⟩
  have g10 := (Same.refl J9).new (o := .lst []) hAa
  have oAa : upd J9 Aa (.lst []) Aa = some (.lst []) := upd_same
  generalize upd J9 Aa (.lst []) = J10 at g10 oAa ⊢
  have q10 := q9.trans g10
  have nAa : Aa ≠ wl := w5.ne (q9.free hAa)
  refine ⟨by show 9 ≤ sizeLine; decide, fun S hS mS => ?_⟩
  have g11 := (Same.refl J10).new (o := .lst [.ref A2, .ref A5, .ref A7, .ref A8, .non, .int 0, .str "", .ref A9, .ref Aa]) hS
  have oS : upd J10 S (.lst [.ref A2, .ref A5, .ref A7, .ref A8, .non, .int 0, .str "", .ref A9, .ref Aa]) S = some (.lst [.ref A2, .ref A5, .ref A7, .ref A8, .non, .int 0, .str "", .ref A9, .ref Aa]) := upd_same
  generalize upd J10 S (.lst [.ref A2, .ref A5, .ref A7, .ref A8, .non, .int 0, .str "", .ref A9, .ref Aa]) = J11 at g11 oS ⊢
  have q11 := q10.trans g11
  have nS : S ≠ wl := w5.ne (q10.free hS)
  refine ⟨_, rfl, .inl ⟨rfl, _, SqL.of oS⟩, ?_⟩
  refine ⟨_, rfl, _, rfl, _, rfl, ar, _, rfl, SqL.of (q11 _ _ har5), fun B1 hB1 mB1 => ?_⟩
  rw [cut_to, nv_take]
  have g12 := (Same.refl J11).new (o := .lst (nv (o.take at_))) hB1
  have oB1 : upd J11 B1 (.lst (nv (o.take at_))) B1 = some (.lst (nv (o.take at_))) := upd_same
  generalize upd J11 B1 (.lst (nv (o.take at_))) = J12 at g12 oB1 ⊢
  have q12 := q11.trans g12
  have nB1 : B1 ≠ wl := w5.ne (q11.free hB1)
  refine ⟨_, rfl, by show 1 ≤ sizeLine; decide, fun C1 hC1 mC1 => ?_⟩
  have g13 := (Same.refl J12).new (o := .lst [.int (-1)]) hC1
  have oC1 : upd J12 C1 (.lst [.int (-1)]) C1 = some (.lst [.int (-1)]) := upd_same
  generalize upd J12 C1 (.lst [.int (-1)]) = J13 at g13 oC1 ⊢
  have q13 := q12.trans g13
  have nC1 : C1 ≠ wl := w5.ne (q12.free hC1)
  refine ⟨B1, C1, _, _, rfl, rfl, (g13 _ _ oB1), oC1, by simp only [List.length_append, List.length_cons, List.length_nil, nv_length, List.length_take, List.length_drop]; exact Nat.le_of_lt (szl (by omega)), fun D1 hD1 mD1 => ?_⟩
  have g14 := (Same.refl J13).new (o := .lst (nv (o.take at_) ++ [.int (-1)])) hD1
  have oD1 : upd J13 D1 (.lst (nv (o.take at_) ++ [.int (-1)])) D1 = some (.lst (nv (o.take at_) ++ [.int (-1)])) := upd_same
  generalize upd J13 D1 (.lst (nv (o.take at_) ++ [.int (-1)])) = J14 at g14 oD1 ⊢
  have q14 := q13.trans g14
  have nD1 : D1 ≠ wl := w5.ne (q13.free hD1)
  refine ⟨_, rfl, _, rfl, _, _, rfl, rfl, _, rfl, ar, _, rfl, SqL.of (q14 _ _ har5), fun E1 hE1 mE1 => ?_⟩
  rw [show ((at_ : Int) + 1) = ((at_ + 1 : Nat) : Int) from rfl, cut_from, nv_drop]
  have g15 := (Same.refl J14).new (o := .lst (nv (o.drop (at_ + 1)))) hE1
  have oE1 : upd J14 E1 (.lst (nv (o.drop (at_ + 1)))) E1 = some (.lst (nv (o.drop (at_ + 1)))) := upd_same
  generalize upd J14 E1 (.lst (nv (o.drop (at_ + 1)))) = J15 at g15 oE1 ⊢
  have q15 := q14.trans g15
  have nE1 : E1 ≠ wl := w5.ne (q14.free hE1)
  refine ⟨D1, E1, _, _, rfl, rfl, (g15 _ _ oD1), oE1, by simp only [List.length_append, List.length_cons, List.length_nil, nv_length, List.length_take, List.length_drop]; exact Nat.le_of_lt (szl (by omega)), fun F1 hF1 mF1 => ?_⟩
  have g16 := (Same.refl J15).new (o := .lst (nv (o.take at_) ++ [.int (-1)] ++ nv (o.drop (at_ + 1)))) hF1
  have oF1 : upd J15 F1 (.lst (nv (o.take at_) ++ [.int (-1)] ++ nv (o.drop (at_ + 1)))) F1 = some (.lst (nv (o.take at_) ++ [.int (-1)] ++ nv (o.drop (at_ + 1)))) := upd_same
  generalize upd J15 F1 (.lst (nv (o.take at_) ++ [.int (-1)] ++ nv (o.drop (at_ + 1)))) = J16 at g16 oF1 ⊢
  have q16 := q15.trans g16
  have nF1 : F1 ≠ wl := w5.ne (q15.free hF1)
  refine ⟨S, _, _, rfl, rfl, (((((g12.trans g13).trans g14).trans g15).trans g16) _ _ oS), by show 9 < sizeLine; decide, ?_⟩
  -- the facts of the values so far, off the well and the list that grows
  have Z1 : ∀ v ∈ o, v ≤ 1000 := fun v hv => by have := oo.2 v hv; omega
  have Z2 : ∀ j, ∀ v ∈ o.take j, v ≤ 1000 := fun j v hv => Z1 v (List.mem_of_mem_take hv)
  have Z3 : ∀ j, ∀ v ∈ o.drop j, v ≤ 1000 := fun j v hv => Z1 v (List.mem_of_mem_drop hv)
  obtain ⟨P0, hP0⟩ : ∃ P0 : Addr → Bool, P0 = fun a => decide (a = wl ∨ a = S) := ⟨_, rfl⟩
  have pS : P0 S = true := by rw [hP0]; exact decide_eq_true (.inr rfl)
  have pw : P0 wl = true := by rw [hP0]; exact decide_eq_true (.inl rfl)
  have pn : ∀ a, a ≠ wl → a ≠ S → P0 a = false := fun a h1 h2 => by rw [hP0]; exact decide_eq_false fun z => z.elim h1 h2
  have pA2 : P0 A2 = false := pn _ nA2 (ne_of_none ((((((((g3.trans g4).trans g5).trans g6).trans g7).trans g8).trans g9).trans g10) _ _ oA2) hS)
  have rA2 := Off.at pA2 ((((((((((((((g3.trans g4).trans g5).trans g6).trans g7).trans g8).trans g9).trans g10).trans g11).trans g12).trans g13).trans g14).trans g15).trans g16) _ _ oA2)
  have pA5 : P0 A5 = false := pn _ nA5 (ne_of_none (((((g6.trans g7).trans g8).trans g9).trans g10) _ _ oA5) hS)
  have rA5 := Off.at pA5 (((((((((((g6.trans g7).trans g8).trans g9).trans g10).trans g11).trans g12).trans g13).trans g14).trans g15).trans g16) _ _ oA5)
  have pA7 : P0 A7 = false := pn _ nA7 (ne_of_none (((g8.trans g9).trans g10) _ _ oA7) hS)
  have rA7 := Off.at pA7 (((((((((g8.trans g9).trans g10).trans g11).trans g12).trans g13).trans g14).trans g15).trans g16) _ _ oA7)
  have pA8 : P0 A8 = false := pn _ nA8 (ne_of_none ((g9.trans g10) _ _ oA8) hS)
  have rA8 := Off.at pA8 ((((((((g9.trans g10).trans g11).trans g12).trans g13).trans g14).trans g15).trans g16) _ _ oA8)
  have pA9 : P0 A9 = false := pn _ nA9 (ne_of_none (g10 _ _ oA9) hS)
  have rA9 := Off.at pA9 (((((((g10.trans g11).trans g12).trans g13).trans g14).trans g15).trans g16) _ _ oA9)
  have pAa : P0 Aa = false := pn _ nAa (ne_of_none oAa hS)
  have rAa := Off.at pAa ((((((g11.trans g12).trans g13).trans g14).trans g15).trans g16) _ _ oAa)
  have pF1 : P0 F1 = false := pn _ nF1 (ne_of_none ((((g12.trans g13).trans g14).trans g15) _ _ oS) hF1).symm
  have rF1 := Off.at pF1 oF1
  have lt1 : ∀ (j : Nat), (o.take j).length ≤ 6 := fun j => by rw [List.length_take]; omega
  have lt2 : ∀ (j : Nat), (o.drop j).length ≤ 6 := fun j => by rw [List.length_drop]; omega
  have sum1 : o.length + 0 = m := lo
  have it1 : ∀ (G : Hp) (a : List Nat) (x : V), (∀ v ∈ a, v ≤ 1000) → ItV G x → ∀ z ∈ nv a ++ [x], ItV G z := fun G a x ha hx z hz => (List.mem_append.mp hz).elim (it_nv ha z) fun h => by rw [List.mem_singleton.mp h]; exact hx
  have all0 : ∀ x ∈ ([.ref A2, .ref A5, .ref A7, .ref A8, .non, .int 0, .str "", .ref A9, .ref Aa] : List V) ++ [V.ref F1], BtV (Off P0 J16) m x := by
    intro x hx
    simp only [List.mem_cons, List.not_mem_nil, or_false, List.cons_append, List.nil_append] at hx
    rcases hx with rfl | rfl | rfl | rfl | rfl | rfl | rfl | rfl | rfl | rfl
    · exact bt_list rA2 mA2 (by rw [List.length_append, nv_length]; show o.length + 1 ≤ 60; omega) (it1 _ _ _ Z1 (.nat (by omega))) (no_len (by rw [List.length_append, nv_length]; show o.length + 1 ≠ m; omega))
    · exact bt_list rA5 mA5 (by rw [List.length_append, nv_length]; show _ + 1 ≤ 60; exact Nat.le_trans (Nat.succ_le_succ (lt1 _)) (by decide)) (it1 _ _ _ (Z2 _) (.nat (by omega))) (no_item (x := .int (m : Int)) (List.mem_append_right _ (List.mem_singleton.mpr rfl)) fun v e => (by
        have z := V.int.inj e
        omega))
    · exact bt_list rA7 mA7 (by rw [List.length_append, nv_length]; show o.length + 1 ≤ 60; omega) (it1 _ _ _ Z1 (.nat (Z1 v0 (List.mem_of_getElem? ev0)))) (no_len (by rw [List.length_append, nv_length]; show o.length + 1 ≠ m; omega))
    · exact bt_tup rA8 (by omega) Z1
    · exact bt_none .non rfl ⟨_, small_non.md, .non⟩
    · exact bt_none (.int 0) rfl ⟨_, (small_int (by decide)).md, .int 0⟩
    · exact bt_none (.str _) rfl ⟨_, small_s2.md, .str _⟩
    · exact bt_none (.dK rA9) (by simp only [lstAt, rA9]) ⟨_, small_d0.md, .dct rfl rA9⟩
    · exact bt_list rAa mAa (by decide) (fun z hz => absurd hz List.not_mem_nil) (no_len (by show 0 ≠ m; omega))
    · exact bt_list rF1 mF1 (by
        simp only [List.length_append, nv_length, List.length_cons, List.length_nil]
        have z1 := lt1 at_
        have z2 := lt2 (at_ + 1)
        omega) (it_mid (Z2 _) (Z3 _) (.int (by decide))) (no_item (x := .int (-1)) (List.mem_append_left _ (List.mem_append_right _ (List.mem_singleton.mpr rfl))) fun v e => (by
        have z := V.int.inj e
        omega))
  have oS1 : upd J16 S (.lst ([.ref A2, .ref A5, .ref A7, .ref A8, .non, .int 0, .str "", .ref A9, .ref Aa] ++ [V.ref F1])) S = some (.lst ([.ref A2, .ref A5, .ref A7, .ref A8, .non, .int 0, .str "", .ref A9, .ref Aa] ++ [V.ref F1])) := upd_same
  have all1 : ∀ x ∈ ([.ref A2, .ref A5, .ref A7, .ref A8, .non, .int 0, .str "", .ref A9, .ref Aa] : List V) ++ [V.ref F1], BtV (Off P0 (upd J16 S (.lst ([.ref A2, .ref A5, .ref A7, .ref A8, .non, .int 0, .str "", .ref A9, .ref Aa] ++ [V.ref F1])))) m x := fun x hx => (all0 x hx).same (Off.upd pS)
  have k6 : Keep wl H (upd J16 S (.lst ([.ref A2, .ref A5, .ref A7, .ref A8, .non, .int 0, .str "", .ref A9, .ref Aa] ++ [V.ref F1]))) := keep_upd (k05.trans q16.keep) (keep_free k05 nS (q10.free hS))
  have w6 : Well (upd J16 S (.lst ([.ref A2, .ref A5, .ref A7, .ref A8, .non, .int 0, .str "", .ref A9, .ref Aa] ++ [V.ref F1]))) wl (n + 1 + 1) := (w5.same q16).updN nS
  have T6 : ToldR (upd J16 S (.lst ([.ref A2, .ref A5, .ref A7, .ref A8, .non, .int 0, .str "", .ref A9, .ref Aa] ++ [V.ref F1]))) R bs us m := T5.keep (Same.refl _) S (q10.free hS) q16
  have har6 : upd J16 S (.lst ([.ref A2, .ref A5, .ref A7, .ref A8, .non, .int 0, .str "", .ref A9, .ref Aa] ++ [V.ref F1])) ar = some (.lst (nv o)) := (upd_ne (ne_of_none har5 (q10.free hS))).trans (q16 _ _ har5)
  have lS : (([.ref A2, .ref A5, .ref A7, .ref A8, .non, .int 0, .str "", .ref A9, .ref Aa] : List V) ++ [V.ref F1]).length = 10 := rfl
  have hSn : H S = none := keep_free k05 nS (q10.free hS)
  have hS5 : H5 S = none := q10.free hS
  have nSR : R ≠ S := ne_of_none T5.at_ hS5
  have nSb : ∀ a ∈ bs, a ≠ S := fun a ha => by
    obtain ⟨i, ei⟩ := List.mem_iff_getElem?.mp ha
    obtain ⟨r, _, _, hr3⟩ := T5.rw.get2 ei
    exact ne_of_none hr3 hS5
  have nSa : ar ≠ S := ne_of_none har5 hS5
  have nSw : S ≠ wl := nS
  generalize ([.ref A2, .ref A5, .ref A7, .ref A8, .non, .int 0, .str "", .ref A9, .ref Aa] : List V) ++ [V.ref F1] = items at oS1 all1 k6 w6 T6 har6 lS ⊢
  generalize upd J16 S (.lst items) = K0 at oS1 all1 k6 w6 T6 har6 ⊢
  clear all0 rA2 pA2 rA5 pA5 rA7 pA7 rA8 pA8 rA9 pA9 rAa pAa rF1 pF1
  clear oF1 nF1 oE1 nE1 oD1 nD1 oC1 nC1 oB1 nB1 oAa nAa oA9 nA9 oA8 nA8 oA7 nA7 oA6 nA6 oA5 nA5 oA4 nA4 oA3 nA3 oA2 nA2 oA1 nA1 oS
  clear q16 q15 q14 q13 q12 q11 q10 q9 q8 q7 q6 q5 q4 q3 q2 q1 g16 g15 g14 g13 g12 g11 g10 g9 g8 g7 g6 g5 g4 g3 g2 g1

  -- for one in ..
  refine ⟨by show 1 ≤ sizeLine; decide, fun X1 hX1 mX1 => ?_⟩
  have sX1 := (Same.refl K0).new (o := .lst [.int 0]) hX1
  have oX1 : upd K0 X1 (.lst [.int 0]) X1 = some (.lst [.int 0]) := upd_same
  generalize upd K0 X1 (.lst [.int 0]) = K1 at sX1 oX1 ⊢
  refine ⟨by show 1 ≤ sizeLine; decide, fun X2 hX2 => ?_⟩
  have sX2 := (Same.refl K1).new (o := .tup [.int 0]) hX2
  have oX2 : upd K1 X2 (.tup [.int 0]) X2 = some (.tup [.int 0]) := upd_same
  generalize upd K1 X2 (.tup [.int 0]) = K2 at sX2 oX2 ⊢
  refine ⟨_, _, rfl, rfl, cpow10 (by decide) (by decide), ?_⟩
  refine ⟨by show 7 ≤ sizeLine; decide, fun T hT => ?_⟩
  have sT := (Same.refl K2).new (o := .tup [.non, .bl true, .bl false, .str "0", .ref X1, .ref X2, .int ((10 : Int) ^ (39 : Int).toNat)]) hT
  have oT : upd K2 T (.tup [.non, .bl true, .bl false, .str "0", .ref X1, .ref X2, .int ((10 : Int) ^ (39 : Int).toNat)]) T = some (.tup [.non, .bl true, .bl false, .str "0", .ref X1, .ref X2, .int ((10 : Int) ^ (39 : Int).toNat)]) := upd_same
  generalize upd K2 T (.tup [.non, .bl true, .bl false, .str "0", .ref X1, .ref X2, .int ((10 : Int) ^ (39 : Int).toNat)]) = K3 at sT oT ⊢
  have s03 := sX1.trans (sX2.trans sT)
  have nX1 : X1 ≠ wl := w6.ne hX1
  have nX2 : X2 ≠ wl := w6.ne (sX1.free hX2)
  have nTw : T ≠ wl := w6.ne ((sX1.trans sX2).free hT)
  have nST : T ≠ S := (ne_of_none ((sX1.trans sX2) _ _ oS1) hT).symm
  have rX1 := Off.at (pn X1 nX1 (ne_of_none oS1 hX1).symm) ((sX2.trans sT) _ _ oX1)
  have rX2 := Off.at (pn X2 nX2 (ne_of_none (sX1 _ _ oS1) hX2).symm) (sT _ _ oX2)
  have p39 : (1000 : Int) < (10 : Int) ^ (39 : Int).toNat := by decide +kernel
  have itT : ∀ z ∈ [V.non, .bl true, .bl false, .str "0", .ref X1, .ref X2, .int ((10 : Int) ^ (39 : Int).toNat)], ItV (Off P0 K3) z ∧ ∀ v : Nat, z = .int (v : Int) → ¬ v < m := by
    intro z hz
    simp only [List.mem_cons, List.not_mem_nil, or_false] at hz
    rcases hz with rfl | rfl | rfl | rfl | rfl | rfl | rfl
    · exact ⟨⟨.non, _, small_non, .non⟩, fun v e => by cases e⟩
    · exact ⟨⟨.bl _, _, small_bl _, .bl _⟩, fun v e => by cases e⟩
    · exact ⟨⟨.bl _, _, small_bl _, .bl _⟩, fun v e => by cases e⟩
    · exact ⟨⟨.str _, _, small_s0, .str _⟩, fun v e => by cases e⟩
    · exact ⟨⟨.lst rX1, _, small_l0, .lst rX1 (fun _ => mX1) (.cons (.int 0) .nil)⟩, fun v e => by cases e⟩
    · exact ⟨⟨.tup rX2, _, small_t0, .tup rX2 (.cons (.int 0) .nil)⟩, fun v e => by cases e⟩
    · exact ⟨.big, fun v e => by have := V.int.inj e; omega⟩
  obtain ⟨ts, hts⟩ : ∃ ts, ts = [V.non, .bl true, .bl false, .str "0", .ref X1, .ref X2, .int ((10 : Int) ^ (39 : Int).toNat)] := ⟨_, rfl⟩
  have lts : ts.length = 7 := by rw [hts]; rfl
  rw [← hts] at itT
  have oT : K3 T = some (.tup ts) := by rw [hts]; exact oT
  have itN : ∀ z ∈ ts, ∀ v : Nat, z = .int (v : Int) → ¬ v < m := fun z hz => (itT z hz).2
  refine ⟨T, rfl, ⟨_, SqT.of oT⟩, for_it (walk_tup (K := K) (xs := ts)) (fun i σ H' => ∃ (v7 : Option V) (items2 : List V), σ = [some (.ref wl), some (.ref R), some (.int (m : Int)), some (.int (sp : Int)), some (.ref ar), some (.int (at_ : Int)), some (.ref S), v7, none, none, none] ∧ Keep wl H H' ∧ Well H' wl (n + 1 + 1) ∧ ToldR H' R bs us m ∧ H' ar = some (.lst (nv o)) ∧ H' S = some (.lst items2) ∧ items2.length = 10 + i ∧ (∀ x ∈ items2, BtV (Off P0 H') m x) ∧ H' T = some (.tup ts) ∧ ∀ z ∈ ts, ItV (Off P0 H') z)
    ⟨none, items, rfl, k6.trans s03.keep, w6.same s03, T6.same s03, s03 _ _ har6, s03 _ _ oS1, lS, fun x hx => (all1 x hx).same (Off.keep s03.keep pw), oT, fun z hz => (itT z hz).1⟩ (fun i σ H' _ z => by obtain ⟨_, _, _, _, _, _, _, _, _, _, z, _⟩ := z; exact SqT.of z) ?_ ?_⟩
  · rintro i x σ M0 M1 hi ⟨v7, items2, rfl, kM, wM, TM, harM, oSM, liM, allM, oTM, itM⟩ ⟨rfl, e1⟩
    have mx := List.mem_of_getElem? e1
    rw [lts] at hi
    have itM : ∀ z ∈ ts, ItV (Off P0 M1) z ∧ ∀ v : Nat, z = .int (v : Int) → ¬ v < m := fun z hz => ⟨itM z hz, itN z hz⟩
    have t_0 := Same.refl M1
    refine ⟨_, rfl, .inl ⟨rfl, _, SqL.of oSM⟩, ?_⟩
    refine ⟨_, rfl, _, rfl, _, rfl, ar, _, rfl, SqL.of (t_0 _ _ harM), fun B2 hB2 mB2 => ?_⟩
    rw [cut_to, nv_take]
    have h_1 := (Same.refl M1).new (o := .lst (nv (o.take at_))) hB2
    have oB2 : upd M1 B2 (.lst (nv (o.take at_))) B2 = some (.lst (nv (o.take at_))) := upd_same
    generalize upd M1 B2 (.lst (nv (o.take at_))) = N1 at h_1 oB2 ⊢
    have t_1 := t_0.trans h_1
    have nB2 : B2 ≠ wl := wM.ne (t_0.free hB2)
    refine ⟨_, rfl, by show 1 ≤ sizeLine; decide, fun C2 hC2 mC2 => ?_⟩
    have h_2 := (Same.refl N1).new (o := .lst [x]) hC2
    have oC2 : upd N1 C2 (.lst [x]) C2 = some (.lst [x]) := upd_same
    generalize upd N1 C2 (.lst [x]) = N2 at h_2 oC2 ⊢
    have t_2 := t_1.trans h_2
    have nC2 : C2 ≠ wl := wM.ne (t_1.free hC2)
    refine ⟨B2, C2, _, _, rfl, rfl, (h_2 _ _ oB2), oC2, by simp only [List.length_append, List.length_cons, List.length_nil, nv_length, List.length_take, List.length_drop]; exact Nat.le_of_lt (szl (by omega)), fun D2 hD2 mD2 => ?_⟩
    have h_3 := (Same.refl N2).new (o := .lst (nv (o.take at_) ++ [x])) hD2
    have oD2 : upd N2 D2 (.lst (nv (o.take at_) ++ [x])) D2 = some (.lst (nv (o.take at_) ++ [x])) := upd_same
    generalize upd N2 D2 (.lst (nv (o.take at_) ++ [x])) = N3 at h_3 oD2 ⊢
    have t_3 := t_2.trans h_3
    have nD2 : D2 ≠ wl := wM.ne (t_2.free hD2)
    refine ⟨_, rfl, _, rfl, _, _, rfl, rfl, _, rfl, ar, _, rfl, SqL.of (t_3 _ _ harM), fun E2 hE2 mE2 => ?_⟩
    rw [show ((at_ : Int) + 1) = ((at_ + 1 : Nat) : Int) from rfl, cut_from, nv_drop]
    have h_4 := (Same.refl N3).new (o := .lst (nv (o.drop (at_ + 1)))) hE2
    have oE2 : upd N3 E2 (.lst (nv (o.drop (at_ + 1)))) E2 = some (.lst (nv (o.drop (at_ + 1)))) := upd_same
    generalize upd N3 E2 (.lst (nv (o.drop (at_ + 1)))) = N4 at h_4 oE2 ⊢
    have t_4 := t_3.trans h_4
    have nE2 : E2 ≠ wl := wM.ne (t_3.free hE2)
    refine ⟨D2, E2, _, _, rfl, rfl, (h_4 _ _ oD2), oE2, by simp only [List.length_append, List.length_cons, List.length_nil, nv_length, List.length_take, List.length_drop]; exact Nat.le_of_lt (szl (by omega)), fun F2 hF2 mF2 => ?_⟩
    have h_5 := (Same.refl N4).new (o := .lst (nv (o.take at_) ++ [x] ++ nv (o.drop (at_ + 1)))) hF2
    have oF2 : upd N4 F2 (.lst (nv (o.take at_) ++ [x] ++ nv (o.drop (at_ + 1)))) F2 = some (.lst (nv (o.take at_) ++ [x] ++ nv (o.drop (at_ + 1)))) := upd_same
    generalize upd N4 F2 (.lst (nv (o.take at_) ++ [x] ++ nv (o.drop (at_ + 1)))) = N5 at h_5 oF2 ⊢
    have t_5 := t_4.trans h_5
    have nF2 : F2 ≠ wl := wM.ne (t_4.free hF2)
    refine ⟨S, _, _, rfl, rfl, t_5 _ _ oSM, by rw [liM]; exact szl (by omega), ?_⟩
    have pF : P0 F2 = false := pn _ nF2 (ne_of_none (t_4 _ _ oSM) hF2).symm
    have rF := Off.at pF oF2
    have sN : Same (Off P0 M1) (Off P0 N5) := Off.keep t_5.keep pw
    refine ⟨some x, items2 ++ [.ref F2], rfl, keep_upd (kM.trans t_5.keep) hSn, (wM.same t_5).updN nS, (TM.same t_5).put nSR nSb, (upd_ne nSa).trans (t_5 _ _ harM), upd_same, by rw [List.length_append, liM]; rfl, fun y hy => ?_, (upd_ne nST).trans (t_5 _ _ oTM), fun z hz => ((itM z hz).1.same (sN.trans (Off.upd pS)))⟩
    rcases List.mem_append.mp hy with hy | hy
    · exact (allM y hy).same (sN.trans (Off.upd pS))
    · rw [List.mem_singleton.mp hy]
      refine (bt_list rF mF2 ?_ (it_mid (Z2 _) (Z3 _) ((itM x mx).1.same sN)) (no_item (x := x) (List.mem_append_left _ (List.mem_append_right _ (List.mem_singleton.mpr rfl))) (itM x mx).2)).same (Off.upd pS)
      simp only [List.length_append, nv_length, List.length_cons, List.length_nil]
      have z1 := lt1 at_
      have z2 := lt2 (at_ + 1)
      omega

  · rintro σ K4 ⟨v7, items2, rfl, k7, w7, T7, har7, oS7, li7, all7, _, _⟩
    rw [lts] at li7
    obtain ⟨P1, hP1⟩ : ∃ P1 : Addr → Bool, P1 = fun a => decide (a = wl) := ⟨_, rfl⟩
    have pw1 : P1 wl = true := by rw [hP1]; exact decide_eq_true rfl
    have pn1 : ∀ a, a ≠ wl → P1 a = false := fun a h => by rw [hP1]; exact decide_eq_false h
    have P01 : ∀ G : Hp, Same (Off P0 G) (Off P1 G) := fun G b o h => by
      unfold Off at h ⊢
      by_cases c : P0 b = true
      · rw [if_pos c] at h; cases h
      · rw [if_neg c] at h
        rw [if_neg (by rw [pn1 b (fun e => c (by rw [e]; exact pw))]; exact Bool.false_ne_true)]
        exact h
    refine ⟨fun σ' H' => ∃ (S' : Addr) (its : List V) (v7 : Option V), σ' = [some (.ref wl), some (.ref R), some (.int (m : Int)), some (.int (sp : Int)), some (.ref ar), some (.int (at_ : Int)), some (.ref S'), v7, none, none, none] ∧ Keep wl H H' ∧ Well H' wl (n + 1 + 1) ∧ ToldR H' R bs us m ∧ S' ≠ wl ∧ H' S' = some (.lst its) ∧ 1 ≤ its.length ∧ its.length ≤ 20 ∧ ∀ x ∈ its, BtV (Off P1 H') m x, ?_, ?_⟩
    · refine ⟨_, rfl, _, _, rfl, rfl, _, rfl, ite2 (fun c => ?_) (fun c => ?_)⟩
      rotate_left
      · exact ⟨S, items2, v7, rfl, k7, w7, T7, nSw, oS7, by omega, by omega, fun x hx => (all7 x hx).same (P01 K4)⟩
      have c : 1 < m := by
        have z : (1 : Int) < (m : Int) := of_decide_eq_true c
        omega
      have x_0 := Same.refl K4
      refine ⟨_, rfl, ?_⟩
      refine ⟨_, rfl, _, rfl, _, rfl, ar, _, rfl, SqL.of (x_0 _ _ har7), fun G1 hG1 mG1 => ?_⟩
      rw [cut_init, nv_take, nv_length]
      have u_1 := (Same.refl K4).new (o := .lst (nv (o.take (o.length - 1)))) hG1
      have oG1 : upd K4 G1 (.lst (nv (o.take (o.length - 1)))) G1 = some (.lst (nv (o.take (o.length - 1)))) := upd_same
      generalize upd K4 G1 (.lst (nv (o.take (o.length - 1)))) = W1 at u_1 oG1 ⊢
      have x_1 := x_0.trans u_1
      have nG1 : G1 ≠ wl := w7.ne (x_0.free hG1)
      refine ⟨_, rfl, _, rfl, _, rfl, ar, _, rfl, SqL.of (x_1 _ _ har7), fun G2 hG2 mG2 => ?_⟩
      rw [cut_init, nv_take, nv_length]
      have u_2 := (Same.refl W1).new (o := .lst (nv (o.take (o.length - 1)))) hG2
      have oG2 : upd W1 G2 (.lst (nv (o.take (o.length - 1)))) G2 = some (.lst (nv (o.take (o.length - 1)))) := upd_same
      generalize upd W1 G2 (.lst (nv (o.take (o.length - 1)))) = W2 at u_2 oG2 ⊢
      have x_2 := x_1.trans u_2
      have nG2 : G2 ≠ wl := w7.ne (x_1.free hG2)
      refine ⟨_, rfl, ar, _, _, .int (v0 : Int), rfl, rfl, SqL.of (x_2 _ _ har7), atI_nat (j := 0) (nv_get ev0), by show 1 ≤ sizeLine; decide, fun G3 hG3 mG3 => ?_⟩
      have u_3 := (Same.refl W2).new (o := .lst [.int (v0 : Int)]) hG3
      have oG3 : upd W2 G3 (.lst [.int (v0 : Int)]) G3 = some (.lst [.int (v0 : Int)]) := upd_same
      generalize upd W2 G3 (.lst [.int (v0 : Int)]) = W3 at u_3 oG3 ⊢
      have x_3 := x_2.trans u_3
      have nG3 : G3 ≠ wl := w7.ne (x_2.free hG3)
      refine ⟨G2, G3, _, _, rfl, rfl, (u_3 _ _ oG2), oG3, by simp only [List.length_append, List.length_cons, List.length_nil, nv_length, List.length_take, List.length_drop]; exact Nat.le_of_lt (szl (by omega)), fun G4 hG4 mG4 => ?_⟩
      have u_4 := (Same.refl W3).new (o := .lst (nv (o.take (o.length - 1)) ++ [.int (v0 : Int)])) hG4
      have oG4 : upd W3 G4 (.lst (nv (o.take (o.length - 1)) ++ [.int (v0 : Int)])) G4 = some (.lst (nv (o.take (o.length - 1)) ++ [.int (v0 : Int)])) := upd_same
      generalize upd W3 G4 (.lst (nv (o.take (o.length - 1)) ++ [.int (v0 : Int)])) = W4 at u_4 oG4 ⊢
      have x_4 := x_3.trans u_4
      have nG4 : G4 ≠ wl := w7.ne (x_3.free hG4)
      refine ⟨_, rfl, _, rfl, _, rfl, ar, _, rfl, SqL.of (x_4 _ _ har7), fun G5 hG5 mG5 => ?_⟩
      rw [cut_to, nv_take]
      have u_5 := (Same.refl W4).new (o := .lst (nv (o.take at_))) hG5
      have oG5 : upd W4 G5 (.lst (nv (o.take at_))) G5 = some (.lst (nv (o.take at_))) := upd_same
      generalize upd W4 G5 (.lst (nv (o.take at_))) = W5 at u_5 oG5 ⊢
      have x_5 := x_4.trans u_5
      have nG5 : G5 ≠ wl := w7.ne (x_4.free hG5)
      refine ⟨_, rfl, _, rfl, _, _, rfl, rfl, _, rfl, ar, _, rfl, SqL.of (x_5 _ _ har7), fun G6 hG6 mG6 => ?_⟩
      rw [show ((at_ : Int) + 1) = ((at_ + 1 : Nat) : Int) from rfl, cut_from, nv_drop]
      have u_6 := (Same.refl W5).new (o := .lst (nv (o.drop (at_ + 1)))) hG6
      have oG6 : upd W5 G6 (.lst (nv (o.drop (at_ + 1)))) G6 = some (.lst (nv (o.drop (at_ + 1)))) := upd_same
      generalize upd W5 G6 (.lst (nv (o.drop (at_ + 1)))) = W6 at u_6 oG6 ⊢
      have x_6 := x_5.trans u_6
      have nG6 : G6 ≠ wl := w7.ne (x_5.free hG6)
      refine ⟨G5, G6, _, _, rfl, rfl, (u_6 _ _ oG5), oG6, by simp only [List.length_append, List.length_cons, List.length_nil, nv_length, List.length_take, List.length_drop]; exact Nat.le_of_lt (szl (by omega)), fun G7 hG7 mG7 => ?_⟩
      have u_7 := (Same.refl W6).new (o := .lst (nv (o.take at_) ++ nv (o.drop (at_ + 1)))) hG7
      have oG7 : upd W6 G7 (.lst (nv (o.take at_) ++ nv (o.drop (at_ + 1)))) G7 = some (.lst (nv (o.take at_) ++ nv (o.drop (at_ + 1)))) := upd_same
      generalize upd W6 G7 (.lst (nv (o.take at_) ++ nv (o.drop (at_ + 1)))) = W7 at u_7 oG7 ⊢
      have x_7 := x_6.trans u_7
      have nG7 : G7 ≠ wl := w7.ne (x_6.free hG7)
      refine ⟨by show 3 ≤ sizeLine; decide, fun G8 hG8 mG8 => ?_⟩
      have u_8 := (Same.refl W7).new (o := .lst [.ref G1, .ref G4, .ref G7]) hG8
      have oG8 : upd W7 G8 (.lst [.ref G1, .ref G4, .ref G7]) G8 = some (.lst [.ref G1, .ref G4, .ref G7]) := upd_same
      generalize upd W7 G8 (.lst [.ref G1, .ref G4, .ref G7]) = W8 at u_8 oG8 ⊢
      have x_8 := x_7.trans u_8
      have nG8 : G8 ≠ wl := w7.ne (x_7.free hG8)
      refine ⟨S, G8, _, _, rfl, rfl, x_8 _ _ oS7, oG8, by rw [li7]; show 20 ≤ sizeLine; decide, fun G9 hG9 mG9 => ?_⟩
      have u_9 := (Same.refl W8).new (o := .lst (items2 ++ [.ref G1, .ref G4, .ref G7])) hG9
      have oG9 : upd W8 G9 (.lst (items2 ++ [.ref G1, .ref G4, .ref G7])) G9 = some (.lst (items2 ++ [.ref G1, .ref G4, .ref G7])) := upd_same
      generalize upd W8 G9 (.lst (items2 ++ [.ref G1, .ref G4, .ref G7])) = W9 at u_9 oG9 ⊢
      have x_9 := x_8.trans u_9
      have nG9 : G9 ≠ wl := w7.ne (x_8.free hG9)
      have sW : Same (Off P0 K4) (Off P1 W9) := fun b o h => Off.keep x_9.keep pw1 b o (P01 K4 b o h)
      refine ⟨G9, _, v7, rfl, k7.trans x_9.keep, w7.same x_9, T7.same x_9, nG9, oG9, by rw [List.length_append, li7]; show 1 ≤ 20; decide, by rw [List.length_append, li7]; show 20 ≤ 20; decide, fun x hx => ?_⟩
      rcases List.mem_append.mp hx with hx | hx
      · exact (all7 x hx).same sW
      · have rG1 := Off.at (pn1 G1 nG1) ((((((((u_2.trans u_3).trans u_4).trans u_5).trans u_6).trans u_7).trans u_8).trans u_9) _ _ oG1)
        have rG4 := Off.at (pn1 G4 nG4) (((((u_5.trans u_6).trans u_7).trans u_8).trans u_9) _ _ oG4)
        have rG7 := Off.at (pn1 G7 nG7) ((u_8.trans u_9) _ _ oG7)
        have z1 := lt1 (o.length - 1)
        have z2 := lt1 at_
        have z3 := lt2 (at_ + 1)
        simp only [List.mem_cons, List.not_mem_nil, or_false] at hx
        rcases hx with rfl | rfl | rfl
        · exact bt_list rG1 mG1 (by rw [nv_length]; omega) (it_nv (Z2 _)) (no_len (by rw [nv_length, List.length_take]; omega))
        · refine bt_list rG4 mG4 (by simp only [List.length_append, nv_length, List.length_cons, List.length_nil]; omega) (it1 _ _ _ (Z2 _) (.nat (Z1 v0 (List.mem_of_getElem? ev0)))) ?_
          have e : nv (o.take (o.length - 1)) ++ [V.int (v0 : Int)] = nv (o.take (o.length - 1) ++ [v0]) := by rw [nv_append]; rfl
          rw [e]
          refine no_twice fun nd => (List.nodup_append.mp nd).2.2 v0 ?_ v0 (List.mem_singleton.mpr rfl) rfl
          exact List.mem_of_getElem? (i := 0) (by rw [List.getElem?_take_of_lt (by omega)]; exact ev0)
        · refine bt_list rG7 mG7 (by simp only [List.length_append, nv_length]; omega) (fun z hz => (List.mem_append.mp hz).elim (it_nv (Z2 _) z) (it_nv (Z3 _) z)) (no_len ?_)
          simp only [List.length_append, nv_length, List.length_take, List.length_drop]
          omega
  
    rintro _ K5 ⟨S', its, v7', rfl, k8, w8, T8, nS', oS8, l1, l20, all8⟩
    -- bent
    refine ⟨_, rfl, _, rfl, _, rfl, _, _, rfl, .inl ⟨_, SqL.of oS8, rfl⟩, wl, _, _, rfl, w8, by omega, by omega, by omega, fun d K6 e0 e1 k9 w9 => ?_⟩
    obtain ⟨db, rfl⟩ : ∃ db : Nat, d = (db : Int) := ⟨d.toNat, by omega⟩
    obtain ⟨bent, eb⟩ : ∃ bent, its[db]? = some bent := ⟨_, List.getElem?_eq_getElem (by omega)⟩
    have bt9 : BtV (Off P1 K6) m bent := (all8 bent (List.mem_of_getElem? eb)).same (Off.keep k9 pw1)
    have T9 : ToldR K6 R bs us m := ⟨k9 _ _ nRw T8.at_, rws_keep T8.rw k9 aw3, T8.ne, T8.many, T8.n1, T8.n60, T8.ord⟩
    have hb9 := T9.rw.at_ 0 b0 u0 eb0 eu0
    have k9' := k8.trans k9
    refine ⟨S', _, _, bent, rfl, rfl, SqL.of (k9 _ _ nS' oS8), atI_nat eb, ?_⟩
    have z_0 := Same.refl K6
    intro D1 hD1
    have y_1 := (Same.refl K6).new (o := .dK []) hD1
    have oD1 : upd K6 D1 (.dK []) D1 = some (.dK []) := upd_same
    generalize upd K6 D1 (.dK []) = Y1 at y_1 oD1 ⊢
    have z_1 := z_0.trans y_1
    have nD1 : D1 ≠ wl := w9.ne (z_0.free hD1)
    refine ⟨by show 0 ≤ sizeLine; decide, fun D2 hD2 => ?_⟩
    have y_2 := (Same.refl Y1).new (o := .tup []) hD2
    have oD2 : upd Y1 D2 (.tup []) D2 = some (.tup []) := upd_same
    generalize upd Y1 D2 (.tup []) = Y2 at y_2 oD2 ⊢
    have z_2 := z_1.trans y_2
    have nD2 : D2 ≠ wl := w9.ne (z_1.free hD2)
    refine ⟨by show 0 ≤ sizeLine; decide, fun D3 hD3 mD3 => ?_⟩
    have y_3 := (Same.refl Y2).new (o := .lst []) hD3
    have oD3 : upd Y2 D3 (.lst []) D3 = some (.lst []) := upd_same
    generalize upd Y2 D3 (.lst []) = Y3 at y_3 oD3 ⊢
    have z_3 := z_2.trans y_3
    have nD3 : D3 ≠ wl := w9.ne (z_2.free hD3)
    refine ⟨_, rfl, R, _, rfl, .inl ⟨SqL.of (z_3 _ _ T9.at_), fun D4 hD4 => ?_⟩⟩
    have y_4 := (Same.refl Y3).new (o := .tup (bs.map V.ref)) hD4
    have oD4 : upd Y3 D4 (.tup (bs.map V.ref)) D4 = some (.tup (bs.map V.ref)) := upd_same
    generalize upd Y3 D4 (.tup (bs.map V.ref)) = Y4 at y_4 oD4 ⊢
    have z_4 := z_3.trans y_4
    have nD4 : D4 ≠ wl := w9.ne (z_3.free hD4)
    refine ⟨_, rfl, R, _, _, .ref b0, rfl, rfl, SqL.of (z_4 _ _ T9.at_), atI_nat (j := 0) (by rw [List.getElem?_map, eb0]; rfl), ?_⟩
    refine ⟨by show 1 ≤ sizeLine; decide, fun D5 hD5 mD5 => ?_⟩
    have y_5 := (Same.refl Y4).new (o := .lst [.non]) hD5
    have oD5 : upd Y4 D5 (.lst [.non]) D5 = some (.lst [.non]) := upd_same
    generalize upd Y4 D5 (.lst [.non]) = Y5 at y_5 oD5 ⊢
    have z_5 := z_4.trans y_5
    have nD5 : D5 ≠ wl := w9.ne (z_4.free hD5)
    refine ⟨by show 0 ≤ sizeLine; decide, fun D6 hD6 => ?_⟩
    have y_6 := (Same.refl Y5).new (o := .tup []) hD6
    have oD6 : upd Y5 D6 (.tup []) D6 = some (.tup []) := upd_same
    generalize upd Y5 D6 (.tup []) = Y6 at y_6 oD6 ⊢
    have z_6 := z_5.trans y_6
    have nD6 : D6 ≠ wl := w9.ne (z_5.free hD6)
    refine ⟨by show 1 ≤ sizeLine; decide, fun D7 hD7 mD7 => ?_⟩
    have y_7 := (Same.refl Y6).new (o := .lst [.ref D6]) hD7
    have oD7 : upd Y6 D7 (.lst [.ref D6]) D7 = some (.lst [.ref D6]) := upd_same
    generalize upd Y6 D7 (.lst [.ref D6]) = Y7 at y_7 oD7 ⊢
    have z_7 := z_6.trans y_7
    have nD7 : D7 ≠ wl := w9.ne (z_6.free hD7)
    refine ⟨by show 12 ≤ sizeLine; decide, fun D8 hD8 mD8 => ?_⟩
    have y_8 := (Same.refl Y7).new (o := .lst [.non, .int 0, .bl true, .str "", .str "0 1", .ref D1, .ref D2, .ref D3, .ref D4, .ref b0, .ref D5, .ref D7]) hD8
    have oD8 : upd Y7 D8 (.lst [.non, .int 0, .bl true, .str "", .str "0 1", .ref D1, .ref D2, .ref D3, .ref D4, .ref b0, .ref D5, .ref D7]) D8 = some (.lst [.non, .int 0, .bl true, .str "", .str "0 1", .ref D1, .ref D2, .ref D3, .ref D4, .ref b0, .ref D5, .ref D7]) := upd_same
    generalize upd Y7 D8 (.lst [.non, .int 0, .bl true, .str "", .str "0 1", .ref D1, .ref D2, .ref D3, .ref D4, .ref b0, .ref D5, .ref D7]) = Y8 at y_8 oD8 ⊢
    have z_8 := z_7.trans y_8
    have nD8 : D8 ≠ wl := w9.ne (z_7.free hD8)
    refine ⟨_, rfl, ?_⟩
    refine ⟨by show 1 ≤ sizeLine; decide, fun E1 hE1 mE1 => ?_⟩
    have y_9 := (Same.refl Y8).new (o := .lst [.int 0]) hE1
    have oE1 : upd Y8 E1 (.lst [.int 0]) E1 = some (.lst [.int 0]) := upd_same
    generalize upd Y8 E1 (.lst [.int 0]) = Y9 at y_9 oE1 ⊢
    have z_9 := z_8.trans y_9
    have nE1 : E1 ≠ wl := w9.ne (z_8.free hE1)
    refine ⟨by show 2 ≤ sizeLine; decide, fun E2 hE2 mE2 => ?_⟩
    have y_10 := (Same.refl Y9).new (o := .lst [.int 0, .int 1]) hE2
    have oE2 : upd Y9 E2 (.lst [.int 0, .int 1]) E2 = some (.lst [.int 0, .int 1]) := upd_same
    generalize upd Y9 E2 (.lst [.int 0, .int 1]) = Y10 at y_10 oE2 ⊢
    have z_10 := z_9.trans y_10
    have nE2 : E2 ≠ wl := w9.ne (z_9.free hE2)
    refine ⟨by show 2 ≤ sizeLine; decide, fun E3 hE3 mE3 => ?_⟩
    have y_11 := (Same.refl Y10).new (o := .lst [.ref E1, .ref E2]) hE3
    have oE3 : upd Y10 E3 (.lst [.ref E1, .ref E2]) E3 = some (.lst [.ref E1, .ref E2]) := upd_same
    generalize upd Y10 E3 (.lst [.ref E1, .ref E2]) = Y11 at y_11 oE3 ⊢
    have z_11 := z_10.trans y_11
    have nE3 : E3 ≠ wl := w9.ne (z_10.free hE3)
    refine ⟨by show 1 ≤ sizeLine; decide, fun E4 hE4 mE4 => ?_⟩
    have y_12 := (Same.refl Y11).new (o := .lst [.int 1]) hE4
    have oE4 : upd Y11 E4 (.lst [.int 1]) E4 = some (.lst [.int 1]) := upd_same
    generalize upd Y11 E4 (.lst [.int 1]) = Y12 at y_12 oE4 ⊢
    have z_12 := z_11.trans y_12
    have nE4 : E4 ≠ wl := w9.ne (z_11.free hE4)
    refine ⟨by show 1 ≤ sizeLine; decide, fun E5 hE5 mE5 => ?_⟩
    have y_13 := (Same.refl Y12).new (o := .lst [.ref E4]) hE5
    have oE5 : upd Y12 E5 (.lst [.ref E4]) E5 = some (.lst [.ref E4]) := upd_same
    generalize upd Y12 E5 (.lst [.ref E4]) = Y13 at y_13 oE5 ⊢
    have z_13 := z_12.trans y_13
    have nE5 : E5 ≠ wl := w9.ne (z_12.free hE5)
    refine ⟨by show 2 ≤ sizeLine; decide, fun E6 hE6 mE6 => ?_⟩
    have y_14 := (Same.refl Y13).new (o := .lst [.int 0, .int 0]) hE6
    have oE6 : upd Y13 E6 (.lst [.int 0, .int 0]) E6 = some (.lst [.int 0, .int 0]) := upd_same
    generalize upd Y13 E6 (.lst [.int 0, .int 0]) = Y14 at y_14 oE6 ⊢
    have z_14 := z_13.trans y_14
    have nE6 : E6 ≠ wl := w9.ne (z_13.free hE6)
    refine ⟨by show 1 ≤ sizeLine; decide, fun E7 hE7 mE7 => ?_⟩
    have y_15 := (Same.refl Y14).new (o := .lst [.ref E6]) hE7
    have oE7 : upd Y14 E7 (.lst [.ref E6]) E7 = some (.lst [.ref E6]) := upd_same
    generalize upd Y14 E7 (.lst [.ref E6]) = Y15 at y_15 oE7 ⊢
    have z_15 := z_14.trans y_15
    have nE7 : E7 ≠ wl := w9.ne (z_14.free hE7)
    refine ⟨by show 0 ≤ sizeLine; decide, fun E8 hE8 mE8 => ?_⟩
    have y_16 := (Same.refl Y15).new (o := .lst []) hE8
    have oE8 : upd Y15 E8 (.lst []) E8 = some (.lst []) := upd_same
    generalize upd Y15 E8 (.lst []) = Y16 at y_16 oE8 ⊢
    have z_16 := z_15.trans y_16
    have nE8 : E8 ≠ wl := w9.ne (z_15.free hE8)
    refine ⟨by show 1 ≤ sizeLine; decide, fun E9 hE9 mE9 => ?_⟩
    have y_17 := (Same.refl Y16).new (o := .lst [.ref E8]) hE9
    have oE9 : upd Y16 E9 (.lst [.ref E8]) E9 = some (.lst [.ref E8]) := upd_same
    generalize upd Y16 E9 (.lst [.ref E8]) = Y17 at y_17 oE9 ⊢
    have z_17 := z_16.trans y_17
    have nE9 : E9 ≠ wl := w9.ne (z_16.free hE9)
    refine ⟨by show 0 ≤ sizeLine; decide, fun Ea hEa mEa => ?_⟩
    have y_18 := (Same.refl Y17).new (o := .lst []) hEa
    have oEa : upd Y17 Ea (.lst []) Ea = some (.lst []) := upd_same
    generalize upd Y17 Ea (.lst []) = Y18 at y_18 oEa ⊢
    have z_18 := z_17.trans y_18
    have nEa : Ea ≠ wl := w9.ne (z_17.free hEa)
    refine ⟨by show 0 ≤ sizeLine; decide, fun Eb hEb mEb => ?_⟩
    have y_19 := (Same.refl Y18).new (o := .lst []) hEb
    have oEb : upd Y18 Eb (.lst []) Eb = some (.lst []) := upd_same
    generalize upd Y18 Eb (.lst []) = Y19 at y_19 oEb ⊢
    have z_19 := z_18.trans y_19
    have nEb : Eb ≠ wl := w9.ne (z_18.free hEb)
    refine ⟨by show 2 ≤ sizeLine; decide, fun Ec hEc mEc => ?_⟩
    have y_20 := (Same.refl Y19).new (o := .lst [.ref Ea, .ref Eb]) hEc
    have oEc : upd Y19 Ec (.lst [.ref Ea, .ref Eb]) Ec = some (.lst [.ref Ea, .ref Eb]) := upd_same
    generalize upd Y19 Ec (.lst [.ref Ea, .ref Eb]) = Y20 at y_20 oEc ⊢
    have z_20 := z_19.trans y_20
    have nEc : Ec ≠ wl := w9.ne (z_19.free hEc)
    refine ⟨by show 5 ≤ sizeLine; decide, fun Ed hEd mEd => ?_⟩
    have y_21 := (Same.refl Y20).new (o := .lst [.ref E3, .ref E5, .ref E7, .ref E9, .ref Ec]) hEd
    have oEd : upd Y20 Ed (.lst [.ref E3, .ref E5, .ref E7, .ref E9, .ref Ec]) Ed = some (.lst [.ref E3, .ref E5, .ref E7, .ref E9, .ref Ec]) := upd_same
    generalize upd Y20 Ed (.lst [.ref E3, .ref E5, .ref E7, .ref E9, .ref Ec]) = Y21 at y_21 oEd ⊢
    have z_21 := z_20.trans y_21
    have nEd : Ed ≠ wl := w9.ne (z_20.free hEd)
    refine ⟨D8, Ed, _, _, rfl, rfl, (((((((((((((y_9.trans y_10).trans y_11).trans y_12).trans y_13).trans y_14).trans y_15).trans y_16).trans y_17).trans y_18).trans y_19).trans y_20).trans y_21) _ _ oD8), oEd, by show 17 ≤ sizeLine; decide, fun Ee hEe mEe => ?_⟩
    have y_22 := (Same.refl Y21).new (o := .lst ([.non, .int 0, .bl true, .str "", .str "0 1", .ref D1, .ref D2, .ref D3, .ref D4, .ref b0, .ref D5, .ref D7] ++ [.ref E3, .ref E5, .ref E7, .ref E9, .ref Ec])) hEe
    have oEe : upd Y21 Ee (.lst ([.non, .int 0, .bl true, .str "", .str "0 1", .ref D1, .ref D2, .ref D3, .ref D4, .ref b0, .ref D5, .ref D7] ++ [.ref E3, .ref E5, .ref E7, .ref E9, .ref Ec])) Ee = some (.lst ([.non, .int 0, .bl true, .str "", .str "0 1", .ref D1, .ref D2, .ref D3, .ref D4, .ref b0, .ref D5, .ref D7] ++ [.ref E3, .ref E5, .ref E7, .ref E9, .ref Ec])) := upd_same
    generalize upd Y21 Ee (.lst ([.non, .int 0, .bl true, .str "", .str "0 1", .ref D1, .ref D2, .ref D3, .ref D4, .ref b0, .ref D5, .ref D7] ++ [.ref E3, .ref E5, .ref E7, .ref E9, .ref Ec])) = Y22 at y_22 oEe ⊢
    have z_22 := z_21.trans y_22
    have nEe : Ee ≠ wl := w9.ne (z_21.free hEe)
    have rD1 := Off.at (pn1 D1 nD1) (((((((((((((((((((((y_2.trans y_3).trans y_4).trans y_5).trans y_6).trans y_7).trans y_8).trans y_9).trans y_10).trans y_11).trans y_12).trans y_13).trans y_14).trans y_15).trans y_16).trans y_17).trans y_18).trans y_19).trans y_20).trans y_21).trans y_22) _ _ oD1)
    have rD2 := Off.at (pn1 D2 nD2) ((((((((((((((((((((y_3.trans y_4).trans y_5).trans y_6).trans y_7).trans y_8).trans y_9).trans y_10).trans y_11).trans y_12).trans y_13).trans y_14).trans y_15).trans y_16).trans y_17).trans y_18).trans y_19).trans y_20).trans y_21).trans y_22) _ _ oD2)
    have rD3 := Off.at (pn1 D3 nD3) (((((((((((((((((((y_4.trans y_5).trans y_6).trans y_7).trans y_8).trans y_9).trans y_10).trans y_11).trans y_12).trans y_13).trans y_14).trans y_15).trans y_16).trans y_17).trans y_18).trans y_19).trans y_20).trans y_21).trans y_22) _ _ oD3)
    have rD4 := Off.at (pn1 D4 nD4) ((((((((((((((((((y_5.trans y_6).trans y_7).trans y_8).trans y_9).trans y_10).trans y_11).trans y_12).trans y_13).trans y_14).trans y_15).trans y_16).trans y_17).trans y_18).trans y_19).trans y_20).trans y_21).trans y_22) _ _ oD4)
    have rD5 := Off.at (pn1 D5 nD5) (((((((((((((((((y_6.trans y_7).trans y_8).trans y_9).trans y_10).trans y_11).trans y_12).trans y_13).trans y_14).trans y_15).trans y_16).trans y_17).trans y_18).trans y_19).trans y_20).trans y_21).trans y_22) _ _ oD5)
    have rD6 := Off.at (pn1 D6 nD6) ((((((((((((((((y_7.trans y_8).trans y_9).trans y_10).trans y_11).trans y_12).trans y_13).trans y_14).trans y_15).trans y_16).trans y_17).trans y_18).trans y_19).trans y_20).trans y_21).trans y_22) _ _ oD6)
    have rD7 := Off.at (pn1 D7 nD7) (((((((((((((((y_8.trans y_9).trans y_10).trans y_11).trans y_12).trans y_13).trans y_14).trans y_15).trans y_16).trans y_17).trans y_18).trans y_19).trans y_20).trans y_21).trans y_22) _ _ oD7)
    have rE1 := Off.at (pn1 E1 nE1) (((((((((((((y_10.trans y_11).trans y_12).trans y_13).trans y_14).trans y_15).trans y_16).trans y_17).trans y_18).trans y_19).trans y_20).trans y_21).trans y_22) _ _ oE1)
    have rE2 := Off.at (pn1 E2 nE2) ((((((((((((y_11.trans y_12).trans y_13).trans y_14).trans y_15).trans y_16).trans y_17).trans y_18).trans y_19).trans y_20).trans y_21).trans y_22) _ _ oE2)
    have rE3 := Off.at (pn1 E3 nE3) (((((((((((y_12.trans y_13).trans y_14).trans y_15).trans y_16).trans y_17).trans y_18).trans y_19).trans y_20).trans y_21).trans y_22) _ _ oE3)
    have rE4 := Off.at (pn1 E4 nE4) ((((((((((y_13.trans y_14).trans y_15).trans y_16).trans y_17).trans y_18).trans y_19).trans y_20).trans y_21).trans y_22) _ _ oE4)
    have rE5 := Off.at (pn1 E5 nE5) (((((((((y_14.trans y_15).trans y_16).trans y_17).trans y_18).trans y_19).trans y_20).trans y_21).trans y_22) _ _ oE5)
    have rE6 := Off.at (pn1 E6 nE6) ((((((((y_15.trans y_16).trans y_17).trans y_18).trans y_19).trans y_20).trans y_21).trans y_22) _ _ oE6)
    have rE7 := Off.at (pn1 E7 nE7) (((((((y_16.trans y_17).trans y_18).trans y_19).trans y_20).trans y_21).trans y_22) _ _ oE7)
    have rE8 := Off.at (pn1 E8 nE8) ((((((y_17.trans y_18).trans y_19).trans y_20).trans y_21).trans y_22) _ _ oE8)
    have rE9 := Off.at (pn1 E9 nE9) (((((y_18.trans y_19).trans y_20).trans y_21).trans y_22) _ _ oE9)
    have rEa := Off.at (pn1 Ea nEa) ((((y_19.trans y_20).trans y_21).trans y_22) _ _ oEa)
    have rEb := Off.at (pn1 Eb nEb) (((y_20.trans y_21).trans y_22) _ _ oEb)
    have rEc := Off.at (pn1 Ec nEc) ((y_21.trans y_22) _ _ oEc)
    have rb0 := Off.at (pn1 b0 (aw3 b0 (List.mem_of_getElem? eb0))) (z_22 _ _ hb9)
    have T10 := T9.same z_22
    have w10 := w9.same z_22
    have kz : Same (Off P1 K6) (Off P1 Y22) := Off.keep z_22.keep pw1
    have bt10 := bt9.same kz
    have TO : ToldR (Off P1 Y22) R bs us m := ⟨Off.at (pn1 R nRw) T10.at_, ⟨T10.rw.len, fun i p r e1 e2 => Off.at (pn1 p (aw3 p (List.mem_of_getElem? e1))) (T10.rw.at_ i p r e1 e2)⟩, T10.ne, T10.many, T10.n1, T10.n60, T10.ord⟩
    clear kz bt9 T9 hb9
    have oK : Y22 Ee = some (.lst [.non, .int 0, .bl true, .str "", .str "0 1", .ref D1, .ref D2, .ref D3, .ref D4, .ref b0, .ref D5, .ref D7, .ref E3, .ref E5, .ref E7, .ref E9, .ref Ec]) := oEe
    have k10 : Keep wl H Y22 := k9'.trans z_22.keep
    generalize Y22 = KL at *
    have one : ∀ {a : Addr} {l : List Nat}, Off P1 KL a = some (.lst (nv l)) → a ≠ sysModules → l.length ≤ 60 → (∀ v ∈ l, v ≤ 1000) → OrV (Off P1 KL) (.ref a) ∧ ∃ d, Md d ∧ Rp true (Off P1 KL) (.ref a) d := fun h na hl lt => row_it h na hl lt
    have at1 : ∀ {z : V} {d : PyData}, Vd (Off P1 KL) z → lstAt (Off P1 KL) z = none → Rp true (Off P1 KL) z d → Md d → KdV (Off P1 KL) z := fun vd e r md => ⟨⟨⟨vd, fun xs y => by rw [e] at y; cases y⟩, _, md.bg, r⟩, no_told_none e⟩
    have kinds : ∀ x ∈ [V.non, .int 0, .bl true, .str "", .str "0 1", .ref D1, .ref D2, .ref D3, .ref D4, .ref b0, .ref D5, .ref D7, .ref E3, .ref E5, .ref E7, .ref E9, .ref Ec], KdV (Off P1 KL) x := by
      intro x hx
      simp only [List.mem_cons, List.not_mem_nil, or_false] at hx
      rcases hx with rfl | rfl | rfl | rfl | rfl | rfl | rfl | rfl | rfl | rfl | rfl | rfl | rfl | rfl | rfl | rfl | rfl
      · exact at1 .non rfl .non small_non.md
      · exact at1 (.int 0) rfl (.int 0) (small_int (by decide)).md
      · exact at1 (.bl _) rfl (.bl _) (small_bl _).md
      · exact at1 (.str _) rfl (.str _) small_s2.md
      · exact at1 (.str _) rfl (.str _) small_s01.md
      · exact at1 (.dK rD1) (by simp only [lstAt, rD1]) (.dct rfl rD1) small_d0.md
      · exact at1 (.tup rD2) (by simp only [lstAt, rD2]) (.tup rD2 .nil) (md_tuple (fun d hd => absurd hd List.not_mem_nil) (by decide))
      · exact ⟨rows_list rD3 mD3 (by simp) fun z hz => absurd hz List.not_mem_nil, no_told_nil rD3⟩
      · exact ⟨told_tup TO rD4 (by omega) asy3, no_told_none (by simp only [lstAt, rD4])⟩
      · refine ⟨⟨⟨.lst rb0, fun xs e => ?_⟩, ?_⟩, no_told_item rb0 (x := .int ((u0.getD 0 0 : Nat) : Int)) ?_ fun l e => by cases e⟩
        · rw [lstAt_lst rb0] at e
          cases e
          exact ⟨by rw [nv_length]; omega, fun z hz => ⟨vd_nvK z hz, fun ys y => by
            obtain ⟨v, _, rfl⟩ := List.mem_map.mp hz
            cases y⟩⟩
        · obtain ⟨d, md, r⟩ := (one rb0 (asy3 b0 (List.mem_of_getElem? eb0)) (by omega) fun v hv => by have := ou0.2 v hv; omega).2
          exact ⟨d, md.bg, r⟩
        · refine List.mem_of_getElem? (i := 0) (nv_get ?_)
          rw [List.getD_eq_getElem?_getD, List.getElem?_eq_getElem (by omega)]; rfl
      · refine ⟨rows_list rD5 mD5 (by simp) fun z hz => ?_, no_told_item rD5 (x := .non) List.mem_cons_self fun l e => by cases e⟩
        rw [List.mem_singleton.mp hz]
        exact ⟨⟨.non, fun xs e => by cases e⟩, _, small_non.md, .non⟩
      · refine ⟨rows_list rD7 mD7 (by simp) fun z hz => ?_, no_told_item rD7 (x := .ref D6) List.mem_cons_self fun l e => by simp only [lstAt, rD6] at e; cases e⟩
        rw [List.mem_singleton.mp hz]
        exact ⟨⟨.tup rD6, fun xs e => by simp only [lstAt, rD6] at e; cases e⟩, _, md_tuple (fun d hd => absurd hd List.not_mem_nil) (by decide), .tup rD6 .nil⟩
      · have b2 : BtV (Off P1 KL) 1 (.ref E2) := bt_list rE2 mE2 (by decide) (it_nv (o := [0, 1]) (by decide)) (no_len (by decide))
        refine ⟨rows_list rE3 mE3 (by simp) fun z hz => ?_, no_told_len rE3 (b := E1) (r := [0]) List.mem_cons_self rE1 rfl (List.mem_cons_of_mem _ List.mem_cons_self) b2⟩
        rcases List.mem_cons.mp hz with rfl | hz
        · exact one (l := [0]) rE1 mE1 (by decide) (by decide)
        · rw [List.mem_singleton.mp hz]
          exact one (l := [0, 1]) rE2 mE2 (by decide) (by decide)
      · refine ⟨rows_list rE5 mE5 (by simp) fun z hz => ?_, no_told_item rE5 (x := .ref E4) List.mem_cons_self fun l e o _ => ?_⟩
        · rw [List.mem_singleton.mp hz]
          exact one (l := [1]) rE4 mE4 (by decide) (by decide)
        · rw [lstAt_lst rE4] at e
          have e2 : [1] = l := nv_inj (Option.some.inj e)
          subst e2
          exact absurd (o.2 1 List.mem_cons_self) (by decide)
      · refine ⟨rows_list rE7 mE7 (by simp) fun z hz => ?_, no_told_item rE7 (x := .ref E6) List.mem_cons_self fun l e o _ => ?_⟩
        · rw [List.mem_singleton.mp hz]
          exact one (l := [0, 0]) rE6 mE6 (by decide) (by decide)
        · rw [lstAt_lst rE6] at e
          have e2 : [0, 0] = l := nv_inj (Option.some.inj e)
          subst e2
          exact absurd o.1 (by decide)
      · refine ⟨rows_list rE9 mE9 (by simp) fun z hz => ?_, no_told_item rE9 (x := .ref E8) List.mem_cons_self fun l e _ l1 => ?_⟩
        · rw [List.mem_singleton.mp hz]
          exact one (l := []) rE8 mE8 (by decide) (by decide)
        · rw [lstAt_lst rE8] at e
          have e2 : [] = l := nv_inj (Option.some.inj e)
          subst e2
          exact absurd l1 (by decide)
      · refine ⟨rows_list rEc mEc (by simp) fun z hz => ?_, no_told_item rEc (x := .ref Ea) List.mem_cons_self fun l e _ l1 => ?_⟩
        · rcases List.mem_cons.mp hz with rfl | hz
          · exact one (l := []) rEa mEa (by decide) (by decide)
          · rw [List.mem_singleton.mp hz]
            exact one (l := []) rEb mEb (by decide) (by decide)
        · rw [lstAt_lst rEa] at e
          have e2 : [] = l := nv_inj (Option.some.inj e)
          subst e2
          exact absurd l1 (by decide)

    -- kind
    refine ⟨_, rfl, _, rfl, wl, _, _, rfl, w10, by omega, by decide, by decide, fun d K7 e2 e3 k11 w11 => ?_⟩
    obtain ⟨dk, rfl⟩ : ∃ dk : Nat, d = (dk : Int) := ⟨d.toNat, by omega⟩
    obtain ⟨kind, hk1, hk2⟩ := pick (xs := [V.non, .int 0, .bl true, .str "", .str "0 1", .ref D1, .ref D2, .ref D3, .ref D4, .ref b0, .ref D5, .ref D7, .ref E3, .ref E5, .ref E7, .ref E9, .ref Ec]) e2 e3
    have kd := kinds kind hk1
    clear kinds
    refine ⟨Ee, _, _, kind, rfl, rfl, SqL.of (k11 _ _ nEe oK), hk2, ?_⟩
    refine ⟨_, rfl, wl, _, _, rfl, w11, by omega, by decide, by decide, fun d K8 _ _ k12 w12 => ⟨rfl, _, rfl, ite2 (fun c => ?_) (fun c => ?_)⟩⟩
    · have kd8 := (kd.same (Off.keep (k11.trans k12) pw1)).same Off.same
      exact ⟨_, rfl, q kind K8 (k10.trans (k11.trans k12)) kd8.1 kd8.2⟩
    have T12 : ToldR K8 R bs us m := ⟨(k11.trans k12) _ _ nRw T10.at_, rws_keep T10.rw (k11.trans k12) aw3, T10.ne, T10.many, T10.n1, T10.n60, T10.ord⟩
    have bt12 := (bt10.same (Off.keep (k11.trans k12) pw1)).same Off.same
    have k012 := k10.trans (k11.trans k12)
    have lbl : (bs.map V.ref).length = us.length := lbr
    clear TO T10 bt10 kd oK
    refine ⟨_, rfl, _, rfl, _, rfl, R, _, rfl, SqL.of T12.at_, fun U1 hU1 mU1 => ?_⟩
    rw [cut_to]
    have sU1 := (Same.refl K8).new (o := .lst ((bs.map V.ref).take sp)) hU1
    have oU1 : upd K8 U1 (.lst ((bs.map V.ref).take sp)) U1 = some (.lst ((bs.map V.ref).take sp)) := upd_same
    generalize upd K8 U1 (.lst ((bs.map V.ref).take sp)) = V1 at sU1 oU1 ⊢
    refine ⟨_, rfl, by show 1 ≤ sizeLine; decide, fun U2 hU2 mU2 => ?_⟩
    have sU2 := (Same.refl V1).new (o := .lst [bent]) hU2
    have oU2 : upd V1 U2 (.lst [bent]) U2 = some (.lst [bent]) := upd_same
    generalize upd V1 U2 (.lst [bent]) = V2 at sU2 oU2 ⊢
    have l1' : ((bs.map V.ref).take sp).length ≤ 9 := by rw [List.length_take]; omega
    have l2' : ((bs.map V.ref).drop (sp + 1)).length ≤ 9 := by rw [List.length_drop]; omega
    refine ⟨U1, U2, _, _, rfl, rfl, sU2 _ _ oU1, oU2, Nat.le_of_lt (szl (by show _ + 1 ≤ 1000; omega)), fun U3 hU3 mU3 => ?_⟩
    have sU3 := (Same.refl V2).new (o := .lst ((bs.map V.ref).take sp ++ [bent])) hU3
    have oU3 : upd V2 U3 (.lst ((bs.map V.ref).take sp ++ [bent])) U3 = some (.lst ((bs.map V.ref).take sp ++ [bent])) := upd_same
    generalize upd V2 U3 (.lst ((bs.map V.ref).take sp ++ [bent])) = V3 at sU3 oU3 ⊢
    have v3 := sU1.trans (sU2.trans sU3)
    refine ⟨_, rfl, _, rfl, _, _, rfl, rfl, _, rfl, R, _, rfl, SqL.of (v3 _ _ T12.at_), fun U4 hU4 mU4 => ?_⟩
    rw [show ((sp : Int) + 1) = ((sp + 1 : Nat) : Int) from rfl, cut_from]
    have sU4 := (Same.refl V3).new (o := .lst ((bs.map V.ref).drop (sp + 1))) hU4
    have oU4 : upd V3 U4 (.lst ((bs.map V.ref).drop (sp + 1))) U4 = some (.lst ((bs.map V.ref).drop (sp + 1))) := upd_same
    generalize upd V3 U4 (.lst ((bs.map V.ref).drop (sp + 1))) = V4 at sU4 oU4 ⊢
    refine ⟨U3, U4, _, _, rfl, rfl, sU4 _ _ oU3, oU4, Nat.le_of_lt (szl (by rw [List.length_append]; show _ + 1 + _ ≤ 1000; omega)), fun U5 hU5 mU5 => ?_⟩
    have sU5 := (Same.refl V4).new (o := .lst ((bs.map V.ref).take sp ++ [bent] ++ (bs.map V.ref).drop (sp + 1))) hU5
    have oU5 : upd V4 U5 (.lst ((bs.map V.ref).take sp ++ [bent] ++ (bs.map V.ref).drop (sp + 1))) U5 = some (.lst ((bs.map V.ref).take sp ++ [bent] ++ (bs.map V.ref).drop (sp + 1))) := upd_same
    generalize upd V4 U5 (.lst ((bs.map V.ref).take sp ++ [bent] ++ (bs.map V.ref).drop (sp + 1))) = V5 at sU5 oU5 ⊢
    have v5 := v3.trans (sU4.trans sU5)
    have T13 := T12.same v5
    have bt13 := bt12.same v5
    have item : ∀ z ∈ bs.map V.ref, OrV V5 z ∧ ∃ d, Md d ∧ Rp true V5 z d := fun z hz => by
      obtain ⟨i, ei⟩ := List.mem_iff_getElem?.mp hz
      obtain ⟨a, ea, rfl⟩ := ref_atT ei
      obtain ⟨r, er, mr, ha⟩ := T13.rw.get2 ea
      obtain ⟨o', lr⟩ := T13.ord r mr
      exact row_it ha (asy3 a (List.mem_of_getElem? ea)) (by omega) fun v hv => by have := o'.2 v hv; omega
    refine q (.ref U5) V5 (k012.trans v5.keep) (rows_list oU5 mU5 (by rw [List.length_append, List.length_append]; show _ + 1 + _ ≤ 15; rw [List.length_take, List.length_drop]; omega) fun z hz => ?_) ?_
    · rcases List.mem_append.mp hz with hz | hz
      · rcases List.mem_append.mp hz with hz | hz
        · exact item z (List.mem_of_mem_take hz)
        · rw [List.mem_singleton.mp hz]; exact ⟨bt13.ov, bt13.rp⟩
      · exact item z (List.mem_of_mem_drop hz)
    · have other : ∃ (j : Nat) (b : Addr) (r : List Nat), bs[j]? = some b ∧ V5 b = some (.lst (nv r)) ∧ r.length = m ∧ V.ref b ∈ (bs.map V.ref).take sp ++ [bent] ++ (bs.map V.ref).drop (sp + 1) := by
        by_cases s0 : sp = 0
        · obtain ⟨b1, eb1⟩ : ∃ b1, bs[1]? = some b1 := ⟨_, List.getElem?_eq_getElem (by have := T13.rw.len; omega)⟩
          obtain ⟨r1, _, mr1, h1⟩ := T13.rw.get2 eb1
          refine ⟨1, b1, r1, eb1, h1, (T13.ord r1 mr1).2, List.mem_append_right _ (List.mem_of_getElem? (i := 0) ?_)⟩
          rw [List.getElem?_drop, s0, List.getElem?_map, eb1]; rfl
        · obtain ⟨r1, _, mr1, h1⟩ := T13.rw.get2 eb0
          refine ⟨0, b0, r1, eb0, h1, (T13.ord r1 mr1).2, List.mem_append_left _ (List.mem_append_left _ (List.mem_of_getElem? (i := 0) ?_))⟩
          rw [List.getElem?_take_of_lt (by omega), List.getElem?_map, eb0]; rfl
      obtain ⟨_, b, r, _, hb, lr, mem⟩ := other
      exact no_told_len oU5 mem hb lr (List.mem_append_left _ (List.mem_append_right _ (List.mem_singleton.mpr rfl))) bt13
end

end My

namespace My
open PySem PySem.Spec PyProof.Rows L2
/-! ### the law's call, and what came of it -/
theorem ref_inj : ∀ {a b : List Addr}, a.map V.ref = b.map V.ref → a = b
  | [], [], _ => rfl
  | [], _ :: _, h => by cases h
  | _ :: _, [], h => by cases h
  | x :: a, y :: b, h => by
    have h : V.ref x :: a.map V.ref = V.ref y :: b.map V.ref := h
    obtain ⟨h1, h2⟩ := List.cons.inj h
    cases h1
    rw [ref_inj h2]
theorem cut_skip {t u : TS} {D : Ends} {σ : L2.St} {H : Hp} (h : t { D with nx := fun σ' H' => σ' = σ ∧ H' = H } σ H) (k : u D σ H) : C8.tCut t u D σ H := ⟨_, h, by rintro _ _ ⟨rfl, rfl⟩; exact k⟩
structure Row32 (H : Hp) (way : Int) (x y : V) (due : Str) : Prop where
  w0 : 0 ≤ way
  w6 : way < 6
  tv : TlV H x
  vy : Vd H y
  a : ¬ IsTold H x → due = "told"
  b : ∀ p as rs n, x = .ref p → ToldR H p as rs n → (way = 2 ∨ way = 3) → isIdx ((chs (alws rs n) : Nat) : Int) y = false → due = "index"
  c : ∀ p as rs n, x = .ref p → ToldR H p as rs n → (isIdx ((chs (alws rs n) : Nat) : Int) y = true ∨ (way ≠ 2 ∧ way ≠ 3)) → due = "none"
theorem Row32.same {H H' : Hp} {way : Int} {x y : V} {due : Str} (r : Row32 H way x y due) (s : Same H H') : Row32 H' way x y due := by
  have back : ∀ {p as rs n}, x = .ref p → ToldR H' p as rs n → ToldR H p as rs n := fun {p as rs n} e T => by
    obtain ⟨p', as', rs', n', e', T'⟩ := told_back r.tv s ⟨p, as, rs, n, e, T⟩
    rw [e] at e'
    cases e'
    have z := s _ _ T'.at_
    rw [T.at_] at z
    have z2 : as.map V.ref = as'.map V.ref := HO.lst.inj (Option.some.inj z)
    have z3 : as = as' := ref_inj z2
    subst z3
    refine ⟨T'.at_, ⟨T.rw.len, fun i a rr e1 e2 => ?_⟩, T.ne, T.many, T.n1, T.n60, T.ord⟩
    obtain ⟨r2, _, _, h2⟩ := T'.rw.get2 e1
    have y1 := s _ _ h2
    rw [T.rw.at_ i a rr e1 e2] at y1
    rw [h2, nv_inj (HO.lst.inj (Option.some.inj y1))]
  exact ⟨r.w0, r.w6, r.tv.same s, r.vy.same s, fun n => r.a fun t => n (by
    obtain ⟨p, as, rs, n, e, T⟩ := t
    exact ⟨p, as, rs, n, e, T.same s⟩), fun p as rs n e T => r.b p as rs n e (back e T), fun p as rs n e T => r.c p as rs n e (back e T)⟩
structure Out32 (CT CI : Addr) (H : Hp) (Q : VK) (E : XK) (due : Str) : Prop where
  t : due = "told" → ∀ H', Same H H' → E (.ref CT) none H'
  i : due = "index" → ∀ H', Same H H' → E (.ref CI) none H'
  n : due = "none" → ∀ H', Same H H' → Q .non H'
def spCalled32 (CT CI : Addr) : Sp := fun vs H Q E => ∃ (way : Int) (x y : V) (due : Str), vs = [.int way, x, y] ∧ Row32 H way x y due ∧ Out32 CT CI H Q E due
theorem idx_nat {n : Int} {y : V} (h : isIdx n y = true) : ∃ i : Nat, y = .int (i : Int) ∧ (i : Int) < n := isIdx_some h
section
variable {P : Program} {w : World} {K : PySem.W.Frag} {mg : Str → Option Value} {base : Heap} {CT CI : Addr}
theorem kb_count_forests_told : KwB "count_forests" st_count_forests ["told"] ["told"] (fun us ws => us ++ ws) (fun us ws => us ++ ws) :=
  ⟨fun _ _ _ _ _ _ us ws hl => by
    rw [List.length_append] at hl
    have z : (([("told" : Str)])).length = 1 := rfl
    rcases us with _ | ⟨u1, us⟩
    · have h : ws.length = 1 := by rw [List.length_nil] at hl; omega
      exact match ws, h with | [_], _ => rfl
    · rw [List.length_cons] at hl
      have h : ws.length = 0 := by omega
      have h2 : us.length = 0 := by omega
      exact match us, ws, h2, h with | [], [], _, _ => rfl, fun a b => a.append b⟩
theorem kb_nth_forest_index_told : KwB "nth_forest" st_nth_forest ["told", "index"] ["index", "told"] (fun us ws => us ++ ws.reverse) (fun us ws => us ++ ws.reverse) :=
  ⟨fun _ _ _ _ _ _ us ws hl => by
    rw [List.length_append, List.length_reverse] at hl
    have z : ([("told" : Str), ("index" : Str)]).length = 2 := rfl
    rcases us with _ | ⟨u1, _ | ⟨u2, us⟩⟩
    · have h : ws.length = 2 := by rw [List.length_nil] at hl; omega
      exact match ws, h with | [_, _], _ => rfl
    · have h : ws.length = 1 := by rw [List.length_cons, List.length_nil] at hl; omega
      exact match ws, h with | [_], _ => rfl
    · rw [List.length_cons, List.length_cons] at hl
      have h : ws.length = 0 := by omega
      have h2 : us.length = 0 := by omega
      exact match us, ws, h2, h with | [], [], _, _ => rfl, fun a b => a.append b.reverse⟩
theorem kb_nearest_forest_told : KwB "nearest_forest" st_nearest_forest ["told"] ["told"] (fun us ws => us ++ ws) (fun us ws => us ++ ws) :=
  ⟨fun _ _ _ _ _ _ us ws hl => by
    rw [List.length_append] at hl
    have z : (([("told" : Str)])).length = 1 := rfl
    rcases us with _ | ⟨u1, us⟩
    · have h : ws.length = 1 := by rw [List.length_nil] at hl; omega
      exact match ws, h with | [_], _ => rfl
    · rw [List.length_cons] at hl
      have h : ws.length = 0 := by omega
      have h2 : us.length = 0 := by omega
      exact match us, ws, h2, h with | [], [], _, _ => rfl, fun a b => a.append b⟩
abbrev st__law_called : Stmt := topS 43
abbrev N__law_called : List Str := ["way", "rows", "spot"]
theorem sc__law_called : FnScope N__law_called ["way", "rows", "spot"] (defScope st__law_called) := ⟨rfl, rfl, rfl, by decide +kernel, rfl, by decide +kernel, by decide +kernel⟩
theorem ok__law_called (D : Df K mg "_law_called" st__law_called ["way", "rows", "spot"]) (B : Bl mg)
    (Kalways_ahead : Kn P w K mg base (L2.CX P w) 7 "always_ahead" st_always_ahead ["told"] (spAheadE CT)) (Kcount_forests : Kn P w K mg base (L2.CX P w) 8 "count_forests" st_count_forests ["told"] (spCountFE CT))
    (Knth_forest : Kn P w K mg base (L2.CX P w) 8 "nth_forest" st_nth_forest ["told", "index"] (spNthFE CT CI)) (Kforest_of : Kn P w K mg base (L2.CX P w) 9 "forest_of" st_forest_of ["told"] (spForestOfE CT))
    (Knearest_forest : Kn P w K mg base (L2.CX P w) 8 "nearest_forest" st_nearest_forest ["told"] (spNearE CT)) :
    Kn P w K mg base (L2.CX P w) 10 "_law_called" st__law_called ["way", "rows", "spot"] (spCalled32 CT CI) := by
  refine D.okX sc__law_called (fun vs H Q E h => ?_) (fun f cdv A outer s H vs Q E hr h => ?_)
  · obtain ⟨way, x, y, due, rfl, _⟩ := h; rfl
  obtain ⟨way, x, y, due, rfl, row, out⟩ := h
  refine ⟨_, ((C8.pss_cut (ps_if (pt_cmpR op_eq (pv 0) pe_int (nomark _)) (pss_one (ps_expr (pe_callF Kalways_ahead (hr.mono (by decide)) (passX (takes_of rfl rfl rfl rfl)) (pa_cons (pv 1) pa_nil)))) pss_nil)
      (C8.pss_cut (ps_if (pt_cmpR op_eq (pv 0) pe_int (nomark _)) (pss_one (ps_expr (pe_callFK0 Kcount_forests (hr.mono (by decide)) kb_count_forests_told (passX (takes_of rfl rfl rfl rfl)) (pk_cons (pv 1) pk_nil)))) pss_nil)
      (C8.pss_cut (ps_if (pt_cmpR op_eq (pv 0) pe_int (nomark _)) (pss_one (ps_expr (pe_callF Knth_forest (hr.mono (by decide)) (passX (takes_of rfl rfl rfl rfl)) (pa_cons (pv 1) (pa_cons (pv 2) pa_nil))))) pss_nil)
      (C8.pss_cut (ps_if (pt_cmpR op_eq (pv 0) pe_int (nomark _)) (pss_one (ps_expr (pe_callFK0 Knth_forest (hr.mono (by decide)) kb_nth_forest_index_told (passX (takes_of rfl rfl rfl rfl)) (pk_cons (pv 2) (pk_cons (pv 1) pk_nil))))) pss_nil)
      (C8.pss_cut (ps_if (pt_cmpR op_eq (pv 0) pe_int (nomark _)) (pss_one (ps_expr (pe_callF Kforest_of (hr.mono (by decide)) (passX (takes_of rfl rfl rfl rfl)) (pa_cons (pv 1) pa_nil)))) pss_nil)
      (pss_one (ps_if (pt_cmpR op_eq (pv 0) pe_int (nomark _)) (pss_one (ps_expr (pe_callFK0 Knearest_forest (hr.mono (by decide)) kb_nearest_forest_told (passX (takes_of rfl rfl rfl rfl)) (pk_cons (pv 1) pk_nil)))) pss_nil)))))))), ?_⟩
  have nt : ¬ IsTold H x → NoTold CT H x E := fun no => ⟨row.tv, no, out.t (row.a no)⟩
  have gd : ∀ {p as rs n}, x = .ref p → ToldR H p as rs n → (way ≠ 2 ∧ way ≠ 3) → ∀ H', Same H H' → Q .non H' := fun e T n2 => out.n (row.c _ _ _ _ e T (.inr n2))
  have A1 : ∀ {Q' : VK}, (way ≠ 2 ∧ way ≠ 3) → (∀ v H', Same H H' → (∀ H'', Same H H'' → Q .non H'') → Q' v H') → spAheadE CT [x] H Q' E := fun {Q'} n2 k => by
    by_cases t : IsTold H x
    · obtain ⟨p, as, rs, n, rfl, T⟩ := t
      exact .inr ⟨p, as, rs, n, rfl, T, fun F fs H' s' _ => k _ H' s' (gd rfl T n2)⟩
    · exact .inl ⟨x, rfl, nt t⟩
  have A2 : ∀ {Q' : VK}, (way ≠ 2 ∧ way ≠ 3) → (∀ v H', Same H H' → (∀ H'', Same H H'' → Q .non H'') → Q' v H') → spCountFE CT [x] H Q' E := fun {Q'} n2 k => by
    by_cases t : IsTold H x
    · obtain ⟨p, as, rs, n, rfl, T⟩ := t
      exact .inr ⟨p, as, rs, n, rfl, T, fun H' s' => k _ H' s' (gd rfl T n2)⟩
    · exact .inl ⟨x, rfl, nt t⟩
  have A3 : ∀ {Q' : VK}, (way = 2 ∨ way = 3) → (∀ v H', (Same H H' ∧ (∀ H'', Same H H'' → Q .non H'')) → Q' v H') → spNthFE CT CI [x, y] H Q' E := fun {Q'} w2 k => by
    by_cases t : IsTold H x
    · obtain ⟨p, as, rs, n, rfl, T⟩ := t
      cases b : isIdx ((chs (alws rs n) : Nat) : Int) y with
      | false => exact .inr (.inl ⟨p, as, rs, n, y, rfl, T, row.vy, b, out.i (row.b _ _ _ _ rfl T w2 b)⟩)
      | true =>
        obtain ⟨i, rfl, hi⟩ := idx_nat b
        exact .inr (.inr ⟨p, as, rs, n, i, rfl, T, by omega, fun r H' s' _ => k _ H' ⟨s', out.n (row.c _ _ _ _ rfl T (.inl b))⟩⟩)
    · exact .inl ⟨x, y, rfl, nt t⟩
  have A4 : ∀ {Q' : VK}, (way ≠ 2 ∧ way ≠ 3) → (∀ v H', Same H H' → (∀ H'', Same H H'' → Q .non H'') → Q' v H') → spForestOfE CT [x] H Q' E := fun {Q'} n2 k => by
    by_cases t : IsTold H x
    · obtain ⟨p, as, rs, n, rfl, T⟩ := t
      exact .inr ⟨p, as, rs, n, rfl, T, fun v H' s' _ => k _ H' s' (gd rfl T n2)⟩
    · exact .inl ⟨x, rfl, nt t⟩
  have A5 : ∀ {Q' : VK}, (way ≠ 2 ∧ way ≠ 3) → (∀ v H', Same H H' → (∀ H'', Same H H'' → Q .non H'') → Q' v H') → spNearE CT [x] H Q' E := fun {Q'} n2 k => by
    by_cases t : IsTold H x
    · obtain ⟨p, as, rs, n, rfl, T⟩ := t
      exact .inr ⟨p, as, rs, n, rfl, T, fun r H' s' _ _ => k _ H' s' (gd rfl T n2)⟩
    · exact .inl ⟨x, rfl, nt t⟩
  have wc : way = 0 ∨ way = 1 ∨ way = 2 ∨ way = 3 ∨ way = 4 ∨ way = 5 := by
    have := row.w0
    have := row.w6
    omega
  rcases wc with rfl | rfl | rfl | rfl | rfl | rfl
  · skip
    refine ⟨fun σ' H' => σ' = [some (.int 0), some x, some y] ∧ Same H H' ∧ (∀ H'', Same H H'' → Q .non H''), ⟨_, rfl, rfl, _, rfl, iteT ⟨_, rfl, ?_⟩⟩, ?_⟩
    · exact A1 (by decide) fun v H' s' z => ⟨rfl, s', z⟩
    rintro _ H1 ⟨rfl, s1, qn⟩
    iterate 4 (refine cut_skip ⟨_, rfl, rfl, _, rfl, iteF ⟨rfl, rfl⟩⟩ ?_)
    exact ⟨_, rfl, rfl, _, rfl, iteF (qn H1 s1)⟩
  · iterate 1 (refine cut_skip ⟨_, rfl, rfl, _, rfl, iteF ⟨rfl, rfl⟩⟩ ?_)
    refine ⟨fun σ' H' => σ' = [some (.int 1), some x, some y] ∧ Same H H' ∧ (∀ H'', Same H H'' → Q .non H''), ⟨_, rfl, rfl, _, rfl, iteT ⟨_, rfl, ?_⟩⟩, ?_⟩
    · exact A2 (by decide) fun v H' s' z => ⟨rfl, s', z⟩
    rintro _ H1 ⟨rfl, s1, qn⟩
    iterate 3 (refine cut_skip ⟨_, rfl, rfl, _, rfl, iteF ⟨rfl, rfl⟩⟩ ?_)
    exact ⟨_, rfl, rfl, _, rfl, iteF (qn H1 s1)⟩
  · iterate 2 (refine cut_skip ⟨_, rfl, rfl, _, rfl, iteF ⟨rfl, rfl⟩⟩ ?_)
    refine ⟨fun σ' H' => σ' = [some (.int 2), some x, some y] ∧ Same H H' ∧ (∀ H'', Same H H'' → Q .non H''), ⟨_, rfl, rfl, _, rfl, iteT ⟨_, rfl, _, rfl, ?_⟩⟩, ?_⟩
    · exact A3 (by decide) fun v H' z => ⟨rfl, z⟩
    rintro _ H1 ⟨rfl, s1, qn⟩
    iterate 2 (refine cut_skip ⟨_, rfl, rfl, _, rfl, iteF ⟨rfl, rfl⟩⟩ ?_)
    exact ⟨_, rfl, rfl, _, rfl, iteF (qn H1 s1)⟩
  · iterate 3 (refine cut_skip ⟨_, rfl, rfl, _, rfl, iteF ⟨rfl, rfl⟩⟩ ?_)
    refine ⟨fun σ' H' => σ' = [some (.int 3), some x, some y] ∧ Same H H' ∧ (∀ H'', Same H H'' → Q .non H''), ⟨_, rfl, rfl, _, rfl, iteT ⟨_, rfl, _, rfl, ?_⟩⟩, ?_⟩
    · exact A3 (by decide) fun v H' z => ⟨rfl, z⟩
    rintro _ H1 ⟨rfl, s1, qn⟩
    iterate 1 (refine cut_skip ⟨_, rfl, rfl, _, rfl, iteF ⟨rfl, rfl⟩⟩ ?_)
    exact ⟨_, rfl, rfl, _, rfl, iteF (qn H1 s1)⟩
  · iterate 4 (refine cut_skip ⟨_, rfl, rfl, _, rfl, iteF ⟨rfl, rfl⟩⟩ ?_)
    refine ⟨fun σ' H' => σ' = [some (.int 4), some x, some y] ∧ Same H H' ∧ (∀ H'', Same H H'' → Q .non H''), ⟨_, rfl, rfl, _, rfl, iteT ⟨_, rfl, ?_⟩⟩, ?_⟩
    · exact A4 (by decide) fun v H' s' z => ⟨rfl, s', z⟩
    rintro _ H1 ⟨rfl, s1, qn⟩
    exact ⟨_, rfl, rfl, _, rfl, iteF (qn H1 s1)⟩
  · iterate 5 (refine cut_skip ⟨_, rfl, rfl, _, rfl, iteF ⟨rfl, rfl⟩⟩ ?_)
    refine ⟨_, rfl, rfl, _, rfl, iteT ⟨_, rfl, ?_⟩⟩
    exact A5 (by decide) fun v H' s' z => z H' s'
end
theorem mkS : True := trivial
def rIsEG (K : PySem.W.Frag) (a : Addr) (cls : Value) (d : Option Addr) : List V → Hp → VK → Prop := fun xs H Q => ∃ D, cls = .ref D ∧ d = none ∧ ExcC K D ∧ rIsE K D a xs H Q
theorem call_isEG {X : Cx} {a : Addr} {oe : Obj} {cls : Value} {d : Option Addr} {pn : List (Addr × Obj)} (hz : Zc cls d oe) (hf : ∃ vs, oe.data = .fields vs) : CallR (X.suite a ((a, oe) :: pn)) (.builtin "isinstance") (rIsEG X.K a cls d) := by
  intro pins s σ H xs us Q I r ⟨D, e1, e2, C, h⟩
  subst e1 e2
  exact call_isE C hz hf pins s σ H xs us Q I r h
def spCaught32 : Sp := fun vs H Q _ => ∃ (way : Int) (x y : V) (due : Str), vs = [.int way, x, y] ∧ Row32 H way x y due ∧ (∃ d, Bg d ∧ Rp true H x d) ∧ (∃ d, Md d ∧ Rp true H y d) ∧ ∀ H', Same H H' → Q (.str due) H'
structure Gl4 (K : PySem.W.Frag) (mg : Str → Option Value) (CH CT CI CS CZ : Addr) : Prop where
  gH : mg "HolderError" = some (.ref CH)
  gT : mg "InvalidTold" = some (.ref CT)
  gI : mg "InvalidIndex" = some (.ref CI)
  gS : mg "InvalidSequence" = some (.ref CS)
  gZ : mg "InvalidSizes" = some (.ref CZ)
  bV : mg "ValueError" = none
structure ExO (K : PySem.W.Frag) (CH CT CI CS CZ c : Addr) (b0 b1 b2 b3 : Bool) : Prop where
  x : ExcC K c
  m : PySem.W.exmOne K (.ref c) (.ref CH) = some true
  i0 : PySem.W.kitOne K (.ref c) (.ref CT) = some b0
  i1 : PySem.W.kitOne K (.ref c) (.ref CI) = some b1
  i2 : PySem.W.kitOne K (.ref c) (.ref CS) = some b2
  i3 : PySem.W.kitOne K (.ref c) (.ref CZ) = some b3
  iV : PySem.W.kitOne K (.ref c) (.type "ValueError") = some true
def t_caught_body (CT CI : Addr) (W : WX) : TS := tDrop (tCallS (spCalled32 CT CI) (WE W) (tCons (tVar 0) (tCons (tVar 1) (tCons (tVar 2) tNil))))
def t_isi (K : PySem.W.Frag) (a : Addr) (cls : Value) (d : Option Addr) (v : V) : TE := tCB (rIsEG K a cls d) (tCons (tVar 5) (tCons (tC v) tNil))
def t_caught_suite (K : PySem.W.Frag) (CT CI CS CZ : Addr) (a : Addr) (cls : Value) (d : Option Addr) : TS :=
  tSeq (tAsg (tLst (tCons (t_isi K a cls d (.ref CT)) (tCons (t_isi K a cls d (.ref CI)) tNil))) (gName 4))
    (tSeq (tAsg (tOp rCat (tVar 4) (tLst (tCons (t_isi K a cls d (.ref CS)) (tCons (t_isi K a cls d (.ref CZ)) tNil)))) (gName 4))
      (tSeq (tIfS (tOr (tNot (tB (t_isi K a cls d (.ty "ValueError")))) (tTest (tOp rNe (tBM K "list" (rCntV K) (tVar 4) (tCons (tC (.bl true)) tNil)) (tC (.int 1))))) (tRet (tC (.str "odd"))) tNext)
        (tRet (tOp (rIxL K) (tLst (tCons (tC (.str "told")) (tCons (tC (.str "index")) (tCons (tC (.str "sequence")) (tCons (tC (.str "sizes")) tNil))))) (tBM K "list" (rIndex K) (tVar 4) (tCons (tC (.bl true)) tNil))))))
section
variable {P : Program} {w : World} {K : PySem.W.Frag} {mg : Str → Option Value} {base : Heap} {CH CT CI CS CZ : Addr}
theorem suite0 {c : Addr} (T : ExO K CH CT CI CS CZ c true false false false) {D : Ends} {H1 : Hp} {v0 v1 v2 v3 v4 v5 : Option V} (k : ∀ H', Same H1 H' → D.rt (.str "told") H') : wAs K (.ref CH) 5 (t_caught_suite K CT CI CS CZ) (fun _ _ _ _ => False) D (.ref c) none [v0, v1, v2, v3, v4, v5] H1 := by
  refine ⟨true, T.m, fun _ a ha => ?_, fun q => Bool.noConfusion q⟩
  refine ⟨_, rfl, c, rfl, rfl, T.x, .ref CT, .ref CT, true, rfl, fun u r => r, T.i0, _, rfl, c, rfl, rfl, T.x, .ref CI, .ref CI, false, rfl, fun u r => r, T.i1, by show 2 ≤ sizeLine; decide, fun L hL => ?_⟩
  have s1 := (Same.refl H1).new (o := .lst [V.bl true, V.bl false]) hL
  have oL : upd H1 L (.lst [V.bl true, V.bl false]) L = some (.lst [V.bl true, V.bl false]) := upd_same
  generalize upd H1 L (.lst [V.bl true, V.bl false]) = H2 at s1 oL ⊢
  refine ⟨_, rfl, _, rfl, c, rfl, rfl, T.x, .ref CS, .ref CS, false, rfl, fun u r => r, T.i2, _, rfl, c, rfl, rfl, T.x, .ref CZ, .ref CZ, false, rfl, fun u r => r, T.i3, by show 2 ≤ sizeLine; decide, fun M hM => ?_⟩
  have s2 := (Same.refl H2).new (o := .lst [V.bl false, V.bl false]) hM
  have oM : upd H2 M (.lst [V.bl false, V.bl false]) M = some (.lst [V.bl false, V.bl false]) := upd_same
  generalize upd H2 M (.lst [V.bl false, V.bl false]) = H3 at s2 oM ⊢
  refine ⟨L, M, _, _, rfl, rfl, s2 _ _ oL, oM, by show 4 ≤ sizeLine; decide, fun N hN => ?_⟩
  have s3 := (Same.refl H3).new (o := .lst ([V.bl true, V.bl false] ++ [V.bl false, V.bl false])) hN
  have oN : upd H3 N (.lst ([V.bl true, V.bl false] ++ [V.bl false, V.bl false])) N = some (.lst [V.bl true, V.bl false, V.bl false, V.bl false]) := upd_same
  generalize upd H3 N (.lst ([V.bl true, V.bl false] ++ [V.bl false, V.bl false])) = H4 at s3 oN ⊢
  refine ⟨_, rfl, c, rfl, rfl, T.x, .ty "ValueError", .type "ValueError", true, rfl, fun u r => r, T.iV, _, rfl, iteF ?_⟩
  refine ⟨_, rfl, .inl ⟨rfl, _, SqL.of oN⟩, N, _, .bl true, rfl, rfl, SqL.of oN, rfl, rfl, rfl, _, rfl, iteF ?_⟩
  refine ⟨by show 4 ≤ sizeLine; decide, fun R hR => ?_⟩
  have s4 := (Same.refl H4).new (o := .lst [V.str "told", .str "index", .str "sequence", .str "sizes"]) hR
  have oR : upd H4 R (.lst [V.str "told", .str "index", .str "sequence", .str "sizes"]) R = some (.lst [V.str "told", .str "index", .str "sequence", .str "sizes"]) := upd_same
  generalize upd H4 R (.lst [V.str "told", .str "index", .str "sequence", .str "sizes"]) = H5 at s4 oR ⊢
  refine ⟨_, rfl, .inl ⟨rfl, _, SqL.of (s4 _ _ oN)⟩, N, [V.bl true, V.bl false, V.bl false, V.bl false], .bl true, 0, .bl true, rfl, rfl, SqL.of (s4 _ _ oN), rfl, rfl, rfl, rfl, fun m z hm => absurd hm (Nat.not_lt_zero m), R, _, _, _, rfl, rfl, SqL.of oR, atI_nat rfl, ?_⟩
  exact k _ (((s1.trans s2).trans s3).trans s4)
theorem suite1 {c : Addr} (T : ExO K CH CT CI CS CZ c false true false false) {D : Ends} {H1 : Hp} {v0 v1 v2 v3 v4 v5 : Option V} (k : ∀ H', Same H1 H' → D.rt (.str "index") H') : wAs K (.ref CH) 5 (t_caught_suite K CT CI CS CZ) (fun _ _ _ _ => False) D (.ref c) none [v0, v1, v2, v3, v4, v5] H1 := by
  refine ⟨true, T.m, fun _ a ha => ?_, fun q => Bool.noConfusion q⟩
  refine ⟨_, rfl, c, rfl, rfl, T.x, .ref CT, .ref CT, false, rfl, fun u r => r, T.i0, _, rfl, c, rfl, rfl, T.x, .ref CI, .ref CI, true, rfl, fun u r => r, T.i1, by show 2 ≤ sizeLine; decide, fun L hL => ?_⟩
  have s1 := (Same.refl H1).new (o := .lst [V.bl false, V.bl true]) hL
  have oL : upd H1 L (.lst [V.bl false, V.bl true]) L = some (.lst [V.bl false, V.bl true]) := upd_same
  generalize upd H1 L (.lst [V.bl false, V.bl true]) = H2 at s1 oL ⊢
  refine ⟨_, rfl, _, rfl, c, rfl, rfl, T.x, .ref CS, .ref CS, false, rfl, fun u r => r, T.i2, _, rfl, c, rfl, rfl, T.x, .ref CZ, .ref CZ, false, rfl, fun u r => r, T.i3, by show 2 ≤ sizeLine; decide, fun M hM => ?_⟩
  have s2 := (Same.refl H2).new (o := .lst [V.bl false, V.bl false]) hM
  have oM : upd H2 M (.lst [V.bl false, V.bl false]) M = some (.lst [V.bl false, V.bl false]) := upd_same
  generalize upd H2 M (.lst [V.bl false, V.bl false]) = H3 at s2 oM ⊢
  refine ⟨L, M, _, _, rfl, rfl, s2 _ _ oL, oM, by show 4 ≤ sizeLine; decide, fun N hN => ?_⟩
  have s3 := (Same.refl H3).new (o := .lst ([V.bl false, V.bl true] ++ [V.bl false, V.bl false])) hN
  have oN : upd H3 N (.lst ([V.bl false, V.bl true] ++ [V.bl false, V.bl false])) N = some (.lst [V.bl false, V.bl true, V.bl false, V.bl false]) := upd_same
  generalize upd H3 N (.lst ([V.bl false, V.bl true] ++ [V.bl false, V.bl false])) = H4 at s3 oN ⊢
  refine ⟨_, rfl, c, rfl, rfl, T.x, .ty "ValueError", .type "ValueError", true, rfl, fun u r => r, T.iV, _, rfl, iteF ?_⟩
  refine ⟨_, rfl, .inl ⟨rfl, _, SqL.of oN⟩, N, _, .bl true, rfl, rfl, SqL.of oN, rfl, rfl, rfl, _, rfl, iteF ?_⟩
  refine ⟨by show 4 ≤ sizeLine; decide, fun R hR => ?_⟩
  have s4 := (Same.refl H4).new (o := .lst [V.str "told", .str "index", .str "sequence", .str "sizes"]) hR
  have oR : upd H4 R (.lst [V.str "told", .str "index", .str "sequence", .str "sizes"]) R = some (.lst [V.str "told", .str "index", .str "sequence", .str "sizes"]) := upd_same
  generalize upd H4 R (.lst [V.str "told", .str "index", .str "sequence", .str "sizes"]) = H5 at s4 oR ⊢
  refine ⟨_, rfl, .inl ⟨rfl, _, SqL.of (s4 _ _ oN)⟩, N, [V.bl false, V.bl true, V.bl false, V.bl false], .bl true, 1, .bl true, rfl, rfl, SqL.of (s4 _ _ oN), rfl, rfl, rfl, rfl, fun m z hm hz => (by
    have e0 : m = 0 := by omega
    subst e0
    (rw [← Option.some.inj hz]; rfl)), R, _, _, _, rfl, rfl, SqL.of oR, atI_nat rfl, ?_⟩
  exact k _ (((s1.trans s2).trans s3).trans s4)
abbrev st__law_caught : Stmt := topS 44
abbrev N__law_caught : List Str := ["way", "rows", "spot", "before", "marks", "e"]
theorem sc__law_caught : FnScope N__law_caught ["way", "rows", "spot"] (defScope st__law_caught) := ⟨rfl, rfl, rfl, by decide +kernel, rfl, by decide +kernel, by decide +kernel⟩
theorem ok__law_caught (D : Df K mg "_law_caught" st__law_caught ["way", "rows", "spot"]) (B : Bl mg) (T : Gl4 K mg CH CT CI CS CZ)
    (X0 : ExO K CH CT CI CS CZ CT true false false false) (X1 : ExO K CH CT CI CS CZ CI false true false false)
    (K_law_called : Kn P w K mg base (L2.CX P w) 10 "_law_called" st__law_called ["way", "rows", "spot"] (spCalled32 CT CI)) :
    KnQ P w K mg base 11 "_law_caught" st__law_caught ["way", "rows", "spot"] spCaught32 := by
  refine D.okQ sc__law_caught (fun vs H Q E h => ?_) (fun f cdv A outer s H vs Q E hr hq h => ?_)
  · obtain ⟨way, x, y, due, rfl, _⟩ := h; rfl
  obtain ⟨way, x, y, due, rfl, row, ⟨dx, bx, rx⟩, ⟨dy, by_, ry⟩, q⟩ := h
  refine ⟨_, pss_cons (ps_set (i := 3) sc__law_caught.nd rfl (Or.inl rfl) (by exact (pe_callB (call_repr hr hq) (by rfl) B.repr (by decide +kernel) (pa_cons (pe_lstN (pa_cons (pv 1) (pa_cons (pv 2) pa_nil))) pa_nil))))
    (pss_cons (ps_try_as (i := 5) (tb := t_caught_body CT CI) (ts := t_caught_suite K CT CI CS CZ) (Wout := fun _ _ _ _ => False) rfl rfl sc__law_caught.nd rfl rfl ⟨rfl, by decide, Or.inl T.gH⟩ takes0
      (fun W pn xe tk _ => pss_one (ps_expr (by exact (pe_callFS K_law_called (hr.mono (by decide)) (fun σ => passAt tk σ) (by exact (pa_cons (pv 0) (pa_cons (pv 1) (pa_cons (pv 2) pa_nil))))))))
      (fun a oe cls d pn hz hf => pss_cons (ps_set (i := 4) sc__law_caught.nd rfl (Or.inl rfl) (by exact (pe_lst (pa_cons (pe_callB (call_isEG hz hf) (by rfl) B.isinstance (by decide +kernel) (pa_cons (pv 5) (pa_cons (pe_glob (v := .ref CT) (by rfl) T.gT rfl) pa_nil))) (pa_cons (pe_callB (call_isEG hz hf) (by rfl) B.isinstance (by decide +kernel) (pa_cons (pv 5) (pa_cons (pe_glob (v := .ref CI) (by rfl) T.gI rfl) pa_nil))) pa_nil)))))
        (pss_cons (ps_set (i := 4) sc__law_caught.nd rfl (Or.inl rfl) (by exact (pe_op op_cat (pv 4) (pe_lst (pa_cons (pe_callB (call_isEG hz hf) (by rfl) B.isinstance (by decide +kernel) (pa_cons (pv 5) (pa_cons (pe_glob (v := .ref CS) (by rfl) T.gS rfl) pa_nil))) (pa_cons (pe_callB (call_isEG hz hf) (by rfl) B.isinstance (by decide +kernel) (pa_cons (pv 5) (pa_cons (pe_glob (v := .ref CZ) (by rfl) T.gZ rfl) pa_nil))) pa_nil))))))
        (pss_cons (ps_if (by exact (PW.pt (pw_or (pt_not (pt_val (pe_callB (call_isEG hz hf) (by rfl) B.isinstance (by decide +kernel) (pa_cons (pv 5) (pa_cons (pe_bltn (v := .ty "ValueError") (u := .type "ValueError") (by rfl) T.bV (by decide +kernel) rfl) pa_nil))))) (pw_or1 (pt_cmpR op_ne (pe_bm PySem.F.plainAttrs_list PySem.F.slot_list_count PySem.F.type_list_count mt_lcountV (pv 4) (pa_cons pe_bl pa_nil)) pe_int (nomark _)))))) (pss_one (ps_ret pe_str)) pss_nil)
          (pss_one (ps_ret (by exact (pe_ix ix_list (pe_lst (pa_cons pe_str (pa_cons pe_str (pa_cons pe_str (pa_cons pe_str pa_nil))))) (pe_bm PySem.F.plainAttrs_list PySem.F.slot_list_index PySem.F.type_list_index mt_index (pv 4) (pa_cons pe_bl pa_nil)) (fun _ _ => rfl)))))))))
    (pss_one (ps_ret (by exact (pe_ifExp (pt_cmpR op_eq (pe_callB (call_repr hr hq) (by rfl) B.repr (by decide +kernel) (pa_cons (pe_lstN (pa_cons (pv 1) (pa_cons (pv 2) pa_nil))) pa_nil)) (pv 3) (nomark _)) pe_str pe_str))))), ?_⟩
  have sh := shows_two bx by_.bg
  refine ⟨_, rfl, _, rfl, by show 2 ≤ sizeLine; decide, fun L hL mL => ?_⟩
  have s0 := (Same.refl H).new (o := .lst [x, y]) hL
  have oL : upd H L (.lst [x, y]) L = some (.lst [x, y]) := upd_same
  generalize upd H L (.lst [x, y]) = H0 at s0 oL ⊢
  refine ⟨true, _, _, rfl, .lst oL (fun _ => mL) (.cons (Rp.same s0 _ _ rx) (.cons (Rp.same s0 _ _ ry) .nil)), sh, ?_⟩
  have row0 : Row32 H0 way x y due := row.same s0
  refine ⟨_, rfl, _, rfl, _, rfl, way, x, y, due, rfl, row0, ⟨fun e H1 s1 => ?_, fun e H1 s1 => ?_, fun e H1 s1 => ?_⟩⟩
  · exact suite0 X0 fun H' s' => by rw [← e]; exact q H' (s0.trans (s1.trans s'))
  · exact suite1 X1 fun H' s' => by rw [← e]; exact q H' (s0.trans (s1.trans s'))
  · refine ⟨_, rfl, _, rfl, by show 2 ≤ sizeLine; decide, fun L2 hL2 mL2 => ?_⟩
    have s2 := (Same.refl H1).new (o := .lst [x, y]) hL2
    have oL2 : upd H1 L2 (.lst [x, y]) L2 = some (.lst [x, y]) := upd_same
    generalize upd H1 L2 (.lst [x, y]) = H2 at s2 oL2 ⊢
    have s02 := s0.trans (s1.trans s2)
    refine ⟨true, _, _, rfl, .lst oL2 (fun _ => mL2) (.cons (Rp.same s02 _ _ rx) (.cons (Rp.same s02 _ _ ry) .nil)), sh, _, rfl, rfl, _, rfl, iteT' (decide_eq_true rfl) ?_⟩
    rw [← e]; exact q H2 s02
end

end My

namespace My
open PySem PySem.Spec PyProof.Rows L2
theorem chs_pos (gs : List (List Nat)) : 1 ≤ chs gs := by
  have key : ∀ (l : List (List Nat)) (a : Nat), 1 ≤ a → 1 ≤ l.foldl (fun a g => a * (g.length + 1)) a := fun l => by
    induction l with
    | nil => exact fun _ h => h
    | cons g l ih => exact fun a h => ih _ (Nat.mul_pos h (Nat.succ_pos _))
  exact key gs 1 (Nat.le_refl _)
def spRight32 : Sp := fun vs H Q _ => ∃ (wl : Addr) (way : Nat), vs = [.ref wl, .int (way : Int)] ∧ way < 6 ∧ Well H wl 0 ∧ ∀ H', Keep wl H H' → Q (.bl true) H'
theorem md_int {i : Int} (h : i.natAbs < 10 ^ 60) : Md (.int i) := by
  refine ⟨?_, ?_, Nat.zero_le _, Nat.zero_le _⟩
  · have z : i.natAbs < 2 ^ 1920 := Nat.lt_trans h (by decide +kernel)
    exact decide_eq_true (PySem.Flt.log2_lt_of (by decide) z)
  · have e := int_text_length_le10 (k := 60) (by decide) h
    have z : (PyData.shown (.int i)).length ≤ 61 := by
      show (Str.ofString (toString i)).length ≤ 61
      rw [PySem.ofString_length]; exact e
    exact decide_eq_true (Nat.le_trans z (by decide))
theorem told_keep {H H' : Hp} {wl p : Addr} {as : List Addr} {rs : List (List Nat)} {n : Nat} (T : ToldR H p as rs n) (k : Keep wl H H') (pw : p ≠ wl) (aw : ∀ a ∈ as, a ≠ wl) : ToldR H' p as rs n := ⟨k _ _ pw T.at_, rws_keep T.rw k aw, T.ne, T.many, T.n1, T.n60, T.ord⟩
/-- what `spot` may be -/
inductive SpK (H : Hp) (wl : Addr) : V → Prop where
  | non : SpK H wl .non
  | bl (b : Bool) : SpK H wl (.bl b)
  | int (i : Int) (h : i.natAbs < 10 ^ 60) : SpK H wl (.int i)
  | str : SpK H wl (.str "0")
  | lst {a : Addr} (n : a ≠ wl) (m : a ≠ sysModules) (h : H a = some (.lst [.int 0])) : SpK H wl (.ref a)
  | tup {a : Addr} (n : a ≠ wl) (h : H a = some (.tup [.int 0])) : SpK H wl (.ref a)
  | dct {a : Addr} (n : a ≠ wl) (h : H a = some (.dK [])) : SpK H wl (.ref a)
theorem SpK.keep {H H' : Hp} {wl : Addr} {y : V} (s : SpK H wl y) (k : Keep wl H H') : SpK H' wl y := by
  cases s with
  | non => exact .non
  | bl b => exact .bl b
  | int i h => exact .int i h
  | str => exact .str
  | lst n m h => exact .lst n m (k _ _ n h)
  | tup n h => exact .tup n (k _ _ n h)
  | dct n h => exact .dct n (k _ _ n h)
theorem SpK.vd {H : Hp} {wl : Addr} {y : V} (s : SpK H wl y) : Vd H y := by
  cases s with
  | non => exact .non
  | bl b => exact .bl b
  | int i h => exact .int i
  | str => exact .str _
  | lst n m h => exact .lst h
  | tup n h => exact .tup h
  | dct n h => exact .dK h
theorem SpK.rp {H : Hp} {wl : Addr} {y : V} (s : SpK H wl y) : ∃ d, Md d ∧ Rp true H y d := by
  cases s with
  | non => exact ⟨_, small_non.md, .non⟩
  | bl b => exact ⟨_, (small_bl b).md, .bl b⟩
  | int i h => exact ⟨_, md_int h, .int i⟩
  | str => exact ⟨_, ⟨by decide +kernel, by decide +kernel, by decide +kernel, by decide +kernel⟩, .str _⟩
  | lst n m h => exact ⟨_, ⟨by decide +kernel, by decide +kernel, by decide +kernel, by decide +kernel⟩, .lst h (fun _ => m) (.cons (.int 0) .nil)⟩
  | tup n h => exact ⟨_, ⟨by decide +kernel, by decide +kernel, by decide +kernel, by decide +kernel⟩, .tup h (.cons (.int 0) .nil)⟩
  | dct n h => exact ⟨_, ⟨by decide +kernel, by decide +kernel, by decide +kernel, by decide +kernel⟩, .dct rfl h⟩
theorem told_uniq {H : Hp} {p : Addr} {as as' : List Addr} {rs rs' : List (List Nat)} {n n' : Nat} (T : ToldR H p as rs n) (T' : ToldR H p as' rs' n') : rs' = rs ∧ n' = n := by
  have z := T.at_
  rw [T'.at_] at z
  have z3 : as' = as := ref_inj (HO.lst.inj (Option.some.inj z))
  subst z3
  have er : rs' = rs := by
    refine List.ext_getElem? fun i => ?_
    cases e1 : as'[i]? with
    | none =>
      have l := List.getElem?_eq_none_iff.mp e1
      rw [List.getElem?_eq_none (by rw [← T'.rw.len]; exact l), List.getElem?_eq_none (by rw [← T.rw.len]; exact l)]
    | some a =>
      obtain ⟨r, er, _, ha⟩ := T.rw.get2 e1
      obtain ⟨r', er', _, ha'⟩ := T'.rw.get2 e1
      rw [ha] at ha'
      rw [er, er', nv_inj (HO.lst.inj (Option.some.inj ha'))]
  subst er
  have l1 : 0 < rs'.length := T.ne
  have m0 := List.getElem_mem l1
  exact ⟨rfl, (T'.ord _ m0).2.symm.trans (T.ord _ m0).2⟩
theorem row_right {H : Hp} {p : Addr} {as : List Addr} {rs : List (List Nat)} {n : Nat} {way : Nat} {y : V} {due : Str} (T : ToldR H p as rs n) (hw : way < 6) (tv : TlV H (.ref p)) (vy : Vd H y)
    (k : (due = "none" ∧ isIdx ((chs (alws rs n) : Nat) : Int) y = true) ∨ (due = "index" ∧ ((way : Int) = 2 ∨ (way : Int) = 3) ∧ isIdx ((chs (alws rs n) : Nat) : Int) y = false)) : Row32 H (way : Int) (.ref p) y due := by
  refine ⟨by omega, by omega, tv, vy, fun no => absurd ⟨p, as, rs, n, rfl, T⟩ no, fun p' as' rs' n' e T' w23 hi => ?_, fun p' as' rs' n' e T' h => ?_⟩
  · cases e
    obtain ⟨rfl, rfl⟩ := told_uniq T T'
    rcases k with ⟨_, k⟩ | ⟨k, _⟩
    · rw [hi] at k; cases k
    · exact k
  · cases e
    obtain ⟨rfl, rfl⟩ := told_uniq T T'
    rcases k with ⟨k, _⟩ | ⟨_, k1, k2⟩
    · exact k
    · rcases h with h | h
      · rw [h] at k2; cases k2
      · exact absurd k1 (by omega)
theorem row_bad {H : Hp} {x y : V} {way : Nat} (hw : way < 6) (tv : TlV H x) (vy : Vd H y) (no : ¬ IsTold H x) : Row32 H (way : Int) x y "told" :=
  ⟨by omega, by omega, tv, vy, fun _ => rfl, fun p as rs n e T => absurd ⟨p, as, rs, n, e, T⟩ no, fun p as rs n e T => absurd ⟨p, as, rs, n, e, T⟩ no⟩
theorem chs_six {rs : List (List Nat)} {n : Nat} (hn : n ≤ 6) (i : Nat) : chs ((alws rs n).take i) ≤ 7 ^ i := by
  have key : ∀ (l : List (List Nat)) (a : Nat), (∀ g ∈ l, g.length ≤ 6) → l.foldl (fun a g => a * (g.length + 1)) a ≤ a * 7 ^ l.length := fun l => by
    induction l with
    | nil => intro a _; rw [List.length_nil, Nat.pow_zero, Nat.mul_one]; exact Nat.le_refl _
    | cons g l ih =>
      intro a hl
      have z := ih (a * (g.length + 1)) fun x hx => hl x (List.mem_cons_of_mem _ hx)
      have y := hl g List.mem_cons_self
      rw [List.length_cons, Nat.pow_succ, Nat.mul_comm (7 ^ l.length), ← Nat.mul_assoc]
      exact Nat.le_trans z (Nat.mul_le_mul_right _ (Nat.mul_le_mul_left a (by omega)))
  have z := key ((alws rs n).take i) 1 fun g hg => Nat.le_trans (alws_short g (List.mem_of_mem_take hg)) hn
  rw [Nat.one_mul] at z
  exact Nat.le_trans z (Nat.pow_le_pow_right (by decide) (by rw [List.length_take]; exact Nat.min_le_left _ _))
abbrev slR (wl R : Addr) (way : Nat) (tot : Nat) (vg : Option V) (y : V) (due : Str) (vs : Option V) : L2.St := [some (.ref wl), some (.int (way : Int)), some (.ref R), some (.int (tot : Int)), vg, some y, some (.str due), vs]
section
variable {P : Program} {w : World} {K : PySem.W.Frag} {mg : Str → Option Value} {base : Heap}
abbrev st__law_right : Stmt := topS 45
abbrev N__law_right : List Str := ["well", "way", "rows", "total", "good", "spot", "due", "some"]
theorem sc__law_right : FnScope N__law_right ["well", "way"] (defScope st__law_right) := ⟨rfl, rfl, rfl, by decide +kernel, rfl, by decide +kernel, by decide +kernel⟩
theorem ok__law_right (D : Df K mg "_law_right" st__law_right ["well", "way"]) (B : Bl mg) (K_law_draw : Kn P w K mg base CX0 1 "_law_draw" st__law_draw ["well", "most"] spDraw)
    (K_law_lists : Kn P w K mg base CX0 4 "_law_lists" st__law_lists ["well", "size", "most"] spLists) (K_law_always : Kn P w K mg base CX0 1 "_law_always" st__law_always ["rows"] spAlwaysX)
    (K_law_broken : Kn P w K mg base CX0 2 "_law_broken" st__law_broken ["well", "rows"] spBroken32) (K_law_caught : KnQ P w K mg base 11 "_law_caught" st__law_caught ["way", "rows", "spot"] spCaught32) :
    KnQ P w K mg base 12 "_law_right" st__law_right ["well", "way"] spRight32 := by
  refine D.okQ sc__law_right (fun vs H Q E h => ?_) (fun f cdv A outer s H vs Q E hr hq h => ?_)
  · obtain ⟨wl, way, rfl, _⟩ := h; rfl
  obtain ⟨wl, way, rfl, w6, w0, q⟩ := h
  refine ⟨_, ((pss_cons (ps_set (i := 2) sc__law_right.nd rfl (Or.inl rfl) (pe_callF K_law_lists (hr.mono (by decide)) pass0 (pa_cons (pv 0) (pa_cons (pe_op op_add pe_int (pe_callF K_law_draw (hr.mono (by decide)) pass0 (pa_cons (pv 0) (pa_cons pe_int pa_nil)))) (pa_cons pe_int pa_nil)))))
      (pss_cons (ps_set (i := 3) sc__law_right.nd rfl (Or.inl rfl) pe_int)
      (pss_cons (ps_for PassesOwn.never rfl (pi_list (pe_callF K_law_always (hr.mono (by decide)) pass0 (pa_cons (pv 2) pa_nil))) (pg_name (i := 4) sc__law_right.nd rfl (Or.inl rfl)) (pss_one (ps_set (i := 3) sc__law_right.nd rfl (Or.inl rfl) (pe_op op_mul (pv 3) (pe_op op_add (pe_callB call_len (by rfl) B.len (by decide +kernel) (pa_cons (pv 4) pa_nil)) pe_int)))))
      (pss_cons (ps_par (i := 5) (j := 6) (by rfl) sc__law_right.nd rfl rfl (by decide) rfl rfl (pa_cons (pe_callF K_law_draw (hr.mono (by decide)) pass0 (pa_cons (pv 0) (pa_cons (pv 3) pa_nil))) (pa_cons pe_str pa_nil)) (by rfl))
      (C8.pss_cut (ps_if (PW.pt (pw_and (pt_cmpR op_in_seq (pv 1) (pe_tup (pa_cons pe_int (pa_cons pe_int pa_nil))) (by rfl)) (pw_and1 (pt_cmpR op_eq (pe_callF K_law_draw (hr.mono (by decide)) pass0 (pa_cons (pv 0) (pa_cons pe_int pa_nil))) pe_int (nomark _))))) (pss_cons (ps_set (i := 7) sc__law_right.nd rfl (Or.inl rfl) (pe_lstN (pa_cons pe_non (pa_cons pe_bl (pa_cons pe_bl (pa_cons (pe_un un_neg pe_int) (pa_cons (pv 3) (pa_cons (pe_op op_add (pv 3) (pe_op op_powW pe_int pe_int)) (pa_cons pe_str (pa_cons (pe_lstN (pa_cons pe_int pa_nil)) (pa_cons (pe_tup (pa_cons pe_int pa_nil)) (pa_cons pe_dnewK pa_nil))))))))))))
      (pss_one (ps_par (i := 5) (j := 6) (by rfl) sc__law_right.nd rfl rfl (by decide) rfl rfl (pa_cons (pe_ix ix_list (pv 7) (pe_callF K_law_draw (hr.mono (by decide)) pass0 (pa_cons (pv 0) (pa_cons pe_int pa_nil))) (fun _ _ => rfl)) (pa_cons pe_str pa_nil)) (by rfl)))) pss_nil)
      (C8.pss_cut (ps_if (pt_cmpR op_eq (pe_callF K_law_draw (hr.mono (by decide)) pass0 (pa_cons (pv 0) (pa_cons pe_int pa_nil))) pe_int (nomark _)) (pss_one (ps_par (i := 2) (j := 6) (by rfl) sc__law_right.nd rfl rfl (by decide) rfl rfl (pa_cons (pe_callF K_law_broken (hr.mono (by decide)) pass0 (pa_cons (pv 0) (pa_cons (pv 2) pa_nil))) (pa_cons pe_str pa_nil)) (by rfl))) pss_nil)
      (pss_one (ps_ret (pe_cmpR op_eq (pe_callQ (E := fun _ _ _ => False) K_law_caught (hr.mono (by decide)) hq (pa_cons (pv 1) (pa_cons (pv 2) (pa_cons (pv 5) pa_nil)))) (pv 6) (nomark _))))))))))), ?_⟩
  have p45 : (2 : Nat) ^ 45 = 35184372088832 := by decide
  have p50 : (2 : Nat) ^ 50 = 1125899906842624 := by decide
  have p60 : (2 : Nat) ^ 60 = 1152921504606846976 := by decide
  have p64 : (2 : Int) ^ 64 = 18446744073709551616 := by decide
  have p100 : (2 : Nat) ^ 100 = 1267650600228229401496703205376 := by decide +kernel
  have t60 : (10 : Nat) ^ 60 = 1000000000000000000000000000000000000000000000000000000000000 := by decide +kernel
  -- rows
  refine ⟨_, rfl, _, rfl, wl, 0, 6, rfl, w0, by omega, by decide, by decide, fun d H1 d0 d1 k1 w1 => ?_⟩
  obtain ⟨dn, rfl⟩ : ∃ dn : Nat, d = (dn : Int) := ⟨d.toNat, by omega⟩
  refine ⟨_, _, rfl, rfl, wl, _, dn + 1, 4, by show [V.ref wl, V.int (1 + (dn : Int)), V.int 4] = _; rw [show (1 + (dn : Int)) = ((dn + 1 : Nat) : Int) by omega]; rfl, w1, by omega, by omega, by omega, by omega, by omega, fun R as rs H2 k2 w2 T nRw aw nRs asy l8 => ?_⟩
  have n6 : dn + 1 ≤ 6 := by omega
  generalize dn + 1 = n at T n6
  -- total
  refine ⟨_, rfl, R, as, rs, n, rfl, T, fun F fs H3 s3 RF => ⟨F, rfl, ⟨_, SqL.of RF.lst⟩, for_it (walk_list (xs := fs.map V.ref)) (fun i σ H' => ∃ v5, σ = [some (.ref wl), some (.int (way : Int)), some (.ref R), some (.int (chs ((alws rs n).take i) : Nat)), v5, none, none, none] ∧ H' = H3) ⟨none, rfl, rfl⟩ (fun i σ H' _ z => ?_) ?_ ?_⟩⟩
  · obtain ⟨_, _, rfl⟩ := z
    exact SqL.of RF.lst
  · rintro i x σ H4 H5 hi ⟨v5, rfl, rfl⟩ ⟨rfl, e1⟩
    obtain ⟨a, ea, rfl⟩ := ref_atT e1
    obtain ⟨g, eg, mg', hg⟩ := RF.rw.get2 ea
    have lg : g.length ≤ n := alws_short g mg'
    have hn : (nv g).length = g.length := nv_length g
    refine ⟨_, rfl, _, rfl, _, _, rfl, .inl ⟨_, SqL.of hg, rfl⟩, _, _, rfl, rfl, _, _, rfl, rfl, .inr ⟨by rw [hn, p64]; omega, by rw [hn, p64]; omega⟩, some (.ref a), ?_, rfl⟩
    have e : chs ((alws rs n).take (i + 1)) = chs ((alws rs n).take i) * (g.length + 1) := by
      unfold chs
      rw [List.take_add_one, eg, List.foldl_append]; rfl
    rw [e, hn, Int.natCast_mul]; rfl
  rintro σ H4 ⟨vg, rfl, rfl⟩
  have lF : (fs.map V.ref).length = n := by rw [List.length_map, RF.rw.len, alws_len]
  have etk : (alws rs n).take (fs.map V.ref).length = alws rs n := List.take_of_length_le (by rw [lF, alws_len]; exact Nat.le_refl _)
  rw [etk]
  have c1 := chs_pos (alws rs n)
  have c7 : chs (alws rs n) ≤ 117649 := by
    have z := chs_six (rs := rs) n6 n
    rw [List.take_of_length_le (by rw [alws_len]; exact Nat.le_refl _)] at z
    exact Nat.le_trans z (Nat.le_trans (Nat.pow_le_pow_right (by decide) n6) (by decide))
  have T4 := T.same s3
  have w4 := w2.same s3
  have k04 : Keep wl H H4 := (k1.trans k2).trans s3.keep
  generalize ec : chs (alws rs n) = tot at c1 c7 ⊢
  -- spot, due
  refine ⟨_, rfl, _, rfl, wl, _, _, rfl, w4, by omega, by omega, by omega, fun sp H5 sp0 sp1 k5 w5 => ⟨_, _, rfl, ?_⟩⟩
  obtain ⟨sn, rfl⟩ : ∃ sn : Nat, sp = (sn : Int) := ⟨sp.toNat, by omega⟩
  have T5 := told_keep T4 k5 nRw aw
  have k05 := k04.trans k5
  refine ⟨fun σ' H' => ∃ y due vs, σ' = slR wl R way tot vg y due vs ∧ SpK H' wl y ∧ ((due = "none" ∧ isIdx (tot : Int) y = true) ∨ (due = "index" ∧ ((way : Int) = 2 ∨ (way : Int) = 3) ∧ isIdx (tot : Int) y = false)) ∧ Keep wl H5 H' ∧ Well H' wl (4 + 3000), ?_, ?_⟩
  · have stay : ∀ H', Keep wl H5 H' → Well H' wl (4 + 3000) → ∃ y due vs, slR wl R way tot vg (.int (sn : Int)) "none" none = slR wl R way tot vg y due vs ∧ SpK H' wl y ∧ ((due = "none" ∧ isIdx (tot : Int) y = true) ∨ (due = "index" ∧ ((way : Int) = 2 ∨ (way : Int) = 3) ∧ isIdx (tot : Int) y = false)) ∧ Keep wl H5 H' ∧ Well H' wl (4 + 3000) := fun H' k w =>
      ⟨_, _, _, rfl, .int _ (by omega), .inl ⟨rfl, isIdx_nat (by omega)⟩, k, w⟩
    refine ⟨_, rfl, by show 2 ≤ sizeLine; decide, fun p hp => ?_⟩
    have s6 := (Same.refl H5).new (o := .tup [.int 2, .int 3]) hp
    have op : upd H5 p (.tup [.int 2, .int 3]) p = some (.tup (nv [2, 3])) := upd_same
    generalize upd H5 p (.tup [.int 2, .int 3]) = H6 at s6 op ⊢
    refine ⟨p, _, rfl, .inr (SqT.of op), rfl, flat_nv _, decide (way ∈ [2, 3]), congrArg V.bl (inV_nv _ _), ite2 (fun c2 => ?_) (fun c2 => stay H6 s6.keep ((w5.same s6).mono (by omega)))⟩
    have c2' : way = 2 ∨ way = 3 := by simpa using of_decide_eq_true c2
    refine ⟨_, rfl, wl, _, _, rfl, w5.same s6, by omega, by decide, by decide, fun g0 H7 _ _ k7 w7 => ⟨rfl, _, rfl, ite2 (fun c3 => ?_) (fun c3 => stay H7 (s6.keep.trans k7) (w7.mono (by omega)))⟩⟩
    have w8 := w7.mono (show 2 + 3000 + 1 ≤ 4 + 3000 by omega)
    -- the odd spots
    refine ⟨_, rfl, _, rfl, _, rfl, _, _, rfl, rfl, cpow10 (by decide) (by decide), _, _, rfl, rfl, by show 1 ≤ sizeLine; decide, fun E1 hE1 mE1 => ?_⟩
    have y1 := (Same.refl H7).new (o := .lst [.int 0]) hE1
    have oE1 : upd H7 E1 (.lst [.int 0]) E1 = some (.lst [.int 0]) := upd_same
    have nE1 : E1 ≠ wl := w7.ne hE1
    generalize upd H7 E1 (.lst [.int 0]) = J1 at y1 oE1 ⊢
    refine ⟨by show 1 ≤ sizeLine; decide, fun E2 hE2 => ?_⟩
    have y2 := (Same.refl J1).new (o := .tup [.int 0]) hE2
    have oE2 : upd J1 E2 (.tup [.int 0]) E2 = some (.tup [.int 0]) := upd_same
    have nE2 : E2 ≠ wl := (w7.same y1).ne hE2
    generalize upd J1 E2 (.tup [.int 0]) = J2 at y2 oE2 ⊢
    intro E3 hE3
    have y3 := (Same.refl J2).new (o := .dK []) hE3
    have oE3 : upd J2 E3 (.dK []) E3 = some (.dK []) := upd_same
    have nE3 : E3 ≠ wl := ((w7.same y1).same y2).ne hE3
    generalize upd J2 E3 (.dK []) = J3 at y3 oE3 ⊢
    have y13 := (y1.trans y2).trans y3
    have hbig : (tot : Int) < (tot : Int) + (10 : Int) ^ (39 : Int).toNat ∧ ((tot : Int) + (10 : Int) ^ (39 : Int).toNat).natAbs < 10 ^ 60 := by
      have p39 : (10 : Int) ^ (39 : Int).toNat = 1000000000000000000000000000000000000000 := by decide +kernel
      rw [p39, t60]; omega
    refine ⟨by show 10 ≤ sizeLine; decide, fun L hL mL => ?_⟩
    have y4 := y13.new (o := .lst [.non, .bl true, .bl false, .int (-1), .int (tot : Int), .int ((tot : Int) + (10 : Int) ^ (39 : Int).toNat), .str "0", .ref E1, .ref E2, .ref E3]) hL
    have oL : upd J3 L (.lst [.non, .bl true, .bl false, .int (-1), .int (tot : Int), .int ((tot : Int) + (10 : Int) ^ (39 : Int).toNat), .str "0", .ref E1, .ref E2, .ref E3]) L = some (.lst [.non, .bl true, .bl false, .int (-1), .int (tot : Int), .int ((tot : Int) + (10 : Int) ^ (39 : Int).toNat), .str "0", .ref E1, .ref E2, .ref E3]) := upd_same
    have y34 := (Same.refl J3).new (o := .lst [.non, .bl true, .bl false, .int (-1), .int (tot : Int), .int ((tot : Int) + (10 : Int) ^ (39 : Int).toNat), .str "0", .ref E1, .ref E2, .ref E3]) hL
    have nL : L ≠ wl := (w7.same y13).ne hL
    refine ⟨_, rfl, _, rfl, wl, _, _, rfl, w7.same y4, by omega, by decide, by decide, fun d8 H8 e0 e1 k8 w8 => ?_⟩
    obtain ⟨y, my, hy⟩ := pick (xs := [.non, .bl true, .bl false, .int (-1), .int (tot : Int), .int ((tot : Int) + (10 : Int) ^ (39 : Int).toNat), .str "0", .ref E1, .ref E2, .ref E3]) e0 e1
    refine ⟨L, _, _, _, rfl, rfl, SqL.of (k8 _ _ nL oL), hy, _, _, rfl, y, _, _, rfl, ?_, .inr ⟨rfl, by omega, ?_⟩, (((s6.keep.trans k7).trans y4.keep).trans k8), w8.mono (by omega)⟩
    · have o1 := k8 _ _ nE1 (((y2.trans y3).trans y34) _ _ oE1)
      have o2 := k8 _ _ nE2 ((y3.trans y34) _ _ oE2)
      have o3 := k8 _ _ nE3 (y34 _ _ oE3)
      simp only [List.mem_cons, List.not_mem_nil, or_false] at my
      rcases my with rfl | rfl | rfl | rfl | rfl | rfl | rfl | rfl | rfl | rfl
      · exact .non
      · exact .bl _
      · exact .bl _
      · exact .int _ (by decide +kernel)
      · exact .int _ (by omega)
      · exact .int _ hbig.2
      · exact .str
      · exact .lst nE1 mE1 o1
      · exact .tup nE2 o2
      · exact .dct nE3 o3
    · have off : ∀ i : Int, (i < 0 ∨ (tot : Int) ≤ i) → isIdx (tot : Int) (.int i) = false := fun i h => by
        show (decide (0 ≤ i) && decide (i < (tot : Int))) = false
        rcases h with h | h
        · rw [decide_eq_false (by omega)]; rfl
        · rw [decide_eq_false (show ¬ i < (tot : Int) by omega), Bool.and_false]
      simp only [List.mem_cons, List.not_mem_nil, or_false] at my
      rcases my with rfl | rfl | rfl | rfl | rfl | rfl | rfl | rfl | rfl | rfl
      · rfl
      · rfl
      · rfl
      · exact off _ (.inl (by decide))
      · exact off _ (.inr (Int.le_refl _))
      · exact off _ (.inr (Int.le_of_lt hbig.1))
      · rfl
      · rfl
      · rfl
      · rfl
  rintro _ H6 ⟨y, due, vs, rfl, sy, ky, k6, w6'⟩
  have T6 := told_keep T5 k6 nRw aw
  have rvR := told_rv T6 (by omega) nRs asy
  subst ec
  -- rows, due
  refine ⟨fun σ' H' => ∃ x due, σ' = [some (.ref wl), some (.int (way : Int)), some x, some (.int (chs (alws rs n) : Nat)), vg, some y, some (.str due), vs] ∧ RowsV H' x ∧ Row32 H' (way : Int) x y due ∧ SpK H' wl y ∧ Keep wl H6 H', ?_, ?_⟩
  · refine ⟨_, rfl, wl, _, _, rfl, w6', by omega, by decide, by decide, fun g1 H7 _ _ k7 w7 => ⟨rfl, _, rfl, ite2 (fun c => ?_) (fun c => ?_)⟩⟩
    · have T7 := told_keep T6 k7 nRw aw
      refine ⟨_, rfl, _, rfl, wl, R, _, as, rs, n, rfl, w7, by omega, T7, n6, by omega, nRw, aw, asy, fun v H8 k8 rv no => ⟨_, _, rfl, v, _, rfl, rv, row_bad w6 rv.tv ((sy.keep k7).keep k8).vd no, (sy.keep k7).keep k8, k7.trans k8⟩⟩
    · have T7 := told_keep T6 k7 nRw aw
      have rv := told_rv T7 (by omega) nRs asy
      exact ⟨_, _, rfl, rv, row_right T7 w6 rv.tv (sy.keep k7).vd ky, sy.keep k7, k7⟩
  rintro _ H7 ⟨x, due2, rfl, rv, row, sy7, k7⟩
  refine ⟨_, rfl, _, rfl, _, rfl, (way : Int), x, y, due2, rfl, row, rv.rp, sy7.rp, fun H8 s8 => ⟨_, rfl, rfl, ?_⟩⟩
  rw [decide_eq_true rfl]
  exact q H8 (((k05.trans k6).trans k7).trans s8.keep)
end

end My

namespace My
open PySem PySem.Spec PyProof.Rows L2
section
variable {P : Program} {w : World} {K : PySem.W.Frag} {mg : Str → Option Value} {base : Heap}
abbrev st_law : Stmt := topS 46
abbrev N_law : List Str := ["script", "at"]
theorem sc_law : FnScope N_law ["script"] (defScope st_law) := ⟨rfl, rfl, rfl, by decide +kernel, rfl, by decide +kernel, by decide +kernel⟩
theorem ok_law {f : Addr} {fd : FuncData} (F : Fun K "law" "law" st_law f fd) (B : Bl mg) (K_law_well : Kn P w K mg base CX0 1 "_law_well" st__law_well ["script", "at"] (spWell K))
    (K_law_right : KnQ P w K mg base 12 "_law_right" st__law_right ["well", "way"] spRight32) :
    Qui P w K mg base 13 f fd ["script"] (spLaw K) := by
  refine F.quiet sc_law (fun vs H Q E h => ?_) (fun cdv A outer s H vs Q E hr hq h => ?_)
  · obtain ⟨a, ns, rfl, _⟩ := h; rfl
  obtain ⟨a, ns, rfl, hS, hns, q⟩ := h
  refine ⟨_, ((pss_cons (ps_for PassesOwn.never rfl (pi_range1 (by rfl) B.range (pa_cons (pe_callB (call_max2 rfl) (by rfl) B.max (by decide +kernel) (pa_cons pe_int (pa_cons (pe_callB (call_min2 rfl) (by rfl) B.min (by decide +kernel) (pa_cons pe_int (pa_cons (pe_callB call_len (by rfl) B.len (by decide +kernel) (pa_cons (pv 0) pa_nil)) pa_nil))) pa_nil))) pa_nil)) (pg_name (i := 1) sc_law.nd rfl (Or.inl rfl)) (pss_one (ps_if (pt_not (pt_val (pe_callQ (E := fun _ _ _ => False) K_law_right (hr.mono (by decide)) hq (pa_cons (pe_callF K_law_well (hr.mono (by decide)) pass0 (pa_cons (pv 0) (pa_cons (pv 1) pa_nil))) (pa_cons (pe_op op_mod (pe_callTy call_int1 (by rfl) B.int (by decide +kernel) (pa_cons (pv 1) pa_nil)) pe_int) pa_nil))))) (pss_one (ps_ret pe_bl)) pss_nil)))
      (pss_one (ps_ret pe_bl)))), ?_⟩
  have hlen : (ns.map V.int).length = ns.length := List.length_map _
  refine ⟨_, rfl, _, _, rfl, .inl ⟨_, hS, rfl⟩, _, _, rfl, _, _, rfl, _, rfl, by split <;> omega, by split <;> (try split) <;> omega, for_it walk_range0 (fun i σ H' => (∃ v1, σ = [some (.ref a), v1]) ∧ Same H H')
    ⟨⟨none, rfl⟩, Same.refl H⟩ (fun _ _ _ _ _ => trivial) ?_ ?_⟩
  · rintro i x σ H0 H1 hi ⟨⟨v1, rfl⟩, s1⟩ ⟨rfl, rfl⟩
    have hi64 : i < 64 := by split at hi <;> (try split at hi) <;> omega
    clear hi
    refine ⟨_, rfl, _, rfl, a, ns, i, rfl, s1.seq hS, hi64, fun wl H2 s2 hwl w2 => ?_⟩
    have e : (i : Int) % 6 = ((i % 6 : Nat) : Int) := by omega
    refine ⟨_, rfl, .inl ⟨_, rfl, _, _, rfl, rfl, by show (0 : Int) < 6; decide, wl, i % 6, by rw [← e]; rfl, by omega, w2, fun H' k => ⟨_, rfl, iteF ⟨⟨_, rfl⟩, thenK (s1.trans s2) (s1.free hwl) k⟩⟩⟩⟩
  · rintro σ H1 ⟨⟨v1, rfl⟩, s1⟩
    exact q H1
end

end My

namespace My
open PySem PySem.Spec PyProof.Rows L2
theorem all_mk {l : PySem.W.OpenLaw} {w : World} {K : PySem.W.Frag} {h : Heap} {mg : Str → Option Value} {fa f0 f1 f2 f3 f4 f5 f6 f7 f8 f9 f10 f11 f12 f13 f14 f15 f16 f17 f18 f19 f20 f21 f22 f23 f24 f25 f26 f27 f28 f29 f30 f31 f32 f33 C0 C1 C2 C3 C4 CB : Addr} (X : K.In h) (G : h.Ns mainGlobals mg) (hfa : mg "law" = some (.ref fa))
    {od0 an0 od1 an1 od2 an2 od3 an3 od4 an4 od5 an5 od6 an6 od7 an7 od8 an8 od9 an9 od10 an10 od11 an11 od12 an12 od13 an13 od14 an14 od15 an15 od16 an16 od17 an17 od18 an18 od19 an19 od20 an20 od21 an21 od22 an22 od23 an23 od24 an24 od25 an25 od26 an26 od27 an27 od28 an28 od29 an29 od30 an30 od31 an31 od32 an32 od33 an33 : Option Addr} {sl0 sl1 sl2 sl3 sl4 sl5 sl6 sl7 sl8 sl9 sl10 sl11 sl12 sl13 sl14 sl15 sl16 sl17 sl18 sl19 sl20 sl21 sl22 sl23 sl24 sl25 sl26 sl27 sl28 sl29 sl30 sl31 sl32 sl33 : Array (Option Value)} {oc0 kV0 dc0 pm0 cd0 ct0 oc1 kV1 dc1 pm1 cd1 ct1 oc2 kV2 dc2 pm2 cd2 ct2 oc3 kV3 dc3 pm3 cd3 ct3 oc4 kV4 dc4 pm4 cd4 ct4 oc5 kV5 dc5 pm5 cd5 ct5 oc6 kV6 dc6 pm6 cd6 ct6 oc7 kV7 dc7 pm7 cd7 ct7 oc8 kV8 dc8 pm8 cd8 ct8 oc9 kV9 dc9 pm9 cd9 ct9 oc10 kV10 dc10 pm10 cd10 ct10 oc11 kV11 dc11 pm11 cd11 ct11 oc12 kV12 dc12 pm12 cd12 ct12 oc13 kV13 dc13 pm13 cd13 ct13 oc14 kV14 dc14 pm14 cd14 ct14 oc15 kV15 dc15 pm15 cd15 ct15 oc16 kV16 dc16 pm16 cd16 ct16 oc17 kV17 dc17 pm17 cd17 ct17 oc18 kV18 dc18 pm18 cd18 ct18 oc19 kV19 dc19 pm19 cd19 ct19 oc20 kV20 dc20 pm20 cd20 ct20 oc21 kV21 dc21 pm21 cd21 ct21 oc22 kV22 dc22 pm22 cd22 ct22 oc23 kV23 dc23 pm23 cd23 ct23 oc24 kV24 dc24 pm24 cd24 ct24 oc25 kV25 dc25 pm25 cd25 ct25 oc26 kV26 dc26 pm26 cd26 ct26 oc27 kV27 dc27 pm27 cd27 ct27 oc28 kV28 dc28 pm28 cd28 ct28 oc29 kV29 dc29 pm29 cd29 ct29 oc30 kV30 dc30 pm30 cd30 ct30 oc31 kV31 dc31 pm31 cd31 ct31 oc32 kV32 dc32 pm32 cd32 ct32 oc33 kV33 dc33 pm33 cd33 ct33 : Value}
    (a0 : PySem.W.nsIn K mainGlobals "is_integer" = some (some (.ref f0)))
    (l0 : K.lookup f0 = some ⟨oc0, od0, .func (PySem.W.fnOf "is_integer" "is_integer" (defArgs st_is_integer) (defBody st_is_integer) (defScope st_is_integer) .none kV0 dc0 pm0 an0 cd0 ct0), sl0⟩)
    (c0 : PySem.W.codeIn K cd0 "is_integer" = true)
    (k0 : PySem.W.keepIn K (.ref f0) = true)
    (a1 : PySem.W.nsIn K mainGlobals "is_between" = some (some (.ref f1)))
    (l1 : K.lookup f1 = some ⟨oc1, od1, .func (PySem.W.fnOf "is_between" "is_between" (defArgs st_is_between) (defBody st_is_between) (defScope st_is_between) .none kV1 dc1 pm1 an1 cd1 ct1), sl1⟩)
    (c1 : PySem.W.codeIn K cd1 "is_between" = true)
    (k1 : PySem.W.keepIn K (.ref f1) = true)
    (a2 : PySem.W.nsIn K mainGlobals "is_index" = some (some (.ref f2)))
    (l2 : K.lookup f2 = some ⟨oc2, od2, .func (PySem.W.fnOf "is_index" "is_index" (defArgs st_is_index) (defBody st_is_index) (defScope st_is_index) .none kV2 dc2 pm2 an2 cd2 ct2), sl2⟩)
    (c2 : PySem.W.codeIn K cd2 "is_index" = true)
    (k2 : PySem.W.keepIn K (.ref f2) = true)
    (a3 : PySem.W.nsIn K mainGlobals "are_different" = some (some (.ref f3)))
    (l3 : K.lookup f3 = some ⟨oc3, od3, .func (PySem.W.fnOf "are_different" "are_different" (defArgs st_are_different) (defBody st_are_different) (defScope st_are_different) .none kV3 dc3 pm3 an3 cd3 ct3), sl3⟩)
    (c3 : PySem.W.codeIn K cd3 "are_different" = true)
    (k3 : PySem.W.keepIn K (.ref f3) = true)
    (a4 : PySem.W.nsIn K mainGlobals "is_order" = some (some (.ref f4)))
    (l4 : K.lookup f4 = some ⟨oc4, od4, .func (PySem.W.fnOf "is_order" "is_order" (defArgs st_is_order) (defBody st_is_order) (defScope st_is_order) .none kV4 dc4 pm4 an4 cd4 ct4), sl4⟩)
    (c4 : PySem.W.codeIn K cd4 "is_order" = true)
    (k4 : PySem.W.keepIn K (.ref f4) = true)
    (a5 : PySem.W.nsIn K mainGlobals "is_forest" = some (some (.ref f5)))
    (l5 : K.lookup f5 = some ⟨oc5, od5, .func (PySem.W.fnOf "is_forest" "is_forest" (defArgs st_is_forest) (defBody st_is_forest) (defScope st_is_forest) .none kV5 dc5 pm5 an5 cd5 ct5), sl5⟩)
    (c5 : PySem.W.codeIn K cd5 "is_forest" = true)
    (k5 : PySem.W.keepIn K (.ref f5) = true)
    (a6 : PySem.W.nsIn K mainGlobals "check_forest" = some (some (.ref f6)))
    (l6 : K.lookup f6 = some ⟨oc6, od6, .func (PySem.W.fnOf "check_forest" "check_forest" (defArgs st_check_forest) (defBody st_check_forest) (defScope st_check_forest) .none kV6 dc6 pm6 an6 cd6 ct6), sl6⟩)
    (c6 : PySem.W.codeIn K cd6 "check_forest" = true)
    (k6 : PySem.W.keepIn K (.ref f6) = true)
    (a7 : PySem.W.nsIn K mainGlobals "sizes" = some (some (.ref f7)))
    (l7 : K.lookup f7 = some ⟨oc7, od7, .func (PySem.W.fnOf "sizes" "sizes" (defArgs st_sizes) (defBody st_sizes) (defScope st_sizes) .none kV7 dc7 pm7 an7 cd7 ct7), sl7⟩)
    (c7 : PySem.W.codeIn K cd7 "sizes" = true)
    (k7 : PySem.W.keepIn K (.ref f7) = true)
    (a8 : PySem.W.nsIn K mainGlobals "walk" = some (some (.ref f8)))
    (l8 : K.lookup f8 = some ⟨oc8, od8, .func (PySem.W.fnOf "walk" "walk" (defArgs st_walk) (defBody st_walk) (defScope st_walk) .none kV8 dc8 pm8 an8 cd8 ct8), sl8⟩)
    (c8 : PySem.W.codeIn K cd8 "walk" = true)
    (k8 : PySem.W.keepIn K (.ref f8) = true)
    (a9 : PySem.W.nsIn K mainGlobals "_without_holder" = some (some (.ref f9)))
    (l9 : K.lookup f9 = some ⟨oc9, od9, .func (PySem.W.fnOf "_without_holder" "_without_holder" (defArgs st__without_holder) (defBody st__without_holder) (defScope st__without_holder) .none kV9 dc9 pm9 an9 cd9 ct9), sl9⟩)
    (c9 : PySem.W.codeIn K cd9 "_without_holder" = true)
    (k9 : PySem.W.keepIn K (.ref f9) = true)
    (a10 : PySem.W.nsIn K mainGlobals "_held_lists" = some (some (.ref f10)))
    (l10 : K.lookup f10 = some ⟨oc10, od10, .func (PySem.W.fnOf "_held_lists" "_held_lists" (defArgs st__held_lists) (defBody st__held_lists) (defScope st__held_lists) .none kV10 dc10 pm10 an10 cd10 ct10), sl10⟩)
    (c10 : PySem.W.codeIn K cd10 "_held_lists" = true)
    (k10 : PySem.W.keepIn K (.ref f10) = true)
    (a11 : PySem.W.nsIn K mainGlobals "_walk_through" = some (some (.ref f11)))
    (l11 : K.lookup f11 = some ⟨oc11, od11, .func (PySem.W.fnOf "_walk_through" "_walk_through" (defArgs st__walk_through) (defBody st__walk_through) (defScope st__walk_through) .none kV11 dc11 pm11 an11 cd11 ct11), sl11⟩)
    (c11 : PySem.W.codeIn K cd11 "_walk_through" = true)
    (k11 : PySem.W.keepIn K (.ref f11) = true)
    (a12 : PySem.W.nsIn K mainGlobals "count_sequences" = some (some (.ref f12)))
    (l12 : K.lookup f12 = some ⟨oc12, od12, .func (PySem.W.fnOf "count_sequences" "count_sequences" (defArgs st_count_sequences) (defBody st_count_sequences) (defScope st_count_sequences) .none kV12 dc12 pm12 an12 cd12 ct12), sl12⟩)
    (c12 : PySem.W.codeIn K cd12 "count_sequences" = true)
    (k12 : PySem.W.keepIn K (.ref f12) = true)
    (a13 : PySem.W.nsIn K mainGlobals "always_ahead" = some (some (.ref f13)))
    (l13 : K.lookup f13 = some ⟨oc13, od13, .func (PySem.W.fnOf "always_ahead" "always_ahead" (defArgs st_always_ahead) (defBody st_always_ahead) (defScope st_always_ahead) .none kV13 dc13 pm13 an13 cd13 ct13), sl13⟩)
    (c13 : PySem.W.codeIn K cd13 "always_ahead" = true)
    (k13 : PySem.W.keepIn K (.ref f13) = true)
    (a14 : PySem.W.nsIn K mainGlobals "count_forests" = some (some (.ref f14)))
    (l14 : K.lookup f14 = some ⟨oc14, od14, .func (PySem.W.fnOf "count_forests" "count_forests" (defArgs st_count_forests) (defBody st_count_forests) (defScope st_count_forests) .none kV14 dc14 pm14 an14 cd14 ct14), sl14⟩)
    (c14 : PySem.W.codeIn K cd14 "count_forests" = true)
    (k14 : PySem.W.keepIn K (.ref f14) = true)
    (a15 : PySem.W.nsIn K mainGlobals "nth_forest" = some (some (.ref f15)))
    (l15 : K.lookup f15 = some ⟨oc15, od15, .func (PySem.W.fnOf "nth_forest" "nth_forest" (defArgs st_nth_forest) (defBody st_nth_forest) (defScope st_nth_forest) .none kV15 dc15 pm15 an15 cd15 ct15), sl15⟩)
    (c15 : PySem.W.codeIn K cd15 "nth_forest" = true)
    (k15 : PySem.W.keepIn K (.ref f15) = true)
    (a16 : PySem.W.nsIn K mainGlobals "forest_of" = some (some (.ref f16)))
    (l16 : K.lookup f16 = some ⟨oc16, od16, .func (PySem.W.fnOf "forest_of" "forest_of" (defArgs st_forest_of) (defBody st_forest_of) (defScope st_forest_of) .none kV16 dc16 pm16 an16 cd16 ct16), sl16⟩)
    (c16 : PySem.W.codeIn K cd16 "forest_of" = true)
    (k16 : PySem.W.keepIn K (.ref f16) = true)
    (a17 : PySem.W.nsIn K mainGlobals "nearest_forest" = some (some (.ref f17)))
    (l17 : K.lookup f17 = some ⟨oc17, od17, .func (PySem.W.fnOf "nearest_forest" "nearest_forest" (defArgs st_nearest_forest) (defBody st_nearest_forest) (defScope st_nearest_forest) .none kV17 dc17 pm17 an17 cd17 ct17), sl17⟩)
    (c17 : PySem.W.codeIn K cd17 "nearest_forest" = true)
    (k17 : PySem.W.keepIn K (.ref f17) = true)
    (a18 : PySem.W.nsIn K mainGlobals "_check_told" = some (some (.ref f18)))
    (l18 : K.lookup f18 = some ⟨oc18, od18, .func (PySem.W.fnOf "_check_told" "_check_told" (defArgs st__check_told) (defBody st__check_told) (defScope st__check_told) .none kV18 dc18 pm18 an18 cd18 ct18), sl18⟩)
    (c18 : PySem.W.codeIn K cd18 "_check_told" = true)
    (k18 : PySem.W.keepIn K (.ref f18) = true)
    (a19 : PySem.W.nsIn K mainGlobals "_places" = some (some (.ref f19)))
    (l19 : K.lookup f19 = some ⟨oc19, od19, .func (PySem.W.fnOf "_places" "_places" (defArgs st__places) (defBody st__places) (defScope st__places) .none kV19 dc19 pm19 an19 cd19 ct19), sl19⟩)
    (c19 : PySem.W.codeIn K cd19 "_places" = true)
    (k19 : PySem.W.keepIn K (.ref f19) = true)
    (a20 : PySem.W.nsIn K mainGlobals "_is_ahead" = some (some (.ref f20)))
    (l20 : K.lookup f20 = some ⟨oc20, od20, .func (PySem.W.fnOf "_is_ahead" "_is_ahead" (defArgs st__is_ahead) (defBody st__is_ahead) (defScope st__is_ahead) .none kV20 dc20 pm20 an20 cd20 ct20), sl20⟩)
    (c20 : PySem.W.codeIn K cd20 "_is_ahead" = true)
    (k20 : PySem.W.keepIn K (.ref f20) = true)
    (a21 : PySem.W.nsIn K mainGlobals "_count_choices" = some (some (.ref f21)))
    (l21 : K.lookup f21 = some ⟨oc21, od21, .func (PySem.W.fnOf "_count_choices" "_count_choices" (defArgs st__count_choices) (defBody st__count_choices) (defScope st__count_choices) .none kV21 dc21 pm21 an21 cd21 ct21), sl21⟩)
    (c21 : PySem.W.codeIn K cd21 "_count_choices" = true)
    (k21 : PySem.W.keepIn K (.ref f21) = true)
    (a22 : PySem.W.nsIn K mainGlobals "_last_one" = some (some (.ref f22)))
    (l22 : K.lookup f22 = some ⟨oc22, od22, .func (PySem.W.fnOf "_last_one" "_last_one" (defArgs st__last_one) (defBody st__last_one) (defScope st__last_one) .none kV22 dc22 pm22 an22 cd22 ct22), sl22⟩)
    (c22 : PySem.W.codeIn K cd22 "_last_one" = true)
    (k22 : PySem.W.keepIn K (.ref f22) = true)
    (a23 : PySem.W.nsIn K mainGlobals "_law_well" = some (some (.ref f23)))
    (l23 : K.lookup f23 = some ⟨oc23, od23, .func (PySem.W.fnOf "_law_well" "_law_well" (defArgs st__law_well) (defBody st__law_well) (defScope st__law_well) .none kV23 dc23 pm23 an23 cd23 ct23), sl23⟩)
    (c23 : PySem.W.codeIn K cd23 "_law_well" = true)
    (k23 : PySem.W.keepIn K (.ref f23) = true)
    (a24 : PySem.W.nsIn K mainGlobals "_law_draw" = some (some (.ref f24)))
    (l24 : K.lookup f24 = some ⟨oc24, od24, .func (PySem.W.fnOf "_law_draw" "_law_draw" (defArgs st__law_draw) (defBody st__law_draw) (defScope st__law_draw) .none kV24 dc24 pm24 an24 cd24 ct24), sl24⟩)
    (c24 : PySem.W.codeIn K cd24 "_law_draw" = true)
    (k24 : PySem.W.keepIn K (.ref f24) = true)
    (a25 : PySem.W.nsIn K mainGlobals "_law_forest" = some (some (.ref f25)))
    (l25 : K.lookup f25 = some ⟨oc25, od25, .func (PySem.W.fnOf "_law_forest" "_law_forest" (defArgs st__law_forest) (defBody st__law_forest) (defScope st__law_forest) .none kV25 dc25 pm25 an25 cd25 ct25), sl25⟩)
    (c25 : PySem.W.codeIn K cd25 "_law_forest" = true)
    (k25 : PySem.W.keepIn K (.ref f25) = true)
    (a26 : PySem.W.nsIn K mainGlobals "_law_fresh" = some (some (.ref f26)))
    (l26 : K.lookup f26 = some ⟨oc26, od26, .func (PySem.W.fnOf "_law_fresh" "_law_fresh" (defArgs st__law_fresh) (defBody st__law_fresh) (defScope st__law_fresh) .none kV26 dc26 pm26 an26 cd26 ct26), sl26⟩)
    (c26 : PySem.W.codeIn K cd26 "_law_fresh" = true)
    (k26 : PySem.W.keepIn K (.ref f26) = true)
    (a27 : PySem.W.nsIn K mainGlobals "_law_lists" = some (some (.ref f27)))
    (l27 : K.lookup f27 = some ⟨oc27, od27, .func (PySem.W.fnOf "_law_lists" "_law_lists" (defArgs st__law_lists) (defBody st__law_lists) (defScope st__law_lists) .none kV27 dc27 pm27 an27 cd27 ct27), sl27⟩)
    (c27 : PySem.W.codeIn K cd27 "_law_lists" = true)
    (k27 : PySem.W.keepIn K (.ref f27) = true)
    (a28 : PySem.W.nsIn K mainGlobals "_law_always" = some (some (.ref f28)))
    (l28 : K.lookup f28 = some ⟨oc28, od28, .func (PySem.W.fnOf "_law_always" "_law_always" (defArgs st__law_always) (defBody st__law_always) (defScope st__law_always) .none kV28 dc28 pm28 an28 cd28 ct28), sl28⟩)
    (c28 : PySem.W.codeIn K cd28 "_law_always" = true)
    (k28 : PySem.W.keepIn K (.ref f28) = true)
    (a29 : PySem.W.nsIn K mainGlobals "_law_broken" = some (some (.ref f29)))
    (l29 : K.lookup f29 = some ⟨oc29, od29, .func (PySem.W.fnOf "_law_broken" "_law_broken" (defArgs st__law_broken) (defBody st__law_broken) (defScope st__law_broken) .none kV29 dc29 pm29 an29 cd29 ct29), sl29⟩)
    (c29 : PySem.W.codeIn K cd29 "_law_broken" = true)
    (k29 : PySem.W.keepIn K (.ref f29) = true)
    (a30 : PySem.W.nsIn K mainGlobals "_law_called" = some (some (.ref f30)))
    (l30 : K.lookup f30 = some ⟨oc30, od30, .func (PySem.W.fnOf "_law_called" "_law_called" (defArgs st__law_called) (defBody st__law_called) (defScope st__law_called) .none kV30 dc30 pm30 an30 cd30 ct30), sl30⟩)
    (c30 : PySem.W.codeIn K cd30 "_law_called" = true)
    (k30 : PySem.W.keepIn K (.ref f30) = true)
    (a31 : PySem.W.nsIn K mainGlobals "_law_caught" = some (some (.ref f31)))
    (l31 : K.lookup f31 = some ⟨oc31, od31, .func (PySem.W.fnOf "_law_caught" "_law_caught" (defArgs st__law_caught) (defBody st__law_caught) (defScope st__law_caught) .none kV31 dc31 pm31 an31 cd31 ct31), sl31⟩)
    (c31 : PySem.W.codeIn K cd31 "_law_caught" = true)
    (k31 : PySem.W.keepIn K (.ref f31) = true)
    (a32 : PySem.W.nsIn K mainGlobals "_law_right" = some (some (.ref f32)))
    (l32 : K.lookup f32 = some ⟨oc32, od32, .func (PySem.W.fnOf "_law_right" "_law_right" (defArgs st__law_right) (defBody st__law_right) (defScope st__law_right) .none kV32 dc32 pm32 an32 cd32 ct32), sl32⟩)
    (c32 : PySem.W.codeIn K cd32 "_law_right" = true)
    (k32 : PySem.W.keepIn K (.ref f32) = true)
    (a33 : PySem.W.nsIn K mainGlobals "law" = some (some (.ref f33)))
    (l33 : K.lookup f33 = some ⟨oc33, od33, .func (PySem.W.fnOf "law" "law" (defArgs st_law) (defBody st_law) (defScope st_law) .none kV33 dc33 pm33 an33 cd33 ct33), sl33⟩)
    (c33 : PySem.W.codeIn K cd33 "law" = true)
    (k33 : PySem.W.keepIn K (.ref f33) = true)
    (z_isinstance : PySem.W.nsIn K mainGlobals "isinstance" = some none)
    (z_int : PySem.W.nsIn K mainGlobals "int" = some none)
    (z_bool : PySem.W.nsIn K mainGlobals "bool" = some none)
    (z_tuple : PySem.W.nsIn K mainGlobals "tuple" = some none)
    (z_len : PySem.W.nsIn K mainGlobals "len" = some none)
    (z_all : PySem.W.nsIn K mainGlobals "all" = some none)
    (z_enumerate : PySem.W.nsIn K mainGlobals "enumerate" = some none)
    (z_reversed : PySem.W.nsIn K mainGlobals "reversed" = some none)
    (z_sorted : PySem.W.nsIn K mainGlobals "sorted" = some none)
    (z_max : PySem.W.nsIn K mainGlobals "max" = some none)
    (z_min : PySem.W.nsIn K mainGlobals "min" = some none)
    (z_abs : PySem.W.nsIn K mainGlobals "abs" = some none)
    (z_range : PySem.W.nsIn K mainGlobals "range" = some none)
    (z_list : PySem.W.nsIn K mainGlobals "list" = some none)
    (z_repr : PySem.W.nsIn K mainGlobals "repr" = some none)
    (z_sum : PySem.W.nsIn K mainGlobals "sum" = some none)
    (z_any : PySem.W.nsIn K mainGlobals "any" = some none)
    (z_zip : PySem.W.nsIn K mainGlobals "zip" = some none)
    (z_str : PySem.W.nsIn K mainGlobals "str" = some none)
    (z_set : PySem.W.nsIn K mainGlobals "set" = some none)
    (z_dict : PySem.W.nsIn K mainGlobals "dict" = some none)
    (z_divmod : PySem.W.nsIn K mainGlobals "divmod" = some none)
    (z_ValueError : PySem.W.nsIn K mainGlobals "ValueError" = some none)
    (g_0 : PySem.W.nsIn K mainGlobals "InvalidTold" = some (some (.ref C0)))
    (x_0 : PySem.W.excIn K C0 [.type "ValueError", .type "Exception", .type "BaseException", .type "object"] "ValueError.__new__" = true)
    (k_0 : PySem.W.keepIn K (.ref C0) = true)
    (b_0 : PySem.W.subIn K (.ref C0) (.type "BaseException") = some true)
    (t_0 : PySem.W.typeIn K (.ref C0) = some (.type "type"))
    (ga_0 : PySem.W.findIn K (.ref C0) "__getattribute__" = some (some (.builtin "BaseException.__getattribute__")))
    (gt_0 : PySem.W.findIn K (.ref C0) "__getattr__" = some none)
    (hd_0 : PySem.W.hasDictIn K C0 = true)
    (hc_0 : PySem.W.findIn K (.ref C0) "__class__" = some (some (.builtin "object.__class__")))
    (hm_0 : PySem.W.mroIn K C0 (.type "object") = some true)
    (v_0 : PySem.W.kitOne K (.ref C0) (.type "ValueError") = some true)
    (y_0_0 : PySem.W.kitOne K (.ref C0) (.ref C0) = some true)
    (y_0_1 : PySem.W.kitOne K (.ref C0) (.ref C1) = some false)
    (y_0_2 : PySem.W.kitOne K (.ref C0) (.ref C2) = some false)
    (y_0_3 : PySem.W.kitOne K (.ref C0) (.ref C3) = some false)
    (y_0_4 : PySem.W.kitOne K (.ref C0) (.ref C4) = some false)
    (s_0 : PySem.W.subIn K (.ref C0) (.ref CB) = some true)
    (g_1 : PySem.W.nsIn K mainGlobals "InvalidIndex" = some (some (.ref C1)))
    (x_1 : PySem.W.excIn K C1 [.type "ValueError", .type "Exception", .type "BaseException", .type "object"] "ValueError.__new__" = true)
    (k_1 : PySem.W.keepIn K (.ref C1) = true)
    (b_1 : PySem.W.subIn K (.ref C1) (.type "BaseException") = some true)
    (t_1 : PySem.W.typeIn K (.ref C1) = some (.type "type"))
    (ga_1 : PySem.W.findIn K (.ref C1) "__getattribute__" = some (some (.builtin "BaseException.__getattribute__")))
    (gt_1 : PySem.W.findIn K (.ref C1) "__getattr__" = some none)
    (hd_1 : PySem.W.hasDictIn K C1 = true)
    (hc_1 : PySem.W.findIn K (.ref C1) "__class__" = some (some (.builtin "object.__class__")))
    (hm_1 : PySem.W.mroIn K C1 (.type "object") = some true)
    (v_1 : PySem.W.kitOne K (.ref C1) (.type "ValueError") = some true)
    (y_1_0 : PySem.W.kitOne K (.ref C1) (.ref C0) = some false)
    (y_1_1 : PySem.W.kitOne K (.ref C1) (.ref C1) = some true)
    (y_1_2 : PySem.W.kitOne K (.ref C1) (.ref C2) = some false)
    (y_1_3 : PySem.W.kitOne K (.ref C1) (.ref C3) = some false)
    (y_1_4 : PySem.W.kitOne K (.ref C1) (.ref C4) = some false)
    (s_1 : PySem.W.subIn K (.ref C1) (.ref CB) = some true)
    (g_2 : PySem.W.nsIn K mainGlobals "InvalidSequence" = some (some (.ref C2)))
    (x_2 : PySem.W.excIn K C2 [.type "ValueError", .type "Exception", .type "BaseException", .type "object"] "ValueError.__new__" = true)
    (k_2 : PySem.W.keepIn K (.ref C2) = true)
    (b_2 : PySem.W.subIn K (.ref C2) (.type "BaseException") = some true)
    (t_2 : PySem.W.typeIn K (.ref C2) = some (.type "type"))
    (ga_2 : PySem.W.findIn K (.ref C2) "__getattribute__" = some (some (.builtin "BaseException.__getattribute__")))
    (gt_2 : PySem.W.findIn K (.ref C2) "__getattr__" = some none)
    (hd_2 : PySem.W.hasDictIn K C2 = true)
    (hc_2 : PySem.W.findIn K (.ref C2) "__class__" = some (some (.builtin "object.__class__")))
    (hm_2 : PySem.W.mroIn K C2 (.type "object") = some true)
    (v_2 : PySem.W.kitOne K (.ref C2) (.type "ValueError") = some true)
    (y_2_0 : PySem.W.kitOne K (.ref C2) (.ref C0) = some false)
    (y_2_1 : PySem.W.kitOne K (.ref C2) (.ref C1) = some false)
    (y_2_2 : PySem.W.kitOne K (.ref C2) (.ref C2) = some true)
    (y_2_3 : PySem.W.kitOne K (.ref C2) (.ref C3) = some false)
    (y_2_4 : PySem.W.kitOne K (.ref C2) (.ref C4) = some false)
    (s_2 : PySem.W.subIn K (.ref C2) (.ref CB) = some true)
    (g_3 : PySem.W.nsIn K mainGlobals "InvalidSizes" = some (some (.ref C3)))
    (x_3 : PySem.W.excIn K C3 [.type "ValueError", .type "Exception", .type "BaseException", .type "object"] "ValueError.__new__" = true)
    (k_3 : PySem.W.keepIn K (.ref C3) = true)
    (b_3 : PySem.W.subIn K (.ref C3) (.type "BaseException") = some true)
    (t_3 : PySem.W.typeIn K (.ref C3) = some (.type "type"))
    (ga_3 : PySem.W.findIn K (.ref C3) "__getattribute__" = some (some (.builtin "BaseException.__getattribute__")))
    (gt_3 : PySem.W.findIn K (.ref C3) "__getattr__" = some none)
    (hd_3 : PySem.W.hasDictIn K C3 = true)
    (hc_3 : PySem.W.findIn K (.ref C3) "__class__" = some (some (.builtin "object.__class__")))
    (hm_3 : PySem.W.mroIn K C3 (.type "object") = some true)
    (v_3 : PySem.W.kitOne K (.ref C3) (.type "ValueError") = some true)
    (y_3_0 : PySem.W.kitOne K (.ref C3) (.ref C0) = some false)
    (y_3_1 : PySem.W.kitOne K (.ref C3) (.ref C1) = some false)
    (y_3_2 : PySem.W.kitOne K (.ref C3) (.ref C2) = some false)
    (y_3_3 : PySem.W.kitOne K (.ref C3) (.ref C3) = some true)
    (y_3_4 : PySem.W.kitOne K (.ref C3) (.ref C4) = some false)
    (s_3 : PySem.W.subIn K (.ref C3) (.ref CB) = some true)
    (g_4 : PySem.W.nsIn K mainGlobals "InvalidForest" = some (some (.ref C4)))
    (x_4 : PySem.W.excIn K C4 [.type "ValueError", .type "Exception", .type "BaseException", .type "object"] "ValueError.__new__" = true)
    (k_4 : PySem.W.keepIn K (.ref C4) = true)
    (b_4 : PySem.W.subIn K (.ref C4) (.type "BaseException") = some true)
    (t_4 : PySem.W.typeIn K (.ref C4) = some (.type "type"))
    (ga_4 : PySem.W.findIn K (.ref C4) "__getattribute__" = some (some (.builtin "BaseException.__getattribute__")))
    (gt_4 : PySem.W.findIn K (.ref C4) "__getattr__" = some none)
    (hd_4 : PySem.W.hasDictIn K C4 = true)
    (hc_4 : PySem.W.findIn K (.ref C4) "__class__" = some (some (.builtin "object.__class__")))
    (hm_4 : PySem.W.mroIn K C4 (.type "object") = some true)
    (v_4 : PySem.W.kitOne K (.ref C4) (.type "ValueError") = some true)
    (y_4_0 : PySem.W.kitOne K (.ref C4) (.ref C0) = some false)
    (y_4_1 : PySem.W.kitOne K (.ref C4) (.ref C1) = some false)
    (y_4_2 : PySem.W.kitOne K (.ref C4) (.ref C2) = some false)
    (y_4_3 : PySem.W.kitOne K (.ref C4) (.ref C3) = some false)
    (y_4_4 : PySem.W.kitOne K (.ref C4) (.ref C4) = some true)
    (s_4 : PySem.W.subIn K (.ref C4) (.ref CB) = some true)
    (m_factorial : PySem.W.nsIn K mainGlobals "factorial" = some (some (.builtin "math.factorial")))
    (sn : PySem.W.specialIn K (.builtin "object.__class__") "__get__" = some (some (.builtin "getset_descriptor.__get__")))
    (st : PySem.W.takesIn K (.builtin "object.__class__") = some true)
    (gB : PySem.W.nsIn K mainGlobals "HolderError" = some (some (.ref CB)))
    (bB : PySem.W.subIn K (.ref CB) (.type "BaseException") = some true)
    (hB : PySem.W.hasDictIn K CB = true)
    (tB : PySem.W.typeIn K (.ref CB) = some (.type "type")) :
    ∃ fd : FuncData, (∀ (s : Shared) (v : Value), BindsTo s fd ⟨[v], []⟩ [("script", v)]) ∧ ∀ base : Heap, K.In base → base.Ns mainGlobals mg → Qui l.prog w K mg base 13 fa fd ["script"] (spLaw K) := by
  have e := hfa.symm.trans (PySem.W.mg_of X G a33)
  cases e
  have D_is_integer : Df K mg "is_integer" st_is_integer ["value"] := Df.mk' l0 c0 k0 (PySem.W.mg_of X G a0) fun _ _ _ _ _ _ us hl => match us, hl with | [_], _ => rfl
  have D_is_between : Df K mg "is_between" st_is_between ["value", "least", "greatest"] := Df.mk' l1 c1 k1 (PySem.W.mg_of X G a1) fun _ _ _ _ _ _ us hl => match us, hl with | [_, _, _], _ => rfl
  have D_is_index : Df K mg "is_index" st_is_index ["value", "many"] := Df.mk' l2 c2 k2 (PySem.W.mg_of X G a2) fun _ _ _ _ _ _ us hl => match us, hl with | [_, _], _ => rfl
  have D_are_different : Df K mg "are_different" st_are_different ["values", "many"] := Df.mk' l3 c3 k3 (PySem.W.mg_of X G a3) fun _ _ _ _ _ _ us hl => match us, hl with | [_, _], _ => rfl
  have D_is_order : Df K mg "is_order" st_is_order ["value"] := Df.mk' l4 c4 k4 (PySem.W.mg_of X G a4) fun _ _ _ _ _ _ us hl => match us, hl with | [_], _ => rfl
  have D_is_forest : Df K mg "is_forest" st_is_forest ["value"] := Df.mk' l5 c5 k5 (PySem.W.mg_of X G a5) fun _ _ _ _ _ _ us hl => match us, hl with | [_], _ => rfl
  have D_check_forest : Df K mg "check_forest" st_check_forest ["forest"] := Df.mk' l6 c6 k6 (PySem.W.mg_of X G a6) fun _ _ _ _ _ _ us hl => match us, hl with | [_], _ => rfl
  have D_sizes : Df K mg "sizes" st_sizes ["forest"] := Df.mk' l7 c7 k7 (PySem.W.mg_of X G a7) fun _ _ _ _ _ _ us hl => match us, hl with | [_], _ => rfl
  have D_walk : Df K mg "walk" st_walk ["forest"] := Df.mk' l8 c8 k8 (PySem.W.mg_of X G a8) fun _ _ _ _ _ _ us hl => match us, hl with | [_], _ => rfl
  have D__without_holder : Df K mg "_without_holder" st__without_holder ["forest"] := Df.mk' l9 c9 k9 (PySem.W.mg_of X G a9) fun _ _ _ _ _ _ us hl => match us, hl with | [_], _ => rfl
  have D__held_lists : Df K mg "_held_lists" st__held_lists ["forest"] := Df.mk' l10 c10 k10 (PySem.W.mg_of X G a10) fun _ _ _ _ _ _ us hl => match us, hl with | [_], _ => rfl
  have D__walk_through : Df K mg "_walk_through" st__walk_through ["held", "starts"] := Df.mk' l11 c11 k11 (PySem.W.mg_of X G a11) fun _ _ _ _ _ _ us hl => match us, hl with | [_, _], _ => rfl
  have D_count_sequences : Df K mg "count_sequences" st_count_sequences ["forest"] := Df.mk' l12 c12 k12 (PySem.W.mg_of X G a12) fun _ _ _ _ _ _ us hl => match us, hl with | [_], _ => rfl
  have D_always_ahead : Df K mg "always_ahead" st_always_ahead ["told"] := Df.mk' l13 c13 k13 (PySem.W.mg_of X G a13) fun _ _ _ _ _ _ us hl => match us, hl with | [_], _ => rfl
  have D_count_forests : Df K mg "count_forests" st_count_forests ["told"] := Df.mk' l14 c14 k14 (PySem.W.mg_of X G a14) fun _ _ _ _ _ _ us hl => match us, hl with | [_], _ => rfl
  have D_nth_forest : Df K mg "nth_forest" st_nth_forest ["told", "index"] := Df.mk' l15 c15 k15 (PySem.W.mg_of X G a15) fun _ _ _ _ _ _ us hl => match us, hl with | [_, _], _ => rfl
  have D_forest_of : Df K mg "forest_of" st_forest_of ["told"] := Df.mk' l16 c16 k16 (PySem.W.mg_of X G a16) fun _ _ _ _ _ _ us hl => match us, hl with | [_], _ => rfl
  have D_nearest_forest : Df K mg "nearest_forest" st_nearest_forest ["told"] := Df.mk' l17 c17 k17 (PySem.W.mg_of X G a17) fun _ _ _ _ _ _ us hl => match us, hl with | [_], _ => rfl
  have D__check_told : Df K mg "_check_told" st__check_told ["told"] := Df.mk' l18 c18 k18 (PySem.W.mg_of X G a18) fun _ _ _ _ _ _ us hl => match us, hl with | [_], _ => rfl
  have D__places : Df K mg "_places" st__places ["sequence"] := Df.mk' l19 c19 k19 (PySem.W.mg_of X G a19) fun _ _ _ _ _ _ us hl => match us, hl with | [_], _ => rfl
  have D__is_ahead : Df K mg "_is_ahead" st__is_ahead ["place_lists", "other", "thing"] := Df.mk' l20 c20 k20 (PySem.W.mg_of X G a20) fun _ _ _ _ _ _ us hl => match us, hl with | [_, _, _], _ => rfl
  have D__count_choices : Df K mg "_count_choices" st__count_choices ["ahead"] := Df.mk' l21 c21 k21 (PySem.W.mg_of X G a21) fun _ _ _ _ _ _ us hl => match us, hl with | [_], _ => rfl
  have D__last_one : Df K mg "_last_one" st__last_one ["sequence", "place_of", "things"] := Df.mk' l22 c22 k22 (PySem.W.mg_of X G a22) fun _ _ _ _ _ _ us hl => match us, hl with | [_, _, _], _ => rfl
  have D__law_well : Df K mg "_law_well" st__law_well ["script", "at"] := Df.mk' l23 c23 k23 (PySem.W.mg_of X G a23) fun _ _ _ _ _ _ us hl => match us, hl with | [_, _], _ => rfl
  have D__law_draw : Df K mg "_law_draw" st__law_draw ["well", "most"] := Df.mk' l24 c24 k24 (PySem.W.mg_of X G a24) fun _ _ _ _ _ _ us hl => match us, hl with | [_, _], _ => rfl
  have D__law_forest : Df K mg "_law_forest" st__law_forest ["well", "most"] := Df.mk' l25 c25 k25 (PySem.W.mg_of X G a25) fun _ _ _ _ _ _ us hl => match us, hl with | [_, _], _ => rfl
  have D__law_fresh : Df K mg "_law_fresh" st__law_fresh ["well", "plan"] := Df.mk' l26 c26 k26 (PySem.W.mg_of X G a26) fun _ _ _ _ _ _ us hl => match us, hl with | [_, _], _ => rfl
  have D__law_lists : Df K mg "_law_lists" st__law_lists ["well", "size", "most"] := Df.mk' l27 c27 k27 (PySem.W.mg_of X G a27) fun _ _ _ _ _ _ us hl => match us, hl with | [_, _, _], _ => rfl
  have D__law_always : Df K mg "_law_always" st__law_always ["rows"] := Df.mk' l28 c28 k28 (PySem.W.mg_of X G a28) fun _ _ _ _ _ _ us hl => match us, hl with | [_], _ => rfl
  have D__law_broken : Df K mg "_law_broken" st__law_broken ["well", "rows"] := Df.mk' l29 c29 k29 (PySem.W.mg_of X G a29) fun _ _ _ _ _ _ us hl => match us, hl with | [_, _], _ => rfl
  have D__law_called : Df K mg "_law_called" st__law_called ["way", "rows", "spot"] := Df.mk' l30 c30 k30 (PySem.W.mg_of X G a30) fun _ _ _ _ _ _ us hl => match us, hl with | [_, _, _], _ => rfl
  have D__law_caught : Df K mg "_law_caught" st__law_caught ["way", "rows", "spot"] := Df.mk' l31 c31 k31 (PySem.W.mg_of X G a31) fun _ _ _ _ _ _ us hl => match us, hl with | [_, _, _], _ => rfl
  have D__law_right : Df K mg "_law_right" st__law_right ["well", "way"] := Df.mk' l32 c32 k32 (PySem.W.mg_of X G a32) fun _ _ _ _ _ _ us hl => match us, hl with | [_, _], _ => rfl
  have B : Bl mg := ⟨PySem.W.mg_none_of X G z_isinstance, PySem.W.mg_none_of X G z_int, PySem.W.mg_none_of X G z_bool, PySem.W.mg_none_of X G z_tuple, PySem.W.mg_none_of X G z_len, PySem.W.mg_none_of X G z_all, PySem.W.mg_none_of X G z_enumerate, PySem.W.mg_none_of X G z_reversed, PySem.W.mg_none_of X G z_sorted, PySem.W.mg_none_of X G z_max, PySem.W.mg_none_of X G z_min, PySem.W.mg_none_of X G z_abs, PySem.W.mg_none_of X G z_range, PySem.W.mg_none_of X G z_list, PySem.W.mg_none_of X G z_repr, PySem.W.mg_none_of X G z_sum, PySem.W.mg_none_of X G z_any, PySem.W.mg_none_of X G z_zip, PySem.W.mg_none_of X G z_str, PySem.W.mg_none_of X G z_set, PySem.W.mg_none_of X G z_dict⟩
  have BM : Bm mg := ⟨PySem.W.mg_of X G m_factorial⟩
  have E_InvalidTold : Ex1 K mg "InvalidTold" C0 := ⟨x_0, PySem.W.mg_of X G g_0, k_0, b_0, t_0⟩
  have X_InvalidTold : ExcC K C0 := ⟨ga_0, gt_0, b_0, hd_0, hc_0, sn, st, hm_0⟩
  have M_InvalidTold : PySem.W.exmOne K (.ref C0) (.ref CB) = some true := PySem.W.exm_ref bB hB tB s_0
  have E_InvalidIndex : Ex1 K mg "InvalidIndex" C1 := ⟨x_1, PySem.W.mg_of X G g_1, k_1, b_1, t_1⟩
  have X_InvalidIndex : ExcC K C1 := ⟨ga_1, gt_1, b_1, hd_1, hc_1, sn, st, hm_1⟩
  have M_InvalidIndex : PySem.W.exmOne K (.ref C1) (.ref CB) = some true := PySem.W.exm_ref bB hB tB s_1
  have E_InvalidSequence : Ex1 K mg "InvalidSequence" C2 := ⟨x_2, PySem.W.mg_of X G g_2, k_2, b_2, t_2⟩
  have X_InvalidSequence : ExcC K C2 := ⟨ga_2, gt_2, b_2, hd_2, hc_2, sn, st, hm_2⟩
  have M_InvalidSequence : PySem.W.exmOne K (.ref C2) (.ref CB) = some true := PySem.W.exm_ref bB hB tB s_2
  have E_InvalidSizes : Ex1 K mg "InvalidSizes" C3 := ⟨x_3, PySem.W.mg_of X G g_3, k_3, b_3, t_3⟩
  have X_InvalidSizes : ExcC K C3 := ⟨ga_3, gt_3, b_3, hd_3, hc_3, sn, st, hm_3⟩
  have M_InvalidSizes : PySem.W.exmOne K (.ref C3) (.ref CB) = some true := PySem.W.exm_ref bB hB tB s_3
  have E_InvalidForest : Ex1 K mg "InvalidForest" C4 := ⟨x_4, PySem.W.mg_of X G g_4, k_4, b_4, t_4⟩
  have X_InvalidForest : ExcC K C4 := ⟨ga_4, gt_4, b_4, hd_4, hc_4, sn, st, hm_4⟩
  have M_InvalidForest : PySem.W.exmOne K (.ref C4) (.ref CB) = some true := PySem.W.exm_ref bB hB tB s_4
  refine ⟨PySem.W.fnOf "law" "law" (defArgs st_law) (defBody st_law) (defScope st_law) .none kV33 dc33 pm33 an33 cd33 ct33, fun s v => .of_eq rfl, fun base _ _ => ?_⟩
  have Bd : mg "divmod" = none := PySem.W.mg_none_of X G z_divmod
  have T4 : Gl4 K mg CB C0 C1 C2 C3 := ⟨PySem.W.mg_of X G gB, E_InvalidTold.g, E_InvalidIndex.g, E_InvalidSequence.g, E_InvalidSizes.g, PySem.W.mg_none_of X G z_ValueError⟩
  have X0 : ExO K CB C0 C1 C2 C3 C0 true false false false := ⟨X_InvalidTold, M_InvalidTold, y_0_0, y_0_1, y_0_2, y_0_3, v_0⟩
  have X1 : ExO K CB C0 C1 C2 C3 C1 false true false false := ⟨X_InvalidIndex, M_InvalidIndex, y_1_0, y_1_1, y_1_2, y_1_3, v_1⟩
  have Kis_integer := ok_is_integer (P := l.prog) (w := w) (base := base) D_is_integer B
  have Kis_between := ok_is_between D_is_between B Kis_integer
  have Kis_index := ok_is_index D_is_index B Kis_between
  have Kdiff := ok_are_different D_are_different B Kis_index
  have Korder := ok_is_order D_is_order B Kdiff
  have Kwo := ok__without_holder (P := l.prog) (w := w) (base := base) D__without_holder B
  have Khl := ok__held_lists (P := l.prog) (w := w) (base := base) D__held_lists B
  have Kwt := ok__walk_through (P := l.prog) (w := w) (base := base) D__walk_through B
  have Kis_forest := ok_is_forest D_is_forest B Kis_index Kwo Khl Kwt
  have Kcf := ok_check_forest D_check_forest B E_InvalidForest Kis_forest
  have Kwalk := ok_walk D_walk B Kcf Kwo Khl Kwt
  have Ksizes := ok_sizes D_sizes B Kwalk
  have Kcnt := ok_count_sequences D_count_sequences B BM Ksizes
  have Kct := ok__check_told D__check_told B E_InvalidTold Korder
  have Kplaces := ok__places (P := l.prog) (w := w) (base := base) D__places B
  have Kisa := ok__is_ahead (P := l.prog) (w := w) (base := base) D__is_ahead B
  have Kch := ok__count_choices (P := l.prog) (w := w) (base := base) D__count_choices B
  have Klast := ok__last_one (P := l.prog) (w := w) (base := base) D__last_one B
  have Kaa := ok_always_ahead D_always_ahead B Kct Kplaces Kisa
  have Kcfs := ok_count_forests D_count_forests B Kaa Kch
  have Knf := ok_nth_forest D_nth_forest B Bd E_InvalidIndex Kis_index Kaa Kch
  have Knear := ok_nearest_forest D_nearest_forest B Kaa Kplaces Klast
  have Kfo := ok_forest_of D_forest_of B Knear Kcnt
  have Kdraw := ok__law_draw (P := l.prog) (w := w) (base := base) D__law_draw B
  have Kwell := ok__law_well (P := l.prog) (w := w) (base := base) D__law_well B
  have Kforest := ok__law_forest D__law_forest B Kdraw
  have Kfresh := ok__law_fresh D__law_fresh B Kdraw
  have Klists := ok__law_lists D__law_lists B Kdraw Kforest Kfresh
  have Kalways := ok__law_always (P := l.prog) (w := w) (base := base) D__law_always B
  have Kbroken := ok__law_broken D__law_broken B Kdraw
  have Kcalled := ok__law_called D__law_called B Kaa Kcfs Knf Kfo Knear
  have Kcaught := ok__law_caught D__law_caught B T4 X0 X1 Kcalled
  have Kright := ok__law_right D__law_right B Kdraw Klists Kalways Kbroken Kcaught
  exact ok_law (fun_mk (st := st_law) l33 c33 k33) B Kwell Kright
theorem walkL {l : PySem.W.OpenLaw} {q : Program} {loose : List Str} {XP : (Str → Option Value) → Heap → Prop} {YP : World → Heap → Prop} {d : DefRec} {K : Params → PySem.W.Frag} (hn : l.most = some 63) (hdf : d.params.defaults = []) (hY : ∀ (w : World) (h : Heap), YP w h → (K w.params).In h)
    (F : ∀ (w : World) (mg : Str → Option Value) (fa : Addr) (h : Heap), (K w.params).In h → h.Ns mainGlobals mg → mg d.name = some (.ref fa) → ∃ fd : FuncData, (∀ (s : Shared) (v : Value), BindsTo s fd ⟨[v], []⟩ [("script", v)]) ∧ ∀ base : Heap, (K w.params).In base → base.Ns mainGlobals mg → Qui l.prog w (K w.params) mg base 13 fa fd ["script"] (spLaw (K w.params))) :
    PySem.W.WalkO q loose XP YP l.row.toRowW d [] (fun f vs => PySem.call f vs) :=
  L2.walk_ofQ (n := 63) (k := 13) (x := "script") (sp := fun w => spLaw (K w.params)) hn (by decide) hdf ⟨rfl, by decide, by decide⟩ hY F fun _ _ a ns hl _ hS => ⟨a, ns, rfl, hS, hl, fun _ => rfl⟩
end My
open PySem PySem.W PyProof.Rows
set_option maxRecDepth 100000 in
set_option maxHeartbeats 0 in
theorem PySem.Challenge.cw_heldbehind_k32_errors_of_told_lists_holds : PySem.Challenge.rw_heldbehind_k32_errors_of_told_lists.Holds := by
  w_on; o_law; k_head; (case hw => w_witness2)
  k_fill
  refine My.walkL (l := PySem.Challenge.rw_heldbehind_k32_errors_of_told_lists) rfl rfl (fun w h Y => PySem.W.kIn_of Y) ?F
  case F =>
    intro w mg fa h KX G hmg
    refine' My.all_mk KX G hmg ?a0 ?l0 ?c0 ?k0 ?a1 ?l1 ?c1 ?k1 ?a2 ?l2 ?c2 ?k2 ?a3 ?l3 ?c3 ?k3 ?a4 ?l4 ?c4 ?k4 ?a5 ?l5 ?c5 ?k5 ?a6 ?l6 ?c6 ?k6 ?a7 ?l7 ?c7 ?k7 ?a8 ?l8 ?c8 ?k8 ?a9 ?l9 ?c9 ?k9 ?a10 ?l10 ?c10 ?k10 ?a11 ?l11 ?c11 ?k11 ?a12 ?l12 ?c12 ?k12 ?a13 ?l13 ?c13 ?k13 ?a14 ?l14 ?c14 ?k14 ?a15 ?l15 ?c15 ?k15 ?a16 ?l16 ?c16 ?k16 ?a17 ?l17 ?c17 ?k17 ?a18 ?l18 ?c18 ?k18 ?a19 ?l19 ?c19 ?k19 ?a20 ?l20 ?c20 ?k20 ?a21 ?l21 ?c21 ?k21 ?a22 ?l22 ?c22 ?k22 ?a23 ?l23 ?c23 ?k23 ?a24 ?l24 ?c24 ?k24 ?a25 ?l25 ?c25 ?k25 ?a26 ?l26 ?c26 ?k26 ?a27 ?l27 ?c27 ?k27 ?a28 ?l28 ?c28 ?k28 ?a29 ?l29 ?c29 ?k29 ?a30 ?l30 ?c30 ?k30 ?a31 ?l31 ?c31 ?k31 ?a32 ?l32 ?c32 ?k32 ?a33 ?l33 ?c33 ?k33 ?z_isinstance ?z_int ?z_bool ?z_tuple ?z_len ?z_all ?z_enumerate ?z_reversed ?z_sorted ?z_max ?z_min ?z_abs ?z_range ?z_list ?z_repr ?z_sum ?z_any ?z_zip ?z_str ?z_set ?z_dict ?z_divmod ?z_ValueError ?g_0 ?x_0 ?k_0 ?b_0 ?t_0 ?ga_0 ?gt_0 ?hd_0 ?hc_0 ?hm_0 ?v_0 ?y_0_0 ?y_0_1 ?y_0_2 ?y_0_3 ?y_0_4 ?s_0 ?g_1 ?x_1 ?k_1 ?b_1 ?t_1 ?ga_1 ?gt_1 ?hd_1 ?hc_1 ?hm_1 ?v_1 ?y_1_0 ?y_1_1 ?y_1_2 ?y_1_3 ?y_1_4 ?s_1 ?g_2 ?x_2 ?k_2 ?b_2 ?t_2 ?ga_2 ?gt_2 ?hd_2 ?hc_2 ?hm_2 ?v_2 ?y_2_0 ?y_2_1 ?y_2_2 ?y_2_3 ?y_2_4 ?s_2 ?g_3 ?x_3 ?k_3 ?b_3 ?t_3 ?ga_3 ?gt_3 ?hd_3 ?hc_3 ?hm_3 ?v_3 ?y_3_0 ?y_3_1 ?y_3_2 ?y_3_3 ?y_3_4 ?s_3 ?g_4 ?x_4 ?k_4 ?b_4 ?t_4 ?ga_4 ?gt_4 ?hd_4 ?hc_4 ?hm_4 ?v_4 ?y_4_0 ?y_4_1 ?y_4_2 ?y_4_3 ?y_4_4 ?s_4 ?m_factorial ?sn ?st ?gB ?bB ?hB ?tB
    (case a0 => first | k_is | rfl)
    (case a1 => first | k_is | rfl)
    (case a2 => first | k_is | rfl)
    (case a3 => first | k_is | rfl)
    (case a4 => first | k_is | rfl)
    (case a5 => first | k_is | rfl)
    (case a6 => first | k_is | rfl)
    (case a7 => first | k_is | rfl)
    (case a8 => first | k_is | rfl)
    (case a9 => first | k_is | rfl)
    (case a10 => first | k_is | rfl)
    (case a11 => first | k_is | rfl)
    (case a12 => first | k_is | rfl)
    (case a13 => first | k_is | rfl)
    (case a14 => first | k_is | rfl)
    (case a15 => first | k_is | rfl)
    (case a16 => first | k_is | rfl)
    (case a17 => first | k_is | rfl)
    (case a18 => first | k_is | rfl)
    (case a19 => first | k_is | rfl)
    (case a20 => first | k_is | rfl)
    (case a21 => first | k_is | rfl)
    (case a22 => first | k_is | rfl)
    (case a23 => first | k_is | rfl)
    (case a24 => first | k_is | rfl)
    (case a25 => first | k_is | rfl)
    (case a26 => first | k_is | rfl)
    (case a27 => first | k_is | rfl)
    (case a28 => first | k_is | rfl)
    (case a29 => first | k_is | rfl)
    (case a30 => first | k_is | rfl)
    (case a31 => first | k_is | rfl)
    (case a32 => first | k_is | rfl)
    (case a33 => first | k_is | rfl)
    (case g_0 => first | k_is | rfl)
    (case g_1 => first | k_is | rfl)
    (case g_2 => first | k_is | rfl)
    (case g_3 => first | k_is | rfl)
    (case g_4 => first | k_is | rfl)
    (case gB => first | k_is | rfl)
    (case l0 => first | k_is | rfl)
    (case c0 => first | k_is | rfl)
    (case k0 => first | k_is | rfl)
    (case l1 => first | k_is | rfl)
    (case c1 => first | k_is | rfl)
    (case k1 => first | k_is | rfl)
    (case l2 => first | k_is | rfl)
    (case c2 => first | k_is | rfl)
    (case k2 => first | k_is | rfl)
    (case l3 => first | k_is | rfl)
    (case c3 => first | k_is | rfl)
    (case k3 => first | k_is | rfl)
    (case l4 => first | k_is | rfl)
    (case c4 => first | k_is | rfl)
    (case k4 => first | k_is | rfl)
    (case l5 => first | k_is | rfl)
    (case c5 => first | k_is | rfl)
    (case k5 => first | k_is | rfl)
    (case l6 => first | k_is | rfl)
    (case c6 => first | k_is | rfl)
    (case k6 => first | k_is | rfl)
    (case l7 => first | k_is | rfl)
    (case c7 => first | k_is | rfl)
    (case k7 => first | k_is | rfl)
    (case l8 => first | k_is | rfl)
    (case c8 => first | k_is | rfl)
    (case k8 => first | k_is | rfl)
    (case l9 => first | k_is | rfl)
    (case c9 => first | k_is | rfl)
    (case k9 => first | k_is | rfl)
    (case l10 => first | k_is | rfl)
    (case c10 => first | k_is | rfl)
    (case k10 => first | k_is | rfl)
    (case l11 => first | k_is | rfl)
    (case c11 => first | k_is | rfl)
    (case k11 => first | k_is | rfl)
    (case l12 => first | k_is | rfl)
    (case c12 => first | k_is | rfl)
    (case k12 => first | k_is | rfl)
    (case l13 => first | k_is | rfl)
    (case c13 => first | k_is | rfl)
    (case k13 => first | k_is | rfl)
    (case l14 => first | k_is | rfl)
    (case c14 => first | k_is | rfl)
    (case k14 => first | k_is | rfl)
    (case l15 => first | k_is | rfl)
    (case c15 => first | k_is | rfl)
    (case k15 => first | k_is | rfl)
    (case l16 => first | k_is | rfl)
    (case c16 => first | k_is | rfl)
    (case k16 => first | k_is | rfl)
    (case l17 => first | k_is | rfl)
    (case c17 => first | k_is | rfl)
    (case k17 => first | k_is | rfl)
    (case l18 => first | k_is | rfl)
    (case c18 => first | k_is | rfl)
    (case k18 => first | k_is | rfl)
    (case l19 => first | k_is | rfl)
    (case c19 => first | k_is | rfl)
    (case k19 => first | k_is | rfl)
    (case l20 => first | k_is | rfl)
    (case c20 => first | k_is | rfl)
    (case k20 => first | k_is | rfl)
    (case l21 => first | k_is | rfl)
    (case c21 => first | k_is | rfl)
    (case k21 => first | k_is | rfl)
    (case l22 => first | k_is | rfl)
    (case c22 => first | k_is | rfl)
    (case k22 => first | k_is | rfl)
    (case l23 => first | k_is | rfl)
    (case c23 => first | k_is | rfl)
    (case k23 => first | k_is | rfl)
    (case l24 => first | k_is | rfl)
    (case c24 => first | k_is | rfl)
    (case k24 => first | k_is | rfl)
    (case l25 => first | k_is | rfl)
    (case c25 => first | k_is | rfl)
    (case k25 => first | k_is | rfl)
    (case l26 => first | k_is | rfl)
    (case c26 => first | k_is | rfl)
    (case k26 => first | k_is | rfl)
    (case l27 => first | k_is | rfl)
    (case c27 => first | k_is | rfl)
    (case k27 => first | k_is | rfl)
    (case l28 => first | k_is | rfl)
    (case c28 => first | k_is | rfl)
    (case k28 => first | k_is | rfl)
    (case l29 => first | k_is | rfl)
    (case c29 => first | k_is | rfl)
    (case k29 => first | k_is | rfl)
    (case l30 => first | k_is | rfl)
    (case c30 => first | k_is | rfl)
    (case k30 => first | k_is | rfl)
    (case l31 => first | k_is | rfl)
    (case c31 => first | k_is | rfl)
    (case k31 => first | k_is | rfl)
    (case l32 => first | k_is | rfl)
    (case c32 => first | k_is | rfl)
    (case k32 => first | k_is | rfl)
    (case l33 => first | k_is | rfl)
    (case c33 => first | k_is | rfl)
    (case k33 => first | k_is | rfl)
    (case z_isinstance => first | k_is | rfl)
    (case z_int => first | k_is | rfl)
    (case z_bool => first | k_is | rfl)
    (case z_tuple => first | k_is | rfl)
    (case z_len => first | k_is | rfl)
    (case z_all => first | k_is | rfl)
    (case z_enumerate => first | k_is | rfl)
    (case z_reversed => first | k_is | rfl)
    (case z_sorted => first | k_is | rfl)
    (case z_max => first | k_is | rfl)
    (case z_min => first | k_is | rfl)
    (case z_abs => first | k_is | rfl)
    (case z_range => first | k_is | rfl)
    (case z_list => first | k_is | rfl)
    (case z_repr => first | k_is | rfl)
    (case z_sum => first | k_is | rfl)
    (case z_any => first | k_is | rfl)
    (case z_zip => first | k_is | rfl)
    (case z_str => first | k_is | rfl)
    (case z_set => first | k_is | rfl)
    (case z_dict => first | k_is | rfl)
    (case z_divmod => first | k_is | rfl)
    (case z_ValueError => first | k_is | rfl)
    (case x_0 => first | k_exc | rfl)
    (case k_0 => first | k_is | rfl)
    (case b_0 => first | k_is | rfl)
    (case t_0 => first | k_is | rfl)
    (case ga_0 => first | k_is | rfl)
    (case gt_0 => first | k_is | rfl)
    (case hd_0 => first | k_is | rfl)
    (case hc_0 => first | k_is | rfl)
    (case hm_0 => first | k_is | rfl)
    (case v_0 => first | k_is | rfl)
    (case y_0_0 => first | k_is | rfl)
    (case y_0_1 => first | k_is | rfl)
    (case y_0_2 => first | k_is | rfl)
    (case y_0_3 => first | k_is | rfl)
    (case y_0_4 => first | k_is | rfl)
    (case s_0 => first | k_is | rfl)
    (case x_1 => first | k_exc | rfl)
    (case k_1 => first | k_is | rfl)
    (case b_1 => first | k_is | rfl)
    (case t_1 => first | k_is | rfl)
    (case ga_1 => first | k_is | rfl)
    (case gt_1 => first | k_is | rfl)
    (case hd_1 => first | k_is | rfl)
    (case hc_1 => first | k_is | rfl)
    (case hm_1 => first | k_is | rfl)
    (case v_1 => first | k_is | rfl)
    (case y_1_0 => first | k_is | rfl)
    (case y_1_1 => first | k_is | rfl)
    (case y_1_2 => first | k_is | rfl)
    (case y_1_3 => first | k_is | rfl)
    (case y_1_4 => first | k_is | rfl)
    (case s_1 => first | k_is | rfl)
    (case x_2 => first | k_exc | rfl)
    (case k_2 => first | k_is | rfl)
    (case b_2 => first | k_is | rfl)
    (case t_2 => first | k_is | rfl)
    (case ga_2 => first | k_is | rfl)
    (case gt_2 => first | k_is | rfl)
    (case hd_2 => first | k_is | rfl)
    (case hc_2 => first | k_is | rfl)
    (case hm_2 => first | k_is | rfl)
    (case v_2 => first | k_is | rfl)
    (case y_2_0 => first | k_is | rfl)
    (case y_2_1 => first | k_is | rfl)
    (case y_2_2 => first | k_is | rfl)
    (case y_2_3 => first | k_is | rfl)
    (case y_2_4 => first | k_is | rfl)
    (case s_2 => first | k_is | rfl)
    (case x_3 => first | k_exc | rfl)
    (case k_3 => first | k_is | rfl)
    (case b_3 => first | k_is | rfl)
    (case t_3 => first | k_is | rfl)
    (case ga_3 => first | k_is | rfl)
    (case gt_3 => first | k_is | rfl)
    (case hd_3 => first | k_is | rfl)
    (case hc_3 => first | k_is | rfl)
    (case hm_3 => first | k_is | rfl)
    (case v_3 => first | k_is | rfl)
    (case y_3_0 => first | k_is | rfl)
    (case y_3_1 => first | k_is | rfl)
    (case y_3_2 => first | k_is | rfl)
    (case y_3_3 => first | k_is | rfl)
    (case y_3_4 => first | k_is | rfl)
    (case s_3 => first | k_is | rfl)
    (case x_4 => first | k_exc | rfl)
    (case k_4 => first | k_is | rfl)
    (case b_4 => first | k_is | rfl)
    (case t_4 => first | k_is | rfl)
    (case ga_4 => first | k_is | rfl)
    (case gt_4 => first | k_is | rfl)
    (case hd_4 => first | k_is | rfl)
    (case hc_4 => first | k_is | rfl)
    (case hm_4 => first | k_is | rfl)
    (case v_4 => first | k_is | rfl)
    (case y_4_0 => first | k_is | rfl)
    (case y_4_1 => first | k_is | rfl)
    (case y_4_2 => first | k_is | rfl)
    (case y_4_3 => first | k_is | rfl)
    (case y_4_4 => first | k_is | rfl)
    (case s_4 => first | k_is | rfl)
    (case m_factorial => first | k_is | rfl)
    (case sn => first | k_is | rfl)
    (case st => first | k_is | rfl)
    (case bB => first | k_is | rfl)
    (case hB => first | k_is | rfl)
    (case tB => first | k_is | rfl)
