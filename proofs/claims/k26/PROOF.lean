import PyProof.Rows.All
import Wide.All
import OpenK.AllK
import Wide.FinOn
import KE.GoesMore
import KE.GoesEnum
import HandS.Base
import HandS.Call
import HandS.List
import HandS.Comp
import HandS.Dict
import HandS.Iter
import HandS.Walk
import HandS.Exc
import HandS.ExcOwn
import Flt.Len
import HandS.ForMost
import HandS.ForExc
import HandS.Wide
import HandS.IsInst
import HandS.ExcIs
import HandS.Conv
import HandS.TupAny
import HandS.SetFor
import HandS.Style
import HandS.CallSlots
import HandS.Codes
import PyProof.ReprBulk
import PyProof.ReprRoads
import HandS.Gcd
import HandS.Zip
import HandS.TupMul
import KE.KMathGC
import HandS.SortInts
import HandS.DictComp
import KE.KDictCopyH
import HandS.TryOnly
import HandS.NoneIn
import HandS.TupSets
import HandS.SetBool
import HandS.Deep
import KE.SortData
import HandS.DictTup
import PyProof.Rows.TupDisplay
import HandS.Nested
import HandS.EndTab
import PySem.Challenge.RW_heldbehind_k26_sizes_compared
set_option Elab.async false
set_option linter.all false
set_option maxRecDepth 100000
set_option maxHeartbeats 4000000
/-! Z0: rules of my own beside the hand layer: enumerate over a tuple, powers of great ints, an own error without arguments, list.count of flat items. -/
namespace L2
open PySem PySem.Spec PyProof.Rows
/-! ### enumerate(tuple) -/
theorem zen_new (t : Addr) (items : Array Value) :
    Meets (Builtin.«enumerate.__new__» ⟨[.type "enumerate", .ref t], []⟩) (fun _ R s => s.heap.IsTuple t items ∧
      R (.ok (.ret (.ref (s.heap.push { cls := .type "tuple_iterator", data := .fields #[.ref t, .int 0 0] }).objs.size)))
        { s with heap := (s.heap.push { cls := .type "tuple_iterator", data := .fields #[.ref t, .int 0 0] }).push { cls := .type "enumerate", data := .fields #[.none, .bool false, .ref s.heap.objs.size, rawInt 0, .none, .none] } }) :=
  .of_wp fun prog w A R s hs => by
    obtain ⟨hp, g, d, tk, os⟩ := s; obtain ⟨ht, hs⟩ := hs
    have hsb := sub_enumerate
    have q1 : ∀ {A' : Around} {E : Value → Shared → Prop} {Q : Value → Shared → Prop}, Q (.ref hp.objs.size) ⟨hp.push { cls := .type "tuple_iterator", data := .fields #[.ref t, .int 0 0] }, g, d, tk, os⟩ → wpAny (model prog w) A' (pyIter (.ref t)) Q E ⟨hp, g, d, tk, os⟩ :=
      fun q => wpAny_pyIter_tuple (s := ⟨hp, g, d, tk, os⟩) ht q
    wp_walk using q1
    refine wpAny_stack_any fun st => wpAny_pure ?_
    split
    · rename_i c _ _ _ _ _
      cases hce : (c == Value.type "enumerate")
      · wp_walk using q1
        exact ⟨_, rfl, hs⟩
      · wp_walk using q1
        exact ⟨_, rfl, hs⟩
    · wp_walk using q1
      exact ⟨_, rfl, hs⟩
section
variable {prog : Program} {w : World} {A : Around} {E : Value → Shared → Prop} {s : Shared}
theorem zen_call {t : Addr} {items : Array Value} {Q : Value → Shared → Prop} (ht : s.heap.IsTuple t items)
    (h : ∀ h', IsEnum h' (s.heap.objs.size + 1) s.heap.objs.size 0 .none → h'.IsTupleIter s.heap.objs.size t 0 →
      (∀ b o, s.heap.get? b = some o → h'.get? b = some o) → Q (.ref (s.heap.objs.size + 1)) { s with heap := h' }) :
    wpAny (model prog w) A (call (.type "enumerate") [.ref t]) Q E s := by
  refine callType_new F.called_enumerate (by decide) (F.typeCall_enumerate_1 _) (F.newCall_enumerate_1 _) (fun obj => F.args_object_init_2 obj _) F.entry_enumerate_new (zen_new t items) ⟨ht, ?_⟩
  have hz : (s.heap.push { cls := .type "tuple_iterator", data := .fields #[.ref t, .int 0 0] }).objs.size = s.heap.objs.size + 1 := Heap.size_push ..
  show _ ∧ _
  rw [hz]
  have he := Heap.get?_push_size (s.heap.push { cls := .type "tuple_iterator", data := .fields #[.ref t, .int 0 0] }) (o := { cls := .type "enumerate", data := .fields #[.none, .bool false, .ref s.heap.objs.size, rawInt 0, .none, .none] }) rfl
  rw [hz] at he
  refine ⟨⟨_, he, rfl⟩, h _ he ⟨_, Heap.get?_push_of_some _ (Heap.get?_push_size _ rfl), rfl, rfl⟩ fun b o e => Heap.get?_push_of_some _ (Heap.get?_push_of_some _ e)⟩
end
/-- the tuple at a as it stands at each turn, each item in a new pair -/
def IteT (K : PySem.W.Frag) (a : Addr) : It :=
  ⟨fun i H => ∃ (xs : List V) (x : V), SqT K H a xs ∧ xs[i]? = some x, fun i H v H' => ∃ T x, v = .ref T ∧ H T = none ∧ H' = upd H T (.tup [.int (i : Nat), x]) ∧ ∀ ys, SqT K H a ys → ys[i]? = some x, fun i H => ∃ xs : List V, SqT K H a xs ∧ xs.length = i⟩
theorem zen_turn {P : Program} {w : World} {K : PySem.W.Frag} {elts : List Expr} {kk : Nat} {tpos : Pos} (a e it : Addr) :
    Turn P w K (.Tuple elts kk tpos) (IteT K a) [e, it] e (fun i h => (∃ old, IsEnum h e it ((i : Nat) : Int) old) ∧ h.IsTupleIter it a i ∧ e ≠ it) where
  mem := by simp
  obj := fun i h st b hb => by
    obtain ⟨⟨old, he⟩, ⟨o, ho, hc, hd⟩, _⟩ := st
    have e' : b = e ∨ b = it := by simpa using hb
    rcases e' with z | z
    · exact ⟨_, by rw [z]; exact he, fun v q => by cases q⟩
    · exact ⟨o, by rw [z]; exact ho, fun v q => by rw [hd] at q; cases q⟩
  keep := fun i h h' st k => let ⟨⟨old, he⟩, hi, hne⟩ := st; ⟨⟨old, k e (by simp) _ he⟩, hi.at fun o q => k it (by simp) o q, hne⟩
  item := by
    intro X hP hw hK hc i pins s σ H E I hf st hg
    subst hP hw hK
    obtain ⟨⟨old, he⟩, hit, hne⟩ := st
    obtain ⟨xs, x, hq, hx⟩ := hg
    obtain ⟨its, rv, p, hz⟩ := I.tuple hq
    obtain ⟨u, hu, ru⟩ := rv.get hx
    have hel : e < s.heap.objs.size := Heap.lt_size he
    have hil : it < s.heap.objs.size := by obtain ⟨_, q, _⟩ := hit; exact Heap.lt_size q
    have hai : a ≠ it := by
      intro z
      obtain ⟨o1, q1, c1, _⟩ := p
      obtain ⟨o2, q2, c2, _⟩ := hit
      rw [z, q2] at q1
      cases q1
      rw [c2] at c1
      exact absurd c1 (by decide)
    have hae : a ≠ e := by
      intro z
      obtain ⟨o1, q1, c1, _⟩ := p
      rw [z] at q1
      have q3 := he.symm.trans q1
      cases q3
      have c2 : ("enumerate" : String) = "tuple" := Value.type.inj c1
      exact absurd c2 (by decide)
    have hlt : i < its.toArray.size := by
      have := (List.getElem?_eq_some_iff.mp hu).1
      simpa using this
    have D := Draws.tuple (prog := X.prog) (w := X.w) (A := X.A.in1) (I.ok.hd hc) it a hai its.toArray
    refine wpAny_pyNext_enum_itemD D he ⟨hit, p⟩ hlt hne (by simp [hne, Ne.symm hae]) fun y h' tk hy ho hst hT hsz hk => ?_
    have ey : y = u := by
      have q4 : its[i]? = some y := by simpa using hy
      rw [hu] at q4
      exact (Option.some.inj q4).symm
    subst ey
    refine ⟨_, rfl, wpAny_letOwnedTupleGo_enum (s := { s with heap := h', toks := tk + 1 }) ho fun h'' he' sb => ?_⟩
    have hT2 : h''.get? s.heap.objs.size = some { cls := .type "tuple", data := .seq #[.int i tk, y] } := (sb.2 _ (Nat.ne_of_gt hel)).trans hT
    have new : ObjOk X.prog X.w (upd H s.heap.objs.size (.tup [.int (i : Nat), x])) h'' s.heap.objs.size (.tup [.int (i : Nat), x]) :=
      ⟨by show 2 ≤ sizeLine; decide, [.int i tk, y], .cons ⟨_, rfl⟩ (.cons ru .nil), ⟨_, hT2, rfl, _, rfl⟩⟩
    have I1 : Inv X pins σ (upd H s.heap.objs.size (.tup [.int (i : Nat), x])) { s with heap := h'', toks := tk + 1 } :=
      I.turnedNew (ch := [e, it]) (fun b ob hb q => (sb.2 b (fun z => hb (by simp [z]))).trans (hk b ob (fun z => hb (by simp [z])) (fun z => hb (by simp [z])) q)) hf (Nat.le_refl _) new
    refine ⟨.ref s.heap.objs.size, _, I1, rfl, ⟨_, x, rfl, I.hok.fresh (Nat.le_refl _), rfl, fun ys hy => by rw [I.tuple_inj hy hq]; exact hx⟩, ⟨⟨y, ?_⟩, hst.1.at fun o q => (sb.2 it (Ne.symm hne)).trans q, hne⟩, fun b hb => ?_⟩
    · have e1 : ((i + 1 : Nat) : Int) = (i : Int) + 1 := by omega
      rw [e1]; exact he'
    · have hb' : b < s.heap.objs.size := by
        rcases (by simpa using hb : b = e ∨ b = it) with z | z
        · rw [z]; exact hel
        · rw [z]; exact hil
      rw [upd_ne (Nat.ne_of_lt hb')]; exact (hf b hb).1
  done := by
    intro X hP hw hK hc i pins s σ H E I hf st hg
    subst hP hw hK
    obtain ⟨⟨old, he⟩, hit, hne⟩ := st
    obtain ⟨xs, hq, hx⟩ := hg
    obtain ⟨its, rv, p, hz⟩ := I.tuple hq
    obtain ⟨f0, f1, f2, f3, f4, f5⟩ := hf it (by simp)
    have hl := rv.length
    have hai : a ≠ it := by
      intro z
      obtain ⟨o1, q1, c1, _⟩ := p
      obtain ⟨o2, q2, c2, _⟩ := hit
      rw [z, q2] at q1; cases q1
      rw [c2] at c1
      exact absurd c1 (by decide)
    have hn : its.toArray.size = i := by simp only [List.size_toArray]; omega
    have D := Draws.tuple (prog := X.prog) (w := X.w) (A := X.A.in1) (I.ok.hd hc) it a hai its.toArray
    rw [hn] at D
    exact wpAny_pyNext_enum_endD D he ⟨hit, p⟩ fun h' eb => ⟨rfl, I.turned (t' := s.toks) (fun b o hb q => eb b o hb q) f0 f1 f3 f4 f5⟩
  self := fun A i s Q E st h => let ⟨⟨_, he⟩, _⟩ := st; wpAny_pyIter_enum he h
def iEnumT (K : PySem.W.Frag) (ta : TA) : TI := fun σ H R => ta σ H fun vs H1 => ∃ a xs, vs = [.ref a] ∧ SqT K H1 a xs ∧ R (IteT K a) H1
theorem pi_enumT {X : Cx} {e : Expr} {ta : TA} {p pos tpos : Pos} {elts : List Expr} {kk : Nat} (hg : Gl X "enumerate") (hm : X.mg "enumerate" = none) (ha : PA X [e] ta) (hs : starEach [e] X.env = [(false, eval e X.env)] := by rfl) :
    PI X (.Tuple elts kk tpos) (.Call (.Name "enumerate" p) [e] [] pos) (iEnumT X.K ta) := by
  refine ⟨fun pins s σ H R I h => Call_ (ld_blt I hg hm boot_enumerate (PyProof.Rows.callWith_type1 (thn (ha.run pos pins s σ H _ I h) fun us s1 ⟨vs, H1, I1, r1, q1⟩ => ?_) hs rfl))⟩
  obtain ⟨a, xs, ex, hq, q⟩ := q1
  subst ex
  cases r1 with
  | cons r rr =>
    cases rr; cases r
    obtain ⟨its, rv, p', hz⟩ := I1.tuple hq
    refine zen_call p' fun h' he hit hk => wpAny_pyIter_enum he ?_
    have I2 : Inv X pins σ H1 { s1 with heap := h' } := I1.kept (t' := s1.toks) hk
    refine ⟨s1.heap.objs.size + 1, [s1.heap.objs.size + 1, s1.heap.objs.size], _, _, H1, rfl, I2, zen_turn a (s1.heap.objs.size + 1) s1.heap.objs.size, ⟨⟨.none, he⟩, hit, Nat.succ_ne_self _⟩, fun b hb => ?_, q⟩
    have hle : s1.heap.objs.size ≤ b := by
      rcases (by simpa using hb : b = s1.heap.objs.size + 1 ∨ b = s1.heap.objs.size) with z | z
      · rw [z]; exact Nat.le_add_right _ _
      · rw [z]; exact Nat.le_refl _
    exact I1.fpOk hle (I1.hok.fresh hle)
theorem walk_enumT {K : PySem.W.Frag} {a : Addr} {xs : List V} : Walk (IteT K a) xs.length (fun H => SqT K H a xs) (YPair (fun i => some (.int (i : Nat))) (fun i => xs[i]?)) := by
  refine ⟨fun i _ hi q => ⟨xs, xs[i], q, by simp [hi]⟩, fun _ q => ⟨xs, q, rfl⟩, fun i H v H' _ q ⟨T, x, h1, h2, h3, h4⟩ => ⟨T, .int (i : Nat), x, h1, h2, h3, rfl, h4 xs q⟩⟩
/-! ### powers -/
def CPowW (i j : Int) : Prop := 0 ≤ j ∧ (Builtin.Int.intBits i : Int) * j ≤ 2 ^ 27
theorem op_powW {X : Cx} : OpR X (binaryOp .Pow) (rI CPowW fun i j => .int (i ^ j.toNat)) := opI fun _ _ _ _ _ _ _ hc q => pow_int hc.1 hc.2 q
theorem cpow3 {i : Int} {b : Nat} (h : i.natAbs < 2 ^ b) (hb : 0 < b) (h9 : b ≤ 9000) : CPowW i 3 := by
  refine ⟨by decide, ?_⟩
  have z : Builtin.Int.intBits i ≤ b := by
    unfold Builtin.Int.intBits
    have y := PySem.Flt.log2_lt_of hb h
    split <;> omega
  have e : (2 : Int) ^ 27 = 134217728 := by decide
  rw [e]; omega
/-! ### an own error without arguments -/
theorem pmk_own0 {X : Cx} {C : Addr} {bmB : List Value} {B newId initId : String} {x : Str} {p pos : Pos} (F : ExcBaseFacts B newId initId bmB) (q : PySem.W.excIn X.K C bmB newId = true) (gC : X.mg x = some (.ref C)) (kC : PySem.W.keepIn X.K (.ref C) = true) (r : Raises X (.ref C)) (hg : Gl X x)
    (hdb : (x == ("__debug__" : Str)) = false := by decide) : PMk X (.Call (.Name x p) [] [] pos) (fun _ H Q => Q (.ref C) none H) := by
  intro pins s σ H Q I h
  refine wpAny_Call_Name_kw (ld_glob I hg gC ?_ hdb)
  refine PySem.W.callWith_K0 I.kIn kC ?_
  obtain ⟨bm, N, nm, qn, bs, hdct, sn, sub, ab, col, dd, k0, k1, k2, k3, k5, mN, hC, hN, hni, T⟩ := exc_obj I.kIn q
  exact wpAny_call_exc_subT F T hC hN hni (fun h' e hm => mk_of I hm r h (I.hok.gone hm.new)) (Nat.zero_le _)
/-! ### list.count of flat items -/
def cntV (y : V) (xs : List V) : Nat := xs.countP fun z => eqV z y
theorem count_eqU {x : V} : ∀ {xs : List V} {us : List Value}, Vals xs us → xs.all flatV = true → us.countP (eqU x) = cntV x xs
  | _, _, .nil, _ => rfl
  | y :: xs, u :: us, .cons r t, f => by
    rw [List.all_cons, Bool.and_eq_true] at f
    unfold cntV
    rw [List.countP_cons, List.countP_cons, eqU_of r f.1, count_eqU t f.2]; rfl
def rCntV (K : PySem.W.Frag) : V → List V → Hp → VK → Prop := fun x xs H Q => ∃ (a : Addr) (ys : List V) (y : V), x = .ref a ∧ xs = [y] ∧ SqL K H a ys ∧ flatV y = true ∧ ys.all flatV = true ∧ Q (.int (cntV y ys : Nat)) H
theorem mt_lcountV {X : Cx} : MtR X "list.count" (rCntV X.K) := by
  intro pins s σ H x xs v us Q I rx rxs h
  obtain ⟨a, ys, y, rfl, rfl, hs, fy, fys, q⟩ := h
  cases rx
  obtain ⟨u, rfl, ru⟩ := rxs.one
  obtain ⟨its, rv, ⟨⟨cls, dd, data, sl⟩, n, ho, hc, hdn, hd⟩, hlen⟩ := I.list hs
  simp only at hc hd
  subst hc hd
  refine call_meets PySem.F.slot_list_count ⟨_, ho, rfl⟩ PySem.F.entry_list_count (PySem.F.args_list_count_2 _ _) (SeqAt.list_countAt a its.toArray n dd sl u (eqU y)) ⟨ho, fun z hz => mem_eqAt ru fy rv fys z (by simpa using hz), ?_⟩
  exact ⟨.int (cntV y ys : Nat), H, I.tok _, ⟨s.toks, by rw [← count_eqU rv fys]⟩, q⟩
end L2

namespace L2
open PySem PySem.Spec PyProof.Rows
/-! ### a def of the text with its name, and one that keeps its promise -/
structure Df (K : PySem.W.Frag) (mg : Str → Option Value) (x : Str) (st : Stmt) (ps : List Str) : Prop where
  ex : ∃ (f : Addr) (fd : FuncData), Fun K x x st f fd ∧ mg x = some (.ref f) ∧ Binds K fd ps [] ∧
    ∃ (kV doc pm : Value) (an : Option Addr) (cdv ct : Value), fd = PySem.W.fnOf x x (defArgs st) (defBody st) (defScope st) .none kV doc pm an cdv ct
structure Kn (P : Program) (w : World) (K : PySem.W.Frag) (mg : Str → Option Value) (base : Heap) (CX : CXT) (k : Nat) (x : Str) (st : Stmt) (ps : List Str) (sp : Sp) : Prop where
  ex : ∃ (f : Addr) (fd : FuncData), FnOk P w K mg base CX k f fd ps sp ∧ mg x = some (.ref f) ∧ PySem.W.keepIn K (.ref f) = true ∧ Binds K fd ps [] ∧
    ∃ (kV doc pm : Value) (an : Option Addr) (cdv ct : Value), fd = PySem.W.fnOf x x (defArgs st) (defBody st) (defScope st) .none kV doc pm an cdv ct
section
variable {P : Program} {w : World} {K : PySem.W.Frag} {mg : Str → Option Value} {base : Heap} {x : Str} {st : Stmt} {ps N : List Str} {k : Nat} {sp : Sp}
theorem Df.mk' {f : Addr} {oc : Value} {od an : Option Addr} {osl : Array (Option Value)} {kV doc pm cdv ct : Value} (l : K.lookup f = some ⟨oc, od, .func (PySem.W.fnOf x x (defArgs st) (defBody st) (defScope st) .none kV doc pm an cdv ct), osl⟩)
    (c : PySem.W.codeIn K cdv x = true) (kp : PySem.W.keepIn K (.ref f) = true) (g : mg x = some (.ref f))
    (h : ∀ (kV doc pm : Value) (an : Option Addr) (cdv ct : Value) (us : List Value), us.length = ps.length → bindArgs (PySem.W.fnOf x x (defArgs st) (defBody st) (defScope st) .none kV doc pm an cdv ct) ⟨us, []⟩ = pure (ps.zip us)) : Df K mg x st ps :=
  ⟨f, _, fun_mk l c kp, g, (fun_mk l c kp).binds h, _, _, _, _, _, _, rfl⟩
theorem Df.ok (D : Df K mg x st ps) (S : FnScope N ps (defScope st)) (len : ∀ vs H Q E, sp vs H Q E → vs.length = ps.length)
    (hb : ∀ (f : Addr) (cdv : Value) (A : Around) (outer : List Env) (s : Shared) (H : Hp) (vs : List V) (Q : VK) (E : XK), Room k (A.deeper (envOfC x (defScope st) s.heap.objs.size f cdv)) → sp vs H Q E →
      ∃ t, PSs (cxOf CX0 P w K mg base N x (defScope st) f cdv A outer s H E).nox (defBody st) t ∧ t { nx := fun _ H' => Q .non H', rt := Q } (start N vs) H) : Kn P w K mg base CX0 (k + 1) x st ps sp := by
  obtain ⟨f, fd, F, g, b, e⟩ := D.ex
  exact ⟨f, fd, F.ok S len fun cdv A outer s H vs Q E hr h => hb f cdv A outer s H vs Q E hr h, g, F.kp, b, e⟩
theorem Df.okX (D : Df K mg x st ps) (S : FnScope N ps (defScope st)) (len : ∀ vs H Q E, sp vs H Q E → vs.length = ps.length)
    (hb : ∀ (f : Addr) (cdv : Value) (A : Around) (outer : List Env) (s : Shared) (H : Hp) (vs : List V) (Q : VK) (E : XK), Room k (A.deeper (envOfC x (defScope st) s.heap.objs.size f cdv)) → sp vs H Q E →
      ∃ t, PSs (cxOf (L2.CX P w) P w K mg base N x (defScope st) f cdv A outer s H E) (defBody st) t ∧ t { nx := fun _ H' => Q .non H', rt := Q } (start N vs) H) : Kn P w K mg base (L2.CX P w) (k + 1) x st ps sp := by
  obtain ⟨f, fd, F, g, b, e⟩ := D.ex
  exact ⟨f, fd, F.okX S len fun cdv A outer s H vs Q E hr h => hb f cdv A outer s H vs Q E hr h, g, F.kp, b, e⟩
end
section
variable {X : Cx} {CX : CXT} {k : Nat} {x : Str} {st : Stmt} {ps ks : List Str} {sp : Sp} {E : XK} {p pos : Pos} {e : Expr} {es : List Expr} {kws : List Keyword} {t tk : TA}
theorem pe_callF (h : Kn X.prog X.w X.K X.mg X.base CX k x st ps sp) (hr : Room k X.A) (hx : Passes CX X E) (ha : PA X (e :: es) t) (hg : Gl X x := by rfl)
    (hdb : (x == ("__debug__" : Str)) = false := by decide) (he : starEach (e :: es) X.env = (false, eval e X.env) :: starEach es X.env := by rfl) (hpl : (backTo pos (starEach es X.env)).any (·.1) = false := by rfl) :
    PE X (.Call (.Name x p) (e :: es) [] pos) (tCall sp [] E t) := by
  obtain ⟨f, fd, F, g, kp, b, _⟩ := h.ex
  exact pe_call F hr hg g kp b .nil hx ha hdb he hpl
theorem pe_callF0 (h : Kn X.prog X.w X.K X.mg X.base CX k x st ps sp) (hr : Room k X.A) (hx : Passes CX X E) (hg : Gl X x := by rfl) (hdb : (x == ("__debug__" : Str)) = false := by decide) : PE X (.Call (.Name x p) [] [] pos) (tCall sp [] E tNil) := by
  obtain ⟨f, fd, F, g, kp, b, _⟩ := h.ex
  exact pe_call0 F hr hg g kp b .nil hx hdb
theorem pe_callFS {E : St → XK} (h : Kn X.prog X.w X.K X.mg X.base CX k x st ps sp) (hr : Room k X.A) (hx : ∀ σ, PassesAt CX X σ (E σ)) (ha : PA X (e :: es) t) (hg : Gl X x := by rfl)
    (hdb : (x == ("__debug__" : Str)) = false := by decide) (he : starEach (e :: es) X.env = (false, eval e X.env) :: starEach es X.env := by rfl) (hpl : (backTo pos (starEach es X.env)).any (·.1) = false := by rfl) :
    PE X (.Call (.Name x p) (e :: es) [] pos) (tCallS sp E t) := by
  obtain ⟨f, fd, F, g, kp, b, _⟩ := h.ex
  exact pe_callS F hr hg g kp b hx ha hdb he hpl
/-- how keywords bind, whatever the def's loose parts are -/
def KwB (x : Str) (st : Stmt) (ps ks : List Str) (g : List Value → List Value → List Value) (gV : List V → List V → List V) : Prop :=
  (∀ (kV doc pm : Value) (an : Option Addr) (cdv ct : Value) (us ws : List Value), (g us ws).length = ps.length →
    bindArgs (PySem.W.fnOf x x (defArgs st) (defBody st) (defScope st) .none kV doc pm an cdv ct) ⟨us, ks.zip ws⟩ = pure (ps.zip (g us ws))) ∧
  ∀ {vs : List V} {us : List Value} {zs : List V} {ws : List Value}, Vals vs us → Vals zs ws → Vals (gV vs zs) (g us ws)
variable {g : List Value → List Value → List Value} {gV : List V → List V → List V}
theorem pe_callFK (h : Kn X.prog X.w X.K X.mg X.base CX k x st ps sp) (hr : Room k X.A) (hb : KwB x st ps ks g gV) (hx : Passes CX X E) (ha : PA X (e :: es) t) (hkw : PK X kws tk) (hg : Gl X x := by rfl)
    (hall : (backToKw pos (keywordEach kws X.env)).all (·.1.isSome) = true := by rfl) (hks : (backToKw pos (keywordEach kws X.env)).filterMap (·.1) = ks := by rfl)
    (hdb : (x == ("__debug__" : Str)) = false := by decide) (he : starEach (e :: es) X.env = (false, eval e X.env) :: starEach es X.env := by rfl)
    (hpl : ((backTo pos (starEach (e :: es) X.env)).any (·.1) || (backToKw pos (keywordEach kws X.env)).any (·.1.isNone)) = false := by rfl) :
    PE X (.Call (.Name x p) (e :: es) kws pos) (tCallK sp gV E t tk) := by
  obtain ⟨f, fd, F, gm, kp, b, kV, doc, pm, an, cdv, ct, rfl⟩ := h.ex
  exact pe_callK F hr hg gm kp ⟨fun s us ws _ hl => .of_eq (hb.1 kV doc pm an cdv ct us ws hl), hb.2⟩ hx ha hkw hall hks hdb he hpl
/-- f(k = v, ..), no positional -/
theorem pe_callFK0 (h : Kn X.prog X.w X.K X.mg X.base CX k x st ps sp) (hr : Room k X.A) (hb : KwB x st ps ks g gV) (hx : Passes CX X E) (hkw : PK X kws tk) (hg : Gl X x := by rfl)
    (hall : (backToKw pos (keywordEach kws X.env)).all (·.1.isSome) = true := by rfl) (hks : (backToKw pos (keywordEach kws X.env)).filterMap (·.1) = ks := by rfl)
    (hdb : (x == ("__debug__" : Str)) = false := by decide)
    (hpl : ((backTo pos (starEach [] X.env)).any (·.1) || (backToKw pos (keywordEach kws X.env)).any (·.1.isNone)) = false := by rfl) :
    PE X (.Call (.Name x p) [] kws pos) (tCallK sp gV E tNil tk) := by
  obtain ⟨f, fd, F, gm, kp, b, kV, doc, pm, an, cdv, ct, rfl⟩ := h.ex
  have hbb : KBinds X.K (PySem.W.fnOf x x (defArgs st) (defBody st) (defScope st) .none kV doc pm an cdv ct) ps ks g gV := ⟨fun s us ws _ hl => .of_eq (hb.1 kV doc pm an cdv ct us ws hl), hb.2⟩
  refine ⟨fun pins s σ H Q I hq => wpAny_Call_Name_kw (ld_glob I hg gm ?_ hdb)⟩
  refine PySem.W.callWith_KW0 (h₀ := X.base) I.ok.mod.kin kp hall (thn (hkw.run pos pins s σ H _ I hq) fun ws s2 ⟨zs, H2, I2, rz, q2⟩ => ⟨I2.kIn, ?_⟩) hpl
  rw [hks]
  exact run_fnk F hr hbb hx I2 .nil rz q2
end
/-! ### rules whose reading names K outright (for a comprehension's block) -/
def rLenK (K : PySem.W.Frag) : List V → Hp → VK → Prop := fun xs H Q => ∃ x n, xs = [x] ∧ LenV K x H n ∧ Q (.int n) H
theorem call_lenK {X : Cx} (K : PySem.W.Frag) (e : X.K = K := by rfl) : CallR X (.builtin "len") (rLenK K) := by subst e; exact call_len
theorem call_isiK1 {X : Cx} (K : PySem.W.Frag) (e : X.K = K := by rfl) : CallR X (.builtin "isinstance") (rIsi K) := by subst e; exact call_isi
theorem ix_listK {X : Cx} (K : PySem.W.Frag) (e : X.K = K := by rfl) : IxR X (rIxL K) := by subst e; exact ix_list
theorem ix_tupK {X : Cx} (K : PySem.W.Frag) (e : X.K = K := by rfl) : IxR X (rIxT K) := by subst e; exact ix_tup
theorem op_in_seqK {X : Cx} (K : PySem.W.Frag) (e : X.K = K := by rfl) : OpR X (compareOp .In) (rIn K false) := by subst e; exact op_in_seq
theorem op_notIn_seqK {X : Cx} (K : PySem.W.Frag) (e : X.K = K := by rfl) : OpR X (compareOp .NotIn) (rIn K true) := by subst e; exact op_notIn_seq
theorem op_eqDK {X : Cx} (K : PySem.W.Frag) (hu : X.A.units + 64 < cLine) (e : X.K = K := by rfl) : OpR X (compareOp .Eq) (rEqD K) := by subst e; exact op_eqD hu
theorem op_neDK {X : Cx} (K : PySem.W.Frag) (hu : X.A.units + 64 < cLine) (e : X.K = K := by rfl) : OpR X (compareOp .NotEq) (rNeD K) := by subst e; exact op_neD hu
/-! ### heaps -/
theorem Same.upd {H H' : Hp} {p : Addr} {o : HO} (s : Same H H') (h : H p = none) : Same H (upd H' p o) := fun b u e => by
  rw [upd_ne (ne_of_none e h)]; exact s b u e
theorem Same.new {H H' : Hp} {p : Addr} {o : HO} (s : Same H H') (h : H' p = none) : Same H (L2.upd H' p o) := s.upd (s.free h)
theorem Same.tseq {K : PySem.W.Frag} {H H' : Hp} {a : Addr} {xs : List V} (e : Same H H') (h : SqT K H a xs) : SqT K H' a xs := by
  rcases h with (h | ⟨o, h⟩) | h
  · exact .inl (.inl (e _ _ h))
  · exact .inl (.inr ⟨o, e _ _ h⟩)
  · exact .inr h
/-- all but what stands at a is as it was -/
def Keep (a : Addr) (H H' : Hp) : Prop := ∀ b o, b ≠ a → H b = some o → H' b = some o
theorem Keep.refl (a : Addr) (H : Hp) : Keep a H H := fun _ _ _ h => h
theorem Keep.trans {a : Addr} {H H1 H2 : Hp} (x : Keep a H H1) (y : Keep a H1 H2) : Keep a H H2 := fun b o hb h => y b o hb (x b o hb h)
theorem Same.keep {a : Addr} {H H' : Hp} (s : Same H H') : Keep a H H' := fun b o _ h => s b o h
theorem Keep.upd (a : Addr) (H : Hp) (o : HO) : Keep a H (upd H a o) := fun b u hb h => by rw [upd_ne hb]; exact h
theorem Keep.new {a p : Addr} {H H' : Hp} {o : HO} (x : Keep a H H') (h : H' p = none) : Keep a H (L2.upd H' p o) := fun b u hb e => by
  have q := x b u hb e
  rw [upd_ne (ne_of_none q h)]; exact q
end L2

/-! Z2: promises of defs that are called where no repr is under way; repr; a tuple held against (). -/
namespace L2
open PySem PySem.Spec PyProof.Rows
/-! ### promises that hold where no repr is under way -/
structure Qui (P : Program) (w : World) (K : PySem.W.Frag) (mg : Str → Option Value) (base : Heap) (k : Nat) (f : Addr) (fd : FuncData) (ps : List Str) (sp : Sp) : Prop where
  many : ∀ vs H Q E, sp vs H Q E → vs.length = ps.length
  go : ∀ (A : Around) (outer : List Env) (s : Shared) (H : Hp) (args : Args) (us : List Value) (vs : List V) (Q : VK) (E : XK), Room k A → A.guards = some [] → Env0 P w K mg base A outer s H → BindsTo s fd args (ps.zip us) →
    Vals vs us → sp vs H Q E → codeAny (model P w) A (.call (.ref f) args) (CR CX0 outer P w H s Q E) s
structure KnQ (P : Program) (w : World) (K : PySem.W.Frag) (mg : Str → Option Value) (base : Heap) (k : Nat) (x : Str) (st : Stmt) (ps : List Str) (sp : Sp) : Prop where
  ex : ∃ (f : Addr) (fd : FuncData), Qui P w K mg base k f fd ps sp ∧ mg x = some (.ref f) ∧ PySem.W.keepIn K (.ref f) = true ∧ Binds K fd ps []
theorem fin_flow {X : Cx} {outer : List Env} {P : Program} {w : World} {H : Hp} {s s' : Shared} {Q : VK} {E : XK} {fl : Flow} (hp : X.prog = P) (hw : X.w = w) (h0 : X.s_0 = s) (hH : X.H_0 = H) (hf : X.fs = frs outer) (he : X.ex = []) :
    SP X [] { nx := fun _ H' => Q .non H', rt := Q } fl s' → CR CX0 outer P w H s Q E (.ok (.ret (match fl with | .ret v => v | _ => .none))) s' := by
  intro h
  subst hp hw h0 hH
  have last : ∀ {σ : St} {H' : Hp} {v : V} {u : Value}, Inv X [] σ H' s' → RelV v u → Q v H' → CE outer X.prog X.w X.H_0 X.s_0 Q u s' := by
    intro σ H' v u I r q
    have b := I.base
    rw [hf, he] at b
    exact ⟨v, H', I.os, I.bare, b, I.hok, r, q⟩
  match fl, h with
  | .ret u, ⟨_, _, _, I, r, q⟩ => exact last I r q
  | .next, ⟨_, _, I, q⟩ => exact last (v := .non) (u := .none) I rfl q
  | .brk, ⟨_, _, _, q⟩ => exact q.elim
  | .cont, ⟨_, _, _, q⟩ => exact q.elim
section
variable {P : Program} {w : World} {K : PySem.W.Frag} {mg : Str → Option Value} {base : Heap} {x : Str} {st : Stmt} {ps N : List Str} {k : Nat} {sp : Sp}
theorem Fun.quiet {f : Addr} {fd : FuncData} (F : Fun K x x st f fd) (S : FnScope N ps (defScope st)) (many : ∀ vs H Q E, sp vs H Q E → vs.length = ps.length)
    (hb : ∀ (cdv : Value) (A : Around) (outer : List Env) (s : Shared) (H : Hp) (vs : List V) (Q : VK) (E : XK), Room k (A.deeper (envOfC x (defScope st) s.heap.objs.size f cdv)) → A.guards = some [] → sp vs H Q E →
      ∃ t, PSs (cxOf CX0 P w K mg base N x (defScope st) f cdv A outer s H E).nox (defBody st) t ∧ t { nx := fun _ H' => Q .non H', rt := Q } (start N vs) H) : Qui P w K mg base (k + 1) f fd ps sp := by
  refine ⟨many, ?_⟩
  obtain ⟨oc, od, kV, doc, pm, an, cdv, ct, osl, rfl, found, code⟩ := F.ex
  intro A outer s H args us vs Q E room quiet here binds vals promise
  have old : ∀ b o, base.get? b = some o → s.heap.get? b = some o := fun b o e => (here.bs b o e).1
  have kin := here.mod.kin.keeps old
  refine codeAny_call_function room.depth (kin _ _ found) rfl S.co S.gen rfl (PySem.W.codeRec_of kin code) (binds _ _ _ _ (wpAny_newFunctionEnv_cells S.kind ?_ ?_))
  · rintro ⟨n, v⟩ hy
    exact (S.par n (List.of_mem_zip hy).1).imp id fun z => ⟨z, PySem.W.cellsFrom_some _ _ _ (.inl z)⟩
  · rintro _ rfl s1 called
    obtain ⟨t, ht, h0⟩ := hb cdv A outer s H vs Q E (room.deeper _) quiet promise
    have I := inv_start (CX := CX0) (E := E) S room.hd here (many _ _ _ _ promise) vals called
    refine ⟨(here.mod.nolimit.keeps old).keeps called.toInCall.keep, codeAny_func ?_⟩
    exact wpAny_mono (ht.nox.run [] s1 _ H _ I h0) (fun _ _ h => fin_flow (X := cxOf CX0 P w K mg base N x (defScope st) f cdv A outer s H E) (outer := outer) (E := E) rfl rfl rfl rfl rfl rfl h) fun _ _ h => h
theorem Df.okQ (D : Df K mg x st ps) (S : FnScope N ps (defScope st)) (many : ∀ vs H Q E, sp vs H Q E → vs.length = ps.length)
    (hb : ∀ (f : Addr) (cdv : Value) (A : Around) (outer : List Env) (s : Shared) (H : Hp) (vs : List V) (Q : VK) (E : XK), Room k (A.deeper (envOfC x (defScope st) s.heap.objs.size f cdv)) → A.guards = some [] → sp vs H Q E →
      ∃ t, PSs (cxOf CX0 P w K mg base N x (defScope st) f cdv A outer s H E).nox (defBody st) t ∧ t { nx := fun _ H' => Q .non H', rt := Q } (start N vs) H) : KnQ P w K mg base (k + 1) x st ps sp := by
  obtain ⟨f, fd, F, g, b, e⟩ := D.ex
  exact ⟨f, fd, F.quiet S many fun cdv A outer s H vs Q E => hb f cdv A outer s H vs Q E, g, F.kp, b⟩
end
section
variable {X : Cx} {k : Nat} {x : Str} {st : Stmt} {ps : List Str} {sp : Sp} {E : XK} {p pos : Pos} {e : Expr} {es : List Expr} {t : TA}
theorem pe_callQ (h : KnQ X.prog X.w X.K X.mg X.base k x st ps sp) (hr : Room k X.A) (hq : X.A.guards = some []) (ha : PA X (e :: es) t) (hg : Gl X x := by rfl)
    (hdb : (x == ("__debug__" : Str)) = false := by decide) (he : starEach (e :: es) X.env = (false, eval e X.env) :: starEach es X.env := by rfl) (hpl : (backTo pos (starEach es X.env)).any (·.1) = false := by rfl) :
    PE X (.Call (.Name x p) (e :: es) [] pos) (tCall sp [] E t) := by
  obtain ⟨f, fd, F, gm, kp, b⟩ := h.ex
  constructor
  intro pins s σ H Q I h
  refine wpAny_Call_Name_kw (ld_glob I hg gm (PySem.W.callWith_K (h₀ := X.base) I.ok.mod.kin kp (thn (ha.run pos pins s σ H _ I h) ?_) he hpl) hdb)
  rintro us s1 ⟨vs, H1, J, r, q⟩
  rw [List.append_nil] at q
  refine ⟨J.kIn, wpAny_call (codeAny_mono (F.go X.A X.stack s1 H1 ⟨us, []⟩ us vs Q E hr hq J.env0 ?_ r q) ?_)⟩
  · have z := b s1 us J.kIn (by rw [List.append_nil, ← r.length]; exact F.many _ _ _ _ q)
    rw [List.append_nil] at z; exact z
  · rintro (e | fl) s' z
    · exact z.elim
    · match fl, z with
      | .ret u, z => exact J.after z
      | .next, z => exact z.elim
      | .brk, z => exact z.elim
      | .cont, z => exact z.elim
end
/-! ### a law whose def is such a one -/
/-- the heap in which just the script may be tracked -/
theorem script_hp {P : Program} {w : World} {K : PySem.W.Frag} {s : Shared} {a : Addr} {vs : List Value} {ns : List Int} (kin : K.In s.heap) (ha : s.heap.get? a = some { cls := .type "list", data := .seq vs.toArray }) (hi : IntsAre vs ns) (hl : ns.length ≤ sizeLine) :
    ∃ H : Hp, Only H ∧ SqL K H a (ns.map V.int) ∧ HOk P w H s.heap ∧ (∀ b o, H b = some o → b = a ∧ K.lookup a = none ∧ o = .frz { cls := .type "list", data := .seq vs.toArray } (.lst (ns.map V.int))) := by
  have r := vals_ints hi
  rcases hk : K.lookup a with _ | o
  · have off : ∀ b o, (if b = a then some (HO.frz { cls := .type "list", data := .seq vs.toArray } (.lst (ns.map V.int))) else none) = some o → b = a ∧ o = .frz { cls := .type "list", data := .seq vs.toArray } (.lst (ns.map V.int)) := fun b o z => by
      split at z
      · exact ⟨by assumption, (Option.some.inj z).symm⟩
      · cases z
    refine ⟨fun b => if b = a then some (.frz { cls := .type "list", data := .seq vs.toArray } (.lst (ns.map V.int))) else none, fun b => ?_, .inl (.inr ⟨_, if_pos rfl⟩), fun b o z => ?_, fun b o z => ⟨(off b o z).1, rfl, (off b o z).2⟩⟩
    · by_cases c : b = a
      · exact .inr ⟨_, _, if_pos c⟩
      · exact .inl (if_neg c)
    · obtain ⟨rfl, rfl⟩ := off b o z
      exact ⟨ha, by rw [List.length_map]; exact hl, vs, _, r, ha⟩
  · have z := ha.symm.trans (kin a o hk)
    cases z
    exact ⟨fun _ => none, fun _ => .inl rfl, .inr ⟨_, vs.toArray, _, hk, rfl, rfl, rfl, by rw [List.size_toArray, hi.length]; exact hl, by simpa using r⟩, fun _ _ z => (by cases z), fun _ _ z => (by cases z)⟩
theorem law_callQ {P : Program} {w : World} {K : PySem.W.Frag} {mg mb : Str → Option Value} {k : Nat} {fa a : Addr} {fd : FuncData} {x : Str} {sp : Sp} {s : Shared} {vs : List Value} {ns : List Int}
    (kin : K.In s.heap) (glob : s.heap.Ns mainGlobals mg) (blt : s.heap.Ns builtinsNs mb) (boot : ∀ x : Str, x ≠ "__name__" → mb x = bootBuiltins x) (lim : s.heap.NoLimit) (gens : s.gens = #[])
    (ha : s.heap.get? a = some { cls := .type "list", data := .seq vs.toArray }) (hi : IntsAre vs ns) (hl : ns.length ≤ sizeLine) (hr : Room k callerA)
    (F : ∀ base : Heap, K.In base → base.Ns mainGlobals mg → Qui P w K mg base k fa fd [x] sp) (bind : ∀ (s : Shared) (u : Value), BindsTo s fd ⟨[u], []⟩ [(x, u)])
    (hsp : ∀ H : Hp, Only H → SqL K H a (ns.map V.int) → sp [.ref a] H (fun v _ => v = .bl true) fun _ _ _ => False) :
    codeAny (model P w) callerA (.call (.ref fa) ⟨[.ref a], []⟩) (fun r s' => r = .ok (.ret (.bool true)) ∧ OldK s.heap s'.heap ∧ s'.os = s.os ∧ AllBare s'.gens) s := by
  obtain ⟨H, only, script, held, alone⟩ := script_hp (P := P) (w := w) kin ha hi hl
  -- what is not the script's object lies in the base
  have low : ∀ {b : Addr} {o : Obj}, s.heap.get? b = some o → (∀ xs n, o.data ≠ .seq xs n ∨ K.lookup b ≠ none) → (hidT s.heap H).get? b = some o := fun {b o} e d => by
    refine hidT_get e ?_
    rcases z : H b with _ | u
    · rfl
    · obtain ⟨rfl, n, _⟩ := alone b u z
      rw [ha] at e
      cases e
      rcases d vs.toArray 0 with y | y
      · exact absurd rfl y
      · exact absurd n y
  have spaces : ∀ {b : Addr} {m : Str → Option Value}, s.heap.Ns b m → (hidT s.heap H).Ns b m := fun ⟨o, es, ep, e, d, z⟩ => ⟨o, es, ep, low e fun xs n => .inl (by rw [d]; intro q; cases q), d, z⟩
  have kinB : K.In (hidT s.heap H) := fun b o e => low (kin b o e) fun xs n => .inr (by intro q; rw [e] at q; cases q)
  have room : Env0 P w K mg (hidT s.heap H) callerA [] s H :=
    ⟨rfl, ⟨kinB, spaces glob, ⟨mb, spaces blt, boot⟩, lim.imp fun mc z => ⟨spaces z.1, z.2⟩⟩, fun _ _ => of_hidT, Nat.le_of_eq (hidT_size _ _), trivial, fun b z => absurd (show b ∈ ([] : List Addr) from z) List.not_mem_nil, held, .of_eq gens⟩
  refine codeAny_mono ((F _ kinB (spaces glob)).go callerA [] s H ⟨[.ref a], []⟩ [.ref a] [.ref a] _ _ hr rfl room (bind s (.ref a)) (.cons rfl .nil) (hsp H only script)) ?_
  rintro (e | fl) s' z
  · exact z.elim
  match fl, z with
  | .next, z => exact z.elim
  | .brk, z => exact z.elim
  | .cont, z => exact z.elim
  | .ret u, ⟨v, H', os, bare, un, held', r, q⟩ =>
    cases (show v = V.bl true from q)
    cases (show u = Value.bool true from r)
    refine ⟨rfl, OldK.of_keep fun b o e => ?_, os, bare⟩
    rcases y : H b with _ | u
    · exact un.keep b o e y (fun z => absurd (show b ∈ ([] : List Addr) from z) List.not_mem_nil) (fun z => absurd (show b ∈ ([] : List Addr) from z) List.not_mem_nil)
    · obtain ⟨rfl, _, rfl⟩ := alone b u y
      have h1 := (held b _ y).1
      have h2 := (held' b _ (un.frzs b _ _ y)).1
      rw [e] at h1
      cases h1
      exact h2
theorem walk_ofQ {l : PySem.W.OpenLaw} {n k : Nat} {q : Program} {loose : List Str} {XP : (Str → Option Value) → Heap → Prop} {YP : World → Heap → Prop} {d : DefRec} {K : Params → PySem.W.Frag} {sp : World → Sp} {x : Str}
    (hn : l.most = some n) (hn2 : n ≤ sizeLine) (hdf : d.params.defaults = []) (hr : Room k callerA) (kin : ∀ (w : World) (h : Heap), YP w h → (K w.params).In h)
    (F : ∀ (w : World) (mg : Str → Option Value) (fa : Addr) (h : Heap), (K w.params).In h → h.Ns mainGlobals mg → mg d.name = some (.ref fa) →
      ∃ fd : FuncData, (∀ (s : Shared) (u : Value), BindsTo s fd ⟨[u], []⟩ [(x, u)]) ∧ ∀ base : Heap, (K w.params).In base → base.Ns mainGlobals mg → Qui l.prog w (K w.params) mg base k fa fd [x] (sp w))
    (hsp : ∀ (w : World) (H : Hp) (a : Addr) (ns : List Int), ns.length ≤ n → Only H → SqL (K w.params) H a (ns.map V.int) → sp w [.ref a] H (fun v _ => v = .bl true) fun _ _ _ => False) :
    PySem.W.WalkO q loose XP YP l.row.toRowW d [] (fun f vs => PySem.call f vs) := by
  refine Att.attach_call hn hdf ?_
  intro w _ s₁ mg mb fa o pm cd doc a vs ns G Y _ _ _ named script whole many bare
  obtain ⟨fd, binds, holds⟩ := F w mg fa _ (kin w _ Y) G.T.g named
  exact law_callQ (kin w _ Y) G.T.g G.T.b G.T.builtins G.T.nolimit bare script whole (Nat.le_trans many hn2) hr holds binds fun H only z => hsp w H a ns many only z
/-! ### repr -/
mutual
/-- what a value reads as; with dicts (all empty) no list may be the interpreter's own -/
inductive Rp (z : Bool) (H : Hp) : V → PyData → Prop
  | non : Rp z H .non .none
  | bl (b : Bool) : Rp z H (.bl b) (.bool b)
  | int (i : Int) : Rp z H (.int i) (.int i)
  | str (x : Str) : Rp z H (.str x) (.str x)
  | lst {a : Addr} {xs : List V} {ds : List PyData} (h : H a = some (.lst xs)) (n : z = true → a ≠ sysModules) (r : Rps z H xs ds) : Rp z H (.ref a) (.list ds)
  | tup {a : Addr} {xs : List V} {ds : List PyData} (h : H a = some (.tup xs)) (r : Rps z H xs ds) : Rp z H (.ref a) (.tuple ds)
  | dct {a : Addr} (y : z = true) (h : H a = some (.dK [])) : Rp z H (.ref a) (.dict [])
inductive Rps (z : Bool) (H : Hp) : List V → List PyData → Prop
  | nil : Rps z H [] []
  | cons {x : V} {xs : List V} {d : PyData} {ds : List PyData} (h : Rp z H x d) (r : Rps z H xs ds) : Rps z H (x :: xs) (d :: ds)
end
section
variable {X : Cx} {pins : List (Addr × Obj)} {σ : St} {H : Hp} {s : Shared} {z : Bool}
mutual
theorem Rp.reads (I : Inv X pins σ H s) : ∀ (d : PyData) (v : V) (u : Value), Rp z H v d → RelV v u → ∃ as, Reads s.heap u d as ∧ (z = true → sysModules ∉ as) ∧ (z = false → d.hasDict = false)
  | .none, _, _, h, r => by
    cases h; cases r
    exact ⟨_, Reads.none, fun _ => List.not_mem_nil, fun _ => rfl⟩
  | .bool b, _, _, h, r => by
    cases h; cases r
    exact ⟨_, Reads.bool b, fun _ => List.not_mem_nil, fun _ => rfl⟩
  | .int i, _, _, h, r => by
    cases h
    obtain ⟨t, rfl⟩ := r
    exact ⟨_, Reads.int i t, fun _ => List.not_mem_nil, fun _ => rfl⟩
  | .str x, _, _, h, r => by
    cases h
    obtain ⟨t, rfl⟩ := r
    exact ⟨_, Reads.str x t, fun _ => List.not_mem_nil, fun _ => rfl⟩
  | .list ds, _, _, h, r => by
    cases h with
    | lst hs n ha =>
      cases r
      obtain ⟨its, rv, ⟨o, m, ho, hc, _, hd⟩, _⟩ := I.list (SqL.of hs)
      obtain ⟨as, hr, h1, h2⟩ := Rps.reads I ds _ its ha rv
      refine ⟨_, Reads.list ho hc hd hr, fun y q => ?_, fun y => ?_⟩
      · rcases List.mem_cons.mp q with q | q
        · exact n y q.symm
        · exact h1 y q
      · rw [PyData.hasDict]; exact h2 y
  | .tuple ds, _, _, h, r => by
    cases h with
    | tup hs ha =>
      cases r
      obtain ⟨its, rv, ⟨o, ho, hc, m, hd⟩, _⟩ := I.tuple (SqT.of hs)
      obtain ⟨as, hr, h1, h2⟩ := Rps.reads I ds _ its ha rv
      exact ⟨_, Reads.tuple ho hc hd hr, h1, fun y => by rw [PyData.hasDict]; exact h2 y⟩
  | .dict kvs, _, _, h, r => by
    cases h with
    | dct y hs =>
      cases r
      obtain ⟨_, hd, vs, kv, o, es, ep, ho, hx, hdt, _, hp, _⟩ := dk_of I.hok hs
      cases kv
      have e0 : es.toList = [] := List.eq_nil_of_length_eq_zero hp.length
      refine ⟨_, Reads.dict (kvs := []) ho hx.1 hdt (by rw [e0]; exact .nil) (by rw [e0]; exact .nil), fun _ q => ?_, fun q => by rw [y] at q; cases q⟩
      rcases List.mem_cons.mp q with q | q
      · exact absurd q.symm (beq_eq_false_iff_ne.mp hd)
      · exact absurd q List.not_mem_nil
theorem Rps.reads (I : Inv X pins σ H s) : ∀ (ds : List PyData) (vs : List V) (us : List Value), Rps z H vs ds → Vals vs us → ∃ as, ReadsAll s.heap us ds as ∧ (z = true → sysModules ∉ as) ∧ (z = false → PyData.hasDictAll ds = false)
  | [], _, _, h, r => by
    cases h; cases r
    exact ⟨_, ReadsAll.nil, fun _ => List.not_mem_nil, fun _ => rfl⟩
  | d :: ds, _, _, h, r => by
    cases h with
    | cons g1 g2 =>
      cases r with
      | cons r1 r2 =>
        obtain ⟨as, q1, a1, a2⟩ := Rp.reads I d _ _ g1 r1
        obtain ⟨bs, q2, b1, b2⟩ := Rps.reads I ds _ _ g2 r2
        refine ⟨_, ReadsAll.cons q1 q2, fun y q => ?_, fun y => ?_⟩
        · rcases List.mem_append.mp q with q | q
          · exact a1 y q
          · exact b1 y q
        · rw [PyData.hasDictAll, a2 y, b2 y]; rfl
end
end
/-- texts that can be told -/
structure Shows (d : PyData) : Prop where
  ok : d.showable = true
  fit : d.shown.length ≤ sizeLine
  deep : d.depth ≤ 60
def rRepr : List V → Hp → VK → Prop := fun xs H Q => ∃ (z : Bool) (x : V) (d : PyData), xs = [x] ∧ Rp z H x d ∧ Shows d ∧ Q (.str d.shown) H
theorem call_repr {X : Cx} {k : Nat} (hr : Room k X.A) (hq : X.A.guards = some []) : CallR X (.builtin "repr") rRepr := by
  intro pins s σ H xs us Q I r h
  obtain ⟨z, x, d, rfl, hp, hs, q⟩ := h
  obtain ⟨u, rfl, rx⟩ := r.one
  have un : X.A.units + (d.depth + 1) < cLine := by
    have h1 := hr.un
    have h2 := hs.deep
    omega
  have refs : ∀ (a : Addr), x = .ref a → wpAny (model X.prog X.w) X.A (call (.builtin "repr") [u]) (EP X pins σ Q) X.xe s := fun a ex => by
    subst ex
    cases rx
    obtain ⟨as, hr, n1, n2⟩ := Rp.reads I d _ _ hp rfl
    refine repr_of_reads' hr hs.ok (fun y => n1 ?_) hq un (fun _ _ e => e) (fun h' t tk keep => ⟨.str d.shown, H, I.kept keep, ⟨t, rfl⟩, q⟩) hs.fit
    rcases z with _ | _
    · rw [n2 rfl] at y; cases y
    · rfl
  cases hp with
  | non => cases rx; exact PySem.P.repr_of_none ⟨.str _, H, I.tok _, ⟨_, rfl⟩, q⟩
  | bl b => cases rx; exact PySem.P.repr_of_bool ⟨.str _, H, I.tok _, ⟨_, rfl⟩, q⟩
  | int i =>
    obtain ⟨t, rfl⟩ := rx
    exact PySem.P.repr_of_int (of_decide_eq_true hs.ok) ⟨.str _, H, I.tok _, ⟨_, rfl⟩, q⟩
  | str y =>
    obtain ⟨t, rfl⟩ := rx
    exact PySem.P.repr_of_str ⟨.str _, H, I.tok _, ⟨_, rfl⟩, q⟩ hs.fit
  | lst _ _ _ => exact refs _ rfl
  | tup _ _ => exact refs _ rfl
  | dct _ _ => exact refs _ rfl
/-! ### == and != of a tuple and () -/
def rEqNil (K : PySem.W.Frag) (ne : Bool) : R2 := fun x y H Q => ∃ a b xs, x = .ref a ∧ y = .ref b ∧ SqT K H a xs ∧ SqT K H b [] ∧ Q (.bl (xor ne (decide (xs = [])))) H
theorem op_eqNil {X : Cx} (hu : X.A.units < cLine) : OpR X (compareOp .Eq) (rEqNil X.K false) := by
  intro pins s σ H x y v u Q I rx ry h
  obtain ⟨a, b, xs, rfl, rfl, ha, hb, q⟩ := h
  cases rx; cases ry
  obtain ⟨its, r, ⟨o, ho, hc, n, hd⟩, _⟩ := I.tuple ha
  obtain ⟨jts, r2, ⟨o2, ho2, hc2, n2, hd2⟩, _⟩ := I.tuple hb
  cases r2
  refine SeqAt.eq_tupleAt (e := fun _ => true) ⟨o, ho, hc, n, hd⟩ ⟨o2, ho2, hc2, n2, hd2⟩ hu (fun j h1 h2 => absurd h2 (Nat.not_lt_zero j)) ?_
  refine ⟨.bl _, H, I, rfl, ?_⟩
  have e : ((List.range (min its.toArray.size ([] : List Value).toArray.size)).all (fun _ => true) && its.toArray.size == ([] : List Value).toArray.size) = (xor false (decide (xs = []))) := by
    cases r with
    | nil => rfl
    | cons _ _ => simp
  rw [e]; exact q
theorem op_neNil {X : Cx} (hu : X.A.units < cLine) : OpR X (compareOp .NotEq) (rEqNil X.K true) := by
  intro pins s σ H x y v u Q I rx ry h
  obtain ⟨a, b, xs, rfl, rfl, ha, hb, q⟩ := h
  cases rx; cases ry
  obtain ⟨its, r, ⟨o, ho, hc, n, hd⟩, _⟩ := I.tuple ha
  obtain ⟨jts, r2, ⟨o2, ho2, hc2, n2, hd2⟩, _⟩ := I.tuple hb
  cases r2
  refine SeqAt.RcNeAt.tuples (e := fun _ => true) ⟨o, ho, hc, n, hd⟩ ⟨o2, ho2, hc2, n2, hd2⟩ hu (fun j h1 h2 => absurd h2 (Nat.not_lt_zero j)) _ _ _ _ ?_
  refine ⟨.bl _, H, I, rfl, ?_⟩
  have e : (!((List.range (min its.toArray.size ([] : List Value).toArray.size)).all (fun _ => true) && its.toArray.size == ([] : List Value).toArray.size)) = (xor true (decide (xs = []))) := by
    cases r with
    | nil => rfl
    | cons _ _ => simp
  rw [e]; exact q
/-- a display of a list, its place told to be none of the interpreter's own -/
def tLstN (t : TA) : TE := fun σ H Q => t σ H fun xs H1 => xs.length ≤ sizeLine ∧ ∀ l, H1 l = none → l ≠ sysModules → Q (.ref l) (upd H1 l (.lst xs))
theorem pe_lstN {X : Cx} {es : List Expr} {pos : Pos} {t : TA} (h : PA X es t) : PE X (.List es pos) (tLstN t) := by
  constructor
  intro pins s σ H Q I hq
  refine wpAny_List_spliced (thn (h.run pos pins s σ H _ I hq) ?_)
  rintro us s1 ⟨xs, H1, J, r, z, q⟩
  refine ⟨r.length ▸ z, .ref s1.heap.objs.size, _, J.laid (o := .lst xs) (t' := s1.toks) (fun _ _ => Heap.get?_push_of_some _) (Nat.le_refl _) ⟨z, us, 0, r, Heap.get?_push_size _ rfl⟩, rfl, q _ (J.hok.fresh (Nat.le_refl _)) (Nat.ne_of_gt J.big)⟩
theorem lt64 {k : Nat} {A : Around} (hr : Room k A) : A.units < cLine := by
  have h := hr.un
  omega
end L2

/-! Z3: math.factorial. -/
namespace L2
open PySem PySem.Spec PyProof.Rows
def fct : Nat → Nat
  | 0 => 1
  | n + 1 => fct n * (n + 1)
theorem fct_same : ∀ n : Nat, Builtin.Math.factorialNat n = fct n
  | 0 => rfl
  | n + 1 => by rw [PySem.W.mc_fac_succ, fct_same n, fct]
theorem cr_factorial {X : Cx} : CallR X (.builtin "math.factorial") (fun vs H Q => ∃ a : Nat, vs = [.int (a : Int)] ∧ a ≤ 20000 ∧ Q (.int ((fct a : Nat) : Int)) H) := by
  intro pins s σ H vs us Q I r h
  obtain ⟨a, rfl, h2, q⟩ := h
  obtain ⟨u, rfl, t, rfl⟩ := r.one
  refine PySem.W.mc_factorial (by omega) (by omega) fun _ => ?_
  rw [Int.toNat_natCast, fct_same]
  exact ⟨.int _, H, I.tok _, ⟨_, rfl⟩, q⟩
theorem fct_pos : ∀ n : Nat, 1 ≤ fct n
  | 0 => Nat.le_refl 1
  | n + 1 => by rw [fct]; exact Nat.mul_pos (fct_pos n) (Nat.succ_pos n)
theorem fct_mono {m n : Nat} (h : m ≤ n) : fct m ≤ fct n := by
  induction h with
  | refl => exact Nat.le_refl _
  | step _ ih => rw [fct]; exact Nat.le_trans ih (Nat.le_mul_of_pos_right _ (Nat.succ_pos _))
theorem fct_small {n : Nat} (h : n ≤ 60) : fct n < 2 ^ 300 := Nat.lt_of_le_of_lt (fct_mono h) (by decide +kernel)
end L2

/-! Z4: list(enumerate(a list)): a new list of new pairs. -/
namespace PySem.F
theorem en_len : typeLookup (.type "enumerate") "__len__" = pure none := by rw [typeLookup_type, builtinLookup_eq_fast]; kernel_rfl
theorem en_hint : typeLookup (.type "enumerate") "__length_hint__" = pure none := by rw [typeLookup_type, builtinLookup_eq_fast]; kernel_rfl
end PySem.F
namespace L2
open PySem PySem.Spec PyProof.Rows
open Sem (wp)
/-- an enumerate object, whatever pair it may have handed out -/
abbrev EnO (h : Heap) (e it : Addr) (g : Value) (b : Bool) (i : Int) (z : Value) : Prop :=
  h.get? e = some ({ cls := .type "enumerate", dict := none, data := .fields #[g, .bool b, .ref it, rawInt i, .none, z], slots := #[] } : Obj)
/-- it is new, or its pair is still there -/
def EnG (h : Heap) (e it : Addr) (g : Value) (b : Bool) : Prop := (g = .none ∧ b = false) ∨ ∃ (a : Addr) (o : Obj), g = rawInt a ∧ h.get? a = some o ∧ a ≠ e ∧ a ≠ it ∧ o.cls = .type "tuple"
structure EnSt (e it l : Addr) (items : Array Value) (i : Nat) (h : Heap) : Prop where
  en : ∃ g b z, EnO h e it g b ((i : Nat) : Int) z ∧ EnG h e it g b
  sit : h.IsListIter it l i
  sli : h.IsList l items
  ne : e ≠ it
theorem EnSt.put {e it l S : Addr} {items : Array Value} {i : Nat} {h h' : Heap} {oS : Obj} (s : EnSt e it l items i h) (hS : h.get? S = some oS) (cS : oS.cls = .type "list") (nl : l ≠ S) (k : ∀ b o, b ≠ S → h.get? b = some o → h'.get? b = some o) : EnSt e it l items i h' := by
  obtain ⟨⟨g, b, z, he, hg⟩, hi, hl, ne⟩ := s
  have other : ∀ {a : Addr} {o : Obj} {c : String}, h.get? a = some o → o.cls = .type c → c ≠ "list" → a ≠ S := fun {a o c} x y n q => by
    rw [q, hS] at x
    cases x
    exact n (Value.type.inj (y.symm.trans cS))
  obtain ⟨o2, ho2, hc2, _⟩ := id hi
  have n1 : e ≠ S := other he rfl (by decide)
  have n2 : it ≠ S := other ho2 hc2 (by decide)
  refine ⟨⟨g, b, z, k _ _ n1 he, ?_⟩, hi.at fun o x => k _ _ n2 x, hl.at fun o x => k _ _ nl x, ne⟩
  rcases hg with hg | ⟨a, o, h1, h2, h3, h4, h5⟩
  · exact .inl hg
  · exact .inr ⟨a, o, h1, k _ _ (other h2 h5 (by decide)) h2, h3, h4, h5⟩
section
variable {prog : Program} {w : World} {A : Around} {E : Value → Shared → Prop} {s : Shared}
theorem alive_wp {M : Model} {a : Addr} {Q : Option Obj → Shared → Prop} (h : Q (s.heap.get? a) s) : wpAny M A (Sem.loadIfAlive a .pure) Q E s := fun _ _ _ => h
/-- the next pair -/
theorem en_step {e it l : Addr} {i : Nat} {items : Array Value} {x : Value} {Q : Value → Shared → Prop} (st : EnSt e it l items i s.heap) (hx : items[i]? = some x)
    (hQ : ∀ h', EnSt e it l items (i + 1) h' → h'.get? s.heap.objs.size = some { cls := .type "tuple", data := .seq #[.int i s.toks, x] } → h'.objs.size = s.heap.objs.size + 1 →
      (∀ b o, b ≠ e → b ≠ it → s.heap.get? b = some o → h'.get? b = some o) → Q (.ref s.heap.objs.size) { s with heap := h', toks := s.toks + 1 }) :
    wpAny (model prog w) A (Builtin.«enumerate.__next__» ⟨[.ref e], []⟩) (fun fin s' => ∃ v, fin = .done (.ret v) ∧ Q v s') E s := by
  obtain ⟨hp, g0, d, tk, os⟩ := s
  obtain ⟨⟨g, b, z, he, hg⟩, hit, hl, hne⟩ := st
  replace he : EnO hp e it g b ((i : Nat) : Int) z := he
  show wpAny (model prog w) A (field (.ref e) 2 >>= _) _ E _
  refine wpAny_bind (wpAny_field he rfl (i := 2) (x := .ref it) rfl ?_)
  refine wpAny_bind (wpAny_nextOf_list_item hit hl hx fun h1 hit1 sb1 => ?_)
  replace sb1 : Heap.SameBut it hp h1 := sb1
  have e1 : EnO h1 e it g b ((i : Nat) : Int) z := (sb1.2 e hne).trans he
  show wpAny (model prog w) A (field (.ref e) 3 >>= _) _ E ⟨h1, g0, d, tk, os⟩
  refine wpAny_bind (wpAny_field e1 rfl (i := 3) (x := rawInt i) rfl ?_)
  show wpAny (model prog w) A (field (.ref e) 4 >>= _) _ E ⟨h1, g0, d, tk, os⟩
  refine wpAny_bind (wpAny_field e1 rfl (i := 4) (x := .none) rfl ?_)
  show wpAny (model prog w) A (mkInt i >>= _) _ E ⟨h1, g0, d, tk, os⟩
  refine wpAny_bind (wpAny_mkInt ?_)
  show wpAny (model prog w) A (setField (.ref e) 3 (rawInt ((i : Int) + 1)) >>= _) _ E ⟨h1, g0, d, tk + 1, os⟩
  refine wpAny_bind (wpAny_setField_rec e1 (by simp) fun h2 e2 sb2 => ?_)
  replace sb2 : Heap.SameBut e h1 h2 := sb2
  replace e2 : EnO h2 e it g b ((i : Int) + 1) z := e2
  show wpAny (model prog w) A (setField (.ref e) 4 .none >>= _) _ E ⟨h2, g0, d, tk + 1, os⟩
  refine wpAny_bind (wpAny_setField_rec e2 (by simp) fun h3 e3 sb3 => ?_)
  replace sb3 : Heap.SameBut e h2 h3 := sb3
  replace e3 : EnO h3 e it g b ((i : Int) + 1) z := e3
  show wpAny (model prog w) A (newTuple [.int i tk, x] >>= _) _ E ⟨h3, g0, d, tk + 1, os⟩
  refine wpAny_bind (wpAny_newTuple ?_)
  have e4 : EnO (h3.push { cls := .type "tuple", data := .seq #[.int i tk, x] }) e it g b ((i : Int) + 1) z := Heap.get?_push_of_some _ e3
  have sz3 : h3.objs.size = hp.objs.size := by rw [sb3.1, sb2.1, sb1.1]
  have lt_e : e < hp.objs.size := Heap.lt_size he
  have t4 : (h3.push { cls := .type "tuple", data := .seq #[.int i tk, x] }).get? hp.objs.size = some { cls := .type "tuple", data := .seq #[.int i tk, x] } := by rw [← sz3]; exact Heap.get?_push_size _ rfl
  have sz4 : (h3.push { cls := .type "tuple", data := .seq #[.int i tk, x] }).objs.size = hp.objs.size + 1 := by rw [Heap.size_push, sz3]
  have k4 : ∀ b o, b ≠ e → b ≠ it → hp.get? b = some o → (h3.push { cls := .type "tuple", data := .seq #[.int i tk, x] }).get? b = some o := fun b o n1 n2 y =>
    Heap.get?_push_of_some _ (sb3.extBut b o n1 (sb2.extBut b o n1 (sb1.extBut b o n2 y)))
  have it4 : (h3.push { cls := .type "tuple", data := .seq #[.int i tk, x] }).IsListIter it l (i + 1) := by
    obtain ⟨o, ho, r⟩ := (hit1.extBut sb2.extBut (Ne.symm hne)).extBut sb3.extBut (Ne.symm hne)
    exact ⟨o, Heap.get?_push_of_some _ ho, r⟩
  have nle : l ≠ e := fun q => by
    obtain ⟨o, ho, hc, _⟩ := id hl
    rw [q] at ho
    have y := he.symm.trans ho
    cases y
    have c2 : ("enumerate" : String) = "list" := Value.type.inj hc
    exact absurd c2 (by decide)
  have nli : l ≠ it := fun q => by
    obtain ⟨o, ho, hc, _⟩ := id hl
    obtain ⟨o2, ho2, hc2, _⟩ := id hit
    rw [q, ho2] at ho
    cases ho
    have c2 : ("list_iterator" : String) = "list" := Value.type.inj (hc2.symm.trans hc)
    exact absurd c2 (by decide)
  have l4 : (h3.push { cls := .type "tuple", data := .seq #[.int i tk, x] }).IsList l items := hl.at fun o y => k4 l o nle nli y
  rw [sz3]
  generalize h3.push { cls := .type "tuple", data := .seq #[.int i tk, x] } = h4 at e4 t4 sz4 k4 it4 l4 ⊢
  clear e3 sb3 e2 sb2 e1 sb1 hit1 sz3
  have tie : ((i + 1 : Nat) : Int) = (i : Int) + 1 := by omega
  show wpAny (model prog w) A (Builtin.SmallTypes.ownedTupleIsFree (.ref e) >>= _) _ E ⟨h4, g0, d, tk + 1, os⟩
  refine wpAny_bind ?_
  unfold Builtin.SmallTypes.ownedTupleIsFree
  rcases hg with ⟨rfl, rfl⟩ | ⟨a, o, rfl, ha, na1, na2, na3⟩
  · refine wpAny_bind (wpAny_field e4 rfl (i := 0) (x := .none) rfl (wpAny_pure ?_))
    simp only [if_true]
    refine wpAny_bind (wpAny_rule (wpAny_bind (wpAny_field e4 rfl (i := 5) (x := z) rfl ?_)))
    refine wpAny_bind (wpAny_setField_rec e4 (by simp) fun h5 e5 sb5 => ?_)
    replace sb5 : Heap.SameBut e h4 h5 := sb5
    replace e5 : EnO h5 e it .none false ((i : Int) + 1) x := e5
    show wpAny (model prog w) A (Builtin.SmallTypes.ownedTupleHandOut (.ref e) (.ref hp.objs.size) >>= _) _ E ⟨h5, g0, d, tk + 1, os⟩
    refine wpAny_bind ?_
    unfold Builtin.SmallTypes.ownedTupleHandOut
    refine wpAny_bind (wpAny_setField_rec e5 (by simp) fun h6 e6 sb6 => ?_)
    replace sb6 : Heap.SameBut e h5 h6 := sb6
    replace e6 : EnO h6 e it (rawInt hp.objs.size) false ((i : Int) + 1) x := e6
    refine wpAny_setField_rec e6 (by simp) fun h7 e7 sb7 => ?_
    replace sb7 : Heap.SameBut e h6 h7 := sb7
    replace e7 : EnO h7 e it (rawInt hp.objs.size) false ((i : Int) + 1) x := e7
    have kk : ∀ b o, b ≠ e → h4.get? b = some o → h7.get? b = some o := fun b o n y => sb7.extBut b o n (sb6.extBut b o n (sb5.extBut b o n y))
    have t7 := kk _ _ (Nat.ne_of_gt lt_e) t4
    refine wpAny_bind (wpAny_letGo (wpAny_pure ⟨_, rfl, hQ h7 ⟨⟨_, _, _, by rw [tie]; exact e7, .inr ⟨_, _, rfl, t7, Nat.ne_of_gt lt_e, ?_, rfl⟩⟩, it4.at fun o y => kk _ _ (Ne.symm hne) y, l4.at fun o y => kk _ _ nle y, hne⟩ t7 (by rw [sb7.1, sb6.1, sb5.1, sz4]) fun b o n1 n2 y => kk b o n1 (k4 b o n1 n2 y)⟩))
    obtain ⟨o2, ho2, _⟩ := hit
    exact Nat.ne_of_gt (Heap.lt_size ho2)
  · have a4 := k4 a o na1 na2 ha
    refine wpAny_bind (wpAny_field e4 rfl (i := 0) (x := rawInt a) rfl ?_)
    show wpAny (model prog w) A (Sem.loadIfAlive a .pure >>= _) _ E ⟨h4, g0, d, tk + 1, os⟩
    refine wpAny_bind (alive_wp ?_)
    show wpAny (model prog w) A (if (h4.get? a).isNone = true then _ else _) _ E ⟨h4, g0, d, tk + 1, os⟩
    rw [a4]
    show wpAny (model prog w) A (field (.ref e) 1 >>= _) _ E ⟨h4, g0, d, tk + 1, os⟩
    refine wpAny_bind (wpAny_field e4 rfl (i := 1) (x := .bool b) rfl ?_)
    have fin : ∀ (h5 : Heap) (b' : Bool), EnO h5 e it (rawInt a) b' ((i : Int) + 1) z → (∀ b o, b ≠ e → h4.get? b = some o → h5.get? b = some o) → h5.objs.size = h4.objs.size → Q (.ref hp.objs.size) ⟨h5, g0, d, tk + 1, os⟩ := fun h5 b' e5 kk sz5 =>
      hQ h5 ⟨⟨_, _, _, by rw [tie]; exact e5, .inr ⟨a, o, rfl, kk _ _ na1 a4, na1, na2, na3⟩⟩, it4.at fun o y => kk _ _ (Ne.symm hne) y, l4.at fun o y => kk _ _ nle y, hne⟩ (kk _ _ (Nat.ne_of_gt lt_e) t4) (sz5.trans sz4) fun b o n1 n2 y => kk b o n1 (k4 b o n1 n2 y)
    cases b with
    | true => exact wpAny_pure (wpAny_pure ⟨_, rfl, fin h4 true e4 (fun _ _ _ y => y) rfl⟩)
    | false =>
      show wpAny (model prog w) A (setField (.ref e) 1 (.bool true) >>= _) _ E ⟨h4, g0, d, tk + 1, os⟩
      refine wpAny_bind (wpAny_setField_rec e4 (by simp) fun h5 e5 sb5 => ?_)
      exact wpAny_pure (wpAny_pure ⟨_, rfl, fin h5 true e5 (fun b o n y => sb5.extBut b o n y) sb5.1⟩)
theorem en_next {e it l : Addr} {i : Nat} {items : Array Value} {x : Value} {Q : Option Value → Shared → Prop} (st : EnSt e it l items i s.heap) (hx : items[i]? = some x)
    (hQ : ∀ h', EnSt e it l items (i + 1) h' → h'.get? s.heap.objs.size = some { cls := .type "tuple", data := .seq #[.int i s.toks, x] } → h'.objs.size = s.heap.objs.size + 1 →
      (∀ b o, b ≠ e → b ≠ it → s.heap.get? b = some o → h'.get? b = some o) → Q (some (.ref s.heap.objs.size)) { s with heap := h', toks := s.toks + 1 }) :
    wpAny (model prog w) A (pyNext (.ref e)) Q E s := by
  obtain ⟨g, b, z, he, _⟩ := st.en
  have ty : s.TypeIs (.ref e) "enumerate" := ⟨_, he, rfl⟩
  unfold pyNext
  exact wpAny_bind (wpAny_attempt (wpAny_callSpecial?_slot (name := Str.ofString "__next__") ty F.slot_enumerate_next (wpAny_call_entry F.slot_enumerate_next ty F.entry_enumerate_next (en_step st hx fun h' a b c d => wpAny_pure (hQ h' a b c d)) (F.args_enumerate_next_1 _))))
theorem en_end {e it l : Addr} {items : Array Value} {Q : Option Value → Shared → Prop} (hh : A.handled = none) (st : EnSt e it l items items.size s.heap) (hQ : ∀ h', Heap.ExtBut it s.heap h' → Q none { s with heap := h' }) : wpAny (model prog w) A (pyNext (.ref e)) Q E s := by
  obtain ⟨⟨g, b, z, he, _⟩, hit, hl, _⟩ := st
  have ty : s.TypeIs (.ref e) "enumerate" := ⟨_, he, rfl⟩
  unfold pyNext
  refine wpAny_bind (wpAny_attempt (wpAny_callSpecial?_slot (name := Str.ofString "__next__") ty F.slot_enumerate_next (wpAny_call_entry F.slot_enumerate_next ty F.entry_enumerate_next ?_ (F.args_enumerate_next_1 _))))
  show wpAny _ _ (field (.ref e) 2 >>= _) _ _ s
  refine wpAny_bind (wpAny_field he rfl (i := 2) (x := .ref it) rfl ?_)
  refine wpAny_bind (wpAny_nextOf_list_end hh hit hl (by simp) fun h' y he' hy => ?_)
  obtain ⟨o, ho, hc⟩ := hy
  exact wpAny_bind (wpAny_isInstance (T := "StopIteration") (b := true) ⟨o, ho, hc⟩ isSubtype_stop (wpAny_pure (hQ _ he')))
/-- the pairs gathered so far -/
structure AccEn (items acc : Array Value) (i : Nat) (h : Heap) (n0 : Nat) : Prop where
  sz : acc.size = i
  at_ : ∀ j : Nat, j < i → ∃ (p : Addr) (tk : Nat) (x : Value), acc[j]? = some (.ref p) ∧ items[j]? = some x ∧ n0 ≤ p ∧ h.get? p = some { cls := .type "tuple", data := .seq #[.int j tk, x] }
theorem AccEn.to {items acc : Array Value} {i n0 : Nat} {h h' : Heap} (a : AccEn items acc i h n0) (k : ∀ b o, n0 ≤ b → h.get? b = some o → h'.get? b = some o) : AccEn items acc i h' n0 := ⟨a.sz, fun j hj => by
  obtain ⟨p, tk, x, h1, h2, h3, h4⟩ := a.at_ j hj
  exact ⟨p, tk, x, h1, h2, h3, k _ _ h3 h4⟩⟩
theorem AccEn.push {items acc : Array Value} {i n0 : Nat} {h : Heap} {p : Addr} {tk : Nat} {x : Value} (a : AccEn items acc i h n0) (hx : items[i]? = some x) (hp : n0 ≤ p) (ht : h.get? p = some { cls := .type "tuple", data := .seq #[.int i tk, x] }) : AccEn items (acc.push (.ref p)) (i + 1) h n0 := ⟨by rw [Array.size_push, a.sz], fun j hj => by
  by_cases c : j < i
  · obtain ⟨p', tk', x', h1, h2, h3, h4⟩ := a.at_ j c
    exact ⟨p', tk', x', by rw [Array.getElem?_push_lt (by rw [a.sz]; exact c), ← Array.getElem?_eq_getElem]; exact h1, h2, h3, h4⟩
  · have e : j = i := by omega
    subst e
    exact ⟨p, tk, x, by rw [← a.sz, Array.getElem?_push_size], hx, hp, ht⟩⟩
theorem en_loop {e it l S : Addr} {items : Array Value} {R : Result → Shared → Prop} {n0 : Nat} (hh : A.handled = none) (hn : items.size ≤ sizeLine) (res : Value) (hSl : S < n0) (hel : e < n0) (hil : it < n0) (nS : S ≠ e ∧ S ≠ it ∧ l ≠ S) :
    ∀ (k i : Nat) (s : Shared) (acc : Array Value) (c : Nat), items.size - i = k → i ≤ items.size → EnSt e it l items i s.heap → n0 ≤ s.heap.objs.size → s.heap.get? S = some { cls := .type "list", dict := none, data := .seq acc c, slots := #[] } → AccEn items acc i s.heap n0 →
    (∀ h' tk acc' c', (∀ b o, b ≠ e → b ≠ it → b ≠ S → s.heap.get? b = some o → h'.get? b = some o) → h'.get? S = some { cls := .type "list", dict := none, data := .seq acc' c', slots := #[] } → AccEn items acc' items.size h' n0 → R (.ok (.ret res)) { s with heap := h', toks := tk }) →
    codeAny (model prog w) A (.builtin "list.extend.loop" ⟨[.ref S, .ref e, res], []⟩) R s := by
  intro k
  induction k with
  | zero =>
    intro i s acc c hk hi st hz hS ha hR
    have ei : i = items.size := by omega
    subst ei
    refine codeAny_builtin F.entry_extend_loop ?_
    rw [Around.under_plainId F.plain_extend_loop _]
    show wpAny _ A.in1 (pyNext (.ref e) >>= _) _ _ s
    refine wpAny_bind (en_end hh st fun h' x => wpAny_pure ?_)
    exact hR h' s.toks acc c (fun b o _ n2 _ y => x b o n2 y) (x _ _ nS.2.1 hS) (ha.to fun b o n y => x b o (Nat.ne_of_gt (Nat.lt_of_lt_of_le hil n)) y)
  | succ k ih =>
    intro i s acc c hk hi st hz hS ha hR
    have lt : i < items.size := by omega
    refine codeAny_builtin F.entry_extend_loop ?_
    rw [Around.under_plainId F.plain_extend_loop _]
    show wpAny _ A.in1 (pyNext (.ref e) >>= _) _ _ s
    obtain ⟨x, hx⟩ : ∃ x, items[i]? = some x := ⟨items[i], by simp [lt]⟩
    refine wpAny_bind (en_next st hx fun h1 st1 t1 sz1 k1 => ?_)
    have hS1 := k1 S _ nS.1 nS.2.1 hS
    show wpAny _ A.in1 (updateSeq S (·.push (.ref s.heap.objs.size)) >>= _) _ _ _
    refine wpAny_bind ?_
    refine wpAny_updateSeq hS1 rfl (wpAny_pure ⟨plainId_quiet F.plain_extend_loop _, ih (i + 1) _ (acc.push (.ref s.heap.objs.size)) _ (by omega) lt ?_ ?_ (Heap.get?_update_self _ hS1 rfl) ?_ fun h' tk acc' c' kk hS' ha' => ?_⟩) (by rw [ha.sz]; omega) (by show (acc.push (.ref s.heap.objs.size)).size ≤ sizeLine + 1; rw [Array.size_push, ha.sz]; omega)
    · exact st1.put hS1 rfl nS.2.2 fun b o n y => (Heap.get?_update_other _ _ (Ne.symm n)).trans y
    · show n0 ≤ (h1.update S _).objs.size
      rw [Heap.size_update, sz1]; omega
    · refine ((ha.to fun b o n y => ?_).push hx hz t1).to fun b o n y => (Heap.get?_update_other _ _ (Nat.ne_of_lt (Nat.lt_of_lt_of_le hSl n))).trans y
      exact k1 b o (Nat.ne_of_gt (Nat.lt_of_lt_of_le hel n)) (Nat.ne_of_gt (Nat.lt_of_lt_of_le hil n)) y
    · exact hR h' tk acc' c' (fun b o n1 n2 n3 y => kk b o n1 n2 n3 ((Heap.get?_update_other _ _ (Ne.symm n3)).trans (k1 b o n1 n2 y))) hS' ha'
theorem en_extend {e it l S : Addr} {items : Array Value} {R : Result → Shared → Prop} (hh : A.handled = none) (hn : items.size ≤ sizeLine) (res : Value) (c : Nat) (he : IsEnum s.heap e it 0 .none) (st : EnSt e it l items 0 s.heap) (hS : s.heap.get? S = some { cls := .type "list", data := .seq #[] c }) (nl : l ≠ S)
    (hR : ∀ h' tk acc' c', (∀ b o, b ≠ e → b ≠ it → b ≠ S → s.heap.get? b = some o → h'.get? b = some o) → h'.get? S = some { cls := .type "list", dict := none, data := .seq acc' c', slots := #[] } → AccEn items acc' items.size h' s.heap.objs.size → R (.ok (.ret res)) { s with heap := h', toks := tk }) :
    wpAny (model prog w) A.in1 (Builtin.List.listExtendWith (.ref S) (.ref e) res) (fun fin s' => match fin with | .done f => R (.ok f) s' | .again c' => c'.quiet = true ∧ codeAny (model prog w) A c' R s') (fun e s' => R (.error e) s') s := by
  have ty : s.TypeIs (.ref e) "enumerate" := ⟨_, he, rfl⟩
  obtain ⟨oi, hoi, hci, _⟩ := id st.sit
  have nS : S ≠ e ∧ S ≠ it ∧ l ≠ S := by
    refine ⟨fun q => ?_, fun q => ?_, nl⟩
    · have y := he.symm.trans (q ▸ hS)
      exact absurd (Value.type.inj (congrArg Obj.cls (Option.some.inj y))) (by decide)
    · rw [q, hoi] at hS
      cases hS
      have c2 : ("list" : String) = "list_iterator" := Value.type.inj hci
      exact absurd c2 (by decide)
  unfold Builtin.List.listExtendWith
  refine wpAny_bind (wpAny_typeOf ty ?_)
  have d1 : Builtin.List.listSameRef (.ref S) (.ref e) = false := by simp [Builtin.List.listSameRef, nS.1]
  have d2 : (Value.type "enumerate" == Value.type "list") = false := by decide
  have d3 : (Value.type "enumerate" == Value.type "tuple") = false := by decide
  simp only [d1, d2, d3, Bool.or_false, Bool.false_eq_true, if_false]
  refine wpAny_bind (wpAny_pyIter_enum he (wpAny_bind (wpAny_holding ?_)))
  unfold Builtin.List.listLengthHint
  refine wpAny_bind (wpAny_specialOf ty F.en_len ?_)
  show wpAny _ A.in1 (specialOf (Value.ref e) (Str.ofString "__length_hint__") >>= _) _ _ s
  refine wpAny_bind (wpAny_specialOf ty F.en_hint (wpAny_pure ?_))
  show wpAny _ A.in1 (rule "list.extend.makes-room" >>= fun _ => Builtin.List.listTouch (.ref S) >>= fun _ => again (.builtin "list.extend.loop" ⟨[.ref S, .ref e, res], []⟩)) _ _ s
  refine wpAny_bind (wpAny_rule (wpAny_bind ?_))
  show wpAny _ A.in1 (updateSeq S (·.push .none) >>= fun _ => updateSeq S (·.pop)) _ _ s
  refine wpAny_bind (wpAny_updateSeq hS rfl ?_)
  have h2 := Heap.get?_update_self (Obj.mapSeq (·.push Value.none)) hS rfl
  refine wpAny_updateSeq (hz := by seq_fits) h2 rfl ?_
  have h3 := Heap.get?_update_self (Obj.mapSeq (·.pop)) h2 rfl
  have ot : ∀ b o, b ≠ S → s.heap.get? b = some o → ((s.heap.update S (Obj.mapSeq (·.push Value.none))).update S (Obj.mapSeq (·.pop))).get? b = some o := fun b o n y =>
    (Heap.get?_update_other _ _ (Ne.symm n)).trans ((Heap.get?_update_other _ _ (Ne.symm n)).trans y)
  have hz : ((s.heap.update S (Obj.mapSeq (·.push Value.none))).update S (Obj.mapSeq (·.pop))).objs.size = s.heap.objs.size := by rw [Heap.size_update, Heap.size_update]
  refine wpAny_pure ⟨plainId_quiet F.plain_extend_loop _, en_loop (n0 := s.heap.objs.size) hh hn res (Heap.lt_size hS) (Heap.lt_size he) (Heap.lt_size hoi) nS items.size 0 _ #[] _ rfl (Nat.zero_le _) (st.put hS rfl nl ot) (Nat.le_of_eq hz.symm) h3 ⟨rfl, fun j hj => absurd hj (Nat.not_lt_zero j)⟩ fun h' tk acc' c' kk hS' ha => ?_⟩
  exact hR h' tk acc' c' (fun b o n1 n2 n3 y => kk b o n1 n2 n3 (ot b o n3 y)) hS' ha
theorem en_init {e it l S : Addr} {items : Array Value} {R : Result → Shared → Prop} (hh : A.handled = none) (hn : items.size ≤ sizeLine) (he : IsEnum s.heap e it 0 .none) (st : EnSt e it l items 0 s.heap) (hS : s.heap.get? S = some { cls := .type "list", data := .seq #[] }) (nl : l ≠ S)
    (hR : ∀ h' tk acc' c', (∀ b o, b ≠ e → b ≠ it → b ≠ S → s.heap.get? b = some o → h'.get? b = some o) → h'.get? S = some { cls := .type "list", dict := none, data := .seq acc' c', slots := #[] } → AccEn items acc' items.size h' s.heap.objs.size → R (.ok (.ret .none)) { s with heap := h', toks := tk }) :
    wpAny (model prog w) A.in1 (Builtin.«list.__init__» ⟨[.ref S, .ref e], []⟩) (fun fin s' => match fin with | .done f => R (.ok f) s' | .again c' => c'.quiet = true ∧ codeAny (model prog w) A c' R s') (fun e s' => R (.error e) s') s := by
  show wpAny _ A.in1 (do let old ← Builtin.List.listItems (.ref S); Builtin.List.listUpdate (.ref S) (fun _ => #[]); letGo old.toList.reverse; Builtin.List.listExtendWith (.ref S) (.ref e) .none) _ _ s
  refine wpAny_bind ?_
  unfold Builtin.List.listItems
  refine wpAny_bind (wpAny_seqItems hS rfl (wpAny_pure ?_))
  show wpAny _ A.in1 (updateSeq S (fun _ => #[]) >>= fun _ => letGo (#[] : Array Value).toList.reverse >>= fun _ => Builtin.List.listExtendWith (.ref S) (.ref e) .none) _ _ s
  refine wpAny_bind (wpAny_updateSeq hS rfl (wpAny_bind (wpAny_letGo ?_)))
  have h2 := Heap.get?_update_self (Obj.mapSeq (fun _ => (#[] : Array Value))) hS rfl
  have ot : ∀ b o, b ≠ S → s.heap.get? b = some o → (s.heap.update S (Obj.mapSeq (fun _ => (#[] : Array Value)))).get? b = some o := fun b o n y => (Heap.get?_update_other _ _ (Ne.symm n)).trans y
  have st2 := st.put hS rfl nl ot
  have ne : e ≠ S := fun q => by
    have y := he.symm.trans (q ▸ hS)
    exact absurd (Value.type.inj (congrArg Obj.cls (Option.some.inj y))) (by decide)
  refine en_extend hh hn .none _ (ot e _ ne he) st2 h2 nl fun h' tk acc' c' kk hS' ha => hR h' tk acc' c' (fun b o n1 n2 n3 y => kk b o n1 n2 n3 (ot b o n3 y)) hS' ?_
  have ez : (s.heap.update S (Obj.mapSeq fun _ => (#[] : Array Value))).objs.size = s.heap.objs.size := Heap.size_update ..
  have ha2 : AccEn items acc' items.size h' (s.heap.update S (Obj.mapSeq fun _ => (#[] : Array Value))).objs.size := ha
  rw [ez] at ha2; exact ha2
theorem call_listEn {e it l : Addr} {items : Array Value} {Q : Value → Shared → Prop} (hh : A.handled = none) (hn : items.size ≤ sizeLine) (he : IsEnum s.heap e it 0 .none) (st : EnSt e it l items 0 s.heap)
    (hQ : ∀ h' tk acc' c', (∀ b o, b ≠ e → b ≠ it → s.heap.get? b = some o → h'.get? b = some o) → h'.get? s.heap.objs.size = some { cls := .type "list", dict := none, data := .seq acc' c', slots := #[] } → AccEn items acc' items.size h' (s.heap.objs.size + 1) → Q (.ref s.heap.objs.size) { s with heap := h', toks := tk }) :
    wpAny (model prog w) A (call (.type "list") [.ref e]) Q E s := by
  refine callType_codes (Q₁ := fun obj s1 => obj = .ref s.heap.objs.size ∧ s1 = { s with heap := s.heap.push { cls := .type "list", data := .seq #[] } }) F.called_list (F.typeCall_list_1 _) F.entry_list_init (code_list_new _ ⟨rfl, rfl⟩) fun obj s1 h1 => ?_
  obtain ⟨rfl, rfl⟩ := h1
  have hS : (s.heap.push { cls := .type "list", data := .seq #[] }).get? s.heap.objs.size = some { cls := .type "list", data := .seq #[] } := Heap.get?_push_size _ rfl
  have hk : ∀ b o, s.heap.get? b = some o → (s.heap.push { cls := .type "list", data := .seq #[] }).get? b = some o := fun b o y => Heap.get?_push_of_some _ y
  have st2 : EnSt e it l items 0 (s.heap.push { cls := .type "list", data := .seq #[] }) := by
    obtain ⟨⟨g, b, z, h1, hg⟩, hi, hl, ne⟩ := st
    refine ⟨⟨g, b, z, hk _ _ h1, ?_⟩, hi.at fun o y => hk _ _ y, hl.at fun o y => hk _ _ y, ne⟩
    rcases hg with hg | ⟨a, o, x1, x2, x3, x4, x5⟩
    · exact .inl hg
    · exact .inr ⟨a, o, x1, hk _ _ x2, x3, x4, x5⟩
  have nl : l ≠ s.heap.objs.size := by
    obtain ⟨o, ho, _⟩ := st.sli
    exact Nat.ne_of_lt (Heap.lt_size ho)
  refine ⟨⟨_, hS, rfl⟩, F.args_list_init_2 _ _, en_init (A := A.in1) hh hn (hk _ _ he) st2 hS nl fun h' tk acc' c' kk hS' ha => ⟨rfl, ?_⟩⟩
  have ez : (s.heap.push { cls := .type "list", data := .seq #[] }).objs.size = s.heap.objs.size + 1 := Heap.size_push ..
  have ha2 : AccEn items acc' items.size h' (s.heap.push { cls := .type "list", data := .seq #[] }).objs.size := ha
  rw [ez] at ha2
  exact hQ h' tk acc' c' (fun b o n1 n2 y => kk b o n1 n2 (Nat.ne_of_lt (Heap.lt_size y)) (hk _ _ y)) hS' ha2
end
/-! ### several new objects at once -/
section
variable {P : Program} {w : World} {fs ex : List Addr} {H H' : Hp} {h h' : Heap}
structure Many (H H' : Hp) (h : Heap) : Prop where
  old : ∀ b, b < h.objs.size → H' b = H b
theorem Many.ext (m : Many H H' h) (x : HOk P w H h) : Same H H' := fun b o e => by rw [m.old b (x.lt e)]; exact e
theorem Many.hok (m : Many H H' h) (x : HOk P w H h) (k : ∀ b u, h.get? b = some u → h'.get? b = some u) (new : ∀ b o, h.objs.size ≤ b → H' b = some o → ObjOk P w H' h' b o) : HOk P w H' h' := fun b u e => by
  by_cases c : b < h.objs.size
  · rw [m.old b c] at e
    exact (x b u e).stay (fun c v _ q => k c v q) (fun c q => m.ext x _ _ q) fun c xs q => m.ext x _ _ q
  · exact new b u (Nat.le_of_not_lt c) e
theorem Many.un (m : Many H H' h) (x : HOk P w H h) (k : ∀ b u, h.get? b = some u → h'.get? b = some u) : Un fs ex H H' h h' where
  keep := fun b u q _ _ _ => k b u q
  slot := fun b u q _ _ _ => ⟨u.slots, k b u q⟩
  free := fun b u q n _ => by rw [m.old b (Heap.lt_size q)]; exact n
  there := fun b u q _ => ⟨u, k b u q⟩
  tups := fun b xs q => m.ext x _ _ q
  frzs := fun b u xs q => m.ext x _ _ q
  tbls := fun b ps q => ⟨#[], by rw [m.ext x _ _ q]; simp⟩
end
open Classical in
/-- the heap with a new list at D of new pairs at ts -/
noncomputable def enH (H : Hp) (n : Nat) (D : Addr) (ts : List Addr) (f : Nat → V) : Hp := fun b =>
  if b < n then H b else if b = D then some (.lst (ts.map V.ref)) else if q : ∃ j : Nat, ts[j]? = some b then some (.tup [.int ((Classical.choose q : Nat) : Int), f (Classical.choose q)]) else none
theorem enrefs_of : ∀ vs : List Value, (∀ v ∈ vs, ∃ p, v = .ref p) → ∃ ts : List Addr, vs = ts.map Value.ref
  | [], _ => ⟨[], rfl⟩
  | v :: vs, h => by
    obtain ⟨p, rfl⟩ := h v List.mem_cons_self
    obtain ⟨ts, e⟩ := enrefs_of vs fun u hu => h u (List.mem_cons_of_mem _ hu)
    exact ⟨p :: ts, by rw [e]; rfl⟩
theorem envals_refs : ∀ ts : List Addr, Vals (ts.map V.ref) (ts.map Value.ref)
  | [] => .nil
  | p :: ts => .cons rfl (envals_refs ts)
theorem enH_at {H : Hp} {n : Nat} {D : Addr} {ts : List Addr} {f : Nat → V} {j : Nat} {b : Addr} (e : ts[j]? = some b) (hb : n ≤ b) (hD : b ≠ D) (one : ∀ i, ts[i]? = some b → i = j) : enH H n D ts f b = some (.tup [.int ((j : Nat) : Int), f j]) := by
  unfold enH
  rw [if_neg (Nat.not_lt.mpr hb), if_neg hD, dif_pos ⟨j, e⟩]
  have z := one _ (Classical.choose_spec (⟨j, e⟩ : ∃ j : Nat, ts[j]? = some b))
  rw [z]
def tLstEn (K : PySem.W.Frag) (ta : TA) : TE := fun σ H Q => ta σ H fun vs H1 => ∃ a xs, vs = [.ref a] ∧ SqL K H1 a xs ∧ ∀ (D : Addr) (ts : List Addr) (H' : Hp), Same H1 H' → H1 D = none → H' D = some (.lst (ts.map V.ref)) → ts.length = xs.length →
  (∀ (i : Nat) (p : Addr) (x : V), ts[i]? = some p → xs[i]? = some x → H' p = some (.tup [.int ((i : Nat) : Int), x])) → Q (.ref D) H'
theorem pe_listEn {X : Cx} {e : Expr} {ta : TA} {p p2 pos pos2 : Pos} (hc : X.calm = true) (hg : Gl X "list") (hm : X.mg "list" = none) (hg2 : Gl X "enumerate") (hm2 : X.mg "enumerate" = none) (ha : PA X [e] ta) (hs : starEach [e] X.env = [(false, eval e X.env)] := by rfl)
    (na : starEach [.Call (.Name "enumerate" p2) [e] [] pos2] X.env = (false, eval (.Call (.Name "enumerate" p2) [e] [] pos2) X.env) :: starEach [] X.env := by rfl) : PE X (.Call (.Name "list" p) [.Call (.Name "enumerate" p2) [e] [] pos2] [] pos) (tLstEn X.K ta) := by
  refine ⟨fun pins s σ H Q I h => ?_⟩
  refine Call_ (ld_blt I hg hm boot_list (PyProof.Rows.callWith_type1 (args_cons ?_ na) na))
  refine Call_ (ld_blt I hg2 hm2 boot_enumerate (PyProof.Rows.callWith_type1 (thn (ha.run pos2 pins s σ H _ I h) fun us s1 ⟨vs, H1, I1, r1, q1⟩ => ?_) hs rfl))
  obtain ⟨a, xs, ex, hq, q⟩ := q1
  subst ex
  cases r1 with
  | cons r rr =>
    cases rr
    cases r
    obtain ⟨its, rv, p', hz⟩ := I1.list hq
    refine call_enumerate_list p'.isList fun h1 he hit hsz hk => args_nil ?_
    have hl1 : h1.IsList a its.toArray := p'.isList.at fun o y => hk _ _ y
    have st : EnSt (s1.heap.objs.size + 1) s1.heap.objs.size a its.toArray 0 h1 := ⟨⟨_, _, _, he, .inl ⟨rfl, rfl⟩⟩, hit, hl1, Nat.succ_ne_self _⟩
    refine call_listEn (s := { s1 with heap := h1 }) (I1.ok.hd hc) (by rw [List.size_toArray, ← rv.length]; exact hz) he st fun h' tk acc' c' kk hD ha' => ?_
    have lx := rv.length
    have n1 : h1.objs.size = s1.heap.objs.size + 1 + 1 := by rw [hsz]
    obtain ⟨ts, ets⟩ := enrefs_of acc'.toList fun v hv => by
      obtain ⟨j, hj⟩ := List.getElem?_of_mem hv
      have lt := (List.getElem?_eq_some_iff.mp hj).1
      rw [Array.length_toList, ha'.sz] at lt
      obtain ⟨p, tk, x, y1, _⟩ := ha'.at_ j lt
      rw [Array.getElem?_toList, y1] at hj
      exact ⟨p, (Option.some.inj hj).symm⟩
    have lts : ts.length = its.length := by
      have z := congrArg List.length ets
      rw [Array.length_toList, ha'.sz, List.length_map, List.size_toArray] at z
      exact z.symm
    -- what stands at each pair's address
    have at_ : ∀ (j : Nat) (b : Addr), ts[j]? = some b → ∃ (tk : Nat) (x : Value), its[j]? = some x ∧ h1.objs.size + 1 ≤ b ∧ h'.get? b = some { cls := .type "tuple", data := .seq #[.int j tk, x] } := fun j b e => by
      have lt := (List.getElem?_eq_some_iff.mp e).1
      obtain ⟨p, tk, x, y1, y2, y3, y4⟩ := ha'.at_ j (by rw [List.size_toArray]; omega)
      have z : acc'.toList[j]? = some (.ref b) := by rw [ets, List.getElem?_map, e]; rfl
      rw [Array.getElem?_toList, y1] at z
      cases z
      exact ⟨tk, x, by simpa using y2, y3, y4⟩
    have one : ∀ (i j : Nat) (b : Addr), ts[i]? = some b → ts[j]? = some b → i = j := fun i j b e1 e2 => by
      obtain ⟨_, _, _, _, g1⟩ := at_ i b e1
      obtain ⟨_, _, _, _, g2⟩ := at_ j b e2
      rw [g1] at g2
      injection g2 with g2
      injection g2 with _ _ g2
      injection g2 with g2
      have g3 := congrArg (fun a => a[0]?) g2
      simp at g3
      omega
    have old : ∀ b u, s1.heap.get? b = some u → h'.get? b = some u := fun b u y => kk b u (Nat.ne_of_lt (Nat.lt_succ_of_lt (Heap.lt_size y))) (Nat.ne_of_lt (Heap.lt_size y)) (hk _ _ y)
    have m : Many H1 (enH H1 s1.heap.objs.size h1.objs.size ts fun j => xs.getD j .non) s1.heap := ⟨fun b hb => if_pos hb⟩
    have nD : ∀ (j : Nat) (b : Addr), ts[j]? = some b → b ≠ h1.objs.size ∧ s1.heap.objs.size ≤ b := fun j b e => by
      obtain ⟨_, _, _, g, _⟩ := at_ j b e
      exact ⟨Nat.ne_of_gt g, Nat.le_trans (by omega) (Nat.le_of_succ_le g)⟩
    have pair : ∀ (j : Nat) (b : Addr) (x : V), ts[j]? = some b → xs[j]? = some x → enH H1 s1.heap.objs.size h1.objs.size ts (fun j => xs.getD j .non) b = some (.tup [.int ((j : Nat) : Int), x]) := fun j b x e ex => by
      have z := enH_at (H := H1) (D := h1.objs.size) (f := fun j => xs.getD j .non) e (nD j b e).2 (nD j b e).1 fun i e1 => one i j b e1 e
      have y : xs.getD j .non = x := by rw [List.getD_eq_getElem?_getD, ex]; rfl
      rw [z, y]
    have dl : enH H1 s1.heap.objs.size h1.objs.size ts (fun j => xs.getD j .non) h1.objs.size = some (.lst (ts.map V.ref)) := by
      have n2 : ¬ (h1.objs.size : Nat) < s1.heap.objs.size := by omega
      unfold enH
      rw [if_neg n2, if_pos rfl]
    have hok := m.hok (h' := h') I1.hok old fun b o hb e => by
      unfold enH at e
      rw [if_neg (Nat.not_lt.mpr hb)] at e
      by_cases c : b = h1.objs.size
      · rw [if_pos c] at e
        cases e
        subst c
        refine ⟨by rw [List.length_map, lts, ← lx]; exact hz, acc'.toList, c', by rw [ets]; exact envals_refs ts, ?_⟩
        rw [Array.toArray_toList]; exact hD
      · rw [if_neg c] at e
        by_cases q : ∃ j : Nat, ts[j]? = some b
        · rw [dif_pos q] at e
          cases e
          have sp := Classical.choose_spec q
          obtain ⟨tk, x, g1, _, g2⟩ := at_ _ b sp
          have lt := (List.getElem?_eq_some_iff.mp sp).1
          obtain ⟨v, hv⟩ : ∃ v, xs[Classical.choose q]? = some v := ⟨_, List.getElem?_eq_getElem (by omega)⟩
          obtain ⟨u, hu, ru⟩ := rv.get hv
          rw [g1] at hu
          cases hu
          have y : xs.getD (Classical.choose q) .non = v := by rw [List.getD_eq_getElem?_getD, hv]; rfl
          dsimp only
          rw [y]
          exact ⟨by show 2 ≤ sizeLine; decide, [.int _ tk, x], .cons ⟨_, rfl⟩ (.cons ru .nil), ⟨_, g2, rfl, _, rfl⟩⟩
        · rw [dif_neg q] at e; cases e
    refine ⟨.ref h1.objs.size, _, I1.un (t' := tk) (m.un I1.hok old) hok, rfl, q _ ts _ (m.ext I1.hok) (I1.hok.fresh (by omega)) dl (lts.trans lx.symm) pair⟩
end L2

/-! Z5: sorted(a tuple of whole numbers), list.extend(a tuple). -/
namespace L2
open PySem PySem.Spec PyProof.Rows SrtO
section
variable {prog : Program} {w : World} {A : Around} {E : Value → Shared → Prop} {s : Shared}
/-- what is gathered from a tuple -/
theorem gather_tup {t : Addr} {vs : List Value} {G : List Value → Shared → Prop} (ht : IsTup s.heap t vs.toArray) (hz : vs.length ≤ sizeLine)
    (hG : G vs { s with heap := (s.heap.push (seqObj "list" #[] 0)).update s.heap.objs.size (Obj.mapSeq (· ++ vs.toArray)) }) : wpAny (model prog w) A (collect (.ref t)) G E s := by
  obtain ⟨o, ho, hc, n, hd⟩ := ht
  have op : (s.heap.push (seqObj "list" #[] 0)).get? t = some o := Heap.get?_push_of_some _ ho
  have on : (s.heap.push (seqObj "list" #[] 0)).get? s.heap.objs.size = some (seqObj "list" #[] 0) := Heap.get?_push_size _ rfl
  have ze : (#[] ++ vs.toArray : Array Value).size ≤ sizeLine + 1 := by rw [Array.size_append, List.size_toArray]; exact Nat.le_succ_of_le (by simpa using hz)
  unfold collect
  refine wpAny_bind (wpAny_runValue (codeAny_builtin entry_proto_collect' (wpAny_bind (wpAny_newList (wpAny_pure ⟨Code.quiet_builtin _ (by decide +kernel), codeAny_builtin entry_list_iadd' ?_⟩)))))
  show wpAny _ _ (Builtin.List.listExtendWith (.ref s.heap.objs.size) (.ref t) (.ref s.heap.objs.size)) _ _ ⟨s.heap.push (seqObj "list" #[] 0), _, _, _, _⟩
  unfold Builtin.List.listExtendWith
  refine wpAny_bind (wpAny_typeOf (T := "tuple") ⟨o, op, hc⟩ ?_)
  have et : (Value.type "tuple" == Value.type "tuple") = true := rfl
  rw [if_pos (by rw [et]; simp)]
  refine wpAny_bind (listItems_at op hd (wpAny_bind (listItems_at (xs := #[]) (n := 0) on rfl ?_)))
  rw [if_neg (by simp)]
  refine wpAny_bind (listUpdate_at (xs := #[]) (n := 0) on rfl (wpAny_pure ?_) (Nat.zero_le _) ze)
  show wpAny _ _ (load s.heap.objs.size >>= _) _ _ ⟨(s.heap.push (seqObj "list" #[] 0)).update s.heap.objs.size (Obj.mapSeq (· ++ vs.toArray)), _, _, _, _⟩
  refine wpAny_bind (wpAny_load (get?_update_seq on _) ?_)
  show wpAny _ _ (pure (#[] ++ vs.toArray : Array Value).toList) _ _ _
  have ev : (#[] ++ vs.toArray : Array Value).toList = vs := by simp
  rw [ev]
  exact wpAny_pure hG
/-- sorted(a tuple) -/
theorem sorted_tup {t : Addr} {vs : List Value} {lt : Value → Value → Bool} {G : Value → Shared → Prop} (O : Swo lt) (ht : IsTup s.heap t vs.toArray) (hz : vs.length ≤ sizeLine)
    (hS : 2 ≤ vs.length → ∀ (g : Heap) (a : Addr), SortableO prog w A.in1.in1 { s with heap := g } a vs lt)
    (hG : ∀ out : List Value, Srtd lt out → Stb lt out vs → G (.ref (s.heap.objs.size + 1)) { s with heap := sortedAll s.heap vs out.toArray }) : wpAny (model prog w) A (call (.builtin "sorted") [.ref t]) G E s := by
  refine Calls.call_function_entry kind_sorted plain_sorted entry_sorted (args_sorted1 _) ?_
  unfold Builtin.«sorted»
  refine wpAny_bind (m := checkCount "sorted" 1 1 _) (wpAny_pure (wpAny_bind (gather_tup ht hz (wpAny_bind (wpAny_newList ?_ hz)))))
  have sz : ((s.heap.push (seqObj "list" #[] 0)).update s.heap.objs.size (Obj.mapSeq (· ++ vs.toArray))).objs.size = s.heap.objs.size + 1 := by rw [Heap.size_update, size_push']
  have at1 : (((s.heap.push (seqObj "list" #[] 0)).update s.heap.objs.size (Obj.mapSeq (· ++ vs.toArray))).push (seqObj "list" vs.toArray 0)).get? (s.heap.objs.size + 1) = some (seqObj "list" vs.toArray 0) := sz ▸ Heap.get?_push_size _ rfl
  show wpAny _ _ _ _ _ ⟨((s.heap.push (seqObj "list" #[] 0)).update s.heap.objs.size (Obj.mapSeq (· ++ vs.toArray))).push (seqObj "list" vs.toArray 0), _, _, _, _⟩
  rw [sz]
  refine wpAny_bind (wpAny_holding (wpAny_call_entry slot_list_sort ⟨_, at1, rfl⟩ entry_list_sort (list_sort_ord O at1 hz (fun h2 => hS h2 _ _) fun out k1 k2 => ⟨_, rfl, wpAny_pure ⟨_, rfl, hG out k1 k2⟩⟩) (args_list_sort _)))
end
/-- sorted(t), t a tuple of whole numbers -/
def rSortedTup (K : PySem.W.Frag) : List V → Hp → VK → Prop := fun vs H Q => ∃ (a : Addr) (ns : List Int), vs = [V.ref a] ∧ SqT K H a (ns.map V.int) ∧
  ∀ (ms : List Int) (p : Addr), ms.Perm ns → ms.Pairwise (· ≤ ·) → H p = none → Q (.ref p) (upd H p (.lst (ms.map V.int)))
/-- xs.extend(t), t a tuple -/
def rExtendT (K : PySem.W.Frag) : V → List V → Hp → VK → Prop := fun x vs H Q => ∃ l b xs zs, x = .ref l ∧ vs = [.ref b] ∧ H l = some (.lst xs) ∧ SqT K H b zs ∧ xs.length + zs.length ≤ sizeLine ∧ Q .non (upd H l (.lst (xs ++ zs)))
section
variable {X : Cx}
theorem cr_sortedTup : CallR X (.builtin "sorted") (rSortedTup X.K) := by
  intro pins s σ H vs us Q I r h
  obtain ⟨a, ns, rfl, hs, q⟩ := h
  obtain ⟨its, rv, pl, hz⟩ := I.tuple hs
  rw [Vals.ref1 r]
  have hi := rv.ints
  rw [rv.length] at hz
  refine sorted_tup swo_int pl hz (fun h2 g a' => ints_sortable hi h2) fun out k1 k2 => ?_
  obtain ⟨j1, j2, j3⟩ := ints_out hi k1 k2
  obtain ⟨e, he⟩ := sortedAll_at s.heap its out.toArray
  have hl : ((out.map iv).map V.int).length ≤ sizeLine := by
    have z := j2.length_eq
    have y := rv.length
    rw [List.length_map] at y ⊢
    omega
  exact ⟨.ref _, _, I.laid (t' := s.toks) (o := .lst ((out.map iv).map V.int)) (fun _ _ => sortedAll_old) (Nat.le_succ _) ⟨hl, out, e, vals_of_ints j1, he⟩, rfl, q _ _ j2 j3 (I.hok.fresh (Nat.le_succ _))⟩
theorem mt_extendT : MtM X "list.extend" (rExtendT X.K) := by
  intro pins s σ H x vs v us Q I rx rv h
  obtain ⟨l, b, xs, zs, rfl, rfl, hH, hB, hz, q⟩ := h
  cases rx
  obtain ⟨u, rfl, ru⟩ := rv.one
  cases ru
  obtain ⟨z, its, n, r, hl, e⟩ := I.lstM hH
  obtain ⟨its2, r2, pl, z2⟩ := I.tuple hB
  obtain ⟨o, ho, hc, n2, hd⟩ := pl
  have l2 := r2.length
  have zs2 : its.toArray.size + its2.toArray.size ≤ sizeLine := by rw [List.size_toArray, List.size_toArray]; omega
  refine wpAny_call_entry F.slot_list_extend ⟨_, e, rfl⟩ F.entry_list_extend ?_ (F.args_list_extend_2 _ _)
  show wpAny _ _ (Builtin.List.listExtendWith (.ref l) (.ref b) .none) _ _ s
  unfold Builtin.List.listExtendWith
  refine wpAny_bind (wpAny_typeOf (T := "tuple") ⟨o, ho, hc⟩ ?_)
  have et : (Value.type "tuple" == Value.type "tuple") = true := rfl
  rw [if_pos (by rw [et]; simp)]
  refine wpAny_bind (listItems_at ho hd (wpAny_bind (listItems_at e rfl ?_)))
  rw [if_neg (by rw [notLongL zs2, Bool.and_false]; exact Bool.false_ne_true)]
  refine wpAny_bind (listUpdate_at e rfl (wpAny_pure ?_) (by omega) (by rw [Array.size_append]; omega))
  refine ⟨_, rfl, .non, _, I.lset (its' := its ++ its2) hH e (by simp) (r.append r2) ?_, rfl, q⟩
  rw [List.length_append]
  omega
end
theorem pi_tupK {X : Cx} (K : PySem.W.Frag) {tg l : Expr} {tl : TE} (hl : PE X l tl) (e : X.K = K := by rfl) : PI X tg l (iTup K tl) := by subst e; exact pi_tup hl
theorem pi_listK {X : Cx} (K : PySem.W.Frag) {tg l : Expr} {tl : TE} (hl : PE X l tl) (e : X.K = K := by rfl) : PI X tg l (iList K tl) := by subst e; exact pi_list hl
end L2

/-! Z6: d.get(y), y None or a whole number or a text, over a dict whose keys are numbers and texts. -/
namespace L2
open PySem PySem.Spec PyProof.Rows
section
variable {X : Cx}
theorem leaf_keys {P : Program} {w : World} {es : Array DictEntry} (h : KeysOf (mixKind P w) es) : KeysOf (leafKind P w) es := fun e he => by
  obtain ⟨k, k1, k2⟩ := h e he
  rcases keyIs_shape k1 with ⟨i, t, rfl, ek⟩ | ⟨x, t, rfl, ek⟩
  · refine ⟨.num i, ?_, k2⟩
    rw [ek]
    exact decide_eq_true rfl
  · refine ⟨.text x, ?_, k2⟩
    rw [ek]
    exact keyIs_str x t
theorem no_none {P : Program} {w : World} {es : Array DictEntry} (h : KeysOf (mixKind P w) es) : findBy (leafKind P w).is es .none = none := by
  unfold findBy
  have z : es.find? (fun e => (leafKind P w).is .none e.key) = none := by
    rw [Array.find?_eq_none]
    intro e he
    obtain ⟨k, k1, _⟩ := h e he
    rcases keyIs_shape k1 with ⟨i, t, _, ek⟩ | ⟨x, t, _, ek⟩
    · rw [ek]; exact Bool.false_ne_true
    · rw [ek]; exact Bool.false_ne_true
  rw [z]; rfl
theorem get_non {pins : List (Addr × Obj)} {σ : St} {H : Hp} {s : Shared} {A : Around} {E : Value → Shared → Prop} {a : Addr} {kvs : List (Key × V)} {Q : Value → Shared → Prop} (I : Inv X pins σ H s) (e : Rd H a (.dK kvs)) (h : ∀ s', Inv X pins σ H s' → Q .none s') :
    wpAny (model X.prog X.w) A (call (.builtin "dict.get") [.ref a, .none]) Q E s := by
  obtain ⟨z, hd, vs, rel, dd⟩ := dk_rd I.hok e
  obtain ⟨o, es, ep, h1, h2, h3, h4, _⟩ := id dd
  have m : s.heap.MapOf (leafKind X.prog X.w) a (findBy (leafKind X.prog X.w).is es) := ⟨o, es, ep, h1, h2, h3, leaf_keys h4, fun _ => rfl⟩
  refine call_meetsIn PySem.F.slot_dict_get dd.typeIs PySem.F.entry_dict_get (PySem.F.args_dict_get_2 _ _) (meets_dict_get (leafKind X.prog X.w) (k := .none) (key := .none) a rfl hd) ⟨_, m, ?_⟩
  rw [no_none h4]
  exact h _ (I.tok _)
/-- d.get(y): a number's or a text's place, or None -/
def tDGetO (td ty : TE) : TE := fun σ H Q => td σ H fun x H1 => ∃ a, x = .ref a ∧ IsD H1 a ∧ ty σ H1 fun y H2 => (y = .non ∧ (∃ kvs, H2 a = some (.dK kvs)) ∧ Q .non H2) ∨ ∃ o, DGet H2 a y o ∧ Q (o.getD .non) H2
theorem pe_dgetO {o e : Expr} {apos cpos : Pos} {td ty : TE} (hu : X.A.units + 1 < cLine) (ho : PE X o td) (he : PE X e ty) (m : M1 X o "get" apos e cpos) : PE X (.Call (.Attribute o "get" apos) [e] [] cpos) (tDGetO td ty) := by
  refine ⟨fun pins s σ H Q I h => ?_⟩
  refine wpAny_Call_method m.base m.few m.line PySem.F.plainAttrs_dict PySem.F.slot_dict_get PySem.F.type_dict_get (thn (ho.run pins s σ H _ I h) fun u s1 ⟨x, H1, I1, rx, a, ex, d, q1⟩ => ?_)
  subst ex
  cases (show u = Value.ref a from rx)
  obtain ⟨g1, g2, _⟩ := isD_at I1 d
  refine ⟨g1, g2, ?_⟩
  rw [m.trees]
  refine Calls.callWith_builtin rfl (Calls.evalArgs_plain (Calls.spliced_cons (thn (he.run pins s1 σ H1 _ I1 q1) fun iv s2 ⟨y, H2, I2, ry, alt⟩ => Calls.spliced_nil ?_)))
  rcases alt with ⟨rfl, ⟨kvs, ek⟩, q2⟩ | ⟨ov, g, q2⟩
  · cases (show iv = Value.none from ry)
    exact get_non I2 (.inl ek) fun s3 I3 => ⟨.non, H2, I3, rfl, q2⟩
  · exact d_get1 hu I2 g ry fun w' s3 I3 rw' => ⟨_, H2, I3, rw', q2⟩
/-- a walk that one of two rules tells -/
theorem pi_or {tg it : Expr} {a b : TI} (h : PI X tg it a) (h2 : PI X tg it b) : PI X tg it (fun σ H R => a σ H R ∨ b σ H R) := ⟨fun pins s σ H R I q => q.elim (h.run pins s σ H R I) (h2.run pins s σ H R I)⟩
/-- a value that one of two rules tells -/
theorem pe_or2 {e : Expr} {a b : TE} (h : PE X e a) (h2 : PE X e b) : PE X e (fun σ H Q => a σ H Q ∨ b σ H Q) := ⟨fun pins s σ H Q I q => q.elim (h.run pins s σ H Q I) (h2.run pins s σ H Q I)⟩
end
end L2

/-! Z7: {k: v for a in xs for b in ys}: two for, one test at most of each. -/
namespace L2
open PySem PySem.Spec PyProof.Rows
/-- what holds in the block of a comprehension, whatever it stands on -/
abbrev InBlk (X : Cx) (scope : Scope) (F : Cx → Prop) : Prop := ∀ (s : Shared) (H : Hp) (C : Addr) (cl : List (Str × Addr)) (fp : List Addr), F (X.blk s H scope (compEnvC scope cl C X.env) fp)
def tDc2 (wA : TI) (gA : TG) (qA : TT) (wB : TI) (gB : TG) (qB : TT) (tk tv : TE) (us ub : List Nat) : TE := fun σ H Q => wA σ H fun JA G => ∀ D, G D = none → ∃ W : Nat → Nat → Hp → Prop, (∃ m, W 0 m (upd G D (.dK []))) ∧ ∀ i m H, W i m H →
  (JA.stop i H ∧ Q (.ref D) H) ∨ (JA.go i H ∧ ∃ Nx : Hp → Prop, (∀ H', Nx H' → ∃ n, n < m ∧ W (i + 1) n H') ∧ ∀ x H', JA.yld i H x H' → gA x (wipe σ us) H' fun σ2 H2 => wipe σ2 us = wipe σ us ∧ qA σ2 H2 fun b H3 =>
    if b = true then wB σ2 H3 fun JB H4 => ∃ V : Nat → Nat → Hp → Prop, (∃ m, V 0 m H4) ∧ ∀ j k H, V j k H → (JB.stop j H ∧ Nx H) ∨ (JB.go j H ∧ ∃ Ny : Hp → Prop, (∀ H', Ny H' → ∃ n, n < k ∧ V (j + 1) n H') ∧
      ∀ x H', JB.yld j H x H' → gB x (wipe σ2 ub) H' fun σ3 H5 => wipe σ3 ub = wipe σ2 ub ∧ qB σ3 H5 fun b H6 =>
        if b = true then tk σ3 H6 fun y H7 => tv σ3 H7 fun z H8 => ∃ kvs k, y = kV k ∧ H8 D = some (.dK kvs) ∧ kvs.length < sizeLine ∧ Ny (upd H8 D (.dK (putK kvs k z))) else Ny H6)
    else Nx H3)
/-- the second for's start -/
theorem dc_start1 {prog : Program} {w : World} {A : Around} {R : Result → Shared → Prop} {s : Shared} {kx vx tA iA tB iB : Expr} {fA fB : List Expr} {scope : Scope} {pos : Pos} {it acc : Value} {env : Env} (h0 : codeAny (model prog w) A (.compLoop (.DictComp kx vx [⟨tA, iA, fA, 0⟩, ⟨tB, iB, fB, 0⟩] scope pos) 1 it acc env) R s)
    (h : wpAny (model prog w) A (pyIter it) (fun j s' => codeAny (model prog w) A (.compLoop (.DictComp kx vx [⟨tA, iA, fA, 0⟩, ⟨tB, iB, fB, 0⟩] scope pos) 1 j acc env) R s') (notedBy (model prog w) A env fun x s' => R (.error x) s') s) :
    codeAny (model prog w) A (.compStart (.DictComp kx vx [⟨tA, iA, fA, 0⟩, ⟨tB, iB, fB, 0⟩] scope pos) 1 it acc env) R s := by
  refine codeAny_of_tree ?_
  show wpAny _ _ ((compStart (.DictComp kx vx [⟨tA, iA, fA, 0⟩, ⟨tB, iB, fB, 0⟩] scope pos) 1 it acc env).onRaise fun x => do noteFrame x env; standAt theWindowsPlace) _ _ s
  refine wpAny_notedAt ?_
  unfold compStart
  show wpAny _ _ (ask >>= _) _ _ s
  refine wpAny_bind (wpAny_askSetting (wpAny_ite ?_))
  have late : wpAny (model prog w) A (pyIter it) (fun j s' => codeAny (model prog w) A (.compLoop (.DictComp kx vx [⟨tA, iA, fA, 0⟩, ⟨tB, iB, fB, 0⟩] scope pos) 1 j acc env) R s') (notedBy (model prog w) A env fun x s' => R (.error x) s') s := h
  split
  · first | exact wpAny_bind (wpAny_pure (wpAny_pure ⟨rfl, h0⟩)) | exact wpAny_pure ⟨rfl, h0⟩
  · first
      | exact wpAny_bind (wpAny_rule (wpAny_bind (wpAny_standAt (wpAny_bind (wpAny_mono late (fun _ _ q => wpAny_pure ⟨rfl, q⟩) fun _ _ q => q)))))
      | (refine wpAny_bind (wpAny_rule ?_); show wpAny _ _ (standAt iB.pos >>= _) _ _ s; exact wpAny_bind (wpAny_standAt (wpAny_bind (wpAny_mono late (fun _ _ q => wpAny_pure ⟨rfl, q⟩) fun _ _ q => q))))
section
variable {X : Cx}
theorem pe_dc2 {kx vx tA iA tB iB : Expr} {fA fB : List Expr} {scope : Scope} {own : List (Str × Nat)} {ub : List Nat} {pos : Pos} {wA wB : TI} {gA gB : TG} {qA qB : TT} {tk tv : TE} (hc : X.calm = true) (nd : X.N.Nodup) (pA : PI X tA iA wA) (ok : BlkOk X.N X.env.scope scope own) (sub : ∀ i ∈ ub, i ∈ own.map (·.2))
    (aG : InBlk X scope fun Y => PG Y tA gA) (aT : InBlk X scope fun Y => PTs Y fA qA) (bI : InBlk X scope fun Y => PI Y tB iB wB) (bG : InBlk X scope fun Y => PG Y tB gB) (bT : InBlk X scope fun Y => PTs Y fB qB) (bK : InBlk X scope fun Y => PE Y kx tk) (bV : InBlk X scope fun Y => PE Y vx tv)
    (cA : ∀ x, foldedSetIterable iA X.env x = pure x := by intro _; rfl) (cB : ∀ env x, foldedSetIterable iB env x = pure x := by intro _ _; rfl) : PE X (.DictComp kx vx [⟨tA, iA, fA, 0⟩, ⟨tB, iB, fB, 0⟩] scope pos) (tDc2 wA gA qA wB gB qB tk tv (own.map (·.2)) ub) := by
  refine ⟨fun pins s σ H Q I h => ?_⟩
  rw [arm_eval_DictComp]
  have cap : ∀ y ∈ scope.names, y.2 = .free → ∃ c, X.env.cells.lookup y.1 = some c := fun y hy e => (ok.free y hy e).elim (fun k => I.ok.has _ (.inl k)) fun k => I.ok.has _ (.inr k)
  refine wpAny_comprehension_free (use := none) rfl cA (closure_ok cap) ok.kind (fun y hy e => by rw [ok.uniq y hy, e]) (thn (pA.run pins s σ H _ I h) fun xv s1 hx => thn hx fun itv s2 got => ?_)
  obtain ⟨ia, fa, na, JA, G2, rfl, I2, TA, sa2, fr2, body⟩ := got
  refine wpAny_newObj_type (newEnv_comp ?_)
  generalize eD : s2.heap.objs.size = D
  obtain ⟨W, ⟨m0, w0⟩, turn⟩ := body D (I2.hok.fresh (Nat.le_of_eq eD))
  generalize es3 : ({ s2 with heap := s2.heap.push { cls := .type "dict", data := .dict #[] } } : Shared) = s3
  have I3 : Inv X pins σ (upd G2 D (.dK [])) s3 := by
    subst es3
    exact I2.laid (t' := s2.toks) (fun _ _ e => Heap.get?_push_of_some _ e) (Nat.le_of_eq eD) (by rw [← eD]; exact dk_empty s2.heap I2.big)
  have h3 : s3.heap = s2.heap.push { cls := .type "dict", data := .dict #[] } := es3 ▸ rfl
  have fr3 : ∀ b ∈ fa, FpOk X pins (upd G2 D (.dK [])) b ∧ b < s3.heap.objs.size := fun b hb => by
    obtain ⟨_, e, _⟩ := TA.obj _ _ sa2 b hb
    have lt : b < s2.heap.objs.size := Heap.lt_size e
    have ne : b ≠ D := by rw [← eD]; exact Nat.ne_of_lt lt
    exact ⟨⟨(upd_ne ne).trans (fr2 b hb).1, (fr2 b hb).2⟩, by rw [h3, Heap.size_push]; exact Nat.lt_succ_of_lt lt⟩
  have sa3 : na 0 s3.heap := TA.keep _ _ _ sa2 fun b _ o e => h3 ▸ Heap.get?_push_of_some _ e
  have I4 := block_start I3 ok nd fr3
  generalize ecl : cellsFrom (s3.heap.objs.size + 1) scope.names (cloFrom X.env.cells scope.names []) = cl at I4
  have xG := aG s3 (upd G2 D (.dK [])) s3.heap.objs.size cl fa
  have xT := aT s3 (upd G2 D (.dK [])) s3.heap.objs.size cl fa
  have yI := bI s3 (upd G2 D (.dK [])) s3.heap.objs.size cl fa
  have yG := bG s3 (upd G2 D (.dK [])) s3.heap.objs.size cl fa
  have yT := bT s3 (upd G2 D (.dK [])) s3.heap.objs.size cl fa
  have yK := bK s3 (upd G2 D (.dK [])) s3.heap.objs.size cl fa
  have yV := bV s3 (upd G2 D (.dK [])) s3.heap.objs.size cl fa
  show codeAny _ _ (.compStart (.DictComp kx vx [⟨tA, iA, fA, 0⟩, ⟨tB, iB, fB, 0⟩] scope pos) 0 (.ref ia) (.ref D) (compEnvC scope cl s3.heap.objs.size X.env)) (compPost (model X.prog X.w) X.A X.xe none (EP X pins σ Q) (.ref D) s3.heap.objs.size) ⟨pushCells (s3.heap.push { cls := .type "dict", data := .dict #[] }) scope.names, s3.gens, s3.drawn, s3.toks, s3.os⟩
  have nofa : ∀ b ∈ fa, (upd G2 D (.dK [])) b = none := fun b hb => (fr3 b hb).1.1
  generalize ece : compEnvC scope cl s3.heap.objs.size X.env = ce at I4 xG xT yI yG yT yK yV ⊢
  have cloc : ce.locals = s3.heap.objs.size := ece ▸ rfl
  generalize eG3 : upd G2 D (.dK []) = G3 at I3 I4 xG xT yI yG yT yK yV w0 nofa fr3
  generalize es4 : (⟨pushCells (s3.heap.push { cls := .type "dict", data := .dict #[] }) scope.names, s3.gens, s3.drawn, s3.toks, s3.os⟩ : Shared) = s4 at I4 ⊢
  have sa4 : na 0 s4.heap := TA.keep _ _ _ sa3 fun b _ o e => es4 ▸ pushCells_keeps _ _ _ _ (Heap.get?_push_of_some _ e)
  have held : ∀ {σ' : L2.St} {H' : Hp} {s' : Shared}, Inv (X.blk s3 G3 scope ce fa) [] σ' H' s' → (∀ b ∈ fa, H' b = none) → ∀ b ∈ fa, FpOk (X.blk s3 G3 scope ce fa) [] H' b := fun I' hn b hb =>
    ⟨hn b hb, (I'.ok.exf b hb).1, I'.ok.exfs b hb, .inl hb, fun x c e => (I'.ok.exf b hb).2 x c e, fun p (hp : p ∈ ([] : List (Addr × Obj)) ++ []) => by simp at hp⟩
  have loop : codeAny (model X.prog X.w) X.A (.compLoop (.DictComp kx vx [⟨tA, iA, fA, 0⟩, ⟨tB, iB, fB, 0⟩] scope pos) 0 (.ref ia) (.ref D) ce) (compPost (model X.prog X.w) X.A X.xe none (EP X pins σ Q) (.ref D) s3.heap.objs.size) s4 := by
    refine codeAny_loop rfl (fun n s' => ∃ i H', Inv (X.blk s3 G3 scope ce fa) [] (wipe σ (own.map (·.2))) H' s' ∧ na i s'.heap ∧ (∀ b ∈ fa, H' b = none) ∧ W i n H') (fun n s5 ⟨i, H5, I5, sa5, no5, w5⟩ => ?_) m0 ⟨0, G3, I4, sa4, nofa, w0⟩
    show wpAny _ X.A ((compTurn (.DictComp kx vx [⟨tA, iA, fA, 0⟩, ⟨tB, iB, fB, 0⟩] scope pos) 0 (.ref ia) (.ref D) ce).onRaise fun x => do noteFrame x ce; theTreesLotGoes x) _ _ s5
    refine wpAny_noted ?_
    show wpAny _ _ (standAt iA.pos >>= _) _ _ _
    refine wpAny_bind (wpAny_standAt ?_)
    show wpAny _ _ (pyNext (.ref ia) >>= _) _ _ _
    rcases turn i n H5 w5 with ⟨stop, fin⟩ | ⟨go, Nx, down, step⟩
    · refine wpAny_bind (thnF (TA.done (X.blk s3 G3 scope ce fa) rfl rfl rfl hc i [] s5 _ H5 (fun _ _ => False) I5 (held I5 no5) sa5 stop) fun r s6 ⟨er, I6⟩ => ?_)
      subst er
      refine wpAny_pure ?_
      -- back in the def
      have I7 : Inv X pins σ H5 s6 := I3.call' (ch := fa) I6.os I6.base I6.hok I6.bare fun b hb => by
        obtain ⟨_, p1, _, p3, p4, p5⟩ := (fr3 b hb).1
        exact ⟨p3, p1, p4, p5⟩
      have free : H5 s3.heap.objs.size = none := cloc ▸ (show H5 ce.locals = none from I6.free)
      obtain ⟨m, (ns : s6.heap.Ns ce.locals m), _⟩ := I6.loc
      rw [cloc] at ns
      obtain ⟨f0, f1, f2, f3, f4, f5⟩ := I3.fpOk (Nat.le_refl _) free
      exact ⟨m, ns, fun _ sb => ⟨.ref D, H5, I7.turned (t' := s6.toks) (fun b o hb e => (sb.2 b hb).trans e) f0 f1 f3 f4 f5, rfl, fin⟩⟩
    · refine wpAny_bind (thnF (TA.item (X.blk s3 G3 scope ce fa) rfl rfl rfl hc i [] s5 _ H5 (fun _ _ => False) I5 (held I5 no5) sa5 go) fun r s6 ⟨u, er, g6⟩ => ?_)
      subst er
      show wpAny _ _ (letOwnedTupleGo tA (.ref ia) u >>= _) _ _ _
      refine wpAny_bind (thnF g6 fun _ s7 ⟨x, H7, I7, r7, y7, sa7, no7⟩ => ?_)
      refine wpAny_bind (thnF (xG.run _ s7 _ H7 x u _ (I7.pinned (held I7 no7) (TA.obj _ _ sa7)) r7 (step x H7 y7)) fun _ s8 ⟨σ8, H8, I8, hw8, q8⟩ => ?_)
      refine wpAny_bind (thnF (xT.run _ s8 σ8 H8 _ I8 q8) fun b s9 ⟨H9, I9, q9⟩ => ?_)
      -- the turn's end
      have back : ∀ {σ9 : L2.St} {s' : Shared} {H' : Hp}, Inv (X.blk s3 G3 scope ce fa) ([] ++ pinsAt fa s7.heap) σ9 H' s' → (wipe σ (own.map (·.2))).length = σ9.length → (∀ (j : Nat) v, (wipe σ (own.map (·.2)))[j]? = some (some v) → σ9[j]? = some (some v)) → Nx H' →
          ∃ m, m < n ∧ ∃ i H', Inv (X.blk s3 G3 scope ce fa) [] (wipe σ (own.map (·.2))) H' s' ∧ na i s'.heap ∧ (∀ b ∈ fa, H' b = none) ∧ W i m H' := fun {σ9 s' H'} I' hl hk nx => by
        obtain ⟨m', lt, w'⟩ := down H' nx
        have stay : ∀ b ∈ fa, ∀ o, s7.heap.get? b = some o → s'.heap.get? b = some o ∧ H' b = none := fun b hb o e => by
          have z := I'.pin (b, o) (List.mem_append_right _ (List.mem_append_right _ (mem_pinsAt hb e)))
          exact ⟨z.1, z.2.1⟩
        exact ⟨m', lt, i + 1, H', (I'.unpinned (pins := [])).weak hl hk, TA.keep _ _ _ sa7 fun b hb o e => (stay b hb o e).1, fun b hb => (TA.obj _ _ sa7 b hb).elim fun o z => (stay b hb o z.1).2, w'⟩
      have len8 : (wipe σ (own.map (·.2))).length = σ8.length := by rw [← hw8, wipe_length]
      have hk8 : ∀ (j : Nat) v, (wipe σ (own.map (·.2)))[j]? = some (some v) → σ8[j]? = some (some v) ∧ ¬ j ∈ own.map (·.2) := fun j v e => wipe_some (hw8 ▸ e)
      cases b with
      | false =>
        simp only [Bool.false_eq_true, if_false] at q9 ⊢
        exact wpAny_pure ⟨rfl, back I9 len8 (fun j v e => (hk8 j v e).1) q9⟩
      | true =>
        simp only [if_true] at q9 ⊢
        refine wpAny_bind (thnF (yI.run _ s9 σ8 H9 _ I9 q9) fun xv1 s10 hx1 => ?_)
        refine wpAny_bind (wpAny_standAt (wpAny_bind (wpAny_of_eq (cB ce xv1) (wpAny_bind (wpAny_holding (thnF hx1 fun itv1 s11 got1 => ?_))))))
        obtain ⟨ib, fb, nb, JB, H11, rfl, I11, TB, sb11, fr11, Vw, ⟨m1, v1⟩, turnB⟩ := got1
        have heldB : ∀ {H' : Hp}, (∀ b ∈ fb, H' b = none) → ∀ b ∈ fb, FpOk (X.blk s3 G3 scope ce fa) ([] ++ pinsAt fa s7.heap) H' b := fun hn b hb => ⟨hn b hb, (fr11 b hb).2⟩
        have hk9 : ∀ (j : Nat) v, (wipe σ (own.map (·.2)))[j]? = some (some v) → (wipe σ8 ub)[j]? = some (some v) := fun j v e => by
          rw [wipe_out fun z => (hk8 j v e).2 (sub j z)]
          exact (hk8 j v e).1
        -- the second for's own loop
        have inner : codeAny (model X.prog X.w) X.A (.compLoop (.DictComp kx vx [⟨tA, iA, fA, 0⟩, ⟨tB, iB, fB, 0⟩] scope pos) 1 (.ref ib) (.ref D) ce)
            (fun r s' => match r with
              | .ok _ => ∃ m, m < n ∧ ∃ i H', Inv (X.blk s3 G3 scope ce fa) [] (wipe σ (own.map (·.2))) H' s' ∧ na i s'.heap ∧ (∀ b ∈ fa, H' b = none) ∧ W i m H'
              | .error _ => False) s11 := by
          refine codeAny_loop rfl (fun k s' => ∃ j H', Inv (X.blk s3 G3 scope ce fa) ([] ++ pinsAt fa s7.heap) (wipe σ8 ub) H' s' ∧ nb j s'.heap ∧ (∀ b ∈ fb, H' b = none) ∧ Vw j k H') (fun k s12 ⟨j, H12, I12, sb12, no12, v12⟩ => ?_) m1 ⟨0, H11, I11.weak (wipe_length _ _) (fun j v e => (wipe_some e).1), sb11, fun b hb => (fr11 b hb).1, v1⟩
          show wpAny _ X.A ((compTurn (.DictComp kx vx [⟨tA, iA, fA, 0⟩, ⟨tB, iB, fB, 0⟩] scope pos) 1 (.ref ib) (.ref D) ce).onRaise fun x => do noteFrame x ce; theTreesLotGoes x) _ _ s12
          refine wpAny_noted ?_
          show wpAny _ _ (standAt iB.pos >>= _) _ _ _
          refine wpAny_bind (wpAny_standAt ?_)
          show wpAny _ _ (pyNext (.ref ib) >>= _) _ _ _
          rcases turnB j k H12 v12 with ⟨stop1, nx1⟩ | ⟨go1, Ny, down1, step1⟩
          · refine wpAny_bind (thnF (TB.done (X.blk s3 G3 scope ce fa) rfl rfl rfl hc j _ s12 (wipe σ8 ub) H12 (fun _ _ => False) I12 (heldB no12) sb12 stop1) fun r s13 ⟨er, I13⟩ => ?_)
            subst er
            exact wpAny_pure (back I13 (len8.trans (wipe_length σ8 ub).symm) hk9 nx1)
          · refine wpAny_bind (thnF (TB.item (X.blk s3 G3 scope ce fa) rfl rfl rfl hc j _ s12 (wipe σ8 ub) H12 (fun _ _ => False) I12 (heldB no12) sb12 go1) fun r s13 ⟨u1, er, g13⟩ => ?_)
            subst er
            show wpAny _ _ (letOwnedTupleGo tB (.ref ib) u1 >>= _) _ _ _
            refine wpAny_bind (thnF g13 fun _ s14 ⟨x1, H14, I14, r14, y14, sb14, no14⟩ => ?_)
            refine wpAny_bind (thnF (yG.run _ s14 (wipe σ8 ub) H14 x1 u1 _ (I14.pinned (heldB no14) (TB.obj _ _ sb14)) r14 (step1 x1 H14 y14)) fun _ s15 ⟨σ15, H15, I15, hw15, q15⟩ => ?_)
            refine wpAny_bind (thnF (yT.run _ s15 σ15 H15 _ I15 q15) fun b1 s16 ⟨H16, I16, q16⟩ => ?_)
            have back1 : ∀ {s' : Shared} {H' : Hp}, Inv (X.blk s3 G3 scope ce fa) (([] ++ pinsAt fa s7.heap) ++ pinsAt fb s14.heap) σ15 H' s' → Ny H' →
                ∃ m, m < k ∧ ∃ j H', Inv (X.blk s3 G3 scope ce fa) ([] ++ pinsAt fa s7.heap) (wipe σ8 ub) H' s' ∧ nb j s'.heap ∧ (∀ b ∈ fb, H' b = none) ∧ Vw j m H' := fun {s' H'} I' ny => by
              obtain ⟨m', lt, w'⟩ := down1 H' ny
              have stay : ∀ b ∈ fb, ∀ o, s14.heap.get? b = some o → s'.heap.get? b = some o ∧ H' b = none := fun b hb o e => by
                have z := I'.pin (b, o) (List.mem_append_right _ (List.mem_append_right _ (mem_pinsAt hb e)))
                exact ⟨z.1, z.2.1⟩
              exact ⟨m', lt, j + 1, H', I'.unpinned.weak (by rw [← hw15, wipe_length]) (fun j v e => (wipe_some (hw15 ▸ e)).1), TB.keep _ _ _ sb14 fun b hb o e => (stay b hb o e).1, fun b hb => (TB.obj _ _ sb14 b hb).elim fun o z => (stay b hb o z.1).2, w'⟩
            cases b1 with
            | false =>
              simp only [Bool.false_eq_true, if_false] at q16 ⊢
              exact wpAny_pure ⟨rfl, back1 I16 q16⟩
            | true =>
              simp only [if_true] at q16 ⊢
              refine wpAny_bind (wpAny_bind (thnF (yK.run _ s16 σ15 H16 _ I16 q16) fun kv s17 ⟨yk, H17, I17, r17, q17⟩ => ?_))
              refine wpAny_bind (wpAny_holding (thnF (yV.run _ s17 σ15 H17 _ I17 q17) fun vv s18 ⟨yv, H18, I18, r18, kvs, kk, ek, d18, lt18, ny⟩ => ?_))
              subst ek
              exact wpAny_bind (wpAny_standAt (wpAny_holding (d_dictSet (X := (X.blk s3 G3 scope ce fa)) I18 d18 lt18 r17 r18 fun s19 I19 => wpAny_pure ⟨rfl, back1 I19 ny⟩)))
        refine wpAny_bind (wpAny_runOwn ?_)
        rw [Around.mark_none]
        refine codeAny_mono (dc_start1 inner (TB.self X.A 0 _ _ _ sb11 inner)) fun r s' hr => ?_
        cases r with
        | ok _ => first | exact wpAny_pure ⟨rfl, hr⟩ | exact wpAny_bind (wpAny_pure (wpAny_pure ⟨rfl, hr⟩))
        | error _ => exact hr.elim
  exact codeAny_compStart_dict loop (TA.self X.A 0 _ _ _ sa4 loop)
end
end L2

namespace L2
open PySem PySem.Spec PyProof.Rows
section
variable {X : Cx} {CX : CXT} {k : Nat} {f : Addr} {fd : FuncData} {x : Str} {st : Stmt} {ps ks : List Str} {sp : Sp} {E : St → XK} {p pos : Pos} {kws : List Keyword} {tk : TA}
variable {g : List Value → List Value → List Value} {gV : List V → List V → List V}
/-- a call with keywords whose way out may look at the slots -/
theorem run_fnkS {pins : List (Addr × Obj)} {σ : St} {H : Hp} {s : Shared} {Q : VK} {us ws : List Value} {vs zs : List V} (F : FnOk X.prog X.w X.K X.mg X.base CX k f fd ps sp) (hr : Room k X.A) (hb : KBinds X.K fd ps ks g gV) (hx : PassesAt CX X σ (E σ))
    (I : Inv X pins σ H s) (r : Vals vs us) (rz : Vals zs ws) (h : sp (gV vs zs) H Q (E σ)) : wpAny (model X.prog X.w) X.A (call (.ref f) us (ks.zip ws)) (EP X pins σ Q) X.xe s := by
  have r2 := hb.rel r rz
  have hl : (g us ws).length = ps.length := by rw [← r2.length]; exact F.len _ _ _ _ h
  refine wpAny_call (codeAny_mono (F.run X.A X.stack s H ⟨us, ks.zip ws⟩ (g us ws) (gV vs zs) Q (E σ) hr I.env0 (hb.to s us ws I.kIn hl) r2 h) fun r s' hq => ?_)
  cases r with
  | error e => exact hx pins H s e s' I hq
  | ok fl =>
    cases fl with
    | ret u => exact I.after hq
    | next => exact False.elim hq
    | brk => exact False.elim hq
    | cont => exact False.elim hq
def tCallKS (sp : Sp) (gV : List V → List V → List V) (E : St → XK) (tk : TA) : TE := fun σ H Q => tk σ H fun zs H2 => sp (gV [] zs) H2 Q (E σ)
theorem pe_callFKS0 (h : Kn X.prog X.w X.K X.mg X.base CX k x st ps sp) (hr : Room k X.A) (hb : KwB x st ps ks g gV) (hx : ∀ σ, PassesAt CX X σ (E σ)) (hkw : PK X kws tk) (hg : Gl X x := by rfl)
    (hall : (backToKw pos (keywordEach kws X.env)).all (·.1.isSome) = true := by rfl) (hks : (backToKw pos (keywordEach kws X.env)).filterMap (·.1) = ks := by rfl)
    (hdb : (x == ("__debug__" : Str)) = false := by decide)
    (hpl : ((backTo pos (starEach [] X.env)).any (·.1) || (backToKw pos (keywordEach kws X.env)).any (·.1.isNone)) = false := by rfl) :
    PE X (.Call (.Name x p) [] kws pos) (tCallKS sp gV E tk) := by
  obtain ⟨f, fd, F, gm, kp, b, kV, doc, pm, an, cdv, ct, rfl⟩ := h.ex
  have hbb : KBinds X.K (PySem.W.fnOf x x (defArgs st) (defBody st) (defScope st) .none kV doc pm an cdv ct) ps ks g gV := ⟨fun s us ws _ hl => .of_eq (hb.1 kV doc pm an cdv ct us ws hl), hb.2⟩
  refine ⟨fun pins s σ H Q I hq => wpAny_Call_Name_kw (ld_glob I hg gm ?_ hdb)⟩
  refine PySem.W.callWith_KW0 (h₀ := X.base) I.ok.mod.kin kp hall (thn (hkw.run pos pins s σ H _ I hq) fun ws s2 ⟨zs, H2, I2, rz, q2⟩ => ⟨I2.kIn, ?_⟩) hpl
  rw [hks]
  exact run_fnkS F hr hbb (hx σ) I2 .nil rz q2
end
end L2

/-! Z9: an own class's methods and its making as promises that carry their places; divmod of great ints. -/
namespace L2
open PySem PySem.Spec PyProof.Rows
structure DfM (K : PySem.W.Frag) (C : Addr) (m q : Str) (st : Stmt) (ps : List Str) : Prop where
  ex : ∃ (f : Addr) (fd : FuncData), Fun K m q st f fd ∧ Meth K C m f ∧ Binds K fd ps []
structure KM (P : Program) (w : World) (K : PySem.W.Frag) (mg : Str → Option Value) (base : Heap) (CX : CXT) (k : Nat) (C : Addr) (m : Str) (ps : List Str) (sp : Sp) : Prop where
  ex : ∃ (f : Addr) (fd : FuncData), FnOk P w K mg base CX k f fd ps sp ∧ Meth K C m f ∧ Binds K fd ps []
structure DfI (K : PySem.W.Frag) (C : Addr) (q : Str) (st : Stmt) (ps : List Str) : Prop where
  ex : ∃ (f : Addr) (fd : FuncData), Fun K "__init__" q st f fd ∧ Mk K C f ∧ Binds K fd ps []
structure KMk (P : Program) (w : World) (K : PySem.W.Frag) (mg : Str → Option Value) (base : Heap) (CX : CXT) (k : Nat) (C : Addr) (ps : List Str) (sp : Sp) : Prop where
  ex : ∃ (f : Addr) (fd : FuncData), FnOk P w K mg base CX k f fd ps sp ∧ Mk K C f ∧ Binds K fd ps []
section
variable {P : Program} {w : World} {K : PySem.W.Frag} {mg : Str → Option Value} {base : Heap} {m q : Str} {st : Stmt} {ps N : List Str} {k : Nat} {sp : Sp} {C : Addr}
theorem DfM.ok (D : DfM K C m q st ps) (S : FnScope N ps (defScope st)) (many : ∀ vs H Q E, sp vs H Q E → vs.length = ps.length)
    (hb : ∀ (f : Addr) (cdv : Value) (A : Around) (outer : List Env) (s : Shared) (H : Hp) (vs : List V) (Q : VK) (E : XK), Room k (A.deeper (envOfC q (defScope st) s.heap.objs.size f cdv)) → sp vs H Q E →
      ∃ t, PSs (cxOf CX0 P w K mg base N q (defScope st) f cdv A outer s H E).nox (defBody st) t ∧ t { nx := fun _ H' => Q .non H', rt := Q } (start N vs) H) : KM P w K mg base CX0 (k + 1) C m ps sp := by
  obtain ⟨f, fd, F, M, b⟩ := D.ex
  exact ⟨f, fd, F.ok S many fun cdv A outer s H vs Q E => hb f cdv A outer s H vs Q E, M, b⟩
theorem DfI.ok (D : DfI K C q st ps) (S : FnScope N ps (defScope st)) (many : ∀ vs H Q E, sp vs H Q E → vs.length = ps.length)
    (hb : ∀ (f : Addr) (cdv : Value) (A : Around) (outer : List Env) (s : Shared) (H : Hp) (vs : List V) (Q : VK) (E : XK), Room k (A.deeper (envOfC q (defScope st) s.heap.objs.size f cdv)) → sp vs H Q E →
      ∃ t, PSs (cxOf CX0 P w K mg base N q (defScope st) f cdv A outer s H E).nox (defBody st) t ∧ t { nx := fun _ H' => Q .non H', rt := Q } (start N vs) H) : KMk P w K mg base CX0 (k + 1) C ps sp := by
  obtain ⟨f, fd, F, M, b⟩ := D.ex
  exact ⟨f, fd, F.ok S many fun cdv A outer s H vs Q E => hb f cdv A outer s H vs Q E, M, b⟩
end
section
variable {X : Cx} {CX : CXT} {k : Nat} {C : Addr} {m x : Str} {ps : List Str} {sp : Sp} {E : XK} {pos apos p : Pos} {o e : Expr} {es : List Expr} {ta : TE} {t : TA}
theorem pe_methK {pl : Sem Bool} (h : KM X.prog X.w X.K X.mg X.base CX k C m ps sp) (c : Cls X.K C) (hr : Room k X.A) (hx : Passes CX X E) (ho : PE X o ta) (ha : PA X (e :: es) t)
    (hst : starEach (e :: es) X.env = (false, eval e X.env) :: starEach es X.env := by rfl) (hpl : (backTo pos (starEach es X.env)).any (·.1) = false := by rfl)
    (ht : eval (.Call (.Attribute o m apos) (e :: es) [] pos) X.env = (do
      let ov ← eval o X.env
      standAt apos.atName
      let (f, first) ← holding [ov] (getMethod ov m pl)
      callWith pos f first (backTo pos (starEach (e :: es) X.env)) (backToKw pos (keywordEach [] X.env))) := by rfl) : PE X (.Call (.Attribute o m apos) (e :: es) [] pos) (tMeth C m sp [] E ta t) := by
  obtain ⟨f, fd, F, M, b⟩ := h.ex
  exact pe_meth (pl := pl) ho c M F hr b .nil hx ha hst hpl ht
theorem pe_methK0 {pl : Sem Bool} (h : KM X.prog X.w X.K X.mg X.base CX k C m ps sp) (c : Cls X.K C) (hr : Room k X.A) (hx : Passes CX X E) (ho : PE X o ta)
    (ht : eval (.Call (.Attribute o m apos) [] [] pos) X.env = (do
      let ov ← eval o X.env
      standAt apos.atName
      let (f, first) ← holding [ov] (getMethod ov m pl)
      callWith pos f first (backTo pos (starEach [] X.env)) (backToKw pos (keywordEach [] X.env))) := by rfl) : PE X (.Call (.Attribute o m apos) [] [] pos) (tMeth C m sp [] E ta tNil) := by
  obtain ⟨f, fd, F, M, b⟩ := h.ex
  exact pe_meth0 (pl := pl) ho c M F hr b .nil hx ht
theorem pe_makeK (h : KMk X.prog X.w X.K X.mg X.base CX k C ps sp) (hr : Room (k + 1) X.A) (hm : X.mg x = some (.ref C)) (hx : Passes CX X E) (ha : PA X (e :: es) t) (hg : Gl X x := by rfl)
    (hdb : (x == ("__debug__" : Str)) = false := by decide) (he : starEach (e :: es) X.env = (false, eval e X.env) :: starEach es X.env := by rfl) (hpl : (backTo pos (starEach es X.env)).any (·.1) = false := by rfl) :
    PE X (.Call (.Name x p) (e :: es) [] pos) (tMake C sp [] E t) := by
  obtain ⟨f, fd, F, M, b⟩ := h.ex
  exact pe_make M F hr hg hm b .nil hx ha hdb he hpl
def rListOf (K : PySem.W.Frag) : List V → Hp → VK → Prop := fun xs H Q => ∃ p ys, xs = [.ref p] ∧ (SqL K H p ys ∨ SqT K H p ys) ∧ ∀ l, H l = none → Q (.ref l) (upd H l (.lst ys))
theorem call_list_ofK (K : PySem.W.Frag) (e : X.K = K := by rfl) : CallR X (.type "list") (rListOf K) := by subst e; exact call_list_of
/-- list(xs), its place told to be none of the interpreter's own -/
theorem call_list_ofN : CallR X (.type "list") (fun xs H Q => ∃ p ys, xs = [.ref p] ∧ (SqL X.K H p ys ∨ SqT X.K H p ys) ∧ ∀ l, H l = none → l ≠ sysModules → Q (.ref l) (upd H l (.lst ys))) := by
  intro pins s σ H xs us Q I r h
  obtain ⟨p, ys, rfl, hq, q⟩ := h
  obtain ⟨u, rfl, rx⟩ := vals1 r
  cases rx
  have fin : ∀ (its : List Value), Vals ys its → ys.length ≤ sizeLine → ∀ (h' : Heap) (c' : Nat), (∀ b o', s.heap.get? b = some o' → h'.get? b = some o') →
      h'.get? s.heap.objs.size = some { cls := .type "list", dict := none, data := .seq its.toArray c', slots := #[] } → EP X pins σ Q (.ref s.heap.objs.size) { s with heap := h' } := fun its r' hz h' c' kp e =>
    ⟨.ref s.heap.objs.size, _, I.laid (t' := s.toks) kp (Nat.le_refl _) (show ObjOk X.prog X.w _ h' _ (.lst ys) from ⟨hz, its, c', r', e⟩), rfl, q _ (I.hok.fresh (Nat.le_refl _)) (Nat.ne_of_gt I.big)⟩
  rcases hq with hq | hq
  · obtain ⟨its, r', pl, hz⟩ := I.list hq
    have hlen := r'.length
    obtain ⟨o, ho, hc, n, hd⟩ := pl.isList
    exact call_list_seq p (.inl rfl) ho hc hd (fun h' c' kp e => fin its r' hz h' c' kp e) (by simp only [List.size_toArray] <;> omega)
  · obtain ⟨its, r', pl, hz⟩ := I.tuple hq
    have hlen := r'.length
    obtain ⟨o, ho, hc, n, hd⟩ := pl
    exact call_list_seq p (.inr rfl) ho hc hd (fun h' c' kp e => fin its r' hz h' c' kp e) (by simp only [List.size_toArray] <;> omega)
/-- divmod of ints of many digits: a new tuple -/
theorem call_divmodW : CallR X (.builtin "divmod") (fun xs H Q => ∃ i j, xs = [.int i, .int j] ∧ CDivW i j ∧ ∀ p, H p = none → Q (.ref p) (upd H p (.tup [.int (i / j), .int (i % j)]))) := by
  intro pins s σ H xs us Q I r h
  obtain ⟨i, j, rfl, hc, q⟩ := h
  obtain ⟨u, w', rfl, ⟨t, rfl⟩, ⟨t', rfl⟩⟩ := vals2 r
  have h1 : (0 : Int) < j := hc.1
  refine divmod_int (by omega) ?_ (.inl (PyProof.noPylong_of_log2 hc.2))
  rw [Int.fdiv_eq_ediv_of_nonneg i (by omega), Int.fmod_eq_emod_of_nonneg i (by omega)]
  have hn : H s.heap.objs.size = none := I.hok.fresh (Nat.le_refl _)
  refine ⟨.ref s.heap.objs.size, _, ?_, rfl, q _ hn⟩
  refine I.laid (fun b o e => Heap.get?_push_of_some _ e) (Nat.le_refl _) ⟨by simp only [List.length_cons, List.length_nil]; rw [sizeLine_eq]; decide, [.int (i / j) s.toks, .int (i % j) (s.toks + 1)], .cons ⟨_, rfl⟩ (.cons ⟨_, rfl⟩ .nil), ?_⟩
  exact ⟨_, Heap.get?_push_size s.heap rfl, rfl, 0, rfl⟩
end
end L2

/-! Z10: {tuple for x in xs if ..}, its len; sorted of rows of ints. -/
namespace L2
open PySem PySem.Spec PyProof.Rows
abbrev Rw := Addr × List Int
def rwLe (p q : Rw) : Bool := decide (p.2 ≤ q.2)
/-- sorted(rows), rows lists of ints -/
def rSortRw (K : PySem.W.Frag) : List V → Hp → VK → Prop := fun vs H Q => ∃ (a : Addr) (ks : List Rw), vs = [V.ref a] ∧ SqL K H a (ks.map fun p => V.ref p.1) ∧ (∀ p ∈ ks, SqL K H p.1 (p.2.map V.int)) ∧ ∀ q, H q = none → Q (.ref q) (upd H q (.lst ((ks.mergeSort rwLe).map fun p => V.ref p.1)))
theorem dp_ints {K : PySem.W.Frag} {H : Hp} : ∀ ns : List Int, DpAll K H (ns.map V.int) (ns.map PyData.int)
  | [] => .nil
  | n :: ns => .cons (.int n) (dp_ints ns)
section
variable {X : Cx}
theorem rw_reads {pins : List (Addr × Obj)} {σ : St} {H : Hp} {s : Shared} (I : Inv X pins σ H s) : ∀ ks : List Rw, (∀ p ∈ ks, SqL X.K H p.1 (p.2.map V.int)) →
    PySem.W.EachIs (fun v (b : Rw) => v = Value.ref b.1) (ks.map fun p => Value.ref p.1) ks ∧ PySem.W.EachIs (fun v (b : Rw) => ∃ as, Reads s.heap v (.list (b.2.map .int)) as) (ks.map fun p => Value.ref p.1) ks
  | [], _ => ⟨.nil, .nil⟩
  | p :: ks, h => by
    obtain ⟨h1, h2⟩ := rw_reads I ks fun q hq => h q (List.mem_cons_of_mem _ hq)
    exact ⟨.cons rfl h1, .cons (Dp.reads I _ (.ref p.1) _ (.lst (h p List.mem_cons_self) (dp_ints _)) rfl) h2⟩
theorem refs_each : ∀ {vs : List Value} {ks : List Rw}, PySem.W.EachIs (fun v (b : Rw) => v = Value.ref b.1) vs ks → vs = ks.map fun p => Value.ref p.1
  | _, _, .nil => rfl
  | _, _, .cons h t => by rw [h, refs_each t, List.map_cons]
theorem cr_sortRw (hu : X.A.units + 64 < cLine) : CallR X (.builtin "sorted") (rSortRw X.K) := by
  intro pins s σ H vs us Q I r h
  obtain ⟨a, ks, rfl, hs, hk, q⟩ := h
  rw [Vals.ref1 r]
  obtain ⟨its, rv, hl, hz⟩ := I.list hs
  have ei : its = ks.map fun p => Value.ref p.1 := refs_of_vals rv
  subst ei
  obtain ⟨e1, e2⟩ := rw_reads I ks hk
  rw [List.length_map] at hz
  refine PySem.W.sorted_data (R := fun v (b : Rw) => v = Value.ref b.1) (enc := fun b : Rw => .list (b.2.map .int)) (bs := ks) hl.isList e1 e2 (PySem.W.AllAlike.of fun b b' => ?_) (PySem.W.Sortable.others fun b => ⟨(fun e => by cases e), (fun xs e => by cases e)⟩) hz (fun b hb => ?_) fun out hlen eo => ?_
  · show PySem.W.alike (.list (b.2.map .int)) (.list (b'.2.map .int)) = true
    rw [PySem.W.alike]; exact PySem.W.alike_ints _ _
  · show X.A.units + 2 + (PyData.list (b.2.map .int)).depth < cLine
    rw [PyData.depth, PySem.W.depth_ints]; omega
  · rw [PySem.W.dataLe_rows fun b : Rw => b.2] at eo
    have eo' := refs_each eo
    obtain ⟨ep, he⟩ := PyProof.Rows.sortedAll_at s.heap (ks.map fun p => Value.ref p.1) out.toArray
    have hlen2 : ((ks.mergeSort rwLe).map fun p => V.ref p.1).length ≤ sizeLine := by rw [List.length_map, List.length_mergeSort]; exact hz
    refine ⟨.ref _, upd H (s.heap.objs.size + 1) (.lst ((ks.mergeSort rwLe).map fun p => V.ref p.1)), I.laid (t' := s.toks) (fun _ _ => PyProof.Rows.sortedAll_old) (Nat.le_succ _) ⟨hlen2, out, ep, ?_, he⟩, rfl, q _ (I.hok.fresh (Nat.le_succ _))⟩
    rw [eo']; exact vals_of_refs _
/-- len(a set of tuples) -/
def rLenTs (K : PySem.W.Frag) (P : Program) (w : World) : List V → Hp → VK → Prop := fun vs H Q => ∃ (a : Addr) (L : List Rw), vs = [V.ref a] ∧ H a = some (SetTO P w a L) ∧ (∀ p ∈ L, SqT K H p.1 (p.2.map V.int)) ∧ Q (.int L.length) H
theorem cr_lenTs : CallR X (.builtin "len") (rLenTs X.K X.prog X.w) := by
  intro pins s σ H vs us Q I r h
  obtain ⟨a, L, rfl, ha, hk, q⟩ := h
  rw [Vals.ref1 r]
  have R0 : SetT0 X.prog X.w s.heap a L := (I.hok a _ ha).1
  obtain ⟨es, ep, t, R⟩ := R0.full fun p hp => I.isT (hk p hp)
  obtain ⟨o, ho, hex, hd⟩ := R.ob
  have hn := R.size
  have hf := R.few
  refine call_len_set ho hex hd R.fits (by rw [hn]; omega) ⟨.int L.length, H, I.tok _, ⟨_, by rw [hn]⟩, q⟩
/-- set.add of a tuple of ints -/
theorem add_tup {pins : List (Addr × Obj)} {σ : L2.St} {H : Hp} {s : Shared} {E : Value → Shared → Prop} {D a : Addr} {k : List Int} {L : List Rw} {Q : Value → Shared → Prop} (hu : X.A.units + 64 < cLine) (I : Inv X pins σ H s) (hD : H D = some (SetTO X.prog X.w D L)) (ha : SqT X.K H a (k.map V.int)) (hL : ∀ p ∈ L, SqT X.K H p.1 (p.2.map V.int)) (few : L.length + 1 < 64)
    (h : ∀ s' L', (k ∈ L.map (·.2) → L' = L) → (k ∉ L.map (·.2) → L'.Perm ((a, k) :: L)) → Inv X pins σ (upd H D (SetTO X.prog X.w D L')) s' → Q .none s') : wpAny (model X.prog X.w) X.A (call (.builtin "set.add") [.ref D, .ref a]) Q E s := by
  have R0 : SetT0 X.prog X.w s.heap D L := (I.hok D _ hD).1
  obtain ⟨es, ep, t, R⟩ := R0.full fun p hp => I.isT (hL p hp)
  obtain ⟨o, ho, hex, hd⟩ := R.ob
  have hT : s.TypeIs (.ref D) "set" := ⟨o, ho, hex.1⟩
  refine wpAny_call_entry F.slot_set_add hT F.entry_set_add ?_ (F.args_set_add_2 _ _)
  unfold Builtin.«set.add» Builtin.Frozenset.oneOther
  simp only [List.isEmpty_nil, bind_assoc]
  unfold Builtin.Frozenset.addrOf setAdd
  refine wpAny_bind (wpAny_pure ?_)
  try dsimp only
  refine wpAny_bind (wpAny_pure ?_)
  try dsimp only
  refine wpAny_bind (wpAny_holding ?_)
  refine wpAny_bind (wpAny_pyHash_tuple (by simp; omega) (I.isT ha) ?_)
  refine add_at (s := { s with toks := s.toks + (k.length + 1) }) R (I.isT ha) (by simp; omega) few fun b h' L' es' ep' t' sb R' c1 c2 => ?_
  show wpAny _ _ (ret Value.none) _ _ _
  refine wpAny_pure ⟨_, rfl, h _ L' c1 c2 ?_⟩
  have he : ∃ u, h'.get? D = some u := by
    obtain ⟨o, ho, _⟩ := R'.ob
    exact ⟨o, ho⟩
  exact I.write (e := D) (t' := s.toks + (k.length + 1)) (by rw [hD]; trivial) (.inl rfl) (fun b u hb hu => (sb.2 b hb).trans hu) he (setTO_new R'.t0)
/-- {elt for target in iter if ..}, elt a tuple of ints; D the new set -/
def tTs (X : Cx) (wA : TI) (gA : TG) (qA : TT) (te : TE) (us : List Nat) : TE := fun σ H Q => wA σ H fun JA G => ∀ D, G D = none → ∃ W : Nat → Nat → Hp → Prop, (∃ m, W 0 m (upd G D (SetTO X.prog X.w D []))) ∧ ∀ i m H, W i m H →
  (JA.stop i H ∧ Q (.ref D) H) ∨ (JA.go i H ∧ ∃ Nx : Hp → Prop, (∀ H', Nx H' → ∃ n, n < m ∧ W (i + 1) n H') ∧ ∀ x H', JA.yld i H x H' → gA x (wipe σ us) H' fun σ2 H2 => wipe σ2 us = wipe σ us ∧ qA σ2 H2 fun b H3 =>
    if b = true then te σ2 H3 fun y H4 => ∃ (a : Addr) (k : List Int) (L : List Rw), y = .ref a ∧ SqT X.K H4 a (k.map V.int) ∧ H4 D = some (SetTO X.prog X.w D L) ∧ (∀ p ∈ L, SqT X.K H4 p.1 (p.2.map V.int)) ∧ L.length + 1 < 64 ∧
      ∀ L', (k ∈ L.map (·.2) → L' = L) → (k ∉ L.map (·.2) → L'.Perm ((a, k) :: L)) → Nx (upd H4 D (SetTO X.prog X.w D L')) else Nx H3)
theorem pe_tsc {vx tA iA : Expr} {fA : List Expr} {scope : Scope} {own : List (Str × Nat)} {pos : Pos} {wA : TI} {gA : TG} {qA : TT} {tv : TE} (hc : X.calm = true) (hu : X.A.units + 64 < cLine) (nd : X.N.Nodup) (pA : PI X tA iA wA) (ok : BlkOk X.N X.env.scope scope own)
    (aG : InBlk X scope fun Y => PG Y tA gA) (aT : InBlk X scope fun Y => PTs Y fA qA) (bV : InBlk X scope fun Y => PE Y vx tv)
    (cA : ∀ x, foldedSetIterable iA X.env x = pure x := by intro _; rfl) : PE X (.SetComp vx [⟨tA, iA, fA, 0⟩] scope pos) (tTs X wA gA qA tv (own.map (·.2))) := by
  refine ⟨fun pins s σ H Q I h => ?_⟩
  rw [PpSet.eval_SetComp]
  have cap : ∀ y ∈ scope.names, y.2 = .free → ∃ c, X.env.cells.lookup y.1 = some c := fun y hy e => (ok.free y hy e).elim (fun k => I.ok.has _ (.inl k)) fun k => I.ok.has _ (.inr k)
  refine wpAny_comprehension_free (use := none) rfl cA (closure_ok cap) ok.kind (fun y hy e => by rw [ok.uniq y hy, e]) (thn (pA.run pins s σ H _ I h) fun xv s1 hx => thn hx fun itv s2 got => ?_)
  obtain ⟨ia, fa, na, JA, G2, rfl, I2, TA, sa2, fr2, body⟩ := got
  refine PpSet.newSet_ok (newEnv_comp ?_)
  generalize eD : s2.heap.objs.size = D
  obtain ⟨W, ⟨m0, w0⟩, turn⟩ := body D (I2.hok.fresh (Nat.le_of_eq eD))
  generalize es3 : ({ s2 with heap := s2.heap.push { cls := .type "set", dict := none, data := .set #[] 0 (.fresh 0 0 (!X.w.params.followText "set-order")) } } : Shared) = s3
  have I3 : Inv X pins σ (upd G2 D (SetTO X.prog X.w D [])) s3 := by
    subst es3
    exact I2.laid (t' := s2.toks) (fun _ _ e => Heap.get?_push_of_some _ e) (Nat.le_of_eq eD) (setTO_new (SetTR.t0 (setTR_fresh (by rw [← eD]; exact Heap.get?_push_size _ rfl))))
  have h3 : s3.heap = s2.heap.push { cls := .type "set", dict := none, data := .set #[] 0 (.fresh 0 0 (!X.w.params.followText "set-order")) } := es3 ▸ rfl
  have fr3 : ∀ b ∈ fa, FpOk X pins (upd G2 D (SetTO X.prog X.w D [])) b ∧ b < s3.heap.objs.size := fun b hb => by
    obtain ⟨_, e, _⟩ := TA.obj _ _ sa2 b hb
    have lt : b < s2.heap.objs.size := Heap.lt_size e
    have ne : b ≠ D := by rw [← eD]; exact Nat.ne_of_lt lt
    exact ⟨⟨(upd_ne ne).trans (fr2 b hb).1, (fr2 b hb).2⟩, by rw [h3, Heap.size_push]; exact Nat.lt_succ_of_lt lt⟩
  have sa3 : na 0 s3.heap := TA.keep _ _ _ sa2 fun b _ o e => h3 ▸ Heap.get?_push_of_some _ e
  have I4 := block_start I3 ok nd fr3
  generalize ecl : cellsFrom (s3.heap.objs.size + 1) scope.names (cloFrom X.env.cells scope.names []) = cl at I4
  have xG := aG s3 (upd G2 D (SetTO X.prog X.w D [])) s3.heap.objs.size cl fa
  have xT := aT s3 (upd G2 D (SetTO X.prog X.w D [])) s3.heap.objs.size cl fa
  have yV := bV s3 (upd G2 D (SetTO X.prog X.w D [])) s3.heap.objs.size cl fa
  show codeAny _ _ (.compStart (.SetComp vx [⟨tA, iA, fA, 0⟩] scope pos) 0 (.ref ia) (.ref D) (compEnvC scope cl s3.heap.objs.size X.env)) (compPost (model X.prog X.w) X.A X.xe none (EP X pins σ Q) (.ref D) s3.heap.objs.size) ⟨pushCells (s3.heap.push { cls := .type "dict", data := .dict #[] }) scope.names, s3.gens, s3.drawn, s3.toks, s3.os⟩
  have nofa : ∀ b ∈ fa, (upd G2 D (SetTO X.prog X.w D [])) b = none := fun b hb => (fr3 b hb).1.1
  generalize ece : compEnvC scope cl s3.heap.objs.size X.env = ce at I4 xG xT yV ⊢
  have cloc : ce.locals = s3.heap.objs.size := ece ▸ rfl
  generalize eG3 : upd G2 D (SetTO X.prog X.w D []) = G3 at I3 I4 xG xT yV w0 nofa fr3
  generalize es4 : (⟨pushCells (s3.heap.push { cls := .type "dict", data := .dict #[] }) scope.names, s3.gens, s3.drawn, s3.toks, s3.os⟩ : Shared) = s4 at I4 ⊢
  have sa4 : na 0 s4.heap := TA.keep _ _ _ sa3 fun b _ o e => es4 ▸ pushCells_keeps _ _ _ _ (Heap.get?_push_of_some _ e)
  have held : ∀ {σ' : L2.St} {H' : Hp} {s' : Shared}, Inv (X.blk s3 G3 scope ce fa) [] σ' H' s' → (∀ b ∈ fa, H' b = none) → ∀ b ∈ fa, FpOk (X.blk s3 G3 scope ce fa) [] H' b := fun I' hn b hb =>
    ⟨hn b hb, (I'.ok.exf b hb).1, I'.ok.exfs b hb, .inl hb, fun x c e => (I'.ok.exf b hb).2 x c e, fun p (hp : p ∈ ([] : List (Addr × Obj)) ++ []) => by simp at hp⟩
  have loop : codeAny (model X.prog X.w) X.A (.compLoop (.SetComp vx [⟨tA, iA, fA, 0⟩] scope pos) 0 (.ref ia) (.ref D) ce) (compPost (model X.prog X.w) X.A X.xe none (EP X pins σ Q) (.ref D) s3.heap.objs.size) s4 := by
    refine codeAny_loop rfl (fun n s' => ∃ i H', Inv (X.blk s3 G3 scope ce fa) [] (wipe σ (own.map (·.2))) H' s' ∧ na i s'.heap ∧ (∀ b ∈ fa, H' b = none) ∧ W i n H') (fun n s5 ⟨i, H5, I5, sa5, no5, w5⟩ => ?_) m0 ⟨0, G3, I4, sa4, nofa, w0⟩
    show wpAny _ X.A ((compTurn (.SetComp vx [⟨tA, iA, fA, 0⟩] scope pos) 0 (.ref ia) (.ref D) ce).onRaise fun x => do noteFrame x ce; theTreesLotGoes x) _ _ s5
    refine wpAny_noted ?_
    show wpAny _ _ (standAt iA.pos >>= _) _ _ _
    refine wpAny_bind (wpAny_standAt ?_)
    show wpAny _ _ (pyNext (.ref ia) >>= _) _ _ _
    rcases turn i n H5 w5 with ⟨stop, fin⟩ | ⟨go, Nx, down, step⟩
    · refine wpAny_bind (thnF (TA.done (X.blk s3 G3 scope ce fa) rfl rfl rfl hc i [] s5 _ H5 (fun _ _ => False) I5 (held I5 no5) sa5 stop) fun r s6 ⟨er, I6⟩ => ?_)
      subst er
      refine wpAny_pure ?_
      -- back in the def
      have I7 : Inv X pins σ H5 s6 := I3.call' (ch := fa) I6.os I6.base I6.hok I6.bare fun b hb => by
        obtain ⟨_, p1, _, p3, p4, p5⟩ := (fr3 b hb).1
        exact ⟨p3, p1, p4, p5⟩
      have free : H5 s3.heap.objs.size = none := cloc ▸ (show H5 ce.locals = none from I6.free)
      obtain ⟨m, (ns : s6.heap.Ns ce.locals m), _⟩ := I6.loc
      rw [cloc] at ns
      obtain ⟨f0, f1, f2, f3, f4, f5⟩ := I3.fpOk (Nat.le_refl _) free
      exact ⟨m, ns, fun _ sb => ⟨.ref D, H5, I7.turned (t' := s6.toks) (fun b o hb e => (sb.2 b hb).trans e) f0 f1 f3 f4 f5, rfl, fin⟩⟩
    · refine wpAny_bind (thnF (TA.item (X.blk s3 G3 scope ce fa) rfl rfl rfl hc i [] s5 _ H5 (fun _ _ => False) I5 (held I5 no5) sa5 go) fun r s6 ⟨u, er, g6⟩ => ?_)
      subst er
      show wpAny _ _ (letOwnedTupleGo tA (.ref ia) u >>= _) _ _ _
      refine wpAny_bind (thnF g6 fun _ s7 ⟨x, H7, I7, r7, y7, sa7, no7⟩ => ?_)
      refine wpAny_bind (thnF (xG.run _ s7 _ H7 x u _ (I7.pinned (held I7 no7) (TA.obj _ _ sa7)) r7 (step x H7 y7)) fun _ s8 ⟨σ8, H8, I8, hw8, q8⟩ => ?_)
      refine wpAny_bind (thnF (xT.run _ s8 σ8 H8 _ I8 q8) fun b s9 ⟨H9, I9, q9⟩ => ?_)
      -- the turn's end
      have back : ∀ {s' : Shared} {H' : Hp}, Inv (X.blk s3 G3 scope ce fa) ([] ++ pinsAt fa s7.heap) σ8 H' s' → Nx H' →
          ∃ m, m < n ∧ ∃ i H', Inv (X.blk s3 G3 scope ce fa) [] (wipe σ (own.map (·.2))) H' s' ∧ na i s'.heap ∧ (∀ b ∈ fa, H' b = none) ∧ W i m H' := fun {s' H'} I' nx => by
        obtain ⟨m', lt, w'⟩ := down H' nx
        have stay : ∀ b ∈ fa, ∀ o, s7.heap.get? b = some o → s'.heap.get? b = some o ∧ H' b = none := fun b hb o e => by
          have z := I'.pin (b, o) (List.mem_append_right _ (List.mem_append_right _ (mem_pinsAt hb e)))
          exact ⟨z.1, z.2.1⟩
        exact ⟨m', lt, i + 1, H', (I'.unpinned (pins := [])).weak (by rw [← hw8, wipe_length]) (fun j v e => (wipe_some (hw8 ▸ e)).1), TA.keep _ _ _ sa7 fun b hb o e => (stay b hb o e).1, fun b hb => (TA.obj _ _ sa7 b hb).elim fun o z => (stay b hb o z.1).2, w'⟩
      cases b with
      | false =>
        simp only [Bool.false_eq_true, if_false] at q9 ⊢
        exact wpAny_pure ⟨rfl, back I9 q9⟩
      | true =>
        simp only [if_true] at q9 ⊢
        refine wpAny_bind (wpAny_bind (thnF (yV.run _ s9 σ8 H9 _ I9 q9) fun vv s10 ⟨yv, H10, I10, r10, a, k, L, ey, ha, hD10, hL, few, ny⟩ => ?_))
        subst ey
        cases r10
        refine wpAny_bind (wpAny_standAt (wpAny_bind (add_tup (X := (X.blk s3 G3 scope ce fa)) hu I10 hD10 ha hL few fun s11 L' c1 c2 I11 => ?_)))
        exact wpAny_pure (wpAny_pure ⟨rfl, back I11 (ny L' c1 c2)⟩)
  exact PpSet.codeAny_compStart_set loop (TA.self X.A 0 _ _ _ sa4 loop)
end
theorem call_tuple_ofK {X : Cx} (K : PySem.W.Frag) (e : X.K = K := by rfl) : CallR X (.type "tuple") (fun xs H Q => ∃ p ys, xs = [.ref p] ∧ ((SqL K H p ys ∧ ∀ l, H l = none → Q (.ref l) (upd H l (.tup ys))) ∨ (SqT K H p ys ∧ Q (.ref p) H))) := by subst e; exact call_tuple_of
theorem units65 {k : Nat} {A : Around} (r : Room k A) : A.units + 65 < cLine := by have := r.un; omega
end L2

/-! Z11: dicts with tuple keys: {k: v}, {k: v for ..}, for k, v in d.items(). -/
namespace L2
open PySem PySem.Spec PyProof.Rows
section
variable {X : Cx}
theorem put_tup {pins : List (Addr × Obj)} {σ : St} {H : Hp} {s : Shared} {E : Value → Shared → Prop} {D b : Addr} {kvs : List (List Key × V)} {k : List Key} {v : V} {r : Value} {Q : Unit → Shared → Prop} (hu : X.A.units + 1 < cLine) (I : Inv X pins σ H s) (hD : H D = some (.dT kvs)) (hz : kvs.length < sizeLine)
    (eb : H b = some (.tup (k.map kV))) (rv : RelV v r) (h : ∀ s', Inv X pins σ (upd H D (.dT (putK kvs k v))) s' → Q () s') : wpAny (model X.prog X.w) X.A (dictSet D (.ref b) r) Q E s := by
  obtain ⟨z, hd, xs, rel, dd⟩ := dt_of I.hok hD
  have hzx : xs.length ≤ sizeLine := by rw [← Paired.length rel]; exact z
  have hl : (putK kvs k v).length ≤ sizeLine := by have := length_putK kvs k v; omega
  refine wpAny_dictSet_heap (hsz := hzx) (knd := tupleKind (mixKind X.prog X.w)) (show X.A.units < cLine from Nat.lt_of_succ_lt hu) (key_of I.hok eb) dd (fun h' dd' hs => h _ ?_)
  obtain ⟨q, es, ep, hq, h2, h3, h4, _, h5⟩ := dd'
  exact d_write I (by rw [hD]; exact True.intro) hs ⟨q, hq⟩ ⟨hl, hd, _, (rel.put k eb rv).keeps fun c ys ec => (upd_ne (ne_of ec hD fun z => nomatch z)).trans ec, q, es, ep, hq, h2, h3, h4, h5⟩
/-- {k: v}, k a tuple -/
def tDisp1T (tk tv : TE) : TE := fun σ H Q => ∀ p, H p = none → tk σ (upd H p (.dT [])) fun y H1 => tv σ H1 fun z H2 => ∃ (b : Addr) (k : List Key) (v : V), [(y, z)] = [(V.ref b, v)] ∧ H2 b = some (.tup (k.map kV)) ∧ H2 p = some (.dT []) ∧ Q (.ref p) (upd H2 p (.dT [(k, v)]))
theorem store_one {P : Program} {w : World} {A : Around} {E : Value → Shared → Prop} {s : Shared} {d : Addr} {k v : Value} {Q : PUnit → Shared → Prop} (h : wpAny (model P w) A (dictSet d k v) (fun _ s1 => Q PUnit.unit s1) E s) : wpAny (model P w) A (storeAll d [(k, v)]) Q E s := by
  unfold storeAll
  rw [List.forIn_cons]
  refine wpAny_bind (wpAny_bind (wpAny_mono h (fun _ s1 q => wpAny_pure ?_) fun _ _ x => x))
  dsimp only
  rw [List.forIn_nil]
  exact wpAny_pure q
theorem vv_one {y z : V} {ws : List (Value × Value)} (r : VV [(y, z)] ws) : ∃ u v, ws = [(u, v)] ∧ RelV y u ∧ RelV z v := by
  cases r with
  | cons r1 rt =>
    cases rt
    exact ⟨_, _, rfl, r1.1, r1.2⟩
theorem pe_disp1T {kx vx : Expr} {pos : Pos} {tk tv : TE} (hu : X.A.units + 1 < cLine) (hk : PE X kx tk) (hv : PE X vx tv) : PE X (.Dict [some kx] [vx] pos) (tDisp1T tk tv) := by
  refine ⟨fun pins s σ H Q I q => ?_⟩
  have hn := I.hok.fresh (Nat.le_refl s.heap.objs.size)
  have I1 := I.laid (a := s.heap.objs.size) (o := .dT []) (h' := s.heap.push { cls := .type "dict", data := .dict #[] }) (t' := s.toks) (fun _ _ q => Heap.get?_push_of_some _ q) (Nat.le_refl _) (dt_empty s.heap I.big)
  have P1 : PPs X pos [some kx] [vx] [(tk, tv)] := pps_cons hk hv pps_nil
  have R1 := P1.run pins _ σ _ (fun ps H2 => ∃ (b : Addr) (k : List Key) (v : V), ps = [(V.ref b, v)] ∧ H2 b = some (.tup (k.map kV)) ∧ H2 s.heap.objs.size = some (.dT []) ∧ Q (.ref s.heap.objs.size) (upd H2 s.heap.objs.size (.dT [(k, v)]))) I1 (q _ hn)
  refine wpAny_Dict_any rfl rfl (List.cons_ne_nil _ _) (show 1 ≤ 15 by decide) (thn R1 fun ws s2 h2 => ?_)
  obtain ⟨ps, H2, I2, rel, b, k, v, ep, eb, eD, q2⟩ := h2
  rw [ep] at rel
  obtain ⟨u, r, ew, r1, r2⟩ := vv_one rel
  have eu : u = Value.ref b := r1
  rw [ew, eu]
  refine store_one (put_tup hu I2 eD (show 0 < sizeLine by decide) eb r2 fun s3 I3 => ?_)
  exact ⟨.ref s.heap.objs.size, _, I3, rfl, q2⟩
/-- the pairs of the locked dict with tuple keys, each a new tuple -/
def Itit (d : Addr) (o : Obj) (kvs : List (List Key × V)) : It :=
  ⟨fun i H => H d = some (.frz o (.dT kvs)) ∧ i < kvs.length, fun i H x H' => ∃ (T q : Addr) (k : List Key) (v : V), kvs[i]? = some (k, v) ∧ H q = some (.tup (k.map kV)) ∧ x = .ref T ∧ H T = none ∧ H' = upd H T (.tup [.ref q, v]), fun i H => H d = some (.frz o (.dT kvs)) ∧ kvs.length ≤ i⟩
theorem Inv.frzV {o : Obj} {d : Addr} {pins : List (Addr × Obj)} {σ : St} {H : Hp} {s : Shared} {kvs : List (List Key × V)} (I : Inv X pins σ H s) (h : H d = some (.frz o (.dT kvs))) :
    (d == sysModules) = false ∧ s.heap.get? d = some o ∧ o.ExactDict ∧ ∃ (es : Array DictEntry) (ep : Nat), o.data = .dict es ep ∧ es.size = kvs.length ∧
      ∀ (i : Nat) (k : List Key) (v : V), kvs[i]? = some (k, v) → ∃ (en : DictEntry) (q : Addr), es[i]? = some en ∧ en.key = .ref q ∧ H q = some (.tup (k.map kV)) ∧ RelV v en.val := by
  obtain ⟨hd, z, hs, xs, pr, o', es, ep, ho, hx, hdt, he, _⟩ := I.hok d _ h
  cases Option.some.inj (hd.symm.trans ho)
  refine ⟨hs, hd, hx, es, ep, hdt, ?_, fun i k v e => ?_⟩
  · rw [Paired.length pr, ← Array.length_toList, he, List.length_map]
  · obtain ⟨b, hb, e1, e2, e3⟩ := paired_get pr e
    have q := entry_at he i
    rw [hb] at q
    exact ⟨_, b.2.1, q, rfl, e2, e3⟩
theorem turn_itemsT {P : Program} {w : World} {K : PySem.W.Frag} {d : Addr} {o : Obj} {es : Array DictEntry} {ep : Nat} {kvs : List (List Key × V)} {elts : List Expr} {kk : Nat} {tpos : Pos} (it : Addr) (hod : o.data = .dict es ep) :
    Turn P w K (.Tuple elts kk tpos) (Itit d o kvs) [it] it (fun i h => ∃ ok ov, IsItemIter h it d i kvs.length ep ok ov) where
  mem := List.mem_singleton.mpr rfl
  obj := fun i h ⟨ok, ov, e⟩ b hb => by
    cases List.mem_singleton.mp hb
    exact ⟨_, e, fun v z => nomatch z⟩
  keep := fun i h h' ⟨ok, ov, e⟩ k => ⟨ok, ov, k it (List.mem_singleton.mpr rfl) _ e⟩
  item := by
    intro X hP hw hK hc i pins s σ H E I hf st hg
    subst hP hw hK
    obtain ⟨hd, hi⟩ := hg
    obtain ⟨_, hgd, hx, es', ep', hdt, hsz, ent⟩ := I.frzV hd
    obtain ⟨rfl, rfl⟩ := dict_ep hod hdt
    obtain ⟨⟨k, v⟩, hkv⟩ : ∃ p, kvs[i]? = some p := ⟨_, List.getElem?_eq_getElem hi⟩
    obtain ⟨en, q, hen, hkey, hq, rv⟩ := ent i k v hkv
    obtain ⟨ok, ov, he⟩ := st
    have hlt : it < s.heap.objs.size := Heap.lt_size he
    rw [← hsz] at he
    have hi' : i < es'.size := by omega
    have een : es'[i] = en := Option.some.inj ((Array.getElem?_eq_getElem hi').symm.trans hen)
    refine DT.nextI he ⟨_, hgd, hx, hdt⟩ hi' fun h' ho hT hz hk => ?_
    rw [een] at ho hT
    refine ⟨_, rfl, wpAny_letOwnedTupleGo_items (s := { s with heap := h' }) ho fun h'' he' sb => ?_⟩
    have hT2 : h''.get? s.heap.objs.size = some { cls := .type "tuple", data := .seq #[en.key, en.val] } := (sb.2 _ (Nat.ne_of_gt hlt)).trans hT
    have new : ObjOk X.prog X.w (upd H s.heap.objs.size (.tup [.ref q, v])) h'' s.heap.objs.size (.tup [.ref q, v]) :=
      ⟨by show 2 ≤ sizeLine; decide, [en.key, en.val], .cons (show RelV (.ref q) en.key from hkey) (.cons rv .nil), ⟨_, hT2, rfl, _, rfl⟩⟩
    have I1 : Inv X pins σ (upd H s.heap.objs.size (.tup [.ref q, v])) { s with heap := h'' } :=
      I.turnedNew (t' := s.toks) (ch := [it]) (fun b ob hb e => (sb.2 b fun z => hb (List.mem_singleton.mpr z)).trans (hk b ob (fun z => hb (List.mem_singleton.mpr z)) e)) hf (Nat.le_refl _) new
    refine ⟨.ref s.heap.objs.size, _, I1, rfl, ⟨_, q, k, v, hkv, hq, rfl, I.hok.fresh (Nat.le_refl _), rfl⟩, ⟨_, _, by rw [← hsz]; exact he'⟩, fun b hb => ?_⟩
    cases List.mem_singleton.mp hb
    rw [upd_ne (Nat.ne_of_lt hlt)]
    exact (hf it (List.mem_singleton.mpr rfl)).1
  done := by
    intro X hP hw hK hc i pins s σ H E I hf st hg
    subst hP hw hK
    obtain ⟨hd, hi⟩ := hg
    obtain ⟨f0, f1, f2, f3, f4, f5⟩ := hf it (List.mem_singleton.mpr rfl)
    obtain ⟨_, hgd, hx, es', ep', hdt, hsz, _⟩ := I.frzV hd
    obtain ⟨rfl, rfl⟩ := dict_ep hod hdt
    obtain ⟨ok, ov, he⟩ := st
    rw [← hsz] at he
    exact DT.endI (I.ok.hd hc) he ⟨_, hgd, hx, hdt⟩ (by omega) fun h' eb => ⟨rfl, I.turned (t' := s.toks) (fun b ob hb e => eb b ob hb e) f0 f1 f3 f4 f5⟩
  self := fun A i s Q E ⟨_, _, e⟩ h => PySem.W.kcp_self e h
/-- d.items() of the locked dict -/
def iItemsT (td : TE) : TI := fun σ H R => td σ H fun x H1 => ∃ d o kvs, x = .ref d ∧ H1 d = some (.frz o (.dT kvs)) ∧ R (Itit d o kvs) H1
theorem pi_itemsT {e : Expr} {td : TE} {apos cpos : Pos} {elts : List Expr} {kk : Nat} {tpos : Pos} (he : PE X e td) (hbase : attributeBase e "items" X.env (eval e X.env) = eval e X.env := by rfl) (hline : (apos.endLine == cpos.line) = true := by rfl) :
    PI X (.Tuple elts kk tpos) (.Call (.Attribute e "items" apos) [] [] cpos) (iItemsT td) := by
  refine ⟨fun pins s σ H R I h => ?_⟩
  refine wpAny_Call_method (T := "dict") (id := "dict.items") hbase rfl hline F.plainAttrs_dict F.slot_dict_items F.type_dict_items (thn (he.run pins s σ H _ I h) fun u s1 ⟨x, H1, I1, rx, d, o, kvs, ex, hd, q⟩ => ?_)
  subst ex
  obtain rfl : u = Value.ref d := rx
  obtain ⟨hs, hgd, hx, es, ep, hdt, hsz, _⟩ := I1.frzV hd
  have raw : DT.Raw s1.heap d es ep := ⟨o, hgd, hx, hdt⟩
  refine ⟨raw.typeIs, fun a ea => (by cases ea; exact ⟨o, hgd, hx.2.1⟩), ?_⟩
  have I2 : Inv X pins σ H1 { s1 with heap := s1.heap.push { cls := .type "dict_items", data := .fields #[.ref d] } } := I1.kept (t' := s1.toks) fun b ob q => Heap.get?_push_of_some _ q
  have fin : wpAny (model X.prog X.w) X.A (pyIter (.ref s1.heap.objs.size)) (PIE X pins σ (.Tuple elts kk tpos) R) X.xe { s1 with heap := s1.heap.push { cls := .type "dict_items", data := .fields #[.ref d] } } := by
    refine DT.iterI (d := d) ⟨_, Heap.get?_push_size _ rfl, rfl, rfl⟩ (raw.push _) (pi_one (tk := s1.toks) I2 _ (turn_itemsT _ hdt) ⟨.none, .none, ?_⟩ q)
    rw [← hsz]
    exact Heap.get?_push_size _ rfl
  show wpAny _ _ (callWith cpos (.builtin "dict.items") [.ref d] [] []) _ X.xe s1
  exact method_meetsIn F.slot_dict_items F.entry_dict_items rfl (PySem.evalArgs_none ⟨rfl, raw.typeIs, F.args_dict_items_1 _, _, DT.meetsItems (es := es) (ep := ep) hs, raw, fin⟩)
/-- {k: v for target in iter if ..}, the keys tuples -/
def tDcT (wA : TI) (gA : TG) (qA : TT) (tk tv : TE) (us : List Nat) : TE := fun σ H Q => wA σ H fun JA G => ∀ D, G D = none → ∃ W : Nat → Nat → Hp → Prop, (∃ m, W 0 m (upd G D (.dT []))) ∧ ∀ i m H, W i m H →
  (JA.stop i H ∧ Q (.ref D) H) ∨ (JA.go i H ∧ ∃ Nx : Hp → Prop, (∀ H', Nx H' → ∃ n, n < m ∧ W (i + 1) n H') ∧ ∀ x H', JA.yld i H x H' → gA x (wipe σ us) H' fun σ2 H2 => wipe σ2 us = wipe σ us ∧ qA σ2 H2 fun b H3 =>
    if b = true then tk σ2 H3 fun y H4 => tv σ2 H4 fun z H5 => ∃ (kvs : List (List Key × V)) (k : List Key) (b : Addr), y = .ref b ∧ H5 b = some (.tup (k.map kV)) ∧ H5 D = some (.dT kvs) ∧ kvs.length < sizeLine ∧ Nx (upd H5 D (.dT (putK kvs k z))) else Nx H3)
theorem pe_dcT {kx vx tA iA : Expr} {fA : List Expr} {scope : Scope} {own : List (Str × Nat)} {pos : Pos} {wA : TI} {gA : TG} {qA : TT} {tk tv : TE} (hc : X.calm = true) (hu : X.A.units + 1 < cLine) (nd : X.N.Nodup) (pA : PI X tA iA wA) (ok : BlkOk X.N X.env.scope scope own)
    (aG : InBlk X scope fun Y => PG Y tA gA) (aT : InBlk X scope fun Y => PTs Y fA qA) (bK : InBlk X scope fun Y => PE Y kx tk) (bV : InBlk X scope fun Y => PE Y vx tv)
    (cA : ∀ x, foldedSetIterable iA X.env x = pure x := by intro _; rfl) : PE X (.DictComp kx vx [⟨tA, iA, fA, 0⟩] scope pos) (tDcT wA gA qA tk tv (own.map (·.2))) := by
  refine ⟨fun pins s σ H Q I h => ?_⟩
  rw [arm_eval_DictComp]
  have cap : ∀ y ∈ scope.names, y.2 = .free → ∃ c, X.env.cells.lookup y.1 = some c := fun y hy e => (ok.free y hy e).elim (fun k => I.ok.has _ (.inl k)) fun k => I.ok.has _ (.inr k)
  refine wpAny_comprehension_free (use := none) rfl cA (closure_ok cap) ok.kind (fun y hy e => by rw [ok.uniq y hy, e]) (thn (pA.run pins s σ H _ I h) fun xv s1 hx => thn hx fun itv s2 got => ?_)
  obtain ⟨ia, fa, na, JA, G2, rfl, I2, TA, sa2, fr2, body⟩ := got
  refine wpAny_newObj_type (newEnv_comp ?_)
  generalize eD : s2.heap.objs.size = D
  obtain ⟨W, ⟨m0, w0⟩, turn⟩ := body D (I2.hok.fresh (Nat.le_of_eq eD))
  generalize es3 : ({ s2 with heap := s2.heap.push { cls := .type "dict", data := .dict #[] } } : Shared) = s3
  have I3 : Inv X pins σ (upd G2 D (.dT [])) s3 := by
    subst es3
    exact I2.laid (t' := s2.toks) (fun _ _ e => Heap.get?_push_of_some _ e) (Nat.le_of_eq eD) (by rw [← eD]; exact dt_empty s2.heap I2.big)
  have h3 : s3.heap = s2.heap.push { cls := .type "dict", data := .dict #[] } := es3 ▸ rfl
  have fr3 : ∀ b ∈ fa, FpOk X pins (upd G2 D (.dT [])) b ∧ b < s3.heap.objs.size := fun b hb => by
    obtain ⟨_, e, _⟩ := TA.obj _ _ sa2 b hb
    have lt : b < s2.heap.objs.size := Heap.lt_size e
    have ne : b ≠ D := by rw [← eD]; exact Nat.ne_of_lt lt
    exact ⟨⟨(upd_ne ne).trans (fr2 b hb).1, (fr2 b hb).2⟩, by rw [h3, Heap.size_push]; exact Nat.lt_succ_of_lt lt⟩
  have sa3 : na 0 s3.heap := TA.keep _ _ _ sa2 fun b _ o e => h3 ▸ Heap.get?_push_of_some _ e
  have I4 := block_start I3 ok nd fr3
  generalize ecl : cellsFrom (s3.heap.objs.size + 1) scope.names (cloFrom X.env.cells scope.names []) = cl at I4
  have xG := aG s3 (upd G2 D (.dT [])) s3.heap.objs.size cl fa
  have xT := aT s3 (upd G2 D (.dT [])) s3.heap.objs.size cl fa
  have yK := bK s3 (upd G2 D (.dT [])) s3.heap.objs.size cl fa
  have yV := bV s3 (upd G2 D (.dT [])) s3.heap.objs.size cl fa
  show codeAny _ _ (.compStart (.DictComp kx vx [⟨tA, iA, fA, 0⟩] scope pos) 0 (.ref ia) (.ref D) (compEnvC scope cl s3.heap.objs.size X.env)) (compPost (model X.prog X.w) X.A X.xe none (EP X pins σ Q) (.ref D) s3.heap.objs.size) ⟨pushCells (s3.heap.push { cls := .type "dict", data := .dict #[] }) scope.names, s3.gens, s3.drawn, s3.toks, s3.os⟩
  have nofa : ∀ b ∈ fa, (upd G2 D (.dT [])) b = none := fun b hb => (fr3 b hb).1.1
  generalize ece : compEnvC scope cl s3.heap.objs.size X.env = ce at I4 xG xT yK yV ⊢
  have cloc : ce.locals = s3.heap.objs.size := ece ▸ rfl
  generalize eG3 : upd G2 D (.dT []) = G3 at I3 I4 xG xT yK yV w0 nofa fr3
  generalize es4 : (⟨pushCells (s3.heap.push { cls := .type "dict", data := .dict #[] }) scope.names, s3.gens, s3.drawn, s3.toks, s3.os⟩ : Shared) = s4 at I4 ⊢
  have sa4 : na 0 s4.heap := TA.keep _ _ _ sa3 fun b _ o e => es4 ▸ pushCells_keeps _ _ _ _ (Heap.get?_push_of_some _ e)
  have held : ∀ {σ' : L2.St} {H' : Hp} {s' : Shared}, Inv (X.blk s3 G3 scope ce fa) [] σ' H' s' → (∀ b ∈ fa, H' b = none) → ∀ b ∈ fa, FpOk (X.blk s3 G3 scope ce fa) [] H' b := fun I' hn b hb =>
    ⟨hn b hb, (I'.ok.exf b hb).1, I'.ok.exfs b hb, .inl hb, fun x c e => (I'.ok.exf b hb).2 x c e, fun p (hp : p ∈ ([] : List (Addr × Obj)) ++ []) => by simp at hp⟩
  have loop : codeAny (model X.prog X.w) X.A (.compLoop (.DictComp kx vx [⟨tA, iA, fA, 0⟩] scope pos) 0 (.ref ia) (.ref D) ce) (compPost (model X.prog X.w) X.A X.xe none (EP X pins σ Q) (.ref D) s3.heap.objs.size) s4 := by
    refine codeAny_loop rfl (fun n s' => ∃ i H', Inv (X.blk s3 G3 scope ce fa) [] (wipe σ (own.map (·.2))) H' s' ∧ na i s'.heap ∧ (∀ b ∈ fa, H' b = none) ∧ W i n H') (fun n s5 ⟨i, H5, I5, sa5, no5, w5⟩ => ?_) m0 ⟨0, G3, I4, sa4, nofa, w0⟩
    show wpAny _ X.A ((compTurn (.DictComp kx vx [⟨tA, iA, fA, 0⟩] scope pos) 0 (.ref ia) (.ref D) ce).onRaise fun x => do noteFrame x ce; theTreesLotGoes x) _ _ s5
    refine wpAny_noted ?_
    show wpAny _ _ (standAt iA.pos >>= _) _ _ _
    refine wpAny_bind (wpAny_standAt ?_)
    show wpAny _ _ (pyNext (.ref ia) >>= _) _ _ _
    rcases turn i n H5 w5 with ⟨stop, fin⟩ | ⟨go, Nx, down, step⟩
    · refine wpAny_bind (thnF (TA.done (X.blk s3 G3 scope ce fa) rfl rfl rfl hc i [] s5 _ H5 (fun _ _ => False) I5 (held I5 no5) sa5 stop) fun r s6 ⟨er, I6⟩ => ?_)
      subst er
      refine wpAny_pure ?_
      -- back in the def
      have I7 : Inv X pins σ H5 s6 := I3.call' (ch := fa) I6.os I6.base I6.hok I6.bare fun b hb => by
        obtain ⟨_, p1, _, p3, p4, p5⟩ := (fr3 b hb).1
        exact ⟨p3, p1, p4, p5⟩
      have free : H5 s3.heap.objs.size = none := cloc ▸ (show H5 ce.locals = none from I6.free)
      obtain ⟨m, (ns : s6.heap.Ns ce.locals m), _⟩ := I6.loc
      rw [cloc] at ns
      obtain ⟨f0, f1, f2, f3, f4, f5⟩ := I3.fpOk (Nat.le_refl _) free
      exact ⟨m, ns, fun _ sb => ⟨.ref D, H5, I7.turned (t' := s6.toks) (fun b o hb e => (sb.2 b hb).trans e) f0 f1 f3 f4 f5, rfl, fin⟩⟩
    · refine wpAny_bind (thnF (TA.item (X.blk s3 G3 scope ce fa) rfl rfl rfl hc i [] s5 _ H5 (fun _ _ => False) I5 (held I5 no5) sa5 go) fun r s6 ⟨u, er, g6⟩ => ?_)
      subst er
      show wpAny _ _ (letOwnedTupleGo tA (.ref ia) u >>= _) _ _ _
      refine wpAny_bind (thnF g6 fun _ s7 ⟨x, H7, I7, r7, y7, sa7, no7⟩ => ?_)
      refine wpAny_bind (thnF (xG.run _ s7 _ H7 x u _ (I7.pinned (held I7 no7) (TA.obj _ _ sa7)) r7 (step x H7 y7)) fun _ s8 ⟨σ8, H8, I8, hw8, q8⟩ => ?_)
      refine wpAny_bind (thnF (xT.run _ s8 σ8 H8 _ I8 q8) fun b s9 ⟨H9, I9, q9⟩ => ?_)
      -- the turn's end
      have back : ∀ {s' : Shared} {H' : Hp}, Inv (X.blk s3 G3 scope ce fa) ([] ++ pinsAt fa s7.heap) σ8 H' s' → Nx H' →
          ∃ m, m < n ∧ ∃ i H', Inv (X.blk s3 G3 scope ce fa) [] (wipe σ (own.map (·.2))) H' s' ∧ na i s'.heap ∧ (∀ b ∈ fa, H' b = none) ∧ W i m H' := fun {s' H'} I' nx => by
        obtain ⟨m', lt, w'⟩ := down H' nx
        have stay : ∀ b ∈ fa, ∀ o, s7.heap.get? b = some o → s'.heap.get? b = some o ∧ H' b = none := fun b hb o e => by
          have z := I'.pin (b, o) (List.mem_append_right _ (List.mem_append_right _ (mem_pinsAt hb e)))
          exact ⟨z.1, z.2.1⟩
        exact ⟨m', lt, i + 1, H', (I'.unpinned (pins := [])).weak (by rw [← hw8, wipe_length]) (fun j v e => (wipe_some (hw8 ▸ e)).1), TA.keep _ _ _ sa7 fun b hb o e => (stay b hb o e).1, fun b hb => (TA.obj _ _ sa7 b hb).elim fun o z => (stay b hb o z.1).2, w'⟩
      cases b with
      | false =>
        simp only [Bool.false_eq_true, if_false] at q9 ⊢
        exact wpAny_pure ⟨rfl, back I9 q9⟩
      | true =>
        simp only [if_true] at q9 ⊢
        refine wpAny_bind (wpAny_bind (thnF (yK.run _ s9 σ8 H9 _ I9 q9) fun kv s10 ⟨yk, H10, I10, r10, q10⟩ => ?_))
        refine wpAny_bind (wpAny_holding (thnF (yV.run _ s10 σ8 H10 _ I10 q10) fun vv s11 ⟨yv, H11, I11, r11, kvs, kk, b, ek, eb, d11, lt11, ny⟩ => ?_))
        subst ek
        have ekv : kv = Value.ref b := r10
        rw [ekv]
        exact wpAny_bind (wpAny_standAt (wpAny_holding (put_tup (X := (X.blk s3 G3 scope ce fa)) hu I11 d11 lt11 eb r11 fun s12 I12 => wpAny_pure ⟨rfl, back I12 ny⟩)))
  exact codeAny_compStart_dict loop (TA.self X.A 0 _ _ _ sa4 loop)
end
end L2

/-! Z12: sorted of pairs of ints. -/
namespace L2
open PySem PySem.Spec PyProof.Rows
/-! ### sorted(a list of pairs of ints) -/
abbrev Pr := Addr × Int × Int
def prV (p : Pr) : List V := [.int p.2.1, .int p.2.2]
def prDat (p : Pr) : PyData := .tuple [.int p.2.1, .int p.2.2]
def prLe (p q : Pr) : Bool := decide (p.2.1 < q.2.1 ∨ (p.2.1 = q.2.1 ∧ p.2.2 ≤ q.2.2))
def rSortPr (K : PySem.W.Frag) : List V → Hp → VK → Prop := fun vs H Q => ∃ (a : Addr) (ks : List Pr), vs = [V.ref a] ∧ SqL K H a (ks.map fun p => V.ref p.1) ∧ (∀ p ∈ ks, SqT K H p.1 (prV p)) ∧ ∀ q, H q = none → Q (.ref q) (upd H q (.lst ((ks.mergeSort prLe).map fun p => V.ref p.1)))
section
variable {X : Cx}
theorem pr_reads {pins : List (Addr × Obj)} {σ : St} {H : Hp} {s : Shared} (I : Inv X pins σ H s) : ∀ ks : List Pr, (∀ p ∈ ks, SqT X.K H p.1 (prV p)) →
    PySem.W.EachIs (fun v (b : Pr) => v = Value.ref b.1) (ks.map fun p => Value.ref p.1) ks ∧ PySem.W.EachIs (fun v (b : Pr) => ∃ as, Reads s.heap v (prDat b) as) (ks.map fun p => Value.ref p.1) ks
  | [], _ => ⟨.nil, .nil⟩
  | p :: ks, h => by
    obtain ⟨h1, h2⟩ := pr_reads I ks fun q hq => h q (List.mem_cons_of_mem _ hq)
    exact ⟨.cons rfl h1, .cons (Dp.reads I _ (.ref p.1) _ (.tup (h p List.mem_cons_self) (.cons (.int _) (.cons (.int _) .nil))) rfl) h2⟩
theorem refs_eachP : ∀ {vs : List Value} {ks : List Pr}, PySem.W.EachIs (fun v (b : Pr) => v = Value.ref b.1) vs ks → vs = ks.map fun p => Value.ref p.1
  | _, _, .nil => rfl
  | _, _, .cons h t => by rw [h, refs_eachP t, List.map_cons]
theorem prLe_eq : PySem.W.dataLe false prDat = prLe := PySem.W.dataLe_ii (fun b : Pr => b.2.1) (fun b : Pr => b.2.2)
theorem refs_of_valsP : ∀ {ks : List Pr} {us : List Value}, Vals (ks.map fun p => V.ref p.1) us → us = ks.map fun p => Value.ref p.1
  | [], _, .nil => rfl
  | p :: ks, _, .cons r t => by
    cases r
    rw [refs_of_valsP t] <;> rfl
theorem vals_of_refsP : ∀ (ks : List Pr), Vals (ks.map fun p => V.ref p.1) (ks.map fun p => Value.ref p.1)
  | [] => .nil
  | p :: ks => .cons rfl (vals_of_refsP ks)
theorem cr_sortPr (hu : X.A.units + 64 < cLine) : CallR X (.builtin "sorted") (rSortPr X.K) := by
  intro pins s σ H vs us Q I r h
  obtain ⟨a, ks, rfl, hs, hk, q⟩ := h
  rw [Vals.ref1 r]
  obtain ⟨its, rv, hl, hz⟩ := I.list hs
  have ei : its = ks.map fun p => Value.ref p.1 := refs_of_valsP rv
  subst ei
  obtain ⟨e1, e2⟩ := pr_reads I ks hk
  rw [List.length_map] at hz
  refine PySem.W.sorted_data (R := fun v (b : Pr) => v = Value.ref b.1) (enc := prDat) (bs := ks) hl.isList e1 e2 (PySem.W.AllAlike.of fun b b' => ?_) (PySem.W.Sortable.tuples fun b => ⟨_, _, rfl⟩) hz (fun b hb => ?_) fun out hlen eo => ?_
  · show PySem.W.alike (.tuple [.int b.2.1, .int b.2.2]) (.tuple [.int b'.2.1, .int b'.2.2]) = true
    simp [PySem.W.alike, PySem.W.alikeAll]
  · show X.A.units + 2 + (PyData.tuple [.int b.2.1, .int b.2.2]).depth < cLine
    simp [PyData.depth, PyData.depthAll]; omega
  · rw [prLe_eq] at eo
    have eo' := refs_eachP eo
    obtain ⟨ep, he⟩ := PyProof.Rows.sortedAll_at s.heap (ks.map fun p => Value.ref p.1) out.toArray
    have hlen2 : ((ks.mergeSort prLe).map fun p => V.ref p.1).length ≤ sizeLine := by rw [List.length_map, List.length_mergeSort]; exact hz
    refine ⟨.ref _, upd H (s.heap.objs.size + 1) (.lst ((ks.mergeSort prLe).map fun p => V.ref p.1)), I.laid (t' := s.toks) (fun _ _ => PyProof.Rows.sortedAll_old) (Nat.le_succ _) ⟨hlen2, out, ep, ?_, he⟩, rfl, q _ (I.hok.fresh (Nat.le_succ _))⟩
    rw [eo']; exact vals_of_refsP _
end
end L2

/-! Z13: a def of the text whose code object is told (it holds a def of its own); the end with that def's table of code objects where no repr is under way. -/
namespace L2
open PySem PySem.Spec PyProof.Rows
structure DfC (K : PySem.W.Frag) (mg : Str → Option Value) (x : Str) (st : Stmt) (ps : List Str) (c : Addr) : Prop where
  ex : ∃ (f : Addr) (oc : Value) (od : Option Addr) (kV doc pm : Value) (an : Option Addr) (ct : Value) (osl : Array (Option Value)),
    K.lookup f = some ⟨oc, od, .func (PySem.W.fnOf x x (defArgs st) (defBody st) (defScope st) .none kV doc pm an (.ref c) ct), osl⟩ ∧ PySem.W.codeIn K (.ref c) x = true ∧ PySem.W.keepIn K (.ref f) = true ∧ mg x = some (.ref f) ∧
      Binds K (PySem.W.fnOf x x (defArgs st) (defBody st) (defScope st) .none kV doc pm an (.ref c) ct) ps []
theorem cd_of {K : PySem.W.Frag} {x : Str} {f c T : Addr} {oc : Value} {od : Option Addr} {fd : FuncData} {osl : Array (Option Value)} (a : PySem.W.nsIn K mainGlobals x = some (some (.ref f))) (l : K.lookup f = some ⟨oc, od, .func fd, osl⟩)
    (t : PySem.W.tabIn K x = some (c, T)) : fd.code = .ref c := by
  unfold PySem.W.tabIn at t
  simp only [a, l] at t
  cases e : fd.code with
  | ref b =>
    simp only [e] at t
    split at t
    · split at t
      · cases t; rfl
      · cases t
    · cases t
  | _ => simp only [e] at t; cases t
section
variable {P : Program} {w : World} {K : PySem.W.Frag} {mg : Str → Option Value} {base : Heap} {x : Str} {st : Stmt} {ps N : List Str} {k : Nat} {sp : Sp} {c T : Addr}
theorem DfC.mk' {f : Addr} {oc : Value} {od an : Option Addr} {osl : Array (Option Value)} {kV doc pm cdv ct : Value} (l : K.lookup f = some ⟨oc, od, .func (PySem.W.fnOf x x (defArgs st) (defBody st) (defScope st) .none kV doc pm an cdv ct), osl⟩)
    (cc : PySem.W.codeIn K cdv x = true) (kp : PySem.W.keepIn K (.ref f) = true) (g : mg x = some (.ref f)) (a : PySem.W.nsIn K mainGlobals x = some (some (.ref f))) (t : PySem.W.tabIn K x = some (c, T))
    (h : ∀ (kV doc pm : Value) (an : Option Addr) (cdv ct : Value) (us : List Value), us.length = ps.length → bindArgs (PySem.W.fnOf x x (defArgs st) (defBody st) (defScope st) .none kV doc pm an cdv ct) ⟨us, []⟩ = pure (ps.zip us)) : DfC K mg x st ps c := by
  have e : cdv = .ref c := cd_of a l t
  subst e
  exact ⟨f, oc, od, kV, doc, pm, an, ct, osl, l, cc, kp, g, (fun_mk l cc kp).binds h⟩
theorem DfC.ok (D : DfC K mg x st ps c) (S : FnScope N ps (defScope st)) (len : ∀ vs H Q E, sp vs H Q E → vs.length = ps.length)
    (hb : ∀ (f : Addr) (A : Around) (outer : List Env) (s : Shared) (H : Hp) (vs : List V) (Q : VK) (E : XK), Room k (A.deeper (envOfC x (defScope st) s.heap.objs.size f (.ref c))) → sp vs H Q E →
      ∃ t, PSs (cxOf CX0 P w K mg base N x (defScope st) f (.ref c) A outer s H E).nox (defBody st) t ∧ t { nx := fun _ H' => Q .non H', rt := Q } (start N vs) H) : Kn P w K mg base CX0 (k + 1) x st ps sp := by
  obtain ⟨f, oc, od, kV, doc, pm, an, ct, osl, l, cc, kp, g, b⟩ := D.ex
  refine ⟨f, _, fn_of l cc S len fun A outer s H vs Q E hr h => ?_, g, kp, b, kV, doc, pm, an, .ref c, ct, rfl⟩
  obtain ⟨t, h1, h2⟩ := hb f A outer s H vs Q E hr h
  exact ⟨t, h1.nox, h2⟩
end
/-! ### the end -/
theorem law_callQT {P : Program} {w : World} {K : PySem.W.Frag} {mg mb : Str → Option Value} {k : Nat} {fa a cO tO : Addr} {fd : FuncData} {x : Str} {sp : Sp} {s : Shared} {vs : List Value} {ns : List Int}
    (kin : K.In s.heap) (glob : s.heap.Ns mainGlobals mg) (blt : s.heap.Ns builtinsNs mb) (boot : ∀ x : Str, x ≠ "__name__" → mb x = bootBuiltins x) (lim : s.heap.NoLimit) (gens : s.gens = #[])
    (empty : s.heap.get? tO = some { cls := .none, data := .fields #[] }) (out : K.lookup tO = none) (code : PySem.W.CodeHd s.heap cO tO)
    (mod : ∃ (bm : Addr) (ob : Obj), mg "__builtins__" = some (.ref bm) ∧ bm ≠ builtinsNs ∧ s.heap.get? bm = some ob ∧ ob.cls = .type "module" ∧ ob.dict = some builtinsNs ∧ ob.data = .plain)
    (ha : s.heap.get? a = some { cls := .type "list", data := .seq vs.toArray }) (hi : IntsAre vs ns) (hl : ns.length ≤ sizeLine) (hr : Room k callerA)
    (F : ∀ base : Heap, K.In base → base.Ns mainGlobals mg → LamX.TabB base mg cO tO → Qui P w K mg base k fa fd [x] sp) (bind : ∀ (s : Shared) (u : Value), BindsTo s fd ⟨[u], []⟩ [(x, u)])
    (hsp : ∀ H : Hp, H tO = some (.tbl #[]) → SqL K H a (ns.map V.int) → sp [.ref a] H (fun v _ => v = .bl true) fun _ _ _ => False) :
    codeAny (model P w) callerA (.call (.ref fa) ⟨[.ref a], []⟩) (fun r s' => r = .ok (.ret (.bool true)) ∧ OldK s.heap s'.heap ∧ s'.os = s.os ∧ AllBare s'.gens) s := by
  obtain ⟨H0, _, script, held0, alone⟩ := script_hp (P := P) (w := w) kin ha hi hl
  have r := vals_ints hi
  have aT : a ≠ tO := fun z => by
    rw [z, empty] at ha
    cases ha
  have free : H0 tO = none := by
    rcases z : H0 tO with _ | u
    · rfl
    · exact absurd (alone tO u z).1.symm aT
  -- the table is tracked besides
  have top : upd H0 tO (.tbl #[]) tO = some (.tbl #[]) := upd_same
  have side : ∀ {b : Addr}, b ≠ tO → upd H0 tO (.tbl #[]) b = H0 b := fun n => upd_ne n
  have scriptT : SqL K (upd H0 tO (.tbl #[])) a (ns.map V.int) := by
    rcases script with (z | ⟨o, z⟩) | z
    · exact .inl (.inl ((side aT).trans z))
    · exact .inl (.inr ⟨o, (side aT).trans z⟩)
    · exact .inr z
  have cases3 : ∀ b o, upd H0 tO (.tbl #[]) b = some o → (b = tO ∧ o = .tbl #[]) ∨ (b = a ∧ b ≠ tO ∧ K.lookup a = none ∧ o = .frz { cls := .type "list", data := .seq vs.toArray } (.lst (ns.map V.int))) := fun b o z => by
    by_cases n : b = tO
    · subst n
      exact .inl ⟨rfl, (Option.some.inj (top.symm.trans z)).symm⟩
    · obtain ⟨e1, e2, e3⟩ := alone b o ((side n).symm.trans z)
      exact .inr ⟨e1, n, e2, e3⟩
  have held : HOk P w (upd H0 tO (.tbl #[])) s.heap := fun b o z => by
    rcases cases3 b o z with ⟨rfl, rfl⟩ | ⟨rfl, _, _, rfl⟩
    · exact empty
    · exact ⟨ha, by rw [List.length_map]; exact hl, vs, _, r, ha⟩
  have low : ∀ {b : Addr} {o : Obj}, s.heap.get? b = some o → (∀ xs n, o.data ≠ .seq xs n ∨ K.lookup b ≠ none) → (o.data ≠ .fields #[] ∨ K.lookup b ≠ none) → (hidT s.heap (upd H0 tO (.tbl #[]))).get? b = some o := fun {b o} e d d2 => by
    refine hidT_get e ?_
    rcases z : upd H0 tO (.tbl #[]) b with _ | u
    · rfl
    · rcases cases3 b u z with ⟨rfl, _⟩ | ⟨rfl, _, n, _⟩
      · rw [empty] at e
        cases e
        rcases d2 with y | y
        · exact absurd rfl y
        · exact absurd out y
      · rw [ha] at e
        cases e
        rcases d vs.toArray 0 with y | y
        · exact absurd rfl y
        · exact absurd n y
  have spaces : ∀ {b : Addr} {m : Str → Option Value}, s.heap.Ns b m → (hidT s.heap (upd H0 tO (.tbl #[]))).Ns b m := fun ⟨o, es, ep, e, d, z⟩ => ⟨o, es, ep, low e (fun xs n => .inl (by rw [d]; intro q; cases q)) (.inl (by rw [d]; intro q; cases q)), d, z⟩
  have kinB : K.In (hidT s.heap (upd H0 tO (.tbl #[]))) := fun b o e => low (kin b o e) (fun xs n => .inr (by intro q; rw [e] at q; cases q)) (.inr (by intro q; rw [e] at q; cases q))
  have tab : LamX.TabB (hidT s.heap (upd H0 tO (.tbl #[]))) mg cO tO := by
    refine ⟨?_, ?_, fun z => ?_⟩
    · obtain ⟨o, us, file, tf, flags, tg, inF, text, tt, e1, r1, r2, r3, rest⟩ := code
      refine ⟨o, us, file, tf, flags, tg, inF, text, tt, low e1 (fun xs n => .inl ?_) (.inl ?_), r1, r2, r3, rest⟩
      · rw [r2]; intro q; cases q
      · rw [r2]; intro q
        cases q
        simp at r3
    · obtain ⟨bm, ob, b1, b2, b3, b4, b5, b6⟩ := mod
      refine ⟨bm, ob, b1, b2, fun q => ?_, fun q => ?_, low b3 (fun xs n => .inl ?_) (.inl ?_), b4, b5, b6⟩
      · obtain ⟨o, es, ep, e, d, _⟩ := glob
        rw [q, e] at b3
        cases b3
        rw [d] at b6
        cases b6
      · rw [q, empty] at b3
        cases b3
        cases b6
      · rw [b6]; intro q; cases q
      · rw [b6]; intro q; cases q
    · obtain ⟨o, es, ep, e, d, _⟩ := glob
      rw [z, empty] at e
      cases e
      cases d
  have room : Env0 P w K mg (hidT s.heap (upd H0 tO (.tbl #[]))) callerA [] s (upd H0 tO (.tbl #[])) :=
    ⟨rfl, ⟨kinB, spaces glob, ⟨mb, spaces blt, boot⟩, lim.imp fun mc z => ⟨spaces z.1, z.2⟩⟩, fun _ _ => of_hidT, Nat.le_of_eq (hidT_size _ _), trivial, fun b z => absurd (show b ∈ ([] : List Addr) from z) List.not_mem_nil, held, .of_eq gens⟩
  refine codeAny_mono ((F _ kinB (spaces glob) tab).go callerA [] s _ ⟨[.ref a], []⟩ [.ref a] [.ref a] _ _ hr rfl room (bind s (.ref a)) (.cons rfl .nil) (hsp _ top scriptT)) ?_
  rintro (e | fl) s' z
  · exact z.elim
  match fl, z with
  | .next, z => exact z.elim
  | .brk, z => exact z.elim
  | .cont, z => exact z.elim
  | .ret u, ⟨v, H', os, bare, un, held', rv, q⟩ =>
    cases (show v = V.bl true from q)
    cases (show u = Value.bool true from rv)
    obtain ⟨more, grown⟩ := un.tbls tO #[] top
    have new := held' tO _ grown
    have others : ∀ b o, b ≠ tO → s.heap.get? b = some o → s'.heap.get? b = some o := fun b o n e => by
      rcases y : upd H0 tO (.tbl #[]) b with _ | u
      · exact un.keep b o e y (fun z => absurd (show b ∈ ([] : List Addr) from z) List.not_mem_nil) (fun z => absurd (show b ∈ ([] : List Addr) from z) List.not_mem_nil)
      · rcases cases3 b u y with ⟨z, _⟩ | ⟨rfl, _, _, rfl⟩
        · exact absurd z n
        · have h1 := (held b _ y).1
          have h2 := (held' b _ (un.frzs b _ _ y)).1
          rw [e] at h1
          cases h1
          exact h2
    refine ⟨rfl, ⟨fun b o e => ?_, fun b o e => ?_⟩, os, bare⟩
    · by_cases n : b = tO
      · subst n
        rw [empty] at e
        cases e
        exact .inr (.inl ⟨(code.tab empty).isCodeTable, rfl, #[], more, rfl, by rw [Array.empty_append]; rw [Array.empty_append] at new; exact new⟩)
      · exact .inl (others b o n e)
    · by_cases n : b = tO
      · subst n
        exact ⟨_, new⟩
      · exact ⟨o, others b o n e⟩
theorem walk_ofQT {l : PySem.W.OpenLaw} {n k : Nat} {q : Program} {loose : List Str} {XP : (Str → Option Value) → Heap → Prop} {YP : World → Heap → Prop} {d : DefRec} {K : Params → PySem.W.Frag} {sp : World → Addr → Sp} {x : Str} (y : Str)
    (hn : l.most = some n) (hn2 : n ≤ sizeLine) (hdf : d.params.defaults = []) (hr : Room k callerA) (found : ((recsOf q).any fun e => e.name == y) = true) (kin : ∀ (w : World) (h : Heap), YP w h → (K w.params).In h)
    (F : ∀ (w : World) (mg : Str → Option Value) (fa : Addr) (h : Heap), (K w.params).In h → h.Ns mainGlobals mg → mg d.name = some (.ref fa) →
      ∃ (fd : FuncData) (cO tO : Addr), PySem.W.tabIn (K w.params) y = some (cO, tO) ∧ (K w.params).lookup tO = none ∧ (∀ (s : Shared) (u : Value), BindsTo s fd ⟨[u], []⟩ [(x, u)]) ∧
        ∀ base : Heap, (K w.params).In base → base.Ns mainGlobals mg → LamX.TabB base mg cO tO → Qui l.prog w (K w.params) mg base k fa fd [x] (sp w tO))
    (hsp : ∀ (w : World) (tO : Addr) (H : Hp) (a : Addr) (ns : List Int), ns.length ≤ n → H tO = some (.tbl #[]) → SqL (K w.params) H a (ns.map V.int) → sp w tO [.ref a] H (fun v _ => v = .bl true) fun _ _ _ => False) :
    PySem.W.WalkO q loose XP YP l.row.toRowW d [] (fun f vs => PySem.call f vs) := by
  refine Att.attach_callB hn hdf ?_
  intro w _ s₁ mg mb fa o pm cd doc a vs ns G Y _ _ _ named script whole many _ bare
  obtain ⟨fd, cO, tO, ht, out, binds, holds⟩ := F w mg fa _ (kin w _ Y) G.T.g named
  obtain ⟨dL, hd⟩ := Option.isSome_iff_exists.mp (List.find?_isSome.mpr (List.any_eq_true.mp found))
  obtain ⟨code, empty⟩ := PySem.W.tab_of G.T (kin w _ Y) hd ht
  exact law_callQT (kin w _ Y) G.T.g G.T.b G.T.builtins G.T.nolimit bare empty out code G.T.bmain script whole (Nat.le_trans many hn2) hr holds binds fun H e z => hsp w tO H a ns many e z
end L2

namespace My
open PySem PySem.Spec PyProof.Rows L2
/-! ### the row's text, the built-ins, the errors' classes -/
abbrev topS (i : Nat) : Stmt := PySem.Challenge.pw_heldbehind_k26_sizes_compared.main.body.getD i (.Pass ⟨0, 0, 0, 0⟩)
structure Bl (mg : Str → Option Value) : Prop where
  isinstance : mg "isinstance" = none
  int : mg "int" = none
  bool : mg "bool" = none
  tuple : mg "tuple" = none
  len : mg "len" = none
  all : mg "all" = none
  enumerate : mg "enumerate" = none
  reversed : mg "reversed" = none
  sorted : mg "sorted" = none
  max : mg "max" = none
  min : mg "min" = none
  abs : mg "abs" = none
  range : mg "range" = none
  list : mg "list" = none
  repr : mg "repr" = none
  sum : mg "sum" = none
  any : mg "any" = none
  zip : mg "zip" = none
  str : mg "str" = none
  set : mg "set" = none
  dict : mg "dict" = none
structure Ex1 (K : PySem.W.Frag) (mg : Str → Option Value) (nm : Str) (C : Addr) : Prop where
  x : PySem.W.excIn K C [.type "ValueError", .type "Exception", .type "BaseException", .type "object"] "ValueError.__new__" = true
  g : mg nm = some (.ref C)
  k : PySem.W.keepIn K (.ref C) = true
  b : PySem.W.subIn K (.ref C) (.type "BaseException") = some true
  t : PySem.W.typeIn K (.ref C) = some (.type "type")
theorem passX {X : Cx} {E : XK} (tk : Takes X (fun cls d _ H => E cls d H)) : Passes (L2.CX X.prog X.w) X E := passes_call tk (fun _ _ _ _ h => h)
/-! ### what a value is -/
def tupAt (H : Hp) : V → Option (List V)
  | .ref a => match H a with
    | some (.tup xs) => some xs
    | _ => none
  | _ => none
def isInt : V → Bool
  | .int _ => true
  | _ => false
def isBl : V → Bool
  | .bl _ => true
  | _ => false
def isIdx (n : Int) : V → Bool
  | .int i => decide (0 ≤ i) && decide (i < n)
  | _ => false
inductive Vd (H : Hp) : V → Prop where
  | non : Vd H .non
  | bl (b : Bool) : Vd H (.bl b)
  | int (i : Int) : Vd H (.int i)
  | str (z : Str) : Vd H (.str z)
  | lst {a : Addr} {xs : List V} (h : H a = some (.lst xs)) : Vd H (.ref a)
  | tup {a : Addr} {xs : List V} (h : H a = some (.tup xs)) : Vd H (.ref a)
  | dK {a : Addr} {kvs : List (Key × V)} (h : H a = some (.dK kvs)) : Vd H (.ref a)
theorem Vd.same {H H' : Hp} {x : V} (v : Vd H x) (s : Same H H') : Vd H' x := by
  cases v with
  | non => exact .non
  | bl b => exact .bl b
  | int i => exact .int i
  | str z => exact .str z
  | lst h => exact .lst (s _ _ h)
  | tup h => exact .tup (s _ _ h)
  | dK h => exact .dK (s _ _ h)
theorem tupAt_tup {H : Hp} {a : Addr} {xs : List V} (h : H a = some (.tup xs)) : tupAt H (.ref a) = some xs := by simp only [tupAt, h]
theorem tupAt_lst {H : Hp} {a : Addr} {xs : List V} (h : H a = some (.lst xs)) : tupAt H (.ref a) = none := by simp only [tupAt, h]
theorem tupAt_dK {H : Hp} {a : Addr} {xs : List (Key × V)} (h : H a = some (.dK xs)) : tupAt H (.ref a) = none := by simp only [tupAt, h]
theorem Vd.ty {K : PySem.W.Frag} {H : Hp} {x : V} (v : Vd H x) : ∃ t : String, TyX K H x (.type t) ∧ kitB t "int" = some (isInt x || isBl x) ∧ kitB t "bool" = some (isBl x) ∧ kitB t "tuple" = some (tupAt H x).isSome := by
  cases v with
  | non => exact ⟨_, .base .non, (by decide +kernel : kitB "NoneType" "int" = some false), (by decide +kernel : kitB "NoneType" "bool" = some false), (by decide +kernel : kitB "NoneType" "tuple" = some false)⟩
  | bl b => exact ⟨_, .base (.bl b), (by decide +kernel : kitB "bool" "int" = some true), (by decide +kernel : kitB "bool" "bool" = some true), (by decide +kernel : kitB "bool" "tuple" = some false)⟩
  | int i => exact ⟨_, .base (.int i), (by decide +kernel : kitB "int" "int" = some true), (by decide +kernel : kitB "int" "bool" = some false), (by decide +kernel : kitB "int" "tuple" = some false)⟩
  | str z => exact ⟨_, .base (.str z), (by decide +kernel : kitB "str" "int" = some false), (by decide +kernel : kitB "str" "bool" = some false), (by decide +kernel : kitB "str" "tuple" = some false)⟩
  | lst h => exact ⟨_, .base (.lst h), (by decide +kernel : kitB "list" "int" = some false), (by decide +kernel : kitB "list" "bool" = some false), by rw [tupAt_lst h]; exact (by decide +kernel : kitB "list" "tuple" = some false)⟩
  | tup h => exact ⟨_, .base (.tup h), (by decide +kernel : kitB "tuple" "int" = some false), (by decide +kernel : kitB "tuple" "bool" = some false), by rw [tupAt_tup h]; exact (by decide +kernel : kitB "tuple" "tuple" = some true)⟩
  | dK h => exact ⟨_, .base (.dK h), (by decide +kernel : kitB "dict" "int" = some false), (by decide +kernel : kitB "dict" "bool" = some false), by rw [tupAt_dK h]; exact (by decide +kernel : kitB "dict" "tuple" = some false)⟩
/-! ### heldbehind.integers -/
def spIsInteger : Sp := fun vs H Q _ => ∃ x : V, vs = [x] ∧ Vd H x ∧ Q (.bl (isInt x)) H
def isBtw (n m : Int) : V → Bool
  | .int i => decide (n ≤ i) && decide (i ≤ m)
  | _ => false
theorem isBtw_idx (n : Int) (x : V) : isBtw 0 (n - 1) x = isIdx n x := by
  cases x with
  | int i =>
    show (decide (0 ≤ i) && decide (i ≤ n - 1)) = (decide (0 ≤ i) && decide (i < n))
    rw [show decide (i ≤ n - 1) = decide (i < n) from decide_eq_decide.mpr (by omega)]
  | _ => rfl
def spIsBetween : Sp := fun vs H Q _ => ∃ (x : V) (n m : Int), vs = [x, .int n, .int m] ∧ Vd H x ∧ Q (.bl (isBtw n m x)) H
def spIsIndex : Sp := fun vs H Q _ => ∃ (x : V) (n : Int), vs = [x, .int n] ∧ Vd H x ∧ Q (.bl (isIdx n x)) H
section
variable {P : Program} {w : World} {K : PySem.W.Frag} {mg : Str → Option Value} {base : Heap}
abbrev st_is_integer : Stmt := topS 5
abbrev N_is_integer : List Str := ["value"]
theorem sc_is_integer : FnScope N_is_integer ["value"] (defScope st_is_integer) := ⟨rfl, rfl, rfl, by decide +kernel, rfl, by decide +kernel, by decide +kernel⟩
theorem ok_is_integer (D : Df K mg "is_integer" st_is_integer ["value"]) (B : Bl mg) : Kn P w K mg base CX0 1 "is_integer" st_is_integer ["value"] spIsInteger := by
  refine D.ok sc_is_integer (fun vs H Q E h => ?_) (fun f cdv A outer s H vs Q E hr h => ?_)
  · obtain ⟨x, rfl, _⟩ := h; rfl
  obtain ⟨x, rfl, v, q⟩ := h
  refine ⟨_, ((pss_one (ps_ret (pe_and (pe_callB call_isi (by rfl) B.isinstance (by decide +kernel) (pa_cons (pv 0) (pa_cons (pe_bltn (v := .ty "int") (u := .type "int") (by rfl) B.int (by decide +kernel) rfl) pa_nil))) (pe_one (pe_not (pe_callB call_isi (by rfl) B.isinstance (by decide +kernel) (pa_cons (pv 0) (pa_cons (pe_bltn (v := .ty "bool") (u := .type "bool") (by rfl) B.bool (by decide +kernel) rfl) pa_nil))))))))), ?_⟩
  obtain ⟨t, ty, k1, k2, _⟩ := v.ty (K := K)
  refine ⟨_, rfl, _, _, _, _, _, rfl, .ty _, ty, kit_ty k1, _, rfl, ?_⟩
  cases e1 : isInt x with
  | true =>
    have e2 : isBl x = false := by cases x <;> first | rfl | cases e1
    rw [e2] at k2 ⊢
    refine iteT ⟨_, rfl, _, _, _, _, _, rfl, .ty _, ty, kit_ty k2, _, rfl, ?_⟩
    rw [e1] at q; exact q
  | false =>
    rw [e1] at q
    cases e2 : isBl x with
    | false => exact iteF q
    | true =>
      rw [e2] at k2
      exact iteT ⟨_, rfl, _, _, _, _, _, rfl, .ty _, ty, kit_ty k2, _, rfl, q⟩
abbrev st_is_between : Stmt := topS 6
abbrev N_is_between : List Str := ["value", "least", "greatest"]
theorem sc_is_between : FnScope N_is_between ["value", "least", "greatest"] (defScope st_is_between) := ⟨rfl, rfl, rfl, by decide +kernel, rfl, by decide +kernel, by decide +kernel⟩
theorem ok_is_between (D : Df K mg "is_between" st_is_between ["value", "least", "greatest"]) (B : Bl mg) (Kis_integer : Kn P w K mg base CX0 1 "is_integer" st_is_integer ["value"] spIsInteger) :
    Kn P w K mg base CX0 2 "is_between" st_is_between ["value", "least", "greatest"] spIsBetween := by
  refine D.ok sc_is_between (fun vs H Q E h => ?_) (fun f cdv A outer s H vs Q E hr h => ?_)
  · obtain ⟨x, n, m, rfl, _⟩ := h; rfl
  obtain ⟨x, n, m, rfl, v, q⟩ := h
  refine ⟨_, ((pss_one (ps_ret (pe_and (pe_callF Kis_integer (hr.mono (by decide)) pass0 (pa_cons (pv 0) pa_nil)) (pe_one (pe_chain op_le op_le (pv 1) (pv 0) (pv 2))))))), ?_⟩
  refine ⟨_, rfl, _, rfl, v, _, rfl, ?_⟩
  cases x with
  | int i =>
    refine iteT ⟨_, rfl, _, rfl, _, _, rfl, rfl, _, rfl, ?_⟩
    have q' : Q (.bl (decide (n ≤ i) && decide (i ≤ m))) H := q
    refine ite2 (fun c => ?_) (fun c => ?_)
    · rw [c, Bool.true_and] at q'
      exact ⟨_, rfl, _, _, rfl, rfl, q'⟩
    · rw [Bool.eq_false_iff.mpr c, Bool.false_and] at q'
      exact q'
  | _ => exact iteF q
abbrev st_is_index : Stmt := topS 7
abbrev N_is_index : List Str := ["value", "many"]
theorem sc_is_index : FnScope N_is_index ["value", "many"] (defScope st_is_index) := ⟨rfl, rfl, rfl, by decide +kernel, rfl, by decide +kernel, by decide +kernel⟩
theorem ok_is_index (D : Df K mg "is_index" st_is_index ["value", "many"]) (B : Bl mg) (Kis_between : Kn P w K mg base CX0 2 "is_between" st_is_between ["value", "least", "greatest"] spIsBetween) :
    Kn P w K mg base CX0 3 "is_index" st_is_index ["value", "many"] spIsIndex := by
  refine D.ok sc_is_index (fun vs H Q E h => ?_) (fun f cdv A outer s H vs Q E hr h => ?_)
  · obtain ⟨x, n, rfl, _⟩ := h; rfl
  obtain ⟨x, n, rfl, v, q⟩ := h
  refine ⟨_, ((pss_one (ps_ret (pe_callF Kis_between (hr.mono (by decide)) pass0 (pa_cons (pv 0) (pa_cons pe_int (pa_cons (pe_op op_sub (pv 1) pe_int) pa_nil))))))), ?_⟩
  refine ⟨_, rfl, _, rfl, _, _, rfl, rfl, x, 0, n - 1, rfl, v, ?_⟩
  rw [isBtw_idx]
  exact q
end

/-! ### forests as lists of holders -/
def hv : Option Nat → V
  | none => .non
  | some u => .int (u : Int)
abbrev Hs := List (Option Nat)
def nv (l : List Nat) : List V := l.map fun v : Nat => V.int (v : Int)
def kidsTo (hs : Hs) (u i : Nat) : List Nat := (List.range i).filter fun v => decide (hs[v]? = some (some u))
def rootsTo (hs : Hs) (i : Nat) : List Nat := (List.range i).filter fun v => decide (hs[v]? = some none)
def kids (hs : Hs) (u : Nat) : List Nat := kidsTo hs u hs.length
def roots (hs : Hs) : List Nat := rootsTo hs hs.length
theorem kidsTo_succ (hs : Hs) (u i : Nat) : kidsTo hs u (i + 1) = kidsTo hs u i ++ (if hs[i]? = some (some u) then [i] else []) := by
  unfold kidsTo
  rw [List.range_succ, List.filter_append]
  by_cases h : hs[i]? = some (some u) <;> simp [h]
theorem rootsTo_succ (hs : Hs) (i : Nat) : rootsTo hs (i + 1) = rootsTo hs i ++ (if hs[i]? = some none then [i] else []) := by
  unfold rootsTo
  rw [List.range_succ, List.filter_append]
  by_cases h : hs[i]? = some none <;> simp [h]
theorem mem_kids {hs : Hs} {u v : Nat} : v ∈ kids hs u ↔ hs[v]? = some (some u) := by
  unfold kids kidsTo
  rw [List.mem_filter, List.mem_range, decide_eq_true_eq]
  exact ⟨fun h => h.2, fun h => ⟨(List.getElem?_eq_some_iff.mp h).1, h⟩⟩
theorem mem_roots {hs : Hs} {v : Nat} : v ∈ roots hs ↔ hs[v]? = some none := by
  unfold roots rootsTo
  rw [List.mem_filter, List.mem_range, decide_eq_true_eq]
  exact ⟨fun h => h.2, fun h => ⟨(List.getElem?_eq_some_iff.mp h).1, h⟩⟩
theorem nodup_kids (hs : Hs) (u : Nat) : (kids hs u).Nodup := List.nodup_range.filter _
theorem nodup_roots (hs : Hs) : (roots hs).Nodup := List.nodup_range.filter _
theorem kidsTo_len (hs : Hs) (u i : Nat) : (kidsTo hs u i).length ≤ i := by
  have h := List.length_filter_le (fun v => decide (hs[v]? = some (some u))) (List.range i)
  rw [List.length_range] at h; exact h
theorem rootsTo_len (hs : Hs) (i : Nat) : (rootsTo hs i).length ≤ i := by
  have h := List.length_filter_le (fun v => decide (hs[v]? = some none)) (List.range i)
  rw [List.length_range] at h; exact h
theorem nv_append (a b : List Nat) : nv (a ++ b) = nv a ++ nv b := List.map_append
theorem nv_length (a : List Nat) : (nv a).length = a.length := List.length_map _
theorem nv_get {a : List Nat} {i v : Nat} (h : a[i]? = some v) : (nv a)[i]? = some (.int (v : Int)) := by
  unfold nv; rw [List.getElem?_map, h]; rfl
theorem hv_get {hs : Hs} {i : Nat} {x : V} (h : (hs.map hv)[i]? = some x) : ∃ o, hs[i]? = some o ∧ x = hv o := by
  rw [List.getElem?_map] at h
  cases e : hs[i]? with
  | none => rw [e] at h; cases h
  | some o => rw [e] at h; exact ⟨o, rfl, (Option.some.inj h).symm⟩
theorem hv_at {hs : Hs} {i : Nat} {o : Option Nat} (h : hs[i]? = some o) : (hs.map hv)[i]? = some (hv o) := by rw [List.getElem?_map, h]; rfl
theorem szl {n : Nat} (h : n ≤ 1000) : n < sizeLine := small1000 h
/-! ### heldbehind.forests: the private lists -/
def spWithout (K : PySem.W.Frag) : Sp := fun vs H Q _ => ∃ (a : Addr) (hs : Hs), vs = [.ref a] ∧ SqT K H a (hs.map hv) ∧ hs.length ≤ 1000 ∧
  ∀ p H', Same H H' → H p = none → H' p = some (.lst (nv (roots hs))) → Q (.ref p) H'
section
variable {P : Program} {w : World} {K : PySem.W.Frag} {mg : Str → Option Value} {base : Heap}
abbrev st__without_holder : Stmt := topS 13
abbrev N__without_holder : List Str := ["forest", "thing", "holder"]
theorem sc__without_holder : FnScope N__without_holder ["forest"] (defScope st__without_holder) := ⟨rfl, rfl, rfl, by decide +kernel, rfl, by decide +kernel, by decide +kernel⟩
theorem ok__without_holder (D : Df K mg "_without_holder" st__without_holder ["forest"]) (B : Bl mg) : Kn P w K mg base CX0 1 "_without_holder" st__without_holder ["forest"] (spWithout K) := by
  refine D.ok sc__without_holder (fun vs H Q E h => ?_) (fun f cdv A outer s H vs Q E hr h => ?_)
  · obtain ⟨a, hs, rfl, _⟩ := h; rfl
  obtain ⟨a, hs, rfl, hS, hn, q⟩ := h
  refine ⟨_, ((pss_one (ps_ret (pe_lc (own := [("thing", 1), ("holder", 2)]) (g := gTup K 2 (gCons (gName 1) (gCons (gName 2) gNil))) rfl sc__without_holder.nd (pi_enumT (by rfl) B.enumerate (pa_cons (pv 0) pa_nil)) (blkOk_by (N := N__without_holder) (sc := defScope st__without_holder) (own := [("thing", 1), ("holder", 2)]) (by decide +kernel)) (fun _ _ _ _ _ => by (refine pg_tup (n := 2) ?hc ?h ?hn ?hst; (case hc => rfl); (case hn => rfl); (case hst => rfl); case h => (refine pgs_cons ?g1 ?g2; (case g1 => exact (pg_name (i := 1) sc__without_holder.nd rfl (Or.inl rfl))); case g2 => (refine pgs_cons ?g1 ?g2; (case g1 => exact (pg_name (i := 2) sc__without_holder.nd rfl (Or.inl rfl))); case g2 => (exact pgs_nil))))) (fun _ _ _ _ _ => by exact (pts_one (pt_cmpR op_isN (pv 2) pe_non (nomark _)))) (fun _ _ _ _ _ => by exact (pv 1)))))), ?_⟩
  refine ⟨_, rfl, a, _, rfl, hS, fun D hD => lc_it (walk_enumT (xs := hs.map hv)) (fun i H' => Same H H' ∧ H' D = some (.lst (nv (rootsTo hs i)))) ⟨(Same.refl H).new hD, upd_same⟩ (fun i H' _ p => p.1.tseq hS) ?_ ?_⟩
  · rintro i x H1 H2 hi ⟨s1, hD1⟩ ⟨T, x1, x2, rfl, hT, rfl, e1, e2⟩
    have e1' := Option.some.inj e1; subst e1'
    obtain ⟨o, ho, rfl⟩ := hv_get e2
    have hDT : D ≠ T := ne_of_none hD1 hT
    refine ⟨T, _, rfl, SqT.of upd_same, rfl, _, _, rfl, _, _, rfl, rfl, rfl, _, rfl, rfl, _, rfl, ?_⟩
    have s2 : Same H (upd H1 T (.tup [.int (i : Int), hv o])) := s1.new hT
    have hi' : (rootsTo hs i).length ≤ i := rootsTo_len hs i
    have hil : i < hs.length := (List.getElem?_eq_some_iff.mp ho).1
    have hD2 : upd H1 T (.tup [.int (i : Int), hv o]) D = some (.lst (nv (rootsTo hs i))) := by rw [upd_ne hDT]; exact hD1
    refine ite2 (fun c => ?_) (fun c => ?_)
    · have eo : o = none := by
        cases o with
        | none => rfl
        | some u => exact absurd (of_decide_eq_true c) (by intro z; cases z)
      refine ⟨_, rfl, _, hD2, by rw [nv_length]; exact szl (by omega), s2.upd hD, ?_⟩
      rw [upd_same, rootsTo_succ, ho, eo, if_pos rfl, nv_append]; rfl
    · have eo : ¬ some o = some none := by intro z; cases z; exact c rfl
      refine ⟨s2, ?_⟩
      rw [hD2, rootsTo_succ, ho, if_neg eo, List.append_nil]
  · rintro H1 ⟨s1, hD1⟩
    refine q D H1 s1 hD ?_
    rw [hD1, List.length_map]; rfl
end

def InB (hs : Hs) : Prop := ∀ v u : Nat, hs[v]? = some (some u) → u < hs.length
structure HeldTo (H : Hp) (p : Addr) (as : List Addr) (hs : Hs) (i : Nat) : Prop where
  lst : H p = some (.lst (as.map V.ref))
  len : as.length = hs.length
  nd : as.Nodup
  at_ : ∀ (j : Nat) (c : Addr), as[j]? = some c → H c = some (.lst (nv (kidsTo hs j i)))
abbrev HeldAt (H : Hp) (p : Addr) (as : List Addr) (hs : Hs) : Prop := HeldTo H p as hs hs.length
theorem HeldTo.same {H H' : Hp} {p : Addr} {as : List Addr} {hs : Hs} {i : Nat} (h : HeldTo H p as hs i) (s : Same H H') : HeldTo H' p as hs i :=
  ⟨s _ _ h.lst, h.len, h.nd, fun j c e => s _ _ (h.at_ j c e)⟩
theorem nodup_at {as : List Addr} (nd : as.Nodup) {i j : Nat} {c : Addr} (h1 : as[i]? = some c) (h2 : as[j]? = some c) : i = j := by
  obtain ⟨l1, e1⟩ := List.getElem?_eq_some_iff.mp h1
  obtain ⟨l2, e2⟩ := List.getElem?_eq_some_iff.mp h2
  exact (List.getElem_inj nd).mp (e1.trans e2.symm)
/-- nothing is held by a thing beyond the turns: the turn of a thing without a holder -/
theorem HeldTo.skip {H : Hp} {p : Addr} {as : List Addr} {hs : Hs} {i : Nat} (h : HeldTo H p as hs i) (e : hs[i]? = some none) : HeldTo H p as hs (i + 1) :=
  ⟨h.lst, h.len, h.nd, fun j c q => by
    have z : ¬ hs[i]? = some (some j) := by rw [e]; intro w; cases w
    rw [kidsTo_succ, if_neg z, List.append_nil]; exact h.at_ j c q⟩
theorem HeldTo.put {H : Hp} {p c : Addr} {as : List Addr} {hs : Hs} {i u : Nat} (h : HeldTo H p as hs i) (e : hs[i]? = some (some u)) (hc : as[u]? = some c) :
    HeldTo (upd H c (.lst (nv (kidsTo hs u i) ++ [.int (i : Int)]))) p as hs (i + 1) := by
  have hcl := h.at_ u c hc
  have hpc : p ≠ c := by
    intro z
    have q := h.lst
    rw [z, hcl] at q
    have q2 := HO.lst.inj (Option.some.inj q)
    have hl : as ≠ [] := by intro w; rw [w] at hc; cases hc
    cases as with
    | nil => exact hl rfl
    | cons a0 r =>
      cases hk : kidsTo hs u i with
      | nil => rw [hk] at q2; cases q2
      | cons k0 kr => rw [hk] at q2; cases q2
  refine ⟨by rw [upd_ne hpc]; exact h.lst, h.len, h.nd, fun j c' q => ?_⟩
  by_cases hj : j = u
  · subst hj
    have ec : c' = c := Option.some.inj (q.symm.trans hc)
    subst ec
    rw [upd_same, kidsTo_succ, if_pos e, nv_append]; rfl
  · have ec : c' ≠ c := fun z => hj (nodup_at h.nd q (by rw [z]; exact hc))
    have z : ¬ hs[i]? = some (some j) := by rw [e]; intro w; cases w; exact hj rfl
    rw [upd_ne ec, kidsTo_succ, if_neg z, List.append_nil]; exact h.at_ j c' q
def spHeld (K : PySem.W.Frag) : Sp := fun vs H Q _ => ∃ (a : Addr) (hs : Hs), vs = [.ref a] ∧ SqT K H a (hs.map hv) ∧ hs.length ≤ 1000 ∧ InB hs ∧
  ∀ p as H', Same H H' → H p = none → (∀ c ∈ as, H c = none) → HeldAt H' p as hs → Q (.ref p) H'
section
variable {P : Program} {w : World} {K : PySem.W.Frag} {mg : Str → Option Value} {base : Heap}
abbrev st__held_lists : Stmt := topS 14
abbrev N__held_lists : List Str := ["forest", "held", "thing", "holder", "_"]
theorem sc__held_lists : FnScope N__held_lists ["forest"] (defScope st__held_lists) := ⟨rfl, rfl, rfl, by decide +kernel, rfl, by decide +kernel, by decide +kernel⟩
theorem ok__held_lists (D : Df K mg "_held_lists" st__held_lists ["forest"]) (B : Bl mg) : Kn P w K mg base CX0 1 "_held_lists" st__held_lists ["forest"] (spHeld K) := by
  refine D.ok sc__held_lists (fun vs H Q E h => ?_) (fun f cdv A outer s H vs Q E hr h => ?_)
  · obtain ⟨a, hs, rfl, _⟩ := h; rfl
  obtain ⟨a, hs, rfl, hS, hn, hin, q⟩ := h
  refine ⟨_, ((pss_cons (ps_setLc (i := 1) (own := [("_", 4)]) (g := gName 4) rfl sc__held_lists.nd rfl rfl (sw_true rfl rfl rfl (by decide +kernel)) (pi_tup (pv 0)) (blkOk_by (N := N__held_lists) (sc := defScope st__held_lists) (own := [("_", 4)]) (by decide +kernel)) (fun _ _ _ _ _ => by (exact (pg_name (i := 4) sc__held_lists.nd rfl (Or.inl rfl)))) (fun _ _ _ _ _ => by exact pts_nil) (fun _ _ _ _ _ => by exact (pe_lst pa_nil)))
      (pss_cons (ps_for PassesOwn.never rfl (pi_enumT (by rfl) B.enumerate (pa_cons (pv 0) pa_nil)) (pg_tup rfl (pgs_cons (pg_name (i := 2) sc__held_lists.nd rfl (Or.inl rfl)) (pgs_cons (pg_name (i := 3) sc__held_lists.nd rfl (Or.inl rfl)) pgs_nil))) (pss_one (ps_if (pt_cmpR op_notN (pv 3) pe_non (nomark _)) (pss_one (ps_expr (pe_bm PySem.F.plainAttrs_list PySem.F.slot_list_append PySem.F.type_list_append mt_append (pe_ix ix_list (pv 1) (pv 3) (fun _ _ => rfl)) (pa_cons (pv 2) pa_nil)))) pss_nil)))
      (pss_one (ps_ret (pv 1)))))), ?_⟩
  refine ⟨_, rfl, a, rfl, ⟨_, hS⟩, fun D hD => lc_it (walk_tup (xs := hs.map hv)) (fun i H' => Same H H' ∧ ∃ as : List Addr, as.length = i ∧ as.Nodup ∧ H' D = some (.lst (as.map V.ref)) ∧ ∀ c ∈ as, H' c = some (.lst []) ∧ H c = none ∧ c ≠ D)
    ⟨(Same.refl H).new hD, [], rfl, List.nodup_nil, upd_same, fun c hc => by cases hc⟩ (fun i H' _ p => p.1.tseq hS) ?_ ?_⟩
  · rintro i x H1 H2 hi ⟨s1, as, hlen, nd, hD1, hcs⟩ ⟨rfl, e1⟩
    rw [List.length_map] at hi
    refine ⟨rfl, ⟨by show 0 ≤ sizeLine; decide, fun p hp => ?_⟩⟩
    have hDp : D ≠ p := ne_of_none hD1 hp
    have hpn : H p = none := s1.free hp
    refine ⟨_, by rw [upd_ne hDp]; exact hD1, by rw [List.length_map]; exact szl (by omega), (s1.upd hpn).upd hD, as ++ [p], ?_, ?_, ?_, ?_⟩
    · rw [List.length_append, hlen]; rfl
    · refine List.nodup_append.mpr ⟨nd, by simp, fun x hx y hy => ?_⟩
      have ey : y = p := by simpa using hy
      rw [ey]
      exact ne_of_none (hcs x hx).1 hp
    · rw [upd_same, List.map_append]; rfl
    · intro c hc
      rcases List.mem_append.mp hc with hc | hc
      · obtain ⟨c1, c2, c3⟩ := hcs c hc
        exact ⟨by rw [upd_ne c3, upd_ne (ne_of_none c1 hp)]; exact c1, c2, c3⟩
      · have ec : c = p := by simpa using hc
        rw [ec]
        exact ⟨by rw [upd_ne hDp.symm, upd_same], hpn, hDp.symm⟩
  · rintro H1 ⟨s1, as, hlen, nd, hD1, hcs⟩
    rw [List.length_map] at hlen
    have h0 : HeldTo H1 D as hs 0 := ⟨hD1, hlen, nd, fun j c e => (hcs c (List.mem_of_getElem? e)).1⟩
    refine ⟨_, rfl, a, _, rfl, s1.tseq hS, for_it (walk_enumT (xs := hs.map hv)) (fun i σ H' => ∃ v2 v3, σ = [some (.ref a), some (.ref D), v2, v3, none] ∧ Same H H' ∧ HeldTo H' D as hs i)
      ⟨none, none, rfl, s1, h0⟩ (fun i σ H' _ p => by obtain ⟨_, _, _, p, _⟩ := p; exact p.tseq hS) ?_ ?_⟩
    · rintro i x σ H2 H3 hi ⟨v2, v3, rfl, s2, hh⟩ ⟨T, x1, x2, rfl, hT, rfl, e1, e2⟩
      have e1' := Option.some.inj e1; subst e1'
      obtain ⟨o, ho, rfl⟩ := hv_get e2
      have s3 : Same H2 (upd H2 T (.tup [.int (i : Int), hv o])) := (Same.refl _).new hT
      have hh3 := hh.same s3
      refine ⟨T, _, rfl, SqT.of upd_same, rfl, _, _, rfl, _, _, rfl, rfl, _, rfl, rfl, _, rfl, ?_⟩
      cases o with
      | none => exact iteF ⟨_, _, rfl, s2.trans s3, hh3.skip ho⟩
      | some u =>
        have hu := hin i u ho
        have hil : i < hs.length := (List.getElem?_eq_some_iff.mp ho).1
        obtain ⟨c, hc⟩ : ∃ c, as[u]? = some c := ⟨as[u]'(by rw [hlen]; exact hu), List.getElem?_eq_getElem _⟩
        have hc2 : (as.map V.ref)[u]? = some (.ref c) := by rw [List.getElem?_map, hc]; rfl
        have hcl := hh3.at_ u c hc
        have hk := kidsTo_len hs u i
        refine iteT ⟨_, rfl, _, rfl, D, _, _, _, rfl, rfl, SqL.of hh3.lst, atI_nat hc2, .inl ⟨rfl, _, SqL.of hcl⟩, _, rfl, c, _, _, rfl, rfl, hcl, by rw [nv_length]; exact szl (by omega), ?_⟩
        exact ⟨_, _, rfl, (s2.trans s3).upd (hcs c (List.mem_of_getElem? hc)).2.1, hh3.put ho hc⟩
    · rintro σ H2 ⟨v2, v3, rfl, s2, hh⟩
      rw [List.length_map] at hh
      exact ⟨_, rfl, q D as H2 s2 hD (fun c hc => (hcs c hc).2.1) hh⟩
end

theorem nodup_len : ∀ (n : Nat) (l : List Nat), l.Nodup → (∀ v ∈ l, v < n) → l.length ≤ n
  | 0, l, _, h => by
    cases l with
    | nil => exact Nat.le_refl _
    | cons a r => exact absurd (h a List.mem_cons_self) (Nat.not_lt_zero _)
  | n + 1, l, nd, h => by
    by_cases hm : n ∈ l
    · have h1 : (l.erase n).Nodup := nd.erase n
      have h2 : ∀ v ∈ l.erase n, v < n := fun v hv => by
        have h3 := h v (List.mem_of_mem_erase hv)
        have h4 : v ≠ n := fun e => by
          rw [e] at hv
          exact (List.Nodup.not_mem_erase nd) hv
        omega
      have ih := nodup_len n _ h1 h2
      have hl := List.length_erase_of_mem hm
      have hp := List.length_pos_of_mem hm
      omega
    · have ih := nodup_len n l nd fun v hv => by
        have h3 := h v hv
        have h4 : v ≠ n := fun e => hm (e ▸ hv)
        omega
      omega
/-- how far a walk has come: found, and what is waiting (its last one next) -/
structure WT (hs : Hs) (st : List Nat) (Rn : Nat → Prop) (found wait : List Nat) : Prop where
  nd : (found ++ wait).Nodup
  ok : ∀ v ∈ found ++ wait, v < hs.length ∧ Rn v ∧ (v ∈ st ∨ ∃ u ∈ found, hs[v]? = some (some u))
  sm : ∀ v ∈ st, v ∈ found ++ wait
  cl : ∀ v u : Nat, hs[v]? = some (some u) → u ∈ found → v ∈ found ++ wait
  od : ∀ i v : Nat, found[i]? = some v → v ∈ st ∨ ∃ j u : Nat, j < i ∧ found[j]? = some u ∧ hs[v]? = some (some u)
  pr : ∀ pre : Nat → List Nat, (∀ v, Rn v → pre v = v :: (kids hs v).flatMap pre) → found ++ wait.reverse.flatMap pre = st.flatMap pre
structure Starts (hs : Hs) (st : List Nat) (Rn : Nat → Prop) : Prop where
  nd : st.Nodup
  ok : ∀ s ∈ st, s < hs.length ∧ Rn s
  down : ∀ v u : Nat, hs[v]? = some (some u) → Rn u → Rn v
  no : ∀ s ∈ st, ∀ u : Nat, hs[s]? = some (some u) → ¬ Rn u
theorem WT.start {hs : Hs} {st : List Nat} {Rn : Nat → Prop} (S : Starts hs st Rn) : WT hs st Rn [] st.reverse where
  nd := by rw [List.nil_append]; exact (List.reverse_perm st).nodup_iff.mpr S.nd
  ok := fun v hv => by
    rw [List.nil_append, List.mem_reverse] at hv
    exact ⟨(S.ok v hv).1, (S.ok v hv).2, .inl hv⟩
  sm := fun v hv => by rw [List.nil_append, List.mem_reverse]; exact hv
  cl := fun v u _ hu => by cases hu
  od := fun i v e => by cases e
  pr := fun pre _ => by rw [List.nil_append, List.reverse_reverse]
theorem WT.step {hs : Hs} {st : List Nat} {Rn : Nat → Prop} {found w : List Nat} {t : Nat} (S : Starts hs st Rn) (h : WT hs st Rn found (w ++ [t])) : WT hs st Rn (found ++ [t]) (w ++ (kids hs t).reverse) := by
  have ht : t ∈ found ++ (w ++ [t]) := by simp
  have htf : t ∉ found := fun z => by
    have q := h.nd
    rw [List.nodup_append] at q
    exact q.2.2 t z t (by simp) rfl
  have hRt := (h.ok t ht).2.1
  have hno : ∀ v ∈ found ++ (w ++ [t]), hs[v]? ≠ some (some t) := fun v hv e => by
    rcases (h.ok v hv).2.2 with z | ⟨u, hu, z⟩
    · exact S.no v z t e hRt
    · rw [e] at z
      cases z
      exact htf hu
  have mem : ∀ v, v ∈ (found ++ [t]) ++ (w ++ (kids hs t).reverse) ↔ v ∈ found ++ (w ++ [t]) ∨ v ∈ kids hs t := fun v => by
    simp only [List.mem_append, List.mem_singleton, List.mem_reverse]
    constructor
    · rintro ((a | a) | (a | a))
      · exact .inl (.inl a)
      · exact .inl (.inr (.inr a))
      · exact .inl (.inr (.inl a))
      · exact .inr a
    · rintro ((a | (a | a)) | a)
      · exact .inl (.inl a)
      · exact .inr (.inl a)
      · exact .inl (.inr a)
      · exact .inr (.inr a)
  refine ⟨?_, fun v hv => ?_, fun v hv => (mem v).mpr (.inl (h.sm v hv)), fun v u e hu => ?_, fun i v e => ?_, fun pre hp => ?_⟩
  · have p : ((found ++ [t]) ++ (w ++ (kids hs t).reverse)).Perm ((found ++ (w ++ [t])) ++ kids hs t) := by
      have p1 : ((found ++ [t]) ++ w).Perm (found ++ (w ++ [t])) := by
        rw [List.append_assoc]
        exact List.Perm.append_left found List.perm_append_comm
      rw [← List.append_assoc]
      exact p1.append (List.reverse_perm _)
    refine p.nodup_iff.mpr (List.nodup_append.mpr ⟨h.nd, nodup_kids hs t, fun x hx y hy e => ?_⟩)
    subst e
    exact hno x hx (mem_kids.mp hy)
  · rcases (mem v).mp hv with z | z
    · obtain ⟨a, b, c⟩ := h.ok v z
      refine ⟨a, b, ?_⟩
      rcases c with c | ⟨u, hu, e⟩
      · exact .inl c
      · exact .inr ⟨u, List.mem_append_left _ hu, e⟩
    · have e := mem_kids.mp z
      exact ⟨(List.getElem?_eq_some_iff.mp e).1, S.down v t e hRt, .inr ⟨t, by simp, e⟩⟩
  · rcases List.mem_append.mp hu with z | z
    · exact (mem v).mpr (.inl (h.cl v u e z))
    · have eu : u = t := by simpa using z
      rw [eu] at e
      exact (mem v).mpr (.inr (mem_kids.mpr e))
  · by_cases hi : i < found.length
    · rw [List.getElem?_append_left hi] at e
      rcases h.od i v e with z | ⟨j, u, hj, e1, e2⟩
      · exact .inl z
      · exact .inr ⟨j, u, hj, by rw [List.getElem?_append_left (by omega)]; exact e1, e2⟩
    · have hi2 : found.length ≤ i := by omega
      rw [List.getElem?_append_right hi2] at e
      have hz : i - found.length = 0 := by
        cases hk : i - found.length with
        | zero => rfl
        | succ k => rw [hk] at e; cases e
      rw [hz] at e
      have ev : t = v := Option.some.inj e
      subst ev
      rcases (h.ok t ht).2.2 with z | ⟨u, hu, e2⟩
      · exact .inl z
      · obtain ⟨j, ej⟩ := List.getElem?_of_mem hu
        have hj := (List.getElem?_eq_some_iff.mp ej).1
        exact .inr ⟨j, u, by omega, by rw [List.getElem?_append_left hj]; exact ej, e2⟩
  · have q := h.pr pre hp
    rw [← q, List.reverse_append, List.reverse_append, List.reverse_reverse]
    show _ = found ++ (t :: w.reverse).flatMap pre
    rw [List.flatMap_cons, hp t hRt, List.flatMap_append]
    simp
theorem WT.room {hs : Hs} {st : List Nat} {Rn : Nat → Prop} {found w : List Nat} {t : Nat} (h : WT hs st Rn found (w ++ [t])) : found.length < hs.length ∧ (w.length + 1) ≤ hs.length := by
  have q := nodup_len hs.length _ h.nd fun v hv => (h.ok v hv).1
  rw [List.length_append, List.length_append] at q
  have e : [t].length = 1 := rfl
  omega
theorem WT.lens {hs : Hs} {st : List Nat} {Rn : Nat → Prop} {found wait : List Nat} (h : WT hs st Rn found wait) : found.length + wait.length ≤ hs.length := by
  have q := nodup_len hs.length _ h.nd fun v hv => (h.ok v hv).1
  rw [List.length_append] at q
  exact q
def spWalkT (K : PySem.W.Frag) : Sp := fun vs H Q _ => ∃ (p q : Addr) (as : List Addr) (hs : Hs) (st : List Nat) (Rn : Nat → Prop), vs = [.ref p, .ref q] ∧ HeldAt H p as hs ∧ SqL K H q (nv st) ∧ hs.length ≤ 1000 ∧ Starts hs st Rn ∧
  ∀ r l H', Same H H' → H r = none → H' r = some (.lst (nv l)) → WT hs st Rn l [] → Q (.ref r) H'
theorem snoc_of {α : Type} {l : List α} (h : 0 < l.length) : ∃ w t, l = w ++ [t] := by
  have hne : l ≠ [] := by
    intro e; subst e; exact absurd h (Nat.lt_irrefl 0)
  refine ⟨l.dropLast, l.getLast hne, ?_⟩
  exact (List.dropLast_concat_getLast _).symm
section
variable {P : Program} {w : World} {K : PySem.W.Frag} {mg : Str → Option Value} {base : Heap}
abbrev st__walk_through : Stmt := topS 15
abbrev N__walk_through : List Str := ["held", "starts", "found", "waiting", "thing"]
theorem sc__walk_through : FnScope N__walk_through ["held", "starts"] (defScope st__walk_through) := ⟨rfl, rfl, rfl, by decide +kernel, rfl, by decide +kernel, by decide +kernel⟩
theorem ok__walk_through (D : Df K mg "_walk_through" st__walk_through ["held", "starts"]) (B : Bl mg) : Kn P w K mg base CX0 1 "_walk_through" st__walk_through ["held", "starts"] (spWalkT K) := by
  refine D.ok sc__walk_through (fun vs H Q E h => ?_) (fun f cdv A outer s H vs Q E hr h => ?_)
  · obtain ⟨p, q, as, hs, st, Rn, rfl, _⟩ := h; rfl
  obtain ⟨p, q, as, hs, st, Rn, rfl, hA, hq, hn, S, k⟩ := h
  refine ⟨_, ((pss_cons (ps_set (i := 2) sc__walk_through.nd rfl (Or.inl rfl) (pe_lst pa_nil))
      (pss_cons (ps_set (i := 3) sc__walk_through.nd rfl (Or.inl rfl) (pe_revL (pv 1)))
      (pss_cons (ps_while PassesOwn.never (pt_cmpR op_gt (pe_callB call_len (by rfl) B.len (by decide +kernel) (pa_cons (pv 3) pa_nil)) pe_int (nomark _)) (pss_cons (ps_set (i := 4) sc__walk_through.nd rfl (Or.inl rfl) (pe_bm0 PySem.F.plainAttrs_list PySem.F.slot_list_pop PySem.F.type_list_pop mt_pop (pv 3)))
      (pss_cons (ps_expr (pe_bm PySem.F.plainAttrs_list PySem.F.slot_list_append PySem.F.type_list_append mt_append (pv 2) (pa_cons (pv 4) pa_nil)))
      (pss_one (ps_expr (pe_bm PySem.F.plainAttrs_list PySem.F.slot_list_extend PySem.F.type_list_extend mt_extend (pv 3) (pa_cons (pe_revL (pe_ix ix_list (pv 0) (pv 4) (fun _ _ => rfl))) pa_nil)))))))
      (pss_one (ps_ret (pv 2))))))), ?_⟩
  refine ⟨by show 0 ≤ sizeLine; decide, fun F hF => ?_⟩
  have s1 : Same H (upd H F (.lst [])) := (Same.refl H).new hF
  refine ⟨_, rfl, q, _, rfl, s1.seq hq, fun W hW => ?_⟩
  have hFW : F ≠ W := ne_of_none upd_same hW
  have hWn : H W = none := s1.free hW
  refine ⟨fun m σ H' => ∃ found wait v4, σ = [some (.ref p), some (.ref q), some (.ref F), some (.ref W), v4] ∧ Same H H' ∧ H' F = some (.lst (nv found)) ∧ H' W = some (.lst (nv wait)) ∧ WT hs st Rn found wait ∧ m = hs.length - found.length,
    ⟨_, [], st.reverse, none, rfl, s1.upd hWn, by rw [upd_ne hFW, upd_same]; rfl, ?_, WT.start S, rfl⟩, ?_⟩
  · rw [upd_same]
    unfold nv
    rw [List.map_reverse]
  · rintro m σ H' ⟨found, wait, v4, rfl, s2, hF2, hW2, hwt, rfl⟩
    refine ⟨_, rfl, _, _, rfl, .inl ⟨_, SqL.of hW2, rfl⟩, _, _, rfl, rfl, _, rfl, ?_⟩
    refine ite2 (fun c => ?_) (fun c => ?_)
    · have hpos : 0 < wait.length := by
        have c' := of_decide_eq_true c
        rw [nv_length] at c'
        omega
      obtain ⟨w', t, rfl⟩ := snoc_of hpos
      have hroom := hwt.room
      have hlens := (hwt.step S).lens
      rw [List.length_append, List.length_append, List.length_reverse] at hlens
      have h1 : [t].length = 1 := rfl
      refine ⟨fun σ' H' => ∃ m', m' < hs.length - found.length ∧ ∃ found wait v4, σ' = [some (.ref p), some (.ref q), some (.ref F), some (.ref W), v4] ∧ Same H H' ∧ H' F = some (.lst (nv found)) ∧ H' W = some (.lst (nv wait)) ∧ WT hs st Rn found wait ∧ m' = hs.length - found.length, fun _ _ h => h, ?_⟩
      -- thing = waiting.pop()
      refine ⟨_, rfl, .inl ⟨rfl, _, SqL.of hW2⟩, W, _, .int (t : Int), rfl, rfl, hW2, ?_, ?_⟩
      · rw [nv_append, List.length_append]
        show (nv w' ++ [V.int (t : Int)])[(nv w').length + 1 - 1]? = _
        simp
      have hW3 : upd H' W (.lst (nv (w' ++ [t])).dropLast) W = some (.lst (nv w')) := by
        rw [upd_same, nv_append]
        show some (HO.lst (nv w' ++ [V.int (t : Int)]).dropLast) = _
        rw [List.dropLast_concat]
      have hF3 : upd H' W (.lst (nv (w' ++ [t])).dropLast) F = some (.lst (nv found)) := by rw [upd_ne hFW]; exact hF2
      have s3 : Same H (upd H' W (.lst (nv (w' ++ [t])).dropLast)) := s2.upd hWn
      generalize upd H' W (.lst (nv (w' ++ [t])).dropLast) = H3 at hW3 hF3 s3 ⊢
      -- found.append(thing)
      refine ⟨_, rfl, .inl ⟨rfl, _, SqL.of hF3⟩, _, rfl, F, _, _, rfl, rfl, hF3, by rw [nv_length]; exact szl (by omega), ?_⟩
      have hF4 : upd H3 F (.lst (nv found ++ [V.int (t : Int)])) F = some (.lst (nv (found ++ [t]))) := by rw [upd_same, nv_append]; rfl
      have hW4 : upd H3 F (.lst (nv found ++ [V.int (t : Int)])) W = some (.lst (nv w')) := by rw [upd_ne hFW.symm]; exact hW3
      have s4 : Same H (upd H3 F (.lst (nv found ++ [V.int (t : Int)]))) := s3.upd hF
      generalize upd H3 F (.lst (nv found ++ [V.int (t : Int)])) = H4 at hF4 hW4 s4 ⊢
      -- waiting.extend(held[thing][::-1])
      have hA4 := hA.same s4
      have htl : t < hs.length := (hwt.ok t (by simp)).1
      obtain ⟨c2, hc2⟩ : ∃ c2, as[t]? = some c2 := ⟨as[t]'(by rw [hA.len]; exact htl), List.getElem?_eq_getElem _⟩
      have hc3 : (as.map V.ref)[t]? = some (.ref c2) := by rw [List.getElem?_map, hc2]; rfl
      refine ⟨_, rfl, .inl ⟨rfl, _, SqL.of hW4⟩, _, rfl, _, rfl, p, _, _, _, rfl, rfl, SqL.of hA4.lst, atI_nat hc3, c2, _, rfl, SqL.of (hA4.at_ t c2 hc2), fun R hR => ?_⟩
      have hWR : W ≠ R := ne_of_none hW4 hR
      have hFR : F ≠ R := ne_of_none hF4 hR
      refine ⟨W, R, _, _, rfl, rfl, by rw [upd_ne hWR]; exact hW4, upd_same, ?_, ?_⟩
      · rw [List.length_reverse, nv_length, nv_length]
        exact Nat.le_of_lt (szl (by show w'.length + (kids hs t).length ≤ 1000; omega))
      · refine ⟨_, ?_, found ++ [t], w' ++ (kids hs t).reverse, _, rfl, (s4.upd (s4.free hR)).upd hWn, by rw [upd_ne hFW, upd_ne hFR]; exact hF4, ?_, hwt.step S, rfl⟩
        · rw [List.length_append, h1]; omega
        · rw [upd_same, nv_append]
          congr 2
          unfold nv
          rw [List.map_reverse]; rfl
    · have hz : wait = [] := by
        cases wait with
        | nil => rfl
        | cons a r =>
          refine absurd (decide_eq_true ?_) c
          rw [nv_length, List.length_cons]; omega
      subst hz
      exact ⟨_, rfl, k F found H' s2 hF hF2 hwt⟩
end

inductive Rch (hs : Hs) : Nat → Prop where
  | root {v : Nat} (h : hs[v]? = some none) : Rch hs v
  | step {v u : Nat} (h : hs[v]? = some (some u)) (r : Rch hs u) : Rch hs v
/-- a forest as a list of holders -/
structure Fo (hs : Hs) : Prop where
  ne : hs ≠ []
  inb : InB hs
  all : ∀ v : Nat, v < hs.length → Rch hs v
theorem starts_roots (hs : Hs) : Starts hs (roots hs) (Rch hs) where
  nd := nodup_roots hs
  ok := fun s h => ⟨(List.getElem?_eq_some_iff.mp (mem_roots.mp h)).1, .root (mem_roots.mp h)⟩
  down := fun _ _ e r => .step e r
  no := fun s h u e => by rw [mem_roots.mp h] at e; cases e
theorem WT.all_found {hs : Hs} {l : List Nat} {Rn : Nat → Prop} (h : WT hs (roots hs) Rn l []) {v : Nat} (r : Rch hs v) : v ∈ l := by
  have z : ∀ w, w ∈ l ++ [] → w ∈ l := fun w q => by rw [List.append_nil] at q; exact q
  induction r with
  | root e => exact z _ (h.sm _ (mem_roots.mpr e))
  | step e _ ih => exact z _ (h.cl _ _ e ih)
theorem mem_of_full : ∀ (n : Nat) (l : List Nat), l.Nodup → (∀ v ∈ l, v < n) → l.length = n → ∀ v, v < n → v ∈ l := fun n l nd h e v hv => by
  refine Classical.byContradiction fun hm => ?_
  have q := nodup_len n (v :: l) (List.nodup_cons.mpr ⟨hm, nd⟩) fun w hw => by
    rcases List.mem_cons.mp hw with rfl | hw
    · exact hv
    · exact h w hw
  rw [List.length_cons] at q
  omega
theorem nodup_sub : ∀ (a l : List Nat), a.Nodup → (∀ v ∈ a, v ∈ l) → a.length ≤ l.length
  | [], l, _, _ => Nat.zero_le _
  | x :: r, l, nd, h => by
    have hx := h x List.mem_cons_self
    have ih := nodup_sub r (l.erase x) (List.nodup_cons.mp nd).2 fun v hv => by
      have hne : v ≠ x := fun e => (List.nodup_cons.mp nd).1 (e ▸ hv)
      exact (List.mem_erase_of_ne hne).mpr (h v (List.mem_cons_of_mem _ hv))
    have hl := List.length_erase_of_mem hx
    have hp := List.length_pos_of_mem hx
    rw [List.length_cons]
    omega
def holdOk (n : Int) : V → Bool
  | .non => true
  | x => isIdx n x
def toHold : V → Option Nat
  | .int i => some i.toNat
  | _ => none
theorem holds_of {n : Nat} : ∀ (xs : List V), (xs.all fun y => holdOk (n : Int) y) = true → xs = (xs.map toHold).map hv ∧ ∀ v u : Nat, (xs.map toHold)[v]? = some (some u) → u < n
  | [], _ => ⟨rfl, fun v u h => by simp at h⟩
  | x :: xs, h => by
    rw [List.all_cons, Bool.and_eq_true] at h
    obtain ⟨e, z⟩ := holds_of xs h.2
    have hx : x = hv (toHold x) ∧ ∀ u, toHold x = some u → u < n := by
      cases x with
      | non => exact ⟨rfl, fun u w => by cases w⟩
      | int i =>
        have c : (decide (0 ≤ i) && decide (i < (n : Int))) = true := h.1
        rw [Bool.and_eq_true, decide_eq_true_eq, decide_eq_true_eq] at c
        refine ⟨?_, fun u w => ?_⟩
        · show V.int i = V.int ((i.toNat : Nat) : Int)
          congr 1; omega
        · have w' := Option.some.inj w
          omega
      | _ => exact absurd (show false = true from h.1) Bool.false_ne_true
    refine ⟨?_, fun v u w => ?_⟩
    · rw [List.map_cons, List.map_cons, ← e, ← hx.1]
    · cases v with
      | zero => exact hx.2 u (Option.some.inj w)
      | succ v => exact z v u w
theorem holdOk_hv {hs : Hs} (h : InB hs) : ((hs.map hv).all fun y => holdOk (hs.length : Int) y) = true := by
  rw [List.all_eq_true]
  intro y hy
  obtain ⟨o, ho, rfl⟩ := List.mem_map.mp hy
  cases o with
  | none => rfl
  | some u =>
    obtain ⟨v, hv'⟩ := List.getElem?_of_mem ho
    have q := h v u hv'
    show (decide (0 ≤ (u : Int)) && decide ((u : Int) < (hs.length : Int))) = true
    rw [Bool.and_eq_true, decide_eq_true_eq, decide_eq_true_eq]
    omega
theorem hv_inj : ∀ {a b : Hs}, a.map hv = b.map hv → a = b
  | [], [], _ => rfl
  | [], _ :: _, h => by cases h
  | _ :: _, [], h => by cases h
  | x :: a, y :: b, h => by
    rw [List.map_cons, List.map_cons] at h
    injection h with h1 h2
    have e := hv_inj h2
    have e1 : x = y := by
      cases x with
      | none => cases y with
        | none => rfl
        | some u => cases h1
      | some v => cases y with
        | none => cases h1
        | some u =>
          have q := V.int.inj h1
          congr 1; omega
    rw [e, e1]
def IsF (H : Hp) (x : V) : Prop := ∃ hs : Hs, tupAt H x = some (hs.map hv) ∧ Fo hs
/-- what is_forest may be asked: a value whose tuple's items are told too -/
structure Askd (H : Hp) (x : V) : Prop where
  vd : Vd H x
  items : ∀ xs, tupAt H x = some xs → xs.length ≤ 1000 ∧ ∀ y ∈ xs, Vd H y
theorem tupAt_ref {H : Hp} {x : V} {xs : List V} (h : tupAt H x = some xs) : ∃ a, x = .ref a ∧ H a = some (.tup xs) := by
  cases x with
  | ref a =>
    refine ⟨a, rfl, ?_⟩
    cases e : H a with
    | none => simp only [tupAt, e] at h; cases h
    | some o =>
      cases o with
      | tup ys => simp only [tupAt, e] at h; rw [Option.some.inj h]
      | _ => simp only [tupAt, e] at h; cases h
  | _ => cases h
def spIsForest : Sp := fun vs H Q _ => ∃ x : V, vs = [x] ∧ Askd H x ∧ ∀ b H', Same H H' → (b = true ↔ IsF H x) → Q (.bl b) H'
section
variable {P : Program} {w : World} {K : PySem.W.Frag} {mg : Str → Option Value} {base : Heap}
abbrev st_is_forest : Stmt := topS 9
abbrev N_is_forest : List Str := ["value", "holder"]
theorem sc_is_forest : FnScope N_is_forest ["value"] (defScope st_is_forest) := ⟨rfl, rfl, rfl, by decide +kernel, rfl, by decide +kernel, by decide +kernel⟩
theorem ok_is_forest (D : Df K mg "is_forest" st_is_forest ["value"]) (B : Bl mg) (Kis_index : Kn P w K mg base CX0 3 "is_index" st_is_index ["value", "many"] spIsIndex)
    (K_without_holder : Kn P w K mg base CX0 1 "_without_holder" st__without_holder ["forest"] (spWithout K)) (K_held_lists : Kn P w K mg base CX0 1 "_held_lists" st__held_lists ["forest"] (spHeld K))
    (K_walk_through : Kn P w K mg base CX0 1 "_walk_through" st__walk_through ["held", "starts"] (spWalkT K)) : Kn P w K mg base CX0 4 "is_forest" st_is_forest ["value"] spIsForest := by
  refine D.ok sc_is_forest (fun vs H Q E h => ?_) (fun f cdv A outer s H vs Q E hr h => ?_)
  · obtain ⟨x, rfl, _⟩ := h; rfl
  obtain ⟨x, rfl, ask, q⟩ := h
  refine ⟨_, ((pss_cons (ps_if (PW.pt (pw_or (pt_not (pt_val (pe_callB call_isi (by rfl) B.isinstance (by decide +kernel) (pa_cons (pv 0) (pa_cons (pe_bltn (v := .ty "tuple") (u := .type "tuple") (by rfl) B.tuple (by decide +kernel) rfl) pa_nil))))) (pw_or1 (pt_cmpR op_eq (pe_callB call_len (by rfl) B.len (by decide +kernel) (pa_cons (pv 0) pa_nil)) pe_int (nomark _))))) (pss_one (ps_ret pe_bl)) pss_nil)
      (pss_cons (ps_if (pt_not (pt_val (pe_callB (cr_all rfl) (by rfl) B.all (by decide +kernel) (pa_cons (pe_lc (own := [("holder", 1)]) (g := gName 1) rfl sc_is_forest.nd (pi_tup (pv 0)) (blkOk_by (N := N_is_forest) (sc := defScope st_is_forest) (own := [("holder", 1)]) (by decide +kernel)) (fun _ _ _ _ _ => by (exact (pg_name (i := 1) sc_is_forest.nd rfl (Or.inl rfl)))) (fun _ _ _ _ _ => by exact pts_nil) (fun _ _ _ _ _ => by exact (pe_or (pe_cmpR op_isN (pv 1) pe_non (nomark _)) (pe_one (pe_callF Kis_index (hr.mono (by decide)) pass0 (pa_cons (pv 1) (pa_cons (pe_callB (call_lenK K) (by rfl) B.len (by decide +kernel) (pa_cons (pv 0) pa_nil)) pa_nil))))))) pa_nil)))) (pss_one (ps_ret pe_bl)) pss_nil)
      (pss_one (ps_ret (pe_cmpR op_eq (pe_callB call_len (by rfl) B.len (by decide +kernel) (pa_cons (pe_callF K_walk_through (hr.mono (by decide)) pass0 (pa_cons (pe_callF K_held_lists (hr.mono (by decide)) pass0 (pa_cons (pv 0) pa_nil)) (pa_cons (pe_callF K_without_holder (hr.mono (by decide)) pass0 (pa_cons (pv 0) pa_nil)) pa_nil))) pa_nil)) (pe_callB call_len (by rfl) B.len (by decide +kernel) (pa_cons (pv 0) pa_nil)) (nomark _))))))), ?_⟩
  obtain ⟨t, ty, _, _, k3⟩ := ask.vd.ty (K := K)
  refine ⟨_, rfl, _, _, _, _, _, rfl, .ty _, ty, kit_ty k3, _, rfl, ?_⟩
  have no : (¬ IsF H x) → ∀ H', Same H H' → Q (.bl false) H' := fun hn H' s' => q false H' s' ⟨fun z => absurd z Bool.false_ne_true, fun z => absurd z hn⟩
  cases e : tupAt H x with
  | none =>
    refine iteT (iteT ?_)
    exact no (fun ⟨hs, z, _⟩ => by rw [e] at z; cases z) H (Same.refl H)
  | some xs =>
    obtain ⟨a, rfl, ha⟩ := tupAt_ref e
    obtain ⟨hlen, hvd⟩ := ask.items xs e
    refine iteF ⟨_, rfl, _, _, rfl, .inr ⟨_, SqT.of ha, rfl⟩, rfl, _, rfl, ?_⟩
    refine ite2 (fun c => ?_) (fun c => ?_)
    · refine no (fun ⟨hs, z, fo⟩ => ?_) H (Same.refl H)
      rw [e] at z
      have z' := Option.some.inj z
      have c' := of_decide_eq_true c
      have c2 := V.int.inj c'
      rw [z', List.length_map] at c2
      exact fo.ne (List.eq_nil_of_length_eq_zero (by omega))
    · -- all([..])
      refine ⟨_, rfl, a, rfl, ⟨_, SqT.of ha⟩, fun L hL => lc_it (walk_tup (xs := xs)) (fun i H' => Same H H' ∧ H' L = some (.lst ((xs.take i).map fun y => V.bl (holdOk (xs.length : Int) y))))
        ⟨(Same.refl H).new hL, upd_same⟩ (fun i H' _ p => p.1.tseq (SqT.of ha)) ?_ ?_⟩
      · rintro i y H1 H2 hi ⟨s1, hL1⟩ ⟨rfl, e1⟩
        have hvy := (hvd y (List.mem_of_getElem? e1)).same s1
        have fin : ∃ acc, H2 L = some (.lst acc) ∧ acc.length < sizeLine ∧ (Same H (upd H2 L (.lst (acc ++ [V.bl (holdOk (xs.length : Int) y)]))) ∧ upd H2 L (.lst (acc ++ [V.bl (holdOk (xs.length : Int) y)])) L = some (.lst ((xs.take (i + 1)).map fun y => V.bl (holdOk (xs.length : Int) y)))) := by
          refine ⟨_, hL1, ?_, s1.upd hL, ?_⟩
          · rw [List.length_map, List.length_take]; exact szl (by omega)
          · rw [upd_same, List.take_add_one, e1]
            show _ = some (HO.lst (((xs.take i) ++ [y]).map _))
            rw [List.map_append]; rfl
        refine ⟨rfl, _, rfl, rfl, _, rfl, ?_⟩
        cases y with
        | non => exact iteT fin
        | _ =>
          refine iteF ⟨_, rfl, _, rfl, _, _, rfl, .inr ⟨_, s1.tseq (SqT.of ha), rfl⟩, _, _, rfl, hvy, ?_⟩
          exact fin
      · rintro H1 ⟨s1, hL1⟩
        rw [List.take_length] at hL1
        refine ⟨L, (xs.map fun y => holdOk (xs.length : Int) y), rfl, SqL.of (by rw [hL1, List.map_map]; rfl), _, rfl, ?_⟩
        have eall : (xs.map fun y => holdOk (xs.length : Int) y).all id = xs.all fun y => holdOk (xs.length : Int) y := by rw [List.all_map]; rfl
        rw [eall]
        cases ea : xs.all fun y => holdOk (xs.length : Int) y with
        | false =>
          refine iteT (no (fun ⟨hs, z, fo⟩ => ?_) H1 s1)
          rw [e] at z
          have z' := Option.some.inj z
          have w := holdOk_hv fo.inb
          rw [z', List.length_map, w] at ea
          cases ea
        | true =>
          refine iteF ?_
          obtain ⟨ex, hb⟩ := holds_of xs ea
          have hlh : (xs.map toHold).length = xs.length := List.length_map _
          rw [← hlh] at hb
          have hS1 : SqT K H1 a ((xs.map toHold).map hv) := by rw [← ex]; exact s1.tseq (SqT.of ha)
          generalize hhs : xs.map toHold = hs at ex hb hlh hS1
          have e' : tupAt H (.ref a) = some (hs.map hv) := by rw [e, ex]
          -- len(_walk_through(..)) == len(value)
          refine ⟨_, rfl, a, hs, rfl, hS1, by omega, hb, fun p as H2 s2 hp hpc hA => ?_⟩
          refine ⟨_, rfl, a, hs, rfl, s2.tseq hS1, by omega, fun p2 H3 s3 hp2 hr2 => ?_⟩
          refine ⟨p, p2, as, hs, roots hs, Rch hs, rfl, hA.same s3, SqL.of hr2, by omega, starts_roots hs, fun r l H4 s4 hr4 hl4 hwt => ?_⟩
          refine ⟨_, _, rfl, .inl ⟨_, SqL.of hl4, rfl⟩, _, rfl, _, _, rfl, .inr ⟨_, s4.tseq (s3.tseq (s2.tseq hS1)), rfl⟩, rfl, ?_⟩
          refine q _ _ (((s1.trans s2).trans s3).trans s4) ⟨fun z => ?_, fun z => ?_⟩
          · have z2 := V.int.inj (of_decide_eq_true z)
            rw [nv_length, List.length_map] at z2
            have c3 : ¬ V.int (xs.length : Int) = V.int 0 := fun w => c (decide_eq_true w)
            refine ⟨hs, e', ?_, hb, fun v hv' => ?_⟩
            · intro w
              rw [w] at hlh
              exact c3 (by rw [← hlh]; rfl)
            · have hl2 : l.length = hs.length := by omega
              have nd2 := hwt.nd
              rw [List.append_nil] at nd2
              have hlt : ∀ w ∈ l, w < hs.length := fun w hw => (hwt.ok w (by rw [List.append_nil]; exact hw)).1
              have hm := mem_of_full hs.length l nd2 hlt hl2 v hv'
              exact (hwt.ok v (by rw [List.append_nil]; exact hm)).2.1
          · obtain ⟨hs', z1, fo⟩ := z
            rw [e'] at z1
            have eh := hv_inj (Option.some.inj z1)
            subst eh
            refine decide_eq_true ?_
            rw [nv_length, List.length_map]
            have h1 := hwt.lens
            rw [List.length_nil] at h1
            have h2 : hs.length ≤ l.length := by
              have q2 := nodup_sub (List.range hs.length) l List.nodup_range fun v hv' => hwt.all_found (fo.all v (List.mem_range.mp hv'))
              rw [List.length_range] at q2; exact q2
            have h3 : l.length = hs.length := by omega
            rw [h3]
end

end My

namespace My
open PySem PySem.Spec PyProof.Rows L2
/-! ### the law's well of numbers -/
structure Well (H : Hp) (wl : Addr) (n : Nat) : Prop where
  ex : ∃ a b c : Int, H wl = some (.lst [.int a, .int b, .int c]) ∧ 0 ≤ a ∧ 0 ≤ b ∧ b.natAbs < 2 ^ 200 ∧ 0 ≤ c ∧ c ≤ (n : Int)
theorem Well.mono {H : Hp} {wl : Addr} {n m : Nat} (h : Well H wl n) (l : n ≤ m) : Well H wl m := by
  obtain ⟨a, b, c, e, h1, h2, h3, h4, h5⟩ := h.ex
  exact ⟨a, b, c, e, h1, h2, h3, h4, by omega⟩
theorem Well.same {H H' : Hp} {wl : Addr} {n : Nat} (h : Well H wl n) (s : Same H H') : Well H' wl n := by
  obtain ⟨a, b, c, e, r⟩ := h.ex
  exact ⟨a, b, c, s _ _ e, r⟩
theorem Well.here {H : Hp} {wl : Addr} {n : Nat} (h : Well H wl n) : ∃ l, H wl = some (.lst l) := by
  obtain ⟨a, b, c, e, r⟩ := h.ex
  exact ⟨_, e⟩
def spWell (K : PySem.W.Frag) : Sp := fun vs H Q _ => ∃ (a : Addr) (ns : List Int) (i : Nat), vs = [.ref a, .int (i : Int)] ∧ SqL K H a (ns.map V.int) ∧ i < 64 ∧ ∀ p H', Same H H' → H p = none → Well H' p 0 → Q (.ref p) H'
def spDraw : Sp := fun vs H Q _ => ∃ (wl : Addr) (n : Nat) (m : Int), vs = [.ref wl, .int m] ∧ Well H wl n ∧ n < 2 ^ 60 ∧ 1 ≤ m ∧ m.natAbs < 2 ^ 100 ∧ ∀ d H', 0 ≤ d → d < m → Keep wl H H' → Well H' wl (n + 1) → Q (.int d) H'
theorem mul_small {i j : Int} (h : -(2 ^ 64) < i ∧ i < 2 ^ 64) : CMul i j := .inl h
theorem mod_abs {x m : Int} {b : Nat} (h0 : 0 < m) (h : m.natAbs < 2 ^ b) : (x % m).natAbs < 2 ^ b := by
  have h1 := Int.emod_nonneg x (show m ≠ 0 by omega)
  have h2 := Int.emod_lt_of_pos x h0
  omega
theorem cpow10 {k : Int} (h0 : 0 ≤ k) (h : k ≤ 1000) : CPowW 10 k := by
  refine ⟨h0, ?_⟩
  have e : (Builtin.Int.intBits 10 : Int) = 4 := by decide
  have e2 : (2 : Int) ^ 27 = 134217728 := by decide
  rw [e, e2]; omega
section
variable {P : Program} {w : World} {K : PySem.W.Frag} {mg : Str → Option Value} {base : Heap}
abbrev st__law_draw : Stmt := topS 26
abbrev N__law_draw : List Str := ["well", "most", "digit", "blend"]
theorem sc__law_draw : FnScope N__law_draw ["well", "most"] (defScope st__law_draw) := ⟨rfl, rfl, rfl, by decide +kernel, rfl, by decide +kernel, by decide +kernel⟩
theorem ok__law_draw (D : Df K mg "_law_draw" st__law_draw ["well", "most"]) (B : Bl mg) : Kn P w K mg base CX0 1 "_law_draw" st__law_draw ["well", "most"] spDraw := by
  refine D.ok sc__law_draw (fun vs H Q E h => ?_) (fun f cdv A outer s H vs Q E hr h => ?_)
  · obtain ⟨wl, n, m, rfl, _⟩ := h; rfl
  obtain ⟨wl, n, m, rfl, hw, hn, h1, hm, q⟩ := h
  refine ⟨_, ((pss_cons (ps_if (pt_cmpR op_gt (pe_ix ix_list (pv 0) pe_int (fun _ _ => rfl)) pe_int (nomark _)) (pss_cons (ps_set (i := 2) sc__law_draw.nd rfl (Or.inl rfl) (pe_op op_mod (pe_callTy call_int1 (by rfl) B.int (by decide +kernel) (pa_cons (pe_ix ix_list (pv 0) pe_int (fun _ _ => rfl)) pa_nil)) (pv 1)))
      (pss_cons (ps_asg (pe_op op_fdivW (pe_ix ix_list (pv 0) pe_int (fun _ _ => rfl)) (pv 1)) (pg_sub (pv 0) pe_int set_list))
      (pss_one (ps_ret (pv 2))))) pss_nil)
      (pss_cons (ps_asg (pe_op op_add (pe_ix ix_list (pv 0) pe_int (fun _ _ => rfl)) pe_int) (pg_sub (pv 0) pe_int set_list))
      (pss_cons (ps_set (i := 3) sc__law_draw.nd rfl (Or.inl rfl) (pe_op op_mod (pe_op op_powW (pe_callTy call_int1 (by rfl) B.int (by decide +kernel) (pa_cons (pe_op op_add (pe_ix ix_list (pv 0) pe_int (fun _ _ => rfl)) (pe_op op_mul pe_int (pe_ix ix_list (pv 0) pe_int (fun _ _ => rfl)))) pa_nil)) pe_int) (pe_op op_add (pe_op op_powW pe_int pe_int) pe_int)))
      (pss_cons (ps_set (i := 3) sc__law_draw.nd rfl (Or.inl rfl) (pe_op op_mod (pe_op op_powW (pe_callTy call_int1 (by rfl) B.int (by decide +kernel) (pa_cons (pe_op op_add (pv 3) (pe_op op_mul pe_int (pe_ix ix_list (pv 0) pe_int (fun _ _ => rfl)))) pa_nil)) pe_int) (pe_op op_add (pe_op op_powW pe_int pe_int) pe_int)))
      (pss_one (ps_ret (pe_op op_mod (pe_callTy call_int1 (by rfl) B.int (by decide +kernel) (pa_cons (pe_op op_fdivW (pv 3) pe_int) pa_nil)) (pv 1))))))))), ?_⟩
  obtain ⟨a, b, c, e, ha, hb, hb2, hc, hc2⟩ := hw.ex
  have g0 : ∀ {H' : Hp} {x y z : V}, H' wl = some (.lst [x, y, z]) → SqL K H' wl [x, y, z] := fun h => SqL.of h
  -- if well[0] > 0
  refine ⟨_, rfl, wl, _, _, _, rfl, rfl, g0 e, rfl, _, _, rfl, rfl, _, rfl, ?_⟩
  refine ite2 (fun c1 => ?_) (fun c1 => ?_)
  · -- digit = int(well[0]) % most; well[0] = well[0] // most; return digit
    refine ⟨_, rfl, wl, _, _, _, rfl, rfl, g0 e, rfl, .inl ⟨_, rfl, _, rfl, _, _, rfl, rfl, by show (0 : Int) < m; omega, ?_⟩⟩
    refine ⟨_, rfl, wl, _, _, _, rfl, rfl, g0 e, rfl, _, rfl, _, _, rfl, rfl, wide_div (by omega) hm (by decide) (by decide), ?_⟩
    refine ⟨_, rfl, wl, _, _, 0, rfl, rfl, e, rfl, ?_⟩
    refine ⟨_, rfl, q _ _ (Int.emod_nonneg a (by omega)) (Int.emod_lt_of_pos a (by omega)) (Keep.upd _ _ _) ⟨a / m, b, c, upd_same, Int.ediv_nonneg ha (by omega), hb, hb2, hc, by omega⟩⟩
  · -- well[2] = well[2] + 1
    refine ⟨_, rfl, wl, _, _, _, rfl, rfl, g0 e, rfl, _, _, rfl, rfl, ?_⟩
    refine ⟨_, rfl, wl, _, _, 2, rfl, rfl, e, rfl, ?_⟩
    have e2 : upd H wl (.lst (([V.int a, V.int b, V.int c]).set 2 (V.int (c + 1)))) wl = some (.lst [V.int a, V.int b, V.int (c + 1)]) := upd_same
    have k2 : Keep wl H (upd H wl (.lst (([V.int a, V.int b, V.int c]).set 2 (V.int (c + 1))))) := Keep.upd _ _ _
    have w2 : Well (upd H wl (.lst (([V.int a, V.int b, V.int c]).set 2 (V.int (c + 1))))) wl (n + 1) := ⟨a, b, c + 1, e2, ha, hb, hb2, by omega, by omega⟩
    generalize upd H wl (.lst (([V.int a, V.int b, V.int c]).set 2 (V.int (c + 1)))) = H2 at e2 k2 w2 ⊢
    have p60 : (2 : Nat) ^ 60 = 1152921504606846976 := by decide
    have p64 : (2 : Int) ^ 64 = 18446744073709551616 := by decide
    have p200 : (2 : Nat) ^ 200 = 1606938044258990275541962092341162602522202993782792835301376 := by decide +kernel
    have p201 : (2 : Nat) ^ 201 = 3213876088517980551083924184682325205044405987565585670602752 := by decide +kernel
    have b1 : (b + 715827883 * (c + 1)).natAbs < 2 ^ 201 := by omega
    have m1 : (10 : Int) ^ (41 : Int).toNat + 109 = 100000000000000000000000000000000000000109 := by decide +kernel
    have m2 : (10 : Int) ^ (39 : Int).toNat + 3 = 1000000000000000000000000000000000000003 := by decide +kernel
    -- blend = int(well[1] + 715827883 * well[2]) ** 3 % (10 ** 41 + 109)
    refine ⟨_, rfl, wl, _, _, _, rfl, rfl, g0 e2, rfl, _, rfl, wl, _, _, _, rfl, rfl, g0 e2, rfl, _, _, rfl, rfl, mul_small ⟨by rw [p64]; decide, by rw [p64]; decide⟩, _, _, rfl, rfl, .inl ⟨_, rfl, _, _, rfl, rfl, cpow3 b1 (by decide) (by decide),
      _, _, rfl, rfl, cpow10 (by decide) (by decide), _, _, rfl, rfl, _, _, rfl, rfl, by rw [m1]; show (0 : Int) < 100000000000000000000000000000000000000109; decide, ?_⟩⟩
    rw [m1]
    have b2 : ∀ x : Int, 0 ≤ x → x < 100000000000000000000000000000000000000109 → (x + 198491317 * (c + 1)).natAbs < 2 ^ 201 := fun x h h' => by omega
    have b3 : ∀ z : Int, (z % 100000000000000000000000000000000000000109 + 198491317 * (c + 1)).natAbs < 2 ^ 201 := fun z => b2 _ (Int.emod_nonneg _ (by decide)) (Int.emod_lt_of_pos _ (by decide))
    -- blend = int(blend + 198491317 * well[2]) ** 3 % (10 ** 39 + 3)
    refine ⟨_, rfl, _, rfl, wl, _, _, _, rfl, rfl, g0 e2, rfl, _, _, rfl, rfl, mul_small ⟨by rw [p64]; decide, by rw [p64]; decide⟩, _, _, rfl, rfl, .inl ⟨_, rfl, _, _, rfl, rfl, cpow3 (b3 _) (by decide) (by decide),
      _, _, rfl, rfl, cpow10 (by decide) (by decide), _, _, rfl, rfl, _, _, rfl, rfl, by rw [m2]; show (0 : Int) < 1000000000000000000000000000000000000003; decide, ?_⟩⟩
    rw [m2]
    -- return int(blend // 1048576) % most
    refine ⟨_, rfl, _, _, rfl, rfl, ⟨by decide, by decide +kernel⟩, .inl ⟨_, rfl, _, rfl, _, _, rfl, rfl, by omega, ?_⟩⟩
    exact q _ _ (Int.emod_nonneg _ (by omega)) (Int.emod_lt_of_pos _ (by omega)) k2 w2
abbrev st__law_well : Stmt := topS 25
abbrev N__law_well : List Str := ["script", "at", "cell"]
theorem sc__law_well : FnScope N__law_well ["script", "at"] (defScope st__law_well) := ⟨rfl, rfl, rfl, by decide +kernel, rfl, by decide +kernel, by decide +kernel⟩
theorem ok__law_well (D : Df K mg "_law_well" st__law_well ["script", "at"]) (B : Bl mg) : Kn P w K mg base CX0 1 "_law_well" st__law_well ["script", "at"] (spWell K) := by
  refine D.ok sc__law_well (fun vs H Q E h => ?_) (fun f cdv A outer s H vs Q E hr h => ?_)
  · obtain ⟨a, ns, i, rfl, _⟩ := h; rfl
  obtain ⟨a, ns, i, rfl, hS, hi, q⟩ := h
  refine ⟨_, ((pss_cons (ps_set (i := 2) sc__law_well.nd rfl (Or.inl rfl) (pe_ifExp (pt_cmpR op_lt (pv 1) (pe_callB call_len (by rfl) B.len (by decide +kernel) (pa_cons (pv 0) pa_nil)) (nomark _)) (pe_ix ix_list (pv 0) (pv 1) (fun _ _ => rfl)) pe_int))
      (pss_one (ps_ret (pe_lst (pa_cons (pe_callB (call_max2 rfl) (by rfl) B.max (by decide +kernel) (pa_cons pe_int (pa_cons (pe_op op_sub (pe_callB call_abs (by rfl) B.abs (by decide +kernel) (pa_cons (pv 2) pa_nil)) (pe_op op_powW pe_int pe_int)) pa_nil))) (pa_cons (pe_op op_add (pe_op op_add (pe_op op_mul (pe_op op_mod (pe_callTy call_int1 (by rfl) B.int (by decide +kernel) (pa_cons (pv 2) pa_nil)) (pe_op op_add (pe_op op_powW pe_int pe_int) pe_int)) pe_int) (pe_op op_mul pe_int (pv 1))) pe_int) (pa_cons pe_int pa_nil)))))))), ?_⟩
  have p64 : (2 : Int) ^ 64 = 18446744073709551616 := by decide
  have m1 : (10 : Int) ^ (37 : Int).toNat + 141 = 10000000000000000000000000000000000141 := by decide +kernel
  have p200 : (2 : Nat) ^ 200 = 1606938044258990275541962092341162602522202993782792835301376 := by decide +kernel
  -- what follows once the cell is known
  have rest : ∀ cell : Int, (tRet (tLst (tCons (tCB (fun xs H Q => ∃ i j, xs = [V.int i, V.int j] ∧ Q (.int (if j > i then j else i)) H) (tCons (tC (.int 0)) (tCons (tOp (rI0 fun i j => .int (i - j)) (tCB (fun xs H Q => ∃ i, xs = [V.int i] ∧ Q (.int (if i < 0 then -i else i)) H) (tCons (tVar 2) tNil)) (tOp (rI CPowW fun i j => .int (i ^ j.toNat)) (tC (.int 10)) (tC (.int 18)))) tNil)))
      (tCons (tOp (rI0 fun i j => .int (i + j)) (tOp (rI0 fun i j => .int (i + j)) (tOp (rI CMul fun i j => .int (i * j)) (tOp (rI (fun _ j => 0 < j) fun i j => .int (i % j)) (tCB (fun xs H Q => (∃ i, xs = [V.int i] ∧ Q (.int i) H) ∨ ∃ k, xs = [V.bl k] ∧ Q (.int (if k then 1 else 0)) H) (tCons (tVar 2) tNil)) (tOp (rI0 fun i j => .int (i + j)) (tOp (rI CPowW fun i j => .int (i ^ j.toNat)) (tC (.int 10)) (tC (.int 37))) (tC (.int 141)))) (tC (.int 101))) (tOp (rI CMul fun i j => .int (i * j)) (tC (.int 67)) (tVar 1))) (tC (.int 41)))
        (tCons (tC (.int 0)) tNil))))) { nx := fun _ H' => Q .non H', rt := Q } [some (.ref a), some (.int (i : Int)), some (.int cell)] H := fun cell => by
    refine ⟨_, rfl, _, rfl, _, _, rfl, rfl, cpow10 (by decide) (by decide), _, _, rfl, rfl, _, _, rfl, ?_⟩
    refine ⟨_, rfl, .inl ⟨_, rfl, _, _, rfl, rfl, cpow10 (by decide) (by decide), _, _, rfl, rfl, _, _, rfl, rfl, by rw [m1]; show (0 : Int) < 10000000000000000000000000000000000141; decide, _, _, rfl, rfl, .inr ⟨by decide, by decide⟩, _, rfl, _, _, rfl, rfl, .inl ⟨by decide, by decide⟩, _, _, rfl, rfl, _, _, rfl, rfl, by show 3 ≤ sizeLine; decide, fun p hp => ?_⟩⟩
    rw [m1]
    have x0 : 0 ≤ cell % 10000000000000000000000000000000000141 := Int.emod_nonneg _ (by decide)
    have x1 : cell % 10000000000000000000000000000000000141 < 10000000000000000000000000000000000141 := Int.emod_lt_of_pos _ (by decide)
    refine q p _ ((Same.refl H).new hp) hp ⟨_, _, 0, upd_same, ?_, ?_, ?_, Int.le_refl _, Int.le_refl _⟩
    · split <;> omega
    · omega
    · omega
  refine ⟨_, rfl, _, rfl, _, _, rfl, .inl ⟨_, hS, rfl⟩, _, _, rfl, rfl, _, rfl, ?_⟩
  refine ite2 (fun c1 => ?_) (fun c1 => ?_)
  · have hl : i < (ns.map V.int).length := by
      have c2 := of_decide_eq_true c1
      omega
    have hl2 : i < ns.length := by rw [List.length_map] at hl; exact hl
    refine ⟨_, rfl, _, rfl, a, _, _, _, rfl, rfl, hS, atI_nat (v := V.int ns[i]) (by rw [List.getElem?_map, List.getElem?_eq_getElem hl2]; rfl), ?_⟩
    exact rest _
  · exact rest 0
end

/-! ### a drawn forest: the mathematics -/
theorem walk_range0 {n : Nat} : Walk (Itr 0 n) n (fun _ => True) (YFn fun i => .int (i : Int)) :=
  (walk_range (lo := 0)).mono (fun _ h => h) fun i H x H' _ _ y => ⟨y.1, by rw [y.2]; show V.int (0 + (i : Int)) = V.int (i : Int); rw [Int.zero_add]⟩
def LtF (l : Hs) : Prop := ∀ j u : Nat, l[j]? = some (some u) → u < j
theorem LtF.snoc {l : Hs} {o : Option Nat} (h : LtF l) (ho : ∀ u, o = some u → u < l.length) : LtF (l ++ [o]) := fun j u e => by
  by_cases hj : j < l.length
  · rw [List.getElem?_append_left hj] at e; exact h j u e
  · have hj2 : l.length ≤ j := by omega
    rw [List.getElem?_append_right hj2] at e
    by_cases hz : j - l.length = 0
    · rw [hz] at e
      have q := ho u (Option.some.inj e)
      omega
    · obtain ⟨k, hk⟩ := Nat.exists_eq_succ_of_ne_zero hz
      rw [hk] at e; cases e
theorem fo_plain {l : Hs} (hne : l ≠ []) (h : LtF l) : Fo l := by
  refine ⟨hne, fun v u e => ?_, fun v hv => ?_⟩
  · have h1 := h v u e
    have h2 := (List.getElem?_eq_some_iff.mp e).1
    omega
  · induction v using Nat.strongRecOn with
    | _ v ih =>
      cases e : l[v]? with
      | none => rw [List.getElem?_eq_none_iff] at e; omega
      | some o =>
        cases o with
        | none => exact .root e
        | some u =>
          have q := h v u e
          exact .step e (ih u q (by omega))
def ren (nm : List Nat) : Option Nat → Option Nat
  | none => none
  | some u => some (nm.getD u 0)
theorem fo_turned {l T : Hs} {nm : List Nat} (hne : l ≠ []) (h : LtF l) (hp : nm.Perm (List.range l.length)) (hT : T.length = l.length)
    (hr : ∀ (j v : Nat) (o : Option Nat), nm[j]? = some v → l[j]? = some o → T[v]? = some (ren nm o)) : Fo T := by
  have hlen : nm.length = l.length := by rw [hp.length_eq, List.length_range]
  have hat : ∀ j : Nat, j < l.length → ∃ v o, nm[j]? = some v ∧ l[j]? = some o ∧ v < l.length := fun j hj => by
    have h1 : j < nm.length := by omega
    refine ⟨nm[j], l[j], List.getElem?_eq_getElem h1, List.getElem?_eq_getElem hj, ?_⟩
    have q := hp.mem_iff.mp (List.getElem_mem h1)
    exact List.mem_range.mp q
  have back : ∀ v : Nat, v < l.length → ∃ j : Nat, nm[j]? = some v := fun v hv => by
    have q := hp.mem_iff.mpr (List.mem_range.mpr hv)
    exact List.getElem?_of_mem q
  have jl : ∀ {j v : Nat}, nm[j]? = some v → j < l.length := fun {j v} e => by
    have q := (List.getElem?_eq_some_iff.mp e).1
    omega
  have rc : ∀ j v : Nat, nm[j]? = some v → Rch T v := fun j => by
    induction j using Nat.strongRecOn with
    | _ j ih =>
      intro v e
      obtain ⟨v', o, e1, e2, e3⟩ := hat j (jl e)
      have ev : v' = v := Option.some.inj (e1.symm.trans e)
      subst ev
      have q := hr j v' o e e2
      cases o with
      | none => exact .root q
      | some u =>
        have hu := h j u e2
        obtain ⟨vu, ou, f1, f2, f3⟩ := hat u (Nat.lt_trans hu (jl e))
        have g : nm.getD u 0 = vu := by rw [List.getD_eq_getElem?_getD, f1]; rfl
        refine .step (u := vu) ?_ (ih u hu vu f1)
        rw [q]; show some (some (nm.getD u 0)) = _; rw [g]
  refine ⟨fun z => hne (List.eq_nil_of_length_eq_zero (by rw [z] at hT; exact hT.symm)), fun v u e => ?_, fun v hv => ?_⟩
  · have hv := (List.getElem?_eq_some_iff.mp e).1
    rw [hT] at hv
    obtain ⟨j, ej⟩ := back v hv
    obtain ⟨v', o, e1, e2, e3⟩ := hat j (jl ej)
    have q := hr j v o ej e2
    rw [q] at e
    cases o with
    | none => cases e
    | some w =>
      have hw := h j w e2
      obtain ⟨vu, ou, f1, f2, f3⟩ := hat w (Nat.lt_trans hw (jl ej))
      have g : nm.getD w 0 = vu := by rw [List.getD_eq_getElem?_getD, f1]; rfl
      have e4 : nm.getD w 0 = u := Option.some.inj (Option.some.inj e)
      rw [hT]; omega
  · rw [hT] at hv
    obtain ⟨j, ej⟩ := back v hv
    exact rc j v ej
theorem nv_erase : ∀ (l : List Nat) (k : Nat), nv (l.eraseIdx k) = (nv l).eraseIdx k
  | [], k => by simp [nv]
  | a :: r, 0 => rfl
  | a :: r, k + 1 => by
    have ih := nv_erase r k
    show V.int (a : Int) :: nv (r.eraseIdx k) = V.int (a : Int) :: (nv r).eraseIdx k
    rw [ih]
theorem nv_range (n : Nat) : rgV 0 (n : Int) = nv (List.range n) := by
  unfold rgV nv
  have e : ((n : Int) - 0).toNat = n := by omega
  rw [e]
  refine List.map_congr_left fun i _ => ?_
  show V.int (0 + (i : Int)) = V.int (i : Int)
  rw [Int.zero_add]
theorem ixN_nat {n j : Nat} (h : j < n) : ixN n (j : Int) = some j := by
  unfold ixN
  rw [if_pos (by omega), if_pos (by omega)]
  congr 1
theorem seq_nat {n j : Nat} (h : j < n) : seqIndex? (j : Int) n = some j := (ixN_seq (ixN_nat h)).1
theorem rep_non : ∀ k : Nat, (List.replicate k [V.non]).flatten = (List.replicate k (none : Option Nat)).map hv
  | 0 => rfl
  | k + 1 => by
    rw [List.replicate_succ, List.flatten_cons, rep_non k, List.replicate_succ, List.map_cons]; rfl
theorem erase_perm : ∀ (l : List Nat) (j : Nat) (h : j < l.length), (l[j] :: l.eraseIdx j).Perm l
  | a :: r, 0, _ => List.Perm.refl _
  | a :: r, j + 1, h => by
    have hj : j < r.length := by rw [List.length_cons] at h; omega
    have ih := erase_perm r j hj
    exact (List.Perm.swap a (r[j]'hj) (r.eraseIdx j)).trans (List.Perm.cons a ih)
/-- one of a few, by a drawn number -/
theorem pick {xs : List V} {d : Int} (h0 : 0 ≤ d) (h1 : d < (xs.length : Int)) : ∃ v, v ∈ xs ∧ atI xs d = some v := by
  have hl : d.toNat < xs.length := by omega
  refine ⟨xs[d.toNat], List.getElem_mem hl, ?_⟩
  have e : d = ((d.toNat : Nat) : Int) := by omega
  have q := atI_nat (List.getElem?_eq_getElem hl)
  rw [← e] at q; exact q
def OkV (k : Nat) (v : V) : Prop := ∃ o : Option Nat, v = hv o ∧ ∀ u, o = some u → u < k
theorem OkV.non (k : Nat) : OkV k .non := ⟨none, rfl, fun _ h => by cases h⟩
theorem OkV.int {k : Nat} {i : Int} (h0 : 0 ≤ i) (h1 : i < (k : Int)) : OkV k (.int i) := by
  refine ⟨some i.toNat, ?_, fun u h => ?_⟩
  · show V.int i = V.int ((i.toNat : Nat) : Int)
    congr 1; omega
  · have e := Option.some.inj h
    omega
/-- slots of the drawing def -/
abbrev slF (wl F : Addr) (m sz way : Int) (v5 v6 v7 v8 v9 : Option V) : L2.St := [some (.ref wl), some (.int m), some (.int sz), some (.int way), some (.ref F), v5, v6, v7, v8, v9]
def spLForest : Sp := fun vs H Q _ => ∃ (wl : Addr) (n : Nat) (m : Int), vs = [.ref wl, .int m] ∧ Well H wl n ∧ n < 2 ^ 50 ∧ 1 ≤ m ∧ m ≤ 60 ∧
  ∀ t hs H', Fo hs → (hs.length : Int) ≤ m → Keep wl H H' → Well H' wl (n + 400) → H t = none → H' t = some (.tup (hs.map hv)) → Q (.ref t) H'
section
variable {P : Program} {w : World} {K : PySem.W.Frag} {mg : Str → Option Value} {base : Heap}
abbrev st__law_forest : Stmt := topS 28
abbrev N__law_forest : List Str := ["well", "most", "size", "way", "found", "k", "some", "names", "left", "turned_here"]
theorem sc__law_forest : FnScope N__law_forest ["well", "most"] (defScope st__law_forest) := ⟨rfl, rfl, rfl, by decide +kernel, rfl, by decide +kernel, by decide +kernel⟩
theorem ok__law_forest (D : Df K mg "_law_forest" st__law_forest ["well", "most"]) (B : Bl mg) (K_law_draw : Kn P w K mg base CX0 1 "_law_draw" st__law_draw ["well", "most"] spDraw) :
    Kn P w K mg base CX0 3 "_law_forest" st__law_forest ["well", "most"] spLForest := by
  refine D.ok sc__law_forest (fun vs H Q E h => ?_) (fun f cdv A outer s H vs Q E hr h => ?_)
  · obtain ⟨wl, n, m, rfl, _⟩ := h; rfl
  obtain ⟨wl, n, m, rfl, hw, hn, hm1, hm2, q⟩ := h
  refine ⟨_, ((pss_cons (ps_set (i := 2) sc__law_forest.nd rfl (Or.inl rfl) (pe_op op_add pe_int (pe_callF K_law_draw (hr.mono (by decide)) pass0 (pa_cons (pv 0) (pa_cons (pv 1) pa_nil)))))
      (pss_cons (ps_set (i := 3) sc__law_forest.nd rfl (Or.inl rfl) (pe_callF K_law_draw (hr.mono (by decide)) pass0 (pa_cons (pv 0) (pa_cons pe_int pa_nil))))
      (pss_cons (ps_set (i := 4) sc__law_forest.nd rfl (Or.inl rfl) (pe_lst pa_nil))
      (pss_cons (ps_for PassesOwn.never rfl (pi_range1 (by rfl) B.range (pa_cons (pv 2) pa_nil)) (pg_name (i := 5) sc__law_forest.nd rfl (Or.inl rfl)) (C8.pss_cut (ps_set (i := 6) sc__law_forest.nd rfl (Or.inl rfl) (pe_ifExp (pt_cmpR op_gt (pv 5) pe_int (nomark _)) (pe_ix ix_list (pe_lst (pa_cons pe_non (pa_cons (pe_op op_sub (pv 5) pe_int) (pa_cons (pe_callF K_law_draw (hr.mono (by decide)) pass0 (pa_cons (pv 0) (pa_cons (pe_callB (call_max2 rfl) (by rfl) B.max (by decide +kernel) (pa_cons pe_int (pa_cons (pv 5) pa_nil))) pa_nil))) pa_nil)))) (pe_callF K_law_draw (hr.mono (by decide)) pass0 (pa_cons (pv 0) (pa_cons pe_int pa_nil))) (fun _ _ => rfl)) pe_non))
      (C8.pss_cut (ps_if (PW.pt (pw_and (pt_cmpR op_gt (pv 5) pe_int (nomark _)) (pw_and1 (pt_cmpR op_eq (pv 3) pe_int (nomark _))))) (pss_one (ps_set (i := 6) sc__law_forest.nd rfl (Or.inl rfl) (pe_ix ix_list (pe_lst (pa_cons (pe_op op_sub (pv 5) pe_int) (pa_cons (pe_callB (call_max2 rfl) (by rfl) B.max (by decide +kernel) (pa_cons pe_int (pa_cons (pe_op op_sub (pv 5) pe_int) pa_nil))) pa_nil))) (pe_callF K_law_draw (hr.mono (by decide)) pass0 (pa_cons (pv 0) (pa_cons pe_int pa_nil))) (fun _ _ => rfl)))) pss_nil)
      (C8.pss_cut (ps_if (PW.pt (pw_and (pt_cmpR op_gt (pv 5) pe_int (nomark _)) (pw_and1 (pt_cmpR op_eq (pv 3) pe_int (nomark _))))) (pss_one (ps_set (i := 6) sc__law_forest.nd rfl (Or.inl rfl) (pe_ix ix_list (pe_lst (pa_cons pe_int (pa_cons pe_int (pa_cons pe_non (pa_cons (pe_callF K_law_draw (hr.mono (by decide)) pass0 (pa_cons (pv 0) (pa_cons (pv 5) pa_nil))) pa_nil))))) (pe_callF K_law_draw (hr.mono (by decide)) pass0 (pa_cons (pv 0) (pa_cons pe_int pa_nil))) (fun _ _ => rfl)))) pss_nil)
      (pss_one (ps_expr (pe_bm PySem.F.plainAttrs_list PySem.F.slot_list_append PySem.F.type_list_append mt_append (pv 4) (pa_cons (pv 6) pa_nil))))))))
      (pss_cons (ps_if (pt_cmpR op_eq (pe_callF K_law_draw (hr.mono (by decide)) pass0 (pa_cons (pv 0) (pa_cons pe_int pa_nil))) pe_int (nomark _)) (pss_one (ps_ret (pe_callTy call_tuple_of (by rfl) B.tuple (by decide +kernel) (pa_cons (pv 4) pa_nil)))) pss_nil)
      (pss_cons (ps_par (i := 7) (j := 8) (by rfl) sc__law_forest.nd rfl rfl (by decide) rfl rfl (pa_cons (pe_lst pa_nil) (pa_cons (pe_listRg rfl (by rfl) B.list (prg_1 (by rfl) B.range (pv 2))) pa_nil)) (by rfl))
      (pss_cons (ps_for PassesOwn.never rfl (pi_range1 (by rfl) B.range (pa_cons (pv 2) pa_nil)) (pg_name (i := 5) sc__law_forest.nd rfl (Or.inl rfl)) (pss_one (ps_expr (pe_bm PySem.F.plainAttrs_list PySem.F.slot_list_append PySem.F.type_list_append mt_append (pv 7) (pa_cons (pe_bm PySem.F.plainAttrs_list PySem.F.slot_list_pop PySem.F.type_list_pop mt_popAt (pv 8) (pa_cons (pe_callF K_law_draw (hr.mono (by decide)) pass0 (pa_cons (pv 0) (pa_cons (pe_callB call_len (by rfl) B.len (by decide +kernel) (pa_cons (pv 8) pa_nil)) pa_nil))) pa_nil)) pa_nil)))))
      (pss_cons (ps_set (i := 9) sc__law_forest.nd rfl (Or.inl rfl) (pe_op op_rep (pe_lst (pa_cons pe_non pa_nil)) (pv 2)))
      (pss_cons (ps_for PassesOwn.never rfl (pi_range1 (by rfl) B.range (pa_cons (pv 2) pa_nil)) (pg_name (i := 5) sc__law_forest.nd rfl (Or.inl rfl)) (pss_one (ps_asg (pe_ifExp (pt_cmpR op_isN (pe_ix ix_list (pv 4) (pv 5) (fun _ _ => rfl)) pe_non (nomark _)) pe_non (pe_ix ix_list (pv 7) (pe_ix ix_list (pv 4) (pv 5) (fun _ _ => rfl)) (fun _ _ => rfl))) (pg_sub (pv 9) (pe_ix ix_list (pv 7) (pv 5) (fun _ _ => rfl)) set_list))))
      (pss_one (ps_ret (pe_callTy call_tuple_of (by rfl) B.tuple (by decide +kernel) (pa_cons (pv 9) pa_nil)))))))))))))), ?_⟩
  have p50 : (2 : Nat) ^ 50 = 1125899906842624 := by decide
  have p60 : (2 : Nat) ^ 60 = 1152921504606846976 := by decide
  have p100 : (2 : Nat) ^ 100 = 1267650600228229401496703205376 := by decide +kernel
  have p62 : (2 : Int) ^ 62 = 4611686018427387904 := by decide
  have p63 : (2 : Int) ^ 63 = 9223372036854775808 := by decide
  obtain ⟨wl0, hwl0⟩ := hw.here
  -- size = 1 + _law_draw(well, most); way = _law_draw(well, 4); found = []
  refine ⟨_, rfl, _, rfl, wl, n, _, rfl, hw, by omega, by omega, by omega, fun d0 H1 d00 d01 k1 w1 => ⟨_, _, rfl, rfl, ?_⟩⟩
  refine ⟨_, rfl, wl, n + 1, _, rfl, w1, by omega, by omega, by omega, fun way H2 _ _ k2 w2 => ?_⟩
  refine ⟨by show 0 ≤ sizeLine; decide, fun F hF2 => ?_⟩
  obtain ⟨sz, hsz⟩ : ∃ sz : Nat, 1 + d0 = (sz : Int) := ⟨(1 + d0).toNat, by omega⟩
  have hsz1 : 1 ≤ sz := by omega
  have hsz2 : (sz : Int) ≤ m := by omega
  have hsz3 : sz ≤ 60 := by omega
  have k02 := k1.trans k2
  have hFw : F ≠ wl := by
    obtain ⟨l2, e2⟩ := w2.here
    exact (ne_of_none e2 hF2).symm
  have hFn : H F = none := by
    cases eF : H F with
    | none => rfl
    | some o =>
      have z := k02 F o hFw eF
      rw [hF2] at z; cases z
  -- for k in range(size)
  refine ⟨_, rfl, _, rfl, by omega, by omega, for_it walk_range0 (fun i σ H' => ∃ v5 v6, σ = slF wl F m (1 + d0) way v5 v6 none none none ∧ Keep wl H H' ∧ Well H' wl (n + 2 + 5 * i) ∧ ∃ l : Hs, l.length = i ∧ LtF l ∧ H' F = some (.lst (l.map hv)))
    ⟨none, none, rfl, k02.new hF2, (w2.same ((Same.refl H2).new hF2)), [], rfl, fun j u e => (by cases e), upd_same⟩ (fun _ _ _ _ _ => trivial) ?_ ?_⟩
  · rintro i x σ H3 H4 hi ⟨v5, v6, rfl, k3, w3, l, hl, hlt, hF3⟩ ⟨rfl, rfl⟩
    have hi' : i < sz := by omega
    -- some = [None, k - 1, draw(max(1, k))][draw(3)] if k > 0 else None
    refine ⟨fun σ' H' => ∃ v6, OkV i v6 ∧ σ' = slF wl F m (1 + d0) way (some (.int (i : Int))) (some v6) none none none ∧ Keep wl H H' ∧ Well H' wl (n + 2 + 5 * i + 2) ∧ H' F = some (.lst (l.map hv)), ?_, ?_⟩
    · refine ⟨_, rfl, _, _, rfl, rfl, _, rfl, ?_⟩
      refine ite2 (fun c => ?_) (fun c => ?_)
      · have ci : (0 : Int) < (i : Int) := of_decide_eq_true c
        refine ⟨_, rfl, _, _, rfl, rfl, ?_⟩
        refine ⟨_, rfl, _, rfl, _, _, rfl, wl, _, _, rfl, w3, by omega, by split <;> omega, by split <;> omega, fun d H5 d0 d1 k5 w5 => ⟨by show 3 ≤ sizeLine; decide, fun L hL => ?_⟩⟩
        have w6 := w5.same ((Same.refl H5).new (o := .lst [.non, .int ((i : Int) - 1), .int d]) hL)
        refine ⟨_, rfl, wl, _, _, rfl, w6, by omega, by omega, by omega, fun d2 H6 e0 e1 k6 w6 => ?_⟩
        have hLw : L ≠ wl := by
          obtain ⟨l2, e2⟩ := w5.here
          exact (ne_of_none e2 hL).symm
        have hL6 : H6 L = some (.lst [.non, .int ((i : Int) - 1), .int d]) := k6 L _ hLw upd_same
        obtain ⟨v, hv1, hv2⟩ := pick (xs := [.non, .int ((i : Int) - 1), .int d]) e0 e1
        refine ⟨L, _, _, v, rfl, rfl, SqL.of hL6, hv2, v, ?_, rfl, (k3.trans (k5.new hL)).trans k6, w6, k6 F _ hFw ?_⟩
        · have d2' : d < (i : Int) := by
            split at d1 <;> omega
          simp only [List.mem_cons, List.not_mem_nil, or_false] at hv1
          rcases hv1 with rfl | rfl | rfl
          · exact .non i
          · exact .int (by omega) (by omega)
          · exact .int d0 d2'
        · have z := k5 F _ hFw hF3
          rw [upd_ne (ne_of_none z hL)]; exact z
      · exact ⟨.non, .non i, rfl, k3, w3.mono (by omega), hF3⟩
    · rintro σ' H5 ⟨v6, ok6, rfl, k5, w5, hF5⟩
      -- if k > 0 and way == 0
      refine ⟨fun σ' H' => ∃ v6, OkV i v6 ∧ σ' = slF wl F m (1 + d0) way (some (.int (i : Int))) (some v6) none none none ∧ Keep wl H H' ∧ Well H' wl (n + 2 + 5 * i + 3) ∧ H' F = some (.lst (l.map hv)), ?_, ?_⟩
      · refine ⟨_, rfl, _, _, rfl, rfl, _, rfl, ?_⟩
        refine ite2 (fun c => ?_) (fun c => ?_)
        · have ci : (0 : Int) < (i : Int) := of_decide_eq_true c
          refine ⟨_, rfl, rfl, _, rfl, ?_⟩
          refine ite2 (fun c2 => ?_) (fun c2 => ?_)
          · refine ⟨_, rfl, _, _, rfl, rfl, _, rfl, _, _, rfl, rfl, _, _, rfl, by show 2 ≤ sizeLine; decide, fun L hL => ?_⟩
            have w6 := w5.same ((Same.refl H5).new (o := .lst [.int ((i : Int) - 1), .int (if (i : Int) - 2 > 0 then (i : Int) - 2 else 0)]) hL)
            refine ⟨_, rfl, wl, _, _, rfl, w6, by omega, by omega, by omega, fun d2 H6 e0 e1 k6 w6 => ?_⟩
            have hLw : L ≠ wl := by
              obtain ⟨l2, e2⟩ := w5.here
              exact (ne_of_none e2 hL).symm
            have hL6 : H6 L = some (.lst [.int ((i : Int) - 1), .int (if (i : Int) - 2 > 0 then (i : Int) - 2 else 0)]) := k6 L _ hLw upd_same
            obtain ⟨v, hv1, hv2⟩ := pick (xs := [.int ((i : Int) - 1), .int (if (i : Int) - 2 > 0 then (i : Int) - 2 else 0)]) e0 e1
            refine ⟨L, _, _, v, rfl, rfl, SqL.of hL6, hv2, v, ?_, rfl, (k5.new hL).trans k6, w6, k6 F _ hFw ?_⟩
            · simp only [List.mem_cons, List.not_mem_nil, or_false] at hv1
              rcases hv1 with rfl | rfl
              · exact .int (by omega) (by omega)
              · exact .int (by split <;> omega) (by split <;> omega)
            · rw [upd_ne (ne_of_none hF5 hL)]; exact hF5
          · exact ⟨v6, ok6, rfl, k5, w5.mono (by omega), hF5⟩
        · exact ⟨v6, ok6, rfl, k5, w5.mono (by omega), hF5⟩
      · rintro σ' H6 ⟨v6, ok6, rfl, k6, w6, hF6⟩
        -- if k > 0 and way == 1
        refine ⟨fun σ' H' => ∃ v6, OkV i v6 ∧ σ' = slF wl F m (1 + d0) way (some (.int (i : Int))) (some v6) none none none ∧ Keep wl H H' ∧ Well H' wl (n + 2 + 5 * i + 5) ∧ H' F = some (.lst (l.map hv)), ?_, ?_⟩
        · refine ⟨_, rfl, _, _, rfl, rfl, _, rfl, ?_⟩
          refine ite2 (fun c => ?_) (fun c => ?_)
          · have ci : (0 : Int) < (i : Int) := of_decide_eq_true c
            refine ⟨_, rfl, rfl, _, rfl, ?_⟩
            refine ite2 (fun c2 => ?_) (fun c2 => ?_)
            · refine ⟨_, rfl, _, rfl, wl, _, _, rfl, w6, by omega, by omega, by omega, fun d H7 d0 d1 k7 w7 => ⟨by show 4 ≤ sizeLine; decide, fun L hL => ?_⟩⟩
              have w8 := w7.same ((Same.refl H7).new (o := .lst [.int 0, .int 0, .non, .int d]) hL)
              refine ⟨_, rfl, wl, _, _, rfl, w8, by omega, by omega, by omega, fun d2 H8 e0 e1 k8 w8 => ?_⟩
              have hLw : L ≠ wl := by
                obtain ⟨l2, e2⟩ := w7.here
                exact (ne_of_none e2 hL).symm
              have hL8 : H8 L = some (.lst [.int 0, .int 0, .non, .int d]) := k8 L _ hLw upd_same
              obtain ⟨v, hv1, hv2⟩ := pick (xs := [.int 0, .int 0, .non, .int d]) e0 e1
              refine ⟨L, _, _, v, rfl, rfl, SqL.of hL8, hv2, v, ?_, rfl, (k6.trans (k7.new hL)).trans k8, w8, k8 F _ hFw ?_⟩
              · simp only [List.mem_cons, List.not_mem_nil, or_false] at hv1
                rcases hv1 with rfl | rfl | rfl | rfl
                · exact .int (by omega) (by omega)
                · exact .int (by omega) (by omega)
                · exact .non i
                · exact .int d0 d1
              · have z := k7 F _ hFw hF6
                rw [upd_ne (ne_of_none z hL)]; exact z
            · exact ⟨v6, ok6, rfl, k6, w6.mono (by omega), hF6⟩
          · exact ⟨v6, ok6, rfl, k6, w6.mono (by omega), hF6⟩
        · rintro σ' H7 ⟨v6, ⟨o, rfl, ho⟩, rfl, k7, w7, hF7⟩
          -- found.append(some)
          refine ⟨_, rfl, .inl ⟨rfl, _, SqL.of hF7⟩, _, rfl, F, _, _, rfl, rfl, hF7, by rw [List.length_map]; exact szl (by omega), ?_⟩
          have kf : Keep wl H (upd H7 F (.lst (l.map hv ++ [hv o]))) := fun b u hb e => by
            rw [upd_ne (ne_of_none e hFn)]; exact k7 b u hb e
          refine ⟨_, _, rfl, kf, ?_, l ++ [o], by rw [List.length_append, hl]; rfl, hlt.snoc (by rw [hl]; exact ho), by rw [upd_same, List.map_append]; rfl⟩
          obtain ⟨a, b, c, e, r⟩ := w7.ex
          exact ⟨a, b, c, by rw [upd_ne hFw.symm]; exact e, r.1, r.2.1, r.2.2.1, r.2.2.2.1, by omega⟩
  · rintro σ H3 ⟨v5, v6, rfl, k3, w3, l, hl, hlt, hF3⟩
    have e0 : (1 + d0).toNat = sz := by omega
    rw [e0] at w3 hl
    have hlne : l ≠ [] := by
      intro z; rw [z] at hl; rw [← hl] at hsz1; exact absurd hsz1 (by decide)
    -- if _law_draw(well, 3) == 0: return tuple(found)
    refine ⟨_, rfl, wl, _, _, rfl, w3, by omega, by omega, by omega, fun d H4 _ _ k4 w4 => ?_⟩
    have hF4 := k4 F _ hFw hF3
    have k04 := k3.trans k4
    refine ⟨rfl, _, rfl, ?_⟩
    refine ite2 (fun c => ?_) (fun c => ?_)
    · refine ⟨_, rfl, F, _, rfl, .inl ⟨SqL.of hF4, fun t ht => ?_⟩⟩
      have w5 := w4.same ((Same.refl H4).new (o := .tup (l.map hv)) ht)
      have htn : H t = none := by
        cases et : H t with
        | none => rfl
        | some o =>
          by_cases htw : t = wl
          · obtain ⟨l2, e2⟩ := w4.here
            rw [htw, e2] at ht; cases ht
          · have z := k04 t o htw et
            rw [ht] at z; cases z
      refine q t l _ (fo_plain hlne hlt) (by omega) (k04.new ht) (w5.mono (by omega)) htn upd_same
    · -- names, left = [], list(range(size))
      refine ⟨by show 0 ≤ sizeLine; decide, fun N hN => ?_⟩
      refine ⟨_, rfl, _, rfl, RgOk.of_le (by omega) (by omega) (by omega) (by omega), fun L hL => ⟨_, _, rfl, ?_⟩⟩
      have hNn : H N = none := by
        cases et : H N with
        | none => rfl
        | some o =>
          by_cases htw : N = wl
          · obtain ⟨l2, e2⟩ := w4.here
            rw [htw, e2] at hN; cases hN
          · have z := k04 N o htw et
            rw [hN] at z; cases z
      have hNw : N ≠ wl := by
        obtain ⟨l2, e2⟩ := w4.here
        exact (ne_of_none e2 hN).symm
      have hNL : N ≠ L := ne_of_none upd_same hL
      have hNF : F ≠ N := ne_of_none hF4 hN
      have hL4 : H4 L = none := by rw [upd_ne hNL.symm] at hL; exact hL
      have hLw : L ≠ wl := by
        obtain ⟨l2, e2⟩ := w4.here
        exact (ne_of_none e2 hL4).symm
      have hFL : F ≠ L := ne_of_none hF4 hL4
      have hLn : H L = none := by
        cases et : H L with
        | none => rfl
        | some o =>
          have z := k04 L o hLw et
          rw [hL4] at z; cases z
      have kk : ∀ {H' : Hp} {a : Addr} {o : HO}, Keep wl H H' → H a = none → Keep wl H (upd H' a o) := fun {H' a o} k hn b u hb e => by
        rw [upd_ne (ne_of_none e hn)]; exact k b u hb e
      have ww : ∀ {H' : Hp} {a : Addr} {o : HO} {k : Nat}, Well H' wl k → a ≠ wl → Well (upd H' a o) wl k := fun {H' a o k} h hn => by
        obtain ⟨x, y, z, e, r⟩ := h.ex
        exact ⟨x, y, z, by rw [upd_ne hn.symm]; exact e, r⟩
      -- for k in range(size): names.append(left.pop(_law_draw(well, len(left))))
      refine ⟨_, rfl, _, rfl, by omega, by omega, for_it walk_range0 (fun i σ H' => ∃ v5, σ = slF wl F m (1 + d0) way v5 v6 (some (.ref N)) (some (.ref L)) none ∧ Keep wl H H' ∧ Well H' wl (n + 3 + 5 * sz + i) ∧ H' F = some (.lst (l.map hv)) ∧
          ∃ nm lf : List Nat, nm.length = i ∧ (nm ++ lf).Perm (List.range sz) ∧ H' N = some (.lst (nv nm)) ∧ H' L = some (.lst (nv lf)))
        ⟨v5, rfl, kk (kk k04 hNn) hLn, (ww (ww w4 hNw) hLw).mono (by omega), by rw [upd_ne hFL, upd_ne hNF]; exact hF4, [], List.range sz, rfl, List.Perm.refl _, by rw [upd_ne hNL, upd_same]; rfl, by rw [upd_same, hsz, nv_range]⟩ (fun _ _ _ _ _ => trivial) ?_ ?_⟩
      · rintro i x σ H5 H6 hi ⟨v5, rfl, k5, w5, hF5, nm, lf, hnm, hp, hN5, hL5⟩ ⟨rfl, rfl⟩
        have hi' : i < sz := by omega
        have hlf : nm.length + lf.length = sz := by
          have z := hp.length_eq
          rw [List.length_append, List.length_range] at z; exact z
        refine ⟨_, rfl, .inl ⟨rfl, _, SqL.of hN5⟩, ?_⟩
        refine ⟨_, rfl, .inl ⟨rfl, _, SqL.of hL5⟩, ?_⟩
        refine ⟨_, rfl, _, rfl, _, _, rfl, .inl ⟨_, SqL.of hL5, rfl⟩, wl, _, _, rfl, w5, by omega, by rw [nv_length]; omega, by rw [nv_length]; omega, fun d H6 d0 d1 k6 w6 => ?_⟩
        rw [nv_length] at d1
        obtain ⟨j, hj⟩ : ∃ j : Nat, d = (j : Int) := ⟨d.toNat, by omega⟩
        subst hj
        have hjl : j < lf.length := by omega
        have hL6 := k6 L _ hLw hL5
        have hN6 := k6 N _ hNw hN5
        have hF6 := k6 F _ hFw hF5
        refine ⟨L, _, _, j, _, rfl, rfl, hL6, by omega, by omega, by rw [nv_length]; exact seq_nat hjl, nv_get (List.getElem?_eq_getElem hjl), ?_⟩
        refine ⟨N, _, _, rfl, rfl, by rw [upd_ne hNL]; exact hN6, by rw [nv_length]; exact szl (by omega), ?_⟩
        refine ⟨_, rfl, kk (kk (k5.trans k6) hLn) hNn, (ww (ww w6 hLw) hNw).mono (by omega), by rw [upd_ne hNF, upd_ne hFL]; exact hF6, nm ++ [lf[j]], lf.eraseIdx j, by rw [List.length_append, hnm]; rfl, ?_, by rw [upd_same, nv_append]; rfl, by rw [upd_ne hNL.symm, upd_same, nv_erase]⟩
        have pe := erase_perm lf j hjl
        rw [List.append_assoc]
        exact (List.Perm.append_left nm pe).trans hp
      · rintro σ H5 ⟨v5, rfl, k5, w5, hF5, nm, lf, hnm, hp, hN5, hL5⟩
        rw [e0] at hnm w5
        have hlf : nm.length + lf.length = sz := by
          have z := hp.length_eq
          rw [List.length_append, List.length_range] at z; exact z
        have hlf0 : lf = [] := List.eq_nil_of_length_eq_zero (by omega)
        subst hlf0
        rw [List.append_nil] at hp
        -- turned_here = [None] * size
        refine ⟨by show 1 ≤ sizeLine; decide, fun O hO => ?_⟩
        refine ⟨_, rfl, O, _, _, rfl, rfl, upd_same, by omega, by omega, ?_, fun T hT => ?_⟩
        · show 1 * (1 + d0).toNat ≤ sizeLine
          rw [e0, Nat.one_mul]; exact Nat.le_of_lt (szl (by omega))
        have hT5 : H5 T = none := by
          have z := hT
          rw [upd_ne (ne_of_none upd_same hT).symm] at z; exact z
        have fresh : ∀ {a : Addr}, H5 a = none → H a = none ∧ a ≠ wl ∧ F ≠ a ∧ N ≠ a := fun {a} ha => by
          have h1 : a ≠ wl := by
            obtain ⟨l2, e2⟩ := w5.here
            exact (ne_of_none e2 ha).symm
          refine ⟨?_, h1, ne_of_none hF5 ha, ne_of_none hN5 ha⟩
          cases et : H a with
          | none => rfl
          | some o =>
            have z := k5 a o h1 et
            rw [ha] at z; cases z
        obtain ⟨o1, o2, o3, o4⟩ := fresh hO
        obtain ⟨t1, t2, t3, t4⟩ := fresh hT5
        have hnl : ∀ j : Nat, j < sz → ∃ v, nm[j]? = some v ∧ v < sz := fun j hj => by
          have h1 : j < nm.length := by omega
          exact ⟨nm[j], List.getElem?_eq_getElem h1, List.mem_range.mp (hp.mem_iff.mp (List.getElem_mem h1))⟩
        have hnd : nm.Nodup := hp.nodup_iff.mpr List.nodup_range
        -- for k in range(size): turned_here[names[k]] = ..
        refine ⟨_, rfl, _, rfl, by omega, by omega, for_it walk_range0 (fun i σ H' => ∃ v5, σ = slF wl F m (1 + d0) way v5 v6 (some (.ref N)) (some (.ref L)) (some (.ref T)) ∧ Keep wl H H' ∧ Well H' wl (n + 3 + 6 * sz) ∧ H' F = some (.lst (l.map hv)) ∧ H' N = some (.lst (nv nm)) ∧
            ∃ th : Hs, th.length = sz ∧ (∀ (j v : Nat) (o : Option Nat), j < i → nm[j]? = some v → l[j]? = some o → th[v]? = some (ren nm o)) ∧ H' T = some (.lst (th.map hv)))
          ⟨v5, rfl, kk (kk k5 o1) t1, (ww (ww w5 o2) t2).mono (by omega), by rw [upd_ne t3, upd_ne o3]; exact hF5, by rw [upd_ne t4, upd_ne o4]; exact hN5, List.replicate sz none, List.length_replicate, fun j v o hj => absurd hj (Nat.not_lt_zero j), by rw [upd_same, rep_non, e0]⟩ (fun _ _ _ _ _ => trivial) ?_ ?_⟩
        · rintro i x σ H6 H7 hi ⟨v5, rfl, k6, w6, hF6, hN6, th, hth, hr, hT6⟩ ⟨rfl, rfl⟩
          have hi' : i < sz := by omega
          have hil : i < l.length := by omega
          obtain ⟨v, ev, hv'⟩ := hnl i hi'
          have eo : l[i]? = some l[i] := List.getElem?_eq_getElem hil
          generalize l[i] = o at eo
          have fin : ∀ x : V, x = hv (ren nm o) → gSub (tVar 9) (tOp (rIxL K) (tVar 7) (tVar 5)) rSetL x (slF wl F m (1 + d0) way (some (.int (i : Int))) v6 (some (.ref N)) (some (.ref L)) (some (.ref T))) H7
              (fun σ H' => ∃ v5, σ = slF wl F m (1 + d0) way v5 v6 (some (.ref N)) (some (.ref L)) (some (.ref T)) ∧ Keep wl H H' ∧ Well H' wl (n + 3 + 6 * sz) ∧ H' F = some (.lst (l.map hv)) ∧ H' N = some (.lst (nv nm)) ∧
                ∃ th : Hs, th.length = sz ∧ (∀ (j v : Nat) (o : Option Nat), j < i + 1 → nm[j]? = some v → l[j]? = some o → th[v]? = some (ren nm o)) ∧ H' T = some (.lst (th.map hv))) := by
            rintro x rfl
            refine ⟨_, rfl, _, rfl, _, rfl, N, _, _, _, rfl, rfl, SqL.of hN6, atI_nat (nv_get ev), T, _, _, v, rfl, rfl, hT6, by rw [List.length_map, hth]; exact ixN_nat hv', ?_⟩
            refine ⟨_, rfl, kk k6 t1, ww w6 t2, by rw [upd_ne t3]; exact hF6, by rw [upd_ne t4]; exact hN6, th.set v (ren nm o), by rw [List.length_set]; exact hth, ?_, by rw [upd_same, List.map_set]⟩
            intro j v' o' hj e1 e2
            by_cases hji : j = i
            · subst hji
              have q1 : v' = v := Option.some.inj (e1.symm.trans ev)
              have q2 : o' = o := Option.some.inj (e2.symm.trans eo)
              subst q1 q2
              exact List.getElem?_set_self (by rw [hth]; exact hv')
            · have hne : v ≠ v' := fun z => hji (nodup_at hnd e1 (by rw [← z]; exact ev))
              rw [List.getElem?_set_ne hne]
              exact hr j v' o' (by omega) e1 e2
          refine ⟨_, rfl, _, rfl, F, _, _, _, rfl, rfl, SqL.of hF6, atI_nat (hv_at eo), rfl, _, rfl, ?_⟩
          cases o with
          | none => exact iteT (fin _ rfl)
          | some u =>
            have hu := hlt i u eo
            obtain ⟨vu, eu, _⟩ := hnl u (by omega)
            refine iteF ⟨_, rfl, _, rfl, _, rfl, F, _, _, _, rfl, rfl, SqL.of hF6, atI_nat (hv_at eo), N, _, _, _, rfl, rfl, SqL.of hN6, atI_nat (nv_get eu), fin _ ?_⟩
            show V.int (vu : Int) = V.int ((nm.getD u 0 : Nat) : Int)
            rw [List.getD_eq_getElem?_getD, eu]; rfl
        · rintro σ H6 ⟨v5, rfl, k6, w6, hF6, hN6, th, hth, hr, hT6⟩
          rw [e0] at hr
          refine ⟨_, rfl, T, _, rfl, .inl ⟨SqL.of hT6, fun t ht => ?_⟩⟩
          have w7 := w6.same ((Same.refl H6).new (o := .tup (th.map hv)) ht)
          have htn : H t = none := by
            have h1 : t ≠ wl := by
              obtain ⟨l2, e2⟩ := w6.here
              exact (ne_of_none e2 ht).symm
            cases et : H t with
            | none => rfl
            | some o =>
              have z := k6 t o h1 et
              rw [ht] at z; cases z
          refine q t th _ (fo_turned hlne hlt (by rw [hl]; exact hp) (by rw [hth, hl]) fun j v o e1 e2 => hr j v o ?_ e1 e2) (by omega) (k6.new ht) (w7.mono (by omega)) htn upd_same
          have z := (List.getElem?_eq_some_iff.mp e2).1
          omega
end

end My

namespace My
open PySem PySem.Spec PyProof.Rows L2
/-! ### what the functions of heldbehind.forests raise and hand back -/
def spCheckF (C : Addr) : Sp := fun vs H Q E => ∃ x : V, vs = [x] ∧ Askd H x ∧ (IsF H x → ∀ H', Same H H' → Q .non H') ∧ (¬ IsF H x → ∀ H', Same H H' → E (.ref C) none H')
def spCheckT (C : Addr) : Sp := fun vs H Q E => ∃ (a : Addr) (xs : List V) (y : V), vs = [.ref a, y] ∧ H a = some (.tup xs) ∧ Vd H y ∧ (isIdx (xs.length : Int) y = true → Q .non H) ∧ (isIdx (xs.length : Int) y = false → E (.ref C) none H)
/-- a function of a forest alone: R what its answer's list may be -/
def spOf (C : Addr) (R : Hs → List V → Prop) : Sp := fun vs H Q E => ∃ x : V, vs = [x] ∧ Askd H x ∧ (∀ hs : Hs, tupAt H x = some (hs.map hv) → hs.length ≤ 60) ∧ (¬ IsF H x → ∀ H', Same H H' → E (.ref C) none H') ∧
  ∀ hs : Hs, tupAt H x = some (hs.map hv) → Fo hs → ∀ r l H', R hs l → Same H H' → H r = none → H' r = some (.lst l) → Q (.ref r) H'
/-- a function of a forest and a thing -/
def spOf2 (C C2 : Addr) (R : Hs → Nat → List V → Prop) : Sp := fun vs H Q E => ∃ x y : V, vs = [x, y] ∧ Askd H x ∧ Vd H y ∧ (∀ hs : Hs, tupAt H x = some (hs.map hv) → hs.length ≤ 60) ∧ (¬ IsF H x → ∀ H', Same H H' → E (.ref C) none H') ∧
  (∀ hs : Hs, tupAt H x = some (hs.map hv) → Fo hs → isIdx (hs.length : Int) y = false → ∀ H', Same H H' → E (.ref C2) none H') ∧
  ∀ hs : Hs, tupAt H x = some (hs.map hv) → Fo hs → ∀ t : Nat, y = .int (t : Int) → t < hs.length → ∀ r l H', R hs t l → Same H H' → H r = none → H' r = some (.lst l) → Q (.ref r) H'
theorem tupAt_same {H H' : Hp} {x : V} {xs : List V} (h : tupAt H x = some xs) (s : Same H H') : tupAt H' x = some xs := by
  obtain ⟨a, rfl, ha⟩ := tupAt_ref h
  exact tupAt_tup (s _ _ ha)
theorem Askd.same {H H' : Hp} {x : V} (h : Askd H x) (s : Same H H') (hi : ∀ xs, tupAt H' x = some xs → tupAt H x = some xs) : Askd H' x :=
  ⟨h.vd.same s, fun xs e => ⟨(h.items xs (hi xs e)).1, fun y hy => ((h.items xs (hi xs e)).2 y hy).same s⟩⟩
theorem isIdx_true {n : Nat} {y : V} (h : isIdx (n : Int) y = true) : ∃ t : Nat, y = .int (t : Int) ∧ t < n := by
  cases y with
  | int i =>
    have c : (decide (0 ≤ i) && decide (i < (n : Int))) = true := h
    rw [Bool.and_eq_true, decide_eq_true_eq, decide_eq_true_eq] at c
    exact ⟨i.toNat, by congr 1; omega, by omega⟩
  | _ => cases h
theorem vd_hv {H : Hp} (o : Option Nat) : Vd H (hv o) := by
  cases o with
  | none => exact .non
  | some u => exact .int _
section
variable {P : Program} {w : World} {K : PySem.W.Frag} {mg : Str → Option Value} {base : Heap} {CF CT : Addr}
abbrev st_check_forest : Stmt := topS 10
abbrev N_check_forest : List Str := ["forest"]
theorem sc_check_forest : FnScope N_check_forest ["forest"] (defScope st_check_forest) := ⟨rfl, rfl, rfl, by decide +kernel, rfl, by decide +kernel, by decide +kernel⟩
theorem ok_check_forest (D : Df K mg "check_forest" st_check_forest ["forest"]) (B : Bl mg) (EInvalidForest : Ex1 K mg "InvalidForest" CF) (Kis_forest : Kn P w K mg base CX0 4 "is_forest" st_is_forest ["value"] spIsForest) :
    Kn P w K mg base (L2.CX P w) 5 "check_forest" st_check_forest ["forest"] (spCheckF CF) := by
  refine D.okX sc_check_forest (fun vs H Q E h => ?_) (fun f cdv A outer s H vs Q E hr h => ?_)
  · obtain ⟨x, rfl, _⟩ := h; rfl
  obtain ⟨x, rfl, ask, q1, q2⟩ := h
  refine ⟨_, ((pss_one (ps_if (pt_not (pt_val (pe_callF Kis_forest (hr.mono (by decide)) pass0 (pa_cons (pv 0) pa_nil)))) (pss_one (ps_raise rfl (takes_of rfl rfl rfl rfl) (pmk_own0 PySem.F.excBase_ValueError EInvalidForest.x EInvalidForest.g EInvalidForest.k (raises_own EInvalidForest.b EInvalidForest.t) rfl))) pss_nil))), ?_⟩
  refine ⟨_, rfl, x, rfl, ask, fun b H' s' hb => ⟨_, rfl, ?_⟩⟩
  cases b with
  | true => exact iteF (q1 (hb.mp rfl) H' s')
  | false => exact iteT (q2 (fun z => Bool.false_ne_true (hb.mpr z)) H' s')
abbrev st_walk : Stmt := topS 12
abbrev N_walk : List Str := ["forest"]
theorem sc_walk : FnScope N_walk ["forest"] (defScope st_walk) := ⟨rfl, rfl, rfl, by decide +kernel, rfl, by decide +kernel, by decide +kernel⟩
theorem ok_walk (D : Df K mg "walk" st_walk ["forest"]) (B : Bl mg) (Kcheck_forest : Kn P w K mg base (L2.CX P w) 5 "check_forest" st_check_forest ["forest"] (spCheckF CF))
    (K_without_holder : Kn P w K mg base CX0 1 "_without_holder" st__without_holder ["forest"] (spWithout K)) (K_held_lists : Kn P w K mg base CX0 1 "_held_lists" st__held_lists ["forest"] (spHeld K))
    (K_walk_through : Kn P w K mg base CX0 1 "_walk_through" st__walk_through ["held", "starts"] (spWalkT K)) :
    Kn P w K mg base (L2.CX P w) 6 "walk" st_walk ["forest"] (spOf CF fun hs l => ∃ o, l = nv o ∧ WT hs (roots hs) (Rch hs) o []) := by
  refine D.okX sc_walk (fun vs H Q E h => ?_) (fun f cdv A outer s H vs Q E hr h => ?_)
  · obtain ⟨x, rfl, _⟩ := h; rfl
  obtain ⟨x, rfl, ask, _, q2, q⟩ := h
  refine ⟨_, ((pss_cons (ps_expr (pe_callF Kcheck_forest (hr.mono (by decide)) (passX (takes_of rfl rfl rfl rfl)) (pa_cons (pv 0) pa_nil)))
      (pss_one (ps_ret (pe_callF K_walk_through (hr.mono (by decide)) pass0 (pa_cons (pe_callF K_held_lists (hr.mono (by decide)) pass0 (pa_cons (pv 0) pa_nil)) (pa_cons (pe_callF K_without_holder (hr.mono (by decide)) pass0 (pa_cons (pv 0) pa_nil)) pa_nil))))))), ?_⟩
  refine ⟨_, rfl, x, rfl, ask, fun ⟨hs, e, fo⟩ H1 s1 => ?_, q2⟩
  obtain ⟨a, rfl, ha⟩ := tupAt_ref e
  have hl := (ask.items _ e).1
  rw [List.length_map] at hl
  have hS1 : SqT K H1 a (hs.map hv) := SqT.of (s1 _ _ ha)
  refine ⟨_, rfl, a, hs, rfl, hS1, hl, fo.inb, fun p as H2 s2 hp hpc hA => ?_⟩
  refine ⟨_, rfl, a, hs, rfl, s2.tseq hS1, hl, fun p2 H3 s3 hp2 hr2 => ?_⟩
  refine ⟨p, p2, as, hs, roots hs, Rch hs, rfl, hA.same s3, SqL.of hr2, hl, starts_roots hs, fun r l H4 s4 hr4 hl4 hwt => ?_⟩
  have s14 := (s1.trans s2).trans s3
  exact q hs e fo r _ H4 ⟨l, rfl, hwt⟩ (s14.trans s4) (s14.free hr4) hl4
end

/-! ### the ways up -/
inductive Ups (hs : Hs) : Nat → List Nat → Prop where
  | root {v : Nat} (h : hs[v]? = some none) : Ups hs v []
  | step {v u : Nat} {l : List Nat} (h : hs[v]? = some (some u)) (r : Ups hs u l) : Ups hs v (u :: l)
theorem Rch.ups {hs : Hs} {v : Nat} (r : Rch hs v) : ∃ l, Ups hs v l := by
  induction r with
  | root h => exact ⟨[], .root h⟩
  | step h _ ih => obtain ⟨l, hl⟩ := ih; exact ⟨_, .step h hl⟩
theorem Ups.inj {hs : Hs} {v : Nat} {l m : List Nat} (a : Ups hs v l) (b : Ups hs v m) : l = m := by
  induction a generalizing m with
  | root h => cases b with
    | root _ => rfl
    | step h2 _ => rw [h] at h2; cases h2
  | step h r ih => cases b with
    | root h2 => rw [h] at h2; cases h2
    | step h2 r2 =>
      rw [h] at h2; cases h2
      rw [ih r2]
theorem Ups.lt {hs : Hs} {v : Nat} {l : List Nat} (a : Ups hs v l) : v < hs.length := by
  cases a with
  | root h => exact (List.getElem?_eq_some_iff.mp h).1
  | step h r => exact (List.getElem?_eq_some_iff.mp h).1
theorem Ups.mem {hs : Hs} {v : Nat} {l : List Nat} (a : Ups hs v l) : ∀ w ∈ l, ∃ m, Ups hs w m ∧ m.length < l.length := by
  induction a with
  | root h => intro w hw; cases hw
  | step h r ih =>
    intro w hw
    rcases List.mem_cons.mp hw with rfl | hw
    · exact ⟨_, r, Nat.lt_succ_self _⟩
    · obtain ⟨m, hm, hl⟩ := ih w hw
      exact ⟨m, hm, Nat.lt_succ_of_lt hl⟩
theorem Ups.nd {hs : Hs} {v : Nat} {l : List Nat} (a : Ups hs v l) : (v :: l).Nodup := by
  induction a with
  | root h => simp
  | step h r ih =>
    refine List.nodup_cons.mpr ⟨fun hm => ?_, ih⟩
    obtain ⟨m, hm, hl⟩ := (Ups.step h r).mem _ hm
    rw [hm.inj (.step h r)] at hl
    exact Nat.lt_irrefl _ hl
theorem Ups.len {hs : Hs} {v : Nat} {l : List Nat} (a : Ups hs v l) : l.length < hs.length := by
  have q := nodup_len hs.length _ a.nd fun w hw => by
    rcases List.mem_cons.mp hw with rfl | hw
    · exact a.lt
    · obtain ⟨m, hm, _⟩ := a.mem w hw
      exact hm.lt
  rw [List.length_cons] at q; omega
/-- below: a thing's held ones, and theirs -/
inductive Blw (hs : Hs) (t : Nat) : Nat → Prop where
  | kid {v : Nat} (h : hs[v]? = some (some t)) : Blw hs t v
  | step {v u : Nat} (h : hs[v]? = some (some u)) (r : Blw hs t u) : Blw hs t v
theorem Blw.ups {hs : Hs} {t v : Nat} (b : Blw hs t v) {l : List Nat} (a : Ups hs v l) : t ∈ l := by
  induction b generalizing l with
  | kid h => cases a with
    | root h2 => rw [h] at h2; cases h2
    | step h2 r => rw [h] at h2; cases h2; exact List.mem_cons_self
  | step h r ih => cases a with
    | root h2 => rw [h] at h2; cases h2
    | step h2 r2 => rw [h] at h2; cases h2; exact List.mem_cons_of_mem _ (ih r2)
theorem ups_blw {hs : Hs} {t v : Nat} {l : List Nat} (a : Ups hs v l) (h : t ∈ l) : Blw hs t v := by
  induction a with
  | root _ => cases h
  | step e r ih =>
    rcases List.mem_cons.mp h with rfl | h
    · exact .kid e
    · exact .step e (ih h)
theorem Blw.irr {hs : Hs} {t : Nat} (r : Rch hs t) : ¬ Blw hs t t := fun b => by
  obtain ⟨l, a⟩ := r.ups
  exact (List.nodup_cons.mp a.nd).1 (b.ups a)
theorem starts_kids {hs : Hs} {t : Nat} (r : Rch hs t) : Starts hs (kids hs t) (Blw hs t) where
  nd := nodup_kids hs t
  ok := fun s h => ⟨(List.getElem?_eq_some_iff.mp (mem_kids.mp h)).1, .kid (mem_kids.mp h)⟩
  down := fun _ _ e b => .step e b
  no := fun s h u e => by
    rw [mem_kids.mp h] at e
    cases e
    exact Blw.irr r
theorem WT.blw {hs : Hs} {t : Nat} {l : List Nat} (h : WT hs (kids hs t) (Blw hs t) l []) (v : Nat) : v ∈ l ↔ Blw hs t v := by
  have z : ∀ w, w ∈ l ++ [] ↔ w ∈ l := fun w => by rw [List.append_nil]
  refine ⟨fun hv => (h.ok v ((z v).mpr hv)).2.1, fun b => ?_⟩
  induction b with
  | kid e => exact (z _).mp (h.sm _ (mem_kids.mpr e))
  | step e _ ih => exact (z _).mp (h.cl _ _ e ih)
/-! ### sizes -/
def sumP (hs : Hs) (F : List Int) (D : List Nat) (v : Nat) : Int := (((kids hs v).filter fun c => decide (c ∈ D)).map fun c => F.getD c 0).sum
def SizeOk (hs : Hs) (F : List Int) : Prop := F.length = hs.length ∧ ∀ v : Nat, v < hs.length → F.getD v 0 = 1 + ((kids hs v).map fun c => F.getD c 0).sum
theorem filter_cons_sum (f : Nat → Int) (D : List Nat) (t : Nat) (ht : t ∉ D) : ∀ l : List Nat, l.Nodup → ((l.filter fun c => decide (c ∈ t :: D)).map f).sum = ((l.filter fun c => decide (c ∈ D)).map f).sum + (if t ∈ l then f t else 0)
  | [], _ => by simp
  | a :: r, nd => by
    have ih := filter_cons_sum f D t ht r (List.nodup_cons.mp nd).2
    have nd1 := (List.nodup_cons.mp nd).1
    by_cases e : a = t
    · subst e
      have h1 : decide (a ∈ a :: D) = true := decide_eq_true List.mem_cons_self
      have h2 : decide (a ∈ D) = false := decide_eq_false ht
      rw [if_neg nd1] at ih
      rw [List.filter_cons_of_pos (by exact h1), List.filter_cons_of_neg (by rw [h2]; exact Bool.false_ne_true), if_pos List.mem_cons_self, List.map_cons, List.sum_cons, ih]
      omega
    · have h3 : (t ∈ a :: r) ↔ t ∈ r := by
        rw [List.mem_cons]
        exact ⟨fun h => h.resolve_left fun z => e z.symm, .inr⟩
      by_cases hd : a ∈ D
      · have h1 : decide (a ∈ t :: D) = true := decide_eq_true (List.mem_cons_of_mem _ hd)
        have h2 : decide (a ∈ D) = true := decide_eq_true hd
        rw [List.filter_cons_of_pos (by exact h1), List.filter_cons_of_pos (by exact h2), List.map_cons, List.sum_cons, List.map_cons, List.sum_cons, ih]
        by_cases h : t ∈ r
        · rw [if_pos h, if_pos (h3.mpr h)]; omega
        · rw [if_neg h, if_neg (fun z => h (h3.mp z))]; omega
      · have h1 : decide (a ∈ t :: D) = false := decide_eq_false fun z => (List.mem_cons.mp z).elim e hd
        have h2 : decide (a ∈ D) = false := decide_eq_false hd
        rw [List.filter_cons_of_neg (by rw [h1]; exact Bool.false_ne_true), List.filter_cons_of_neg (by rw [h2]; exact Bool.false_ne_true), ih]
        by_cases h : t ∈ r
        · rw [if_pos h, if_pos (h3.mpr h)]
        · rw [if_neg h, if_neg (fun z => h (h3.mp z))]
/-- how far the sizes are summed up: of the things in D all is said to their holders -/
def SizeTo (hs : Hs) (F : List Int) (D : List Nat) : Prop := F.length = hs.length ∧ ∀ v : Nat, v < hs.length → F.getD v 0 = 1 + sumP hs F D v
theorem sumP_nil (hs : Hs) (F : List Int) (v : Nat) : sumP hs F [] v = 0 := by
  unfold sumP
  have e : ((kids hs v).filter fun c => decide (c ∈ ([] : List Nat))) = [] := by simp
  rw [e]; rfl
theorem getD_set_self {F : List Int} {u : Nat} {x : Int} (h : u < F.length) : (F.set u x).getD u 0 = x := by
  rw [List.getD_eq_getElem?_getD, List.getElem?_set_self h]; rfl
theorem getD_set_ne {F : List Int} {u v : Nat} {x : Int} (h : u ≠ v) : (F.set u x).getD v 0 = F.getD v 0 := by
  rw [List.getD_eq_getElem?_getD, List.getElem?_set_ne h, List.getD_eq_getElem?_getD]
theorem sumP_set {hs : Hs} {F : List Int} {D : List Nat} {u : Nat} {x : Int} (v : Nat) (h : u ∉ D) : sumP hs (F.set u x) D v = sumP hs F D v := by
  unfold sumP
  congr 1
  refine List.map_congr_left fun c hc => ?_
  have h2 := of_decide_eq_true (List.mem_filter.mp hc).2
  exact getD_set_ne fun e => h (e ▸ h2)
theorem SizeTo.skip {hs : Hs} {F : List Int} {D : List Nat} {t : Nat} (h : SizeTo hs F D) (ht : t ∉ D) (e : hs[t]? = some none) : SizeTo hs F (t :: D) := by
  refine ⟨h.1, fun v hv => ?_⟩
  rw [h.2 v hv]
  unfold sumP
  rw [filter_cons_sum _ D t ht _ (nodup_kids hs v), if_neg (fun z => by rw [mem_kids.mp z] at e; cases e)]
  omega
theorem SizeTo.put {hs : Hs} {F : List Int} {D : List Nat} {t u : Nat} (h : SizeTo hs F D) (ht : t ∉ D) (hu : u ∉ D) (hut : u ≠ t) (e : hs[t]? = some (some u)) (hul : u < hs.length) : SizeTo hs (F.set u (F.getD u 0 + F.getD t 0)) (t :: D) := by
  have hlu : u < F.length := by rw [h.1]; exact hul
  have hu2 : u ∉ t :: D := fun z => (List.mem_cons.mp z).elim hut hu
  refine ⟨by rw [List.length_set]; exact h.1, fun v hv => ?_⟩
  rw [sumP_set v hu2]
  have q : sumP hs F (t :: D) v = sumP hs F D v + (if t ∈ kids hs v then F.getD t 0 else 0) := filter_cons_sum _ D t ht _ (nodup_kids hs v)
  rw [q]
  by_cases hvu : v = u
  · subst hvu
    rw [getD_set_self hlu, if_pos (mem_kids.mpr e), h.2 v hv]; omega
  · rw [getD_set_ne (fun z => hvu z.symm), if_neg (fun z => by
      rw [mem_kids.mp z] at e; cases e; exact hvu rfl), h.2 v hv]; omega
theorem SizeTo.all {hs : Hs} {F : List Int} {D : List Nat} (h : SizeTo hs F D) (hD : ∀ v : Nat, v < hs.length → v ∈ D) : SizeOk hs F := by
  refine ⟨h.1, fun v hv => ?_⟩
  rw [h.2 v hv]
  unfold sumP
  rw [List.filter_eq_self.mpr]
  intro c hc
  exact decide_eq_true (hD c (List.getElem?_eq_some_iff.mp (mem_kids.mp hc)).1)
/-- a forest's walk has all things, each behind its holder -/
structure Ord (hs : Hs) (l : List Nat) : Prop where
  nd : l.Nodup
  len : l.length = hs.length
  lt : ∀ v ∈ l, v < hs.length
  mem : ∀ v : Nat, v < hs.length → v ∈ l
  od : ∀ i v u : Nat, l[i]? = some v → hs[v]? = some (some u) → ∃ j : Nat, j < i ∧ l[j]? = some u
theorem WT.ord {hs : Hs} {l : List Nat} (fo : Fo hs) (h : WT hs (roots hs) (Rch hs) l []) : Ord hs l := by
  have nd := h.nd
  rw [List.append_nil] at nd
  have lt : ∀ v ∈ l, v < hs.length := fun v hv => (h.ok v (by rw [List.append_nil]; exact hv)).1
  have mem : ∀ v : Nat, v < hs.length → v ∈ l := fun v hv => h.all_found (fo.all v hv)
  refine ⟨nd, ?_, lt, mem, fun i v u e e2 => ?_⟩
  · have h1 := nodup_len hs.length l nd lt
    have h2 := nodup_sub (List.range hs.length) l List.nodup_range fun v hv => mem v (List.mem_range.mp hv)
    rw [List.length_range] at h2; omega
  · rcases h.od i v e with z | ⟨j, u', hj, e3, e4⟩
    · rw [mem_roots.mp z] at e2; cases e2
    · rw [e2] at e4; cases e4
      exact ⟨j, hj, e3⟩
/-! ### depths -/
def DepthOk (hs : Hs) (F : List Int) : Prop := F.length = hs.length ∧ ∀ v : Nat, v < hs.length → ∀ l, Ups hs v l → F.getD v 0 = (l.length : Int)
def iv (l : List Int) : List V := l.map V.int
theorem iv_get {F : List Int} {v : Nat} (h : v < F.length) : (iv F)[v]? = some (.int (F.getD v 0)) := by
  unfold iv
  rw [List.getElem?_map, List.getElem?_eq_getElem h, List.getD_eq_getElem?_getD, List.getElem?_eq_getElem h]; rfl
theorem iv_rep (x : Int) : ∀ k : Nat, (List.replicate k [V.int x]).flatten = iv (List.replicate k x)
  | 0 => rfl
  | k + 1 => by rw [List.replicate_succ, List.flatten_cons, iv_rep x k]; rfl
theorem iv_set (F : List Int) (u : Nat) (x : Int) : (iv F).set u (.int x) = iv (F.set u x) := by unfold iv; rw [List.map_set]
theorem iv_length (F : List Int) : (iv F).length = F.length := List.length_map _
section
variable {P : Program} {w : World} {K : PySem.W.Frag} {mg : Str → Option Value} {base : Heap} {CF CT : Addr}
end

theorem sizeTo_start (hs : Hs) : SizeTo hs (List.replicate hs.length 1) [] := by
  refine ⟨List.length_replicate, fun v hv => ?_⟩
  rw [sumP_nil, List.getD_eq_getElem?_getD, List.getElem?_replicate, if_pos hv]; rfl
theorem drop_back {l : List Nat} {i t : Nat} (hi : i < l.length) (h : l[l.length - 1 - i]? = some t) : l.drop (l.length - (i + 1)) = t :: l.drop (l.length - i) := by
  have e : l.length - (i + 1) = l.length - 1 - i := by omega
  have e2 : l.length - i = l.length - 1 - i + 1 := by omega
  have hlt : l.length - 1 - i < l.length := by omega
  rw [e, e2, List.drop_eq_getElem_cons hlt]
  rw [List.getElem?_eq_getElem hlt] at h
  rw [Option.some.inj h]
theorem nv_at {l : List Nat} {i : Nat} {x : V} (h : (nv l)[i]? = some x) : ∃ t : Nat, l[i]? = some t ∧ x = .int (t : Int) := by
  unfold nv at h
  rw [List.getElem?_map] at h
  cases e : l[i]? with
  | none => rw [e] at h; cases h
  | some t => rw [e] at h; exact ⟨t, rfl, (Option.some.inj h).symm⟩
theorem not_mem_drop {l : List Nat} (nd : l.Nodup) {i j v : Nat} (h : l[i]? = some v) (hij : i < j) : v ∉ l.drop j := fun z => by
  obtain ⟨k, hk⟩ := List.getElem?_of_mem z
  rw [List.getElem?_drop] at hk
  have e := nodup_at nd h hk
  omega
section
variable {P : Program} {w : World} {K : PySem.W.Frag} {mg : Str → Option Value} {base : Heap} {CF CT : Addr}
abbrev st_sizes : Stmt := topS 11
abbrev N_sizes : List Str := ["forest", "order", "found", "thing", "holder"]
theorem sc_sizes : FnScope N_sizes ["forest"] (defScope st_sizes) := ⟨rfl, rfl, rfl, by decide +kernel, rfl, by decide +kernel, by decide +kernel⟩
theorem ok_sizes (D : Df K mg "sizes" st_sizes ["forest"]) (B : Bl mg) (Kwalk : Kn P w K mg base (L2.CX P w) 6 "walk" st_walk ["forest"] (spOf CF fun hs l => ∃ o, l = nv o ∧ WT hs (roots hs) (Rch hs) o [])) :
    Kn P w K mg base (L2.CX P w) 7 "sizes" st_sizes ["forest"] (spOf CF fun hs l => ∃ F, l = iv F ∧ SizeOk hs F) := by
  refine D.okX sc_sizes (fun vs H Q E h => ?_) (fun f cdv A outer s H vs Q E hr h => ?_)
  · obtain ⟨x, rfl, _⟩ := h; rfl
  obtain ⟨x, rfl, ask, q1, q2, q⟩ := h
  refine ⟨_, ((pss_cons (ps_set (i := 1) sc_sizes.nd rfl (Or.inl rfl) (pe_callF Kwalk (hr.mono (by decide)) (passX (takes_of rfl rfl rfl rfl)) (pa_cons (pv 0) pa_nil)))
      (pss_cons (ps_set (i := 2) sc_sizes.nd rfl (Or.inl rfl) (pe_op op_rep (pe_lst (pa_cons pe_int pa_nil)) (pe_callB call_len (by rfl) B.len (by decide +kernel) (pa_cons (pv 1) pa_nil))))
      (pss_cons (ps_for (passes_of rfl) rfl (pi_reversed (by rfl) B.reversed (pa_cons (pv 1) pa_nil)) (pg_name (i := 3) sc_sizes.nd rfl (Or.inl rfl)) (pss_cons (ps_set (i := 4) sc_sizes.nd rfl (Or.inl rfl) (pe_ix ix_tup (pv 0) (pv 3) (fun _ _ => rfl)))
      (pss_one (ps_if (pt_cmpR op_notN (pv 4) pe_non (nomark _)) (pss_one (ps_asg (pe_op op_add (pe_ix ix_list (pv 2) (pv 4) (fun _ _ => rfl)) (pe_ix ix_list (pv 2) (pv 3) (fun _ _ => rfl))) (pg_sub (pv 2) (pv 4) set_list))) pss_nil))))
      (pss_one (ps_ret (pv 2))))))), ?_⟩
  refine ⟨_, rfl, x, rfl, ask, q1, q2, fun hs e fo r l H1 ⟨o, eo, hwt⟩ s1 hrn hr1 => ?_⟩
  subst eo
  obtain ⟨a, rfl, ha⟩ := tupAt_ref e
  have hl := q1 hs e
  have O := hwt.ord fo
  have p63 : (2 : Int) ^ 63 = 9223372036854775808 := by decide
  refine ⟨by show 1 ≤ sizeLine; decide, fun X hX => ⟨_, rfl, _, _, rfl, .inl ⟨nv o, SqL.of (by rw [upd_ne (ne_of_none hr1 hX)]; exact hr1), rfl⟩, X, _, _, rfl, rfl, upd_same, by omega, by rw [nv_length, O.len]; omega, ?_, fun F hF => ?_⟩⟩
  · show 1 * ((nv o).length : Int).toNat ≤ sizeLine
    rw [nv_length, O.len]
    exact Nat.le_of_lt (szl (by omega))
  have hXn : H X = none := s1.free hX
  have s2 : Same H (upd H1 X (.lst [.int 1])) := s1.new hX
  have hFn : H F = none := s2.free hF
  have hr2 : upd (upd H1 X (.lst [.int 1])) F (.lst (List.replicate ((nv o).length : Int).toNat [V.int 1]).flatten) r = some (.lst (nv o)) := by
    have z : upd H1 X (.lst [.int 1]) r = some (.lst (nv o)) := by rw [upd_ne (ne_of_none hr1 hX)]; exact hr1
    rw [upd_ne (ne_of_none z hF)]; exact z
  have hrF : r ≠ F := by
    intro z
    rw [z] at hr2
    have w2 : upd H1 X (.lst [.int 1]) r = some (.lst (nv o)) := by rw [upd_ne (ne_of_none hr1 hX)]; exact hr1
    rw [z, hF] at w2; cases w2
  refine ⟨_, rfl, r, _, rfl, SqL.of hr2, for_it (walk_rev (xs := nv o)) (fun i σ H' => ∃ v3 v4, σ = [some (.ref a), some (.ref r), some (.ref F), v3, v4] ∧ Same H H' ∧ H' r = some (.lst (nv o)) ∧ ∃ Fl, SizeTo hs Fl (o.drop (o.length - i)) ∧ H' F = some (.lst (iv Fl)))
    ⟨none, none, rfl, s2.upd hFn, hr2, List.replicate hs.length 1, ?_, ?_⟩ (fun i σ H' _ p => by obtain ⟨_, _, _, _, p, _⟩ := p; exact SqL.of p) ?_ ?_⟩
  · rw [Nat.sub_zero, List.drop_length]; exact sizeTo_start hs
  · rw [upd_same, iv_rep, nv_length, O.len]
    have z : ((hs.length : Int)).toNat = hs.length := by omega
    rw [z]
  · rintro i x σ H2 H3 hi ⟨v3, v4, rfl, s3, hr3, Fl, hto, hF3⟩ ⟨rfl, e1⟩
    rw [nv_length] at hi e1
    obtain ⟨t, et, rfl⟩ := nv_at e1
    have htl : t < hs.length := O.lt t (List.mem_of_getElem? et)
    obtain ⟨ho, eho⟩ : ∃ o, hs[t]? = some o := ⟨hs[t], List.getElem?_eq_getElem htl⟩
    have sq : SqT K H3 a (hs.map hv) := SqT.of (s3 _ _ ha)
    have hdr := drop_back hi et
    have htD : t ∉ o.drop (o.length - i) := not_mem_drop O.nd et (by omega)
    refine ⟨_, rfl, _, rfl, a, _, _, _, rfl, rfl, sq, atI_nat (hv_at eho), _, rfl, rfl, _, rfl, ?_⟩
    cases ho with
    | none => exact iteF ⟨_, _, rfl, s3, hr3, Fl, by rw [hdr]; exact hto.skip htD eho, hF3⟩
    | some u =>
      obtain ⟨j, hj, ej⟩ := O.od _ t u et eho
      have hul : u < hs.length := O.lt u (List.mem_of_getElem? ej)
      have huD : u ∉ o.drop (o.length - i) := not_mem_drop O.nd ej (by omega)
      have hut : u ≠ t := fun z => by
        rw [z] at ej
        have z2 := nodup_at O.nd ej et
        omega
      have lF := hto.1
      refine iteT ⟨_, rfl, _, rfl, F, _, _, _, rfl, rfl, SqL.of hF3, atI_nat (iv_get (by omega)), _, rfl, _, rfl, F, _, _, _, rfl, rfl, SqL.of hF3, atI_nat (iv_get (by omega)), _, _, rfl, rfl, ?_⟩
      refine ⟨_, rfl, _, rfl, F, _, _, u, rfl, rfl, hF3, by rw [iv_length]; exact ixN_nat (by omega), ?_⟩
      refine ⟨_, _, rfl, s3.upd hFn, by rw [upd_ne hrF]; exact hr3, _, by rw [hdr]; exact hto.put htD huD hut eho hul, by rw [upd_same, iv_set]⟩
  · rintro σ H2 ⟨v3, v4, rfl, s3, hr3, Fl, hto, hF3⟩
    rw [nv_length, Nat.sub_self, List.drop_zero] at hto
    exact ⟨_, rfl, q hs e fo F _ H2 ⟨Fl, rfl, hto.all O.mem⟩ s3 hFn hF3⟩
end

end My

namespace My
open PySem PySem.Spec PyProof.Rows L2
/-! ### what a value reads as, further on -/
theorem tupAt_sameV {H H' : Hp} {x : V} (v : Vd H x) (s : Same H H') : tupAt H' x = tupAt H x := by
  cases v with
  | lst h => rw [tupAt_lst h, tupAt_lst (s _ _ h)]
  | tup h => rw [tupAt_tup h, tupAt_tup (s _ _ h)]
  | dK h => rw [tupAt_dK h, tupAt_dK (s _ _ h)]
  | _ => rfl
theorem Askd.sameV {H H' : Hp} {x : V} (k : Askd H x) (s : Same H H') : Askd H' x :=
  ⟨k.vd.same s, fun xs e => by
    rw [tupAt_sameV k.vd s] at e
    exact ⟨(k.items xs e).1, fun y hy => ((k.items xs e).2 y hy).same s⟩⟩
theorem isF_same {H H' : Hp} {x : V} (v : Vd H x) (s : Same H H') : IsF H' x ↔ IsF H x := by
  unfold IsF
  rw [tupAt_sameV v s]
mutual
theorem Rp.same {z : Bool} {H H' : Hp} (s : Same H H') : ∀ (d : PyData) (x : V), Rp z H x d → Rp z H' x d
  | .none, _, h => by cases h; exact .non
  | .bool b, _, h => by cases h; exact .bl b
  | .int i, _, h => by cases h; exact .int i
  | .str x, _, h => by cases h; exact .str x
  | .list ds, _, h => by
    cases h with
    | lst e n r => exact .lst (s _ _ e) n (Rps.same s ds _ r)
  | .tuple ds, _, h => by
    cases h with
    | tup e r => exact .tup (s _ _ e) (Rps.same s ds _ r)
  | .dict _, _, h => by
    cases h with
    | dct y e => exact .dct y (s _ _ e)
theorem Rps.same {z : Bool} {H H' : Hp} (s : Same H H') : ∀ (ds : List PyData) (xs : List V), Rps z H xs ds → Rps z H' xs ds
  | [], _, h => by cases h; exact .nil
  | d :: ds, _, h => by
    cases h with
    | cons a r => exact .cons (Rp.same s d _ a) (Rps.same s ds _ r)
end
theorem shows_of {d : PyData} (h1 : d.showable = true) (h2 : d.leavesShort 100 = true) (h3 : d.bulk ≤ 100000) (h4 : d.depth ≤ 60) : Shows d := by
  refine ⟨h1, ?_, h4⟩
  have z := PyData.shown_le_bulk 100 (by decide) d h2
  rw [sizeLine_eq]
  omega
structure Small (d : PyData) : Prop where
  ok : d.showable = true
  short : d.leavesShort 100 = true
  bulk : d.bulk ≤ 10
  deep : d.depth ≤ 3
theorem small_all : ∀ ds : List PyData, (∀ d ∈ ds, Small d) → PyData.showableAll ds = true ∧ PyData.leavesShortAll 100 ds = true ∧ PyData.bulkAll ds ≤ 11 * ds.length ∧ PyData.depthAll ds ≤ 3
  | [], _ => ⟨rfl, rfl, Nat.le_refl _, Nat.zero_le _⟩
  | d :: ds, h => by
    obtain ⟨a, b, c, e⟩ := small_all ds fun x hx => h x (List.mem_cons_of_mem _ hx)
    have k := h d List.mem_cons_self
    refine ⟨by rw [PyData.showableAll, k.ok, a]; rfl, by rw [PyData.leavesShortAll, k.short, b]; rfl, ?_, ?_⟩
    · rw [PyData.bulkAll, List.length_cons]
      have := k.bulk
      omega
    · rw [PyData.depthAll]
      exact Nat.max_le.mpr ⟨k.deep, e⟩
theorem shows_tuple {ds : List PyData} (h : ∀ d ∈ ds, Small d) (hl : ds.length ≤ 1000) : Shows (.tuple ds) := by
  obtain ⟨a, b, c, e⟩ := small_all ds h
  exact shows_of (by rw [PyData.showable]; exact a) (by rw [PyData.leavesShort]; exact b) (by rw [PyData.bulk]; omega) (by rw [PyData.depth]; omega)
theorem shows_list {ds : List PyData} (h : ∀ d ∈ ds, Small d) (hl : ds.length ≤ 1000) : Shows (.list ds) := by
  obtain ⟨a, b, c, e⟩ := small_all ds h
  exact shows_of (by rw [PyData.showable]; exact a) (by rw [PyData.leavesShort]; exact b) (by rw [PyData.bulk]; omega) (by rw [PyData.depth]; omega)
theorem small_int {i : Int} (h : i.natAbs < 10 ^ 12) : Small (.int i) := by
  refine ⟨?_, ?_, Nat.zero_le _, Nat.zero_le _⟩
  · have z : i.natAbs < 2 ^ 1920 := Nat.lt_trans h (by decide +kernel)
    exact decide_eq_true (PySem.Flt.log2_lt_of (by decide) z)
  · exact decide_eq_true (Nat.le_trans (PyData.shown_int_le h) (by decide))
theorem small_non : Small .none := ⟨rfl, rfl, Nat.zero_le _, Nat.zero_le _⟩
theorem small_bl (b : Bool) : Small (.bool b) := ⟨rfl, rfl, Nat.zero_le _, Nat.zero_le _⟩

/-! ### lists of naturals as data -/
def nD (l : List Nat) : List PyData := l.map fun v : Nat => PyData.int ((v : Nat) : Int)
theorem dp_nv {K : PySem.W.Frag} {H : Hp} : ∀ l : List Nat, DpAll K H (nv l) (nD l)
  | [] => .nil
  | v :: l => .cons (.int (v : Int)) (dp_nv l)
theorem lay_nD : ∀ l : List Nat, PyData.canLayAll0 (nD l) = true
  | [] => rfl
  | v :: l => by
    show PyData.canLayAll0 (PyData.int (v : Int) :: nD l) = true
    rw [PyData.canLayAll0, lay_nD l]; rfl
theorem deep_nD : ∀ l : List Nat, PyData.depthAll (nD l) = 0
  | [] => rfl
  | v :: l => by
    show PyData.depthAll (PyData.int (v : Int) :: nD l) = 0
    rw [PyData.depthAll, deep_nD l]; rfl
theorem shaped_nD (l : List Nat) : SeqAt.shaped (.list (nD l)) = true := by
  unfold SeqAt.shaped
  rw [PyData.canLay0, lay_nD, PyData.depth, deep_nD]; rfl
theorem eqv_nD : ∀ a b : List Nat, PyData.eqvAll (nD a) (nD b) = decide (a = b)
  | [], [] => rfl
  | [], _ :: _ => rfl
  | _ :: _, [] => rfl
  | x :: a, y :: b => by
    show PyData.eqvAll (PyData.int (x : Int) :: nD a) (PyData.int (y : Int) :: nD b) = _
    rw [PyData.eqvAll, eqv_nD a b, PyData.eqv]
    by_cases h : x = y
    · subst h
      by_cases h2 : a = b
      · subst h2; simp
      · simp [h2]
    · have h3 : ¬ ((x : Int) = (y : Int)) := by omega
      simp [h, h3]
theorem eqv_list (a b : List PyData) : PyData.eqv (.list a) (.list b) = PyData.eqvAll a b := by rw [PyData.eqv]
theorem flat_nv (l : List Nat) : (nv l).all flatV = true := by
  rw [List.all_eq_true]
  intro y hy
  obtain ⟨v, _, rfl⟩ := List.mem_map.mp hy
  rfl
theorem inV_nv (u : Nat) (l : List Nat) : inV (.int (u : Int)) (nv l) = decide (u ∈ l) := by
  unfold inV nv
  rw [List.any_map]
  induction l with
  | nil => rfl
  | cons v l ih =>
    rw [List.any_cons, ih]
    show ((v : Int) == (u : Int) || decide (u ∈ l)) = _
    by_cases h : v = u
    · subst h; simp
    · have h1 : ((v : Int) == (u : Int)) = false := beq_eq_false_iff_ne.mpr (by omega)
      have h2 : ¬ u = v := fun q => h q.symm
      rw [h1, Bool.false_or]
      simp [h2]

/-! ### equal values of the same kinds -/
theorem ix_seqK {X : Cx} (K : PySem.W.Frag) (e : X.K = K := by rfl) : IxR X (rIx K) := by subst e; exact ix_seq
theorem Rps.len {z : Bool} {H : Hp} : ∀ {xs : List V} {ds : List PyData}, Rps z H xs ds → xs.length = ds.length
  | _, _, .nil => rfl
  | _, _, .cons _ r => by rw [List.length_cons, List.length_cons, Rps.len r]
theorem Rps.at {z : Bool} {H : Hp} : ∀ {xs : List V} {ds : List PyData} {k : Nat} {x : V}, Rps z H xs ds → xs[k]? = some x → ∃ d, ds[k]? = some d ∧ Rp z H x d
  | _, _, 0, x, .cons h _, e => by cases e; exact ⟨_, rfl, h⟩
  | _, _, k + 1, x, .cons _ r, e => by
    have z := Rps.at (k := k) (x := x) r e
    exact z
theorem depth_at : ∀ {ds : List PyData} {k : Nat} {d : PyData}, ds[k]? = some d → d.depth ≤ PyData.depthAll ds
  | d :: _, 0, _, e => by cases e; rw [PyData.depthAll]; exact Nat.le_max_left _ _
  | _ :: ds, k + 1, _, e => by rw [PyData.depthAll]; exact Nat.le_trans (depth_at (ds := ds) e) (Nat.le_max_right _ _)
mutual
def shortD : PyData → Bool
  | .list ds => decide (ds.length ≤ 1000) && shortDs ds
  | .tuple ds => decide (ds.length ≤ 1000) && shortDs ds
  | .none => true
  | .bool _ => true
  | .int _ => true
  | .str _ => true
  | .dict _ => false
def shortDs : List PyData → Bool
  | [] => true
  | d :: ds => shortD d && shortDs ds
end
theorem short_at : ∀ {ds : List PyData} {k : Nat} {d : PyData}, shortDs ds = true → ds[k]? = some d → shortD d = true
  | d :: _, 0, _, h, e => by
    cases e
    rw [shortDs, Bool.and_eq_true] at h
    exact h.1
  | _ :: ds, k + 1, _, h, e => by
    rw [shortDs, Bool.and_eq_true] at h
    exact short_at (ds := ds) h.2 e
def spSame (n : Nat) : Sp := fun vs H Q _ => ∃ (x y : V) (d : PyData), vs = [x, y] ∧ Rp false H x d ∧ Rp false H y d ∧ d.depth < n ∧ shortD d = true ∧ ∀ H', Same H H' → Q (.bl true) H'
section
variable {P : Program} {w : World} {K : PySem.W.Frag} {mg : Str → Option Value} {base : Heap}
abbrev st__law_same : Stmt := topS 27
abbrev N__law_same : List Str := ["found", "due", "k"]
theorem sc__law_same : FnScope N__law_same ["found", "due"] (defScope st__law_same) := ⟨rfl, rfl, rfl, by decide +kernel, rfl, by decide +kernel, by decide +kernel⟩
theorem ok__law_same (D : Df K mg "_law_same" st__law_same ["found", "due"]) (B : Bl mg) : ∀ n : Nat, Kn P w K mg base CX0 n "_law_same" st__law_same ["found", "due"] (spSame n)
  | 0 => by
    obtain ⟨f, fd, F, g, b, e⟩ := D.ex
    exact ⟨f, fd, ⟨fun _ _ _ _ h => (by obtain ⟨_, _, _, _, _, _, h, _⟩ := h; omega), fun _ _ _ _ _ _ _ _ _ _ _ _ _ h => (by obtain ⟨_, _, _, _, _, _, h, _⟩ := h; omega)⟩, g, F.kp, b, e⟩
  | n + 1 => by
    have K_law_same := ok__law_same D B n
    refine D.ok sc__law_same (fun vs H Q E h => ?_) (fun f cdv A outer s H vs Q E hr h => ?_)
    · obtain ⟨x, y, d, rfl, _⟩ := h; rfl
    obtain ⟨x, y, d, rfl, hx, hy, hd, hs, q⟩ := h
    refine ⟨_, ((pss_cons (ps_if (PW.pt (pw_or (pt_val (pe_callB call_isi (by rfl) B.isinstance (by decide +kernel) (pa_cons (pv 0) (pa_cons (pe_bltn (v := .ty "bool") (u := .type "bool") (by rfl) B.bool (by decide +kernel) rfl) pa_nil)))) (pw_or1 (pt_val (pe_callB call_isi (by rfl) B.isinstance (by decide +kernel) (pa_cons (pv 1) (pa_cons (pe_bltn (v := .ty "bool") (u := .type "bool") (by rfl) B.bool (by decide +kernel) rfl) pa_nil))))))) (pss_one (ps_ret (pe_and (pe_callB call_isi (by rfl) B.isinstance (by decide +kernel) (pa_cons (pv 0) (pa_cons (pe_bltn (v := .ty "bool") (u := .type "bool") (by rfl) B.bool (by decide +kernel) rfl) pa_nil))) (pe_and (pe_callB call_isi (by rfl) B.isinstance (by decide +kernel) (pa_cons (pv 1) (pa_cons (pe_bltn (v := .ty "bool") (u := .type "bool") (by rfl) B.bool (by decide +kernel) rfl) pa_nil))) (pe_one (pe_cmpR op_eq (pv 0) (pv 1) (nomark _))))))) pss_nil)
      (pss_cons (ps_if (pt_cmpR op_ne (pe_callB call_isi (by rfl) B.isinstance (by decide +kernel) (pa_cons (pv 0) (pa_cons (pe_bltn (v := .ty "list") (u := .type "list") (by rfl) B.list (by decide +kernel) rfl) pa_nil))) (pe_callB call_isi (by rfl) B.isinstance (by decide +kernel) (pa_cons (pv 1) (pa_cons (pe_bltn (v := .ty "list") (u := .type "list") (by rfl) B.list (by decide +kernel) rfl) pa_nil))) (nomark _)) (pss_one (ps_ret pe_bl)) pss_nil)
      (pss_cons (ps_if (PW.pt (pw_and (pt_val (pe_callB call_isiT (by rfl) B.isinstance (by decide +kernel) (pa_cons (pv 0) (pa_cons (pe_tup (pa_cons (pe_bltn (v := .ty "list") (u := .type "list") (by rfl) B.list (by decide +kernel) rfl) (pa_cons (pe_bltn (v := .ty "tuple") (u := .type "tuple") (by rfl) B.tuple (by decide +kernel) rfl) pa_nil))) pa_nil)))) (pw_and1 (pt_val (pe_callB call_isiT (by rfl) B.isinstance (by decide +kernel) (pa_cons (pv 1) (pa_cons (pe_tup (pa_cons (pe_bltn (v := .ty "list") (u := .type "list") (by rfl) B.list (by decide +kernel) rfl) (pa_cons (pe_bltn (v := .ty "tuple") (u := .type "tuple") (by rfl) B.tuple (by decide +kernel) rfl) pa_nil))) pa_nil))))))) (pss_cons (ps_if (pt_cmpR op_ne (pe_callB call_len (by rfl) B.len (by decide +kernel) (pa_cons (pv 0) pa_nil)) (pe_callB call_len (by rfl) B.len (by decide +kernel) (pa_cons (pv 1) pa_nil)) (nomark _)) (pss_one (ps_ret pe_bl)) pss_nil)
      (pss_one (ps_ret (pe_cmpR (op_eqD hr.units) (pe_lc (own := [("k", 2)]) (g := gName 2) rfl sc__law_same.nd (pi_range1 (by rfl) B.range (pa_cons (pe_callB call_len (by rfl) B.len (by decide +kernel) (pa_cons (pv 1) pa_nil)) pa_nil)) (blkOk_by (N := N__law_same) (sc := defScope st__law_same) (own := [("k", 2)]) (by decide +kernel)) (fun _ _ _ _ _ => by (exact (pg_name (i := 2) sc__law_same.nd rfl (Or.inl rfl)))) (fun _ _ _ _ _ => by exact (pts_one (pt_not (pt_val (pe_callF K_law_same hr pass0 (pa_cons (pe_ix (ix_seqK K) (pv 0) (pv 2) (fun _ _ => rfl)) (pa_cons (pe_ix (ix_seqK K) (pv 1) (pv 2) (fun _ _ => rfl)) pa_nil))))))) (fun _ _ _ _ _ => by exact (pv 2))) (pe_lst pa_nil) (nomark _))))) pss_nil)
      (pss_one (ps_ret (pe_and (pe_cmpR op_eq (pv 0) (pv 1) (nomark _)) (pe_one (pe_cmpR op_eq (pe_callB call_isi (by rfl) B.isinstance (by decide +kernel) (pa_cons (pv 0) (pa_cons (pe_bltn (v := .ty "int") (u := .type "int") (by rfl) B.int (by decide +kernel) rfl) pa_nil))) (pe_callB call_isi (by rfl) B.isinstance (by decide +kernel) (pa_cons (pv 1) (pa_cons (pe_bltn (v := .ty "int") (u := .type "int") (by rfl) B.int (by decide +kernel) rfl) pa_nil))) (nomark _)))))))))), ?_⟩
    obtain ⟨t, tx, ty, bi, bb, bl, bt, k1, k2, k3, k4, hk⟩ : ∃ t : String, (∀ H', Same H H' → TyX K H' x (.type t)) ∧ (∀ H', Same H H' → TyX K H' y (.type t)) ∧ ∃ bi bb bl bt : Bool, kitB t "int" = some bi ∧ kitB t "bool" = some bb ∧ kitB t "list" = some bl ∧ kitB t "tuple" = some bt ∧
        ((bb = true ∧ x = y ∧ scal x y = true) ∨ (bb = false ∧ bl = false ∧ bt = false ∧ x = y ∧ scal x y = true) ∨
          (bb = false ∧ (bl || bt) = true ∧ ∃ (a b : Addr) (xs ys : List V) (ds : List PyData), x = .ref a ∧ y = .ref b ∧ ((H a = some (.lst xs) ∧ H b = some (.lst ys)) ∨ (H a = some (.tup xs) ∧ H b = some (.tup ys))) ∧
            Rps false H xs ds ∧ Rps false H ys ds ∧ PyData.depthAll ds < n ∧ shortDs ds = true ∧ ds.length ≤ 1000)) := by
      cases hx with
      | non =>
        cases hy
        exact ⟨_, fun _ _ => .base .non, fun _ _ => .base .non, _, _, _, _, (by decide +kernel : kitB "NoneType" "int" = some false), (by decide +kernel : kitB "NoneType" "bool" = some false), (by decide +kernel : kitB "NoneType" "list" = some false), (by decide +kernel : kitB "NoneType" "tuple" = some false), .inr (.inl ⟨rfl, rfl, rfl, rfl, rfl⟩)⟩
      | bl b =>
        cases hy
        exact ⟨_, fun _ _ => .base (.bl b), fun _ _ => .base (.bl b), _, _, _, _, (by decide +kernel : kitB "bool" "int" = some true), (by decide +kernel : kitB "bool" "bool" = some true), (by decide +kernel : kitB "bool" "list" = some false), (by decide +kernel : kitB "bool" "tuple" = some false), .inl ⟨rfl, rfl, rfl⟩⟩
      | int i =>
        cases hy
        exact ⟨_, fun _ _ => .base (.int i), fun _ _ => .base (.int i), _, _, _, _, (by decide +kernel : kitB "int" "int" = some true), (by decide +kernel : kitB "int" "bool" = some false), (by decide +kernel : kitB "int" "list" = some false), (by decide +kernel : kitB "int" "tuple" = some false), .inr (.inl ⟨rfl, rfl, rfl, rfl, rfl⟩)⟩
      | str z =>
        cases hy
        exact ⟨_, fun _ _ => .base (.str z), fun _ _ => .base (.str z), _, _, _, _, (by decide +kernel : kitB "str" "int" = some false), (by decide +kernel : kitB "str" "bool" = some false), (by decide +kernel : kitB "str" "list" = some false), (by decide +kernel : kitB "str" "tuple" = some false), .inr (.inl ⟨rfl, rfl, rfl, rfl, rfl⟩)⟩
      | lst ea _ r1 =>
        cases hy with
        | lst eb _ r2 =>
          rw [shortD, Bool.and_eq_true, decide_eq_true_eq] at hs
          rw [PyData.depth] at hd
          exact ⟨_, fun _ s => .base (.lst (s _ _ ea)), fun _ s => .base (.lst (s _ _ eb)), _, _, _, _, (by decide +kernel : kitB "list" "int" = some false), (by decide +kernel : kitB "list" "bool" = some false), (by decide +kernel : kitB "list" "list" = some true), (by decide +kernel : kitB "list" "tuple" = some false),
            .inr (.inr ⟨rfl, rfl, _, _, _, _, _, rfl, rfl, .inl ⟨ea, eb⟩, r1, r2, by omega, hs.2, hs.1⟩)⟩
      | tup ea r1 =>
        cases hy with
        | tup eb r2 =>
          rw [shortD, Bool.and_eq_true, decide_eq_true_eq] at hs
          rw [PyData.depth] at hd
          exact ⟨_, fun _ s => .base (.tup (s _ _ ea)), fun _ s => .base (.tup (s _ _ eb)), _, _, _, _, (by decide +kernel : kitB "tuple" "int" = some false), (by decide +kernel : kitB "tuple" "bool" = some false), (by decide +kernel : kitB "tuple" "list" = some false), (by decide +kernel : kitB "tuple" "tuple" = some true),
            .inr (.inr ⟨rfl, rfl, _, _, _, _, _, rfl, rfl, .inr ⟨ea, eb⟩, r1, r2, by omega, hs.2, hs.1⟩)⟩
      | dct z _ => cases z
    have r0 := Same.refl H
    refine ⟨_, rfl, _, _, _, _, _, rfl, .ty _, tx _ r0, kit_ty k2, _, rfl, ?_⟩
    rcases hk with ⟨rfl, rfl, sc⟩ | ⟨rfl, rfl, rfl, rfl, sc⟩ | ⟨rfl, hb, a, b, xs, ys, ds, rfl, rfl, hab, r1, r2, dn, sh, ln⟩
    · -- two bools
      refine iteT (iteT ⟨_, rfl, _, _, _, _, _, rfl, .ty _, tx _ r0, kit_ty k2, _, rfl, iteT ⟨_, rfl, _, _, _, _, _, rfl, .ty _, ty _ r0, kit_ty k2, _, rfl, iteT ⟨_, rfl, _, rfl, sc, ?_⟩⟩⟩)
      rw [decide_eq_true rfl]
      exact q H r0
    · -- values without parts
      refine iteF ⟨_, rfl, _, _, _, _, _, rfl, .ty _, ty _ r0, kit_ty k2, _, rfl, iteF ?_⟩
      refine ⟨_, rfl, _, _, _, _, _, rfl, .ty _, tx _ r0, kit_ty k3, _, rfl, _, _, _, _, _, rfl, .ty _, ty _ r0, kit_ty k3, rfl, _, rfl, iteF ?_⟩
      refine ⟨_, rfl, by show 2 ≤ sizeLine; decide, fun p hp => ⟨_, p, _, _, _, _, rfl, upd_same, .cons (.ty _) (.cons (.ty _) .nil), tx _ (r0.new hp), kitAny_cons (kit_ty k3) (fun _ => kitAny_cons (kit_ty k4) (fun _ => kitAny_nil) (fun z => Bool.noConfusion z)) (fun z => Bool.noConfusion z), _, rfl, iteF (iteF ?_)⟩⟩
      have s1 := r0.new (o := .tup [.ty "list", .ty "tuple"]) hp
      refine ⟨_, rfl, _, rfl, sc, true, by rw [decide_eq_true rfl], iteT ⟨_, rfl, _, _, _, _, _, rfl, .ty _, tx _ s1, kit_ty k1, _, rfl, _, _, _, _, _, rfl, .ty _, ty _ s1, kit_ty k1, rfl, ?_⟩⟩
      rw [decide_eq_true rfl]
      exact q _ s1
    · -- two lists, two tuples
      refine iteF ⟨_, rfl, _, _, _, _, _, rfl, .ty _, ty _ r0, kit_ty k2, _, rfl, iteF ?_⟩
      refine ⟨_, rfl, _, _, _, _, _, rfl, .ty _, tx _ r0, kit_ty k3, _, rfl, _, _, _, _, _, rfl, .ty _, ty _ r0, kit_ty k3, ?_⟩
      refine ⟨by cases bl <;> rfl, false, by rw [decide_eq_true rfl]; rfl, iteF ?_⟩
      have any : PySem.W.kitAny K (.type t) [.type "list", .type "tuple"] = some true := by
        refine kitAny_cons (kit_ty k3) (fun z => ?_) (fun _ => rfl)
        subst z
        have z2 : bt = true := hb
        subst z2
        exact kitAny_cons (kit_ty k4) (fun z => Bool.noConfusion z) (fun _ => rfl)
      refine ⟨_, rfl, by show 2 ≤ sizeLine; decide, fun p hp => ?_⟩
      have s1 := r0.new (o := .tup [.ty "list", .ty "tuple"]) hp
      have op : upd H p (.tup [.ty "list", .ty "tuple"]) p = some (.tup [.ty "list", .ty "tuple"]) := upd_same
      generalize upd H p (.tup [.ty "list", .ty "tuple"]) = H1 at s1 op ⊢
      refine ⟨_, p, _, _, _, _, rfl, op, .cons (.ty _) (.cons (.ty _) .nil), tx _ s1, any, _, rfl, iteT ?_⟩
      refine ⟨_, rfl, by show 2 ≤ sizeLine; decide, fun p2 hp2 => ?_⟩
      have s2 := s1.new (o := .tup [.ty "list", .ty "tuple"]) hp2
      have op2 : upd H1 p2 (.tup [.ty "list", .ty "tuple"]) p2 = some (.tup [.ty "list", .ty "tuple"]) := upd_same
      generalize upd H1 p2 (.tup [.ty "list", .ty "tuple"]) = H2 at s2 op2 ⊢
      refine ⟨_, p2, _, _, _, _, rfl, op2, .cons (.ty _) (.cons (.ty _) .nil), ty _ s2, any, _, rfl, iteT ?_⟩
      have l1 := Rps.len r1
      have l2 := Rps.len r2
      have lenA : ∀ H', Same H H' → LenV K (.ref a) H' ds.length := fun H' s' => by
        rcases hab with ⟨ea, eb⟩ | ⟨ea, eb⟩
        · exact .inl ⟨xs, SqL.of (s' _ _ ea), l1.symm⟩
        · exact .inr ⟨xs, SqT.of (s' _ _ ea), l1.symm⟩
      have lenB : ∀ H', Same H H' → LenV K (.ref b) H' ds.length := fun H' s' => by
        rcases hab with ⟨ea, eb⟩ | ⟨ea, eb⟩
        · exact .inl ⟨ys, SqL.of (s' _ _ eb), l2.symm⟩
        · exact .inr ⟨ys, SqT.of (s' _ _ eb), l2.symm⟩
      have ixA : ∀ (H' : Hp) (k : Nat) (v : V) (Q' : VK), Same H H' → xs[k]? = some v → Q' v H' → rIx K (.ref a) (.int (k : Int)) H' Q' := fun H' k v Q' s' e z => by
        rcases hab with ⟨ea, eb⟩ | ⟨ea, eb⟩
        · exact .inl ⟨a, xs, _, v, rfl, rfl, SqL.of (s' _ _ ea), atI_nat e, z⟩
        · exact .inr (.inl ⟨a, xs, _, v, rfl, rfl, SqT.of (s' _ _ ea), atI_nat e, z⟩)
      have ixB : ∀ (H' : Hp) (k : Nat) (v : V) (Q' : VK), Same H H' → ys[k]? = some v → Q' v H' → rIx K (.ref b) (.int (k : Int)) H' Q' := fun H' k v Q' s' e z => by
        rcases hab with ⟨ea, eb⟩ | ⟨ea, eb⟩
        · exact .inl ⟨b, ys, _, v, rfl, rfl, SqL.of (s' _ _ eb), atI_nat e, z⟩
        · exact .inr (.inl ⟨b, ys, _, v, rfl, rfl, SqT.of (s' _ _ eb), atI_nat e, z⟩)
      refine ⟨_, rfl, _, _, rfl, lenA _ s2, _, rfl, _, _, rfl, lenB _ s2, rfl, false, by rw [decide_eq_true rfl]; rfl, iteF ?_⟩
      refine ⟨_, rfl, _, _, rfl, lenB _ s2, _, rfl, by omega, by omega, fun D hD => lc_it walk_range0 (fun k H' => Same H H' ∧ H' D = some (.lst [])) ⟨s2.new hD, upd_same⟩ (fun _ _ _ _ => trivial) ?_ ?_⟩
      · rintro k x' Ha Hb hk ⟨sa, hD1⟩ ⟨rfl, rfl⟩
        have hk' : k < ds.length := hk
        obtain ⟨x1, e1⟩ : ∃ x1, xs[k]? = some x1 := ⟨_, List.getElem?_eq_getElem (by omega)⟩
        obtain ⟨y1, e2⟩ : ∃ y1, ys[k]? = some y1 := ⟨_, List.getElem?_eq_getElem (by omega)⟩
        obtain ⟨d1, e3, h1⟩ := Rps.at r1 e1
        obtain ⟨d2, e4, h2⟩ := Rps.at r2 e2
        have e5 : d2 = d1 := Option.some.inj (e4.symm.trans e3)
        subst e5
        refine ⟨rfl, _, rfl, _, rfl, ixA _ _ _ _ sa e1 ⟨_, rfl, _, rfl, ixB _ _ _ _ sa e2 ⟨x1, y1, d2, rfl, Rp.same sa _ _ h1, Rp.same sa _ _ h2, Nat.lt_of_le_of_lt (depth_at e3) dn, short_at sh e3, fun Hc sc => ⟨_, rfl, iteF ⟨sa.trans sc, sc _ _ hD1⟩⟩⟩⟩⟩
      · rintro Hb ⟨sb, hD1⟩
        refine ⟨by show 0 ≤ sizeLine; decide, fun M hM => ⟨.list [], .list [], .lst (SqL.of (by rw [upd_ne (ne_of_none hD1 hM)]; exact hD1)) .nil, .lst (SqL.of upd_same) .nil, by decide +kernel, by decide +kernel, ?_⟩⟩
        exact q _ (sb.new hM)
end

def hD : Option Nat → PyData
  | none => .none
  | some u => .int (u : Int)
theorem rps_hv {z : Bool} {H : Hp} : ∀ hs : Hs, Rps z H (hs.map hv) (hs.map hD)
  | [] => .nil
  | none :: hs => .cons .non (rps_hv hs)
  | some u :: hs => .cons (.int (u : Int)) (rps_hv hs)
theorem small_hD {hs : Hs} (ib : InB hs) (hl : hs.length ≤ 60) : ∀ d ∈ hs.map hD, Small d := fun d hd => by
  obtain ⟨o, ho, rfl⟩ := List.mem_map.mp hd
  obtain ⟨v, e⟩ := List.getElem?_of_mem ho
  cases o with
  | none => exact small_non
  | some u =>
    have q := ib v u e
    exact small_int (by have z : (10 : Nat) ^ 12 = 1000000000000 := by decide
                        omega)

end My

namespace My
open PySem PySem.Spec PyProof.Rows L2
/-! ### the walk as each thing behind its holder at once -/
def preF (hs : Hs) : Nat → Nat → List Nat
  | 0, v => [v]
  | k + 1, v => v :: (kids hs v).flatMap (preF hs k)
def pre (hs : Hs) (v : Nat) : List Nat := preF hs hs.length v
theorem fm_congr {f g : Nat → List Nat} : ∀ (l : List Nat), (∀ c ∈ l, f c = g c) → l.flatMap f = l.flatMap g
  | [], _ => rfl
  | c :: l, h => by
    rw [List.flatMap_cons, List.flatMap_cons, h c List.mem_cons_self, fm_congr l fun d hd => h d (List.mem_cons_of_mem _ hd)]
theorem preF_succ {hs : Hs} : ∀ (k v : Nat) (l : List Nat), Ups hs v l → hs.length ≤ k + l.length → preF hs (k + 1) v = preF hs k v
  | 0, _, _, u, h => absurd u.len (by omega)
  | k + 1, v, l, u, h => by
    show v :: (kids hs v).flatMap (preF hs (k + 1)) = v :: (kids hs v).flatMap (preF hs k)
    rw [fm_congr (kids hs v) fun c hc => preF_succ k c (v :: l) (.step (mem_kids.mp hc) u) (by rw [List.length_cons]; omega)]
theorem pre_eq {hs : Hs} {v : Nat} {l : List Nat} (u : Ups hs v l) : pre hs v = v :: (kids hs v).flatMap (pre hs) := (preF_succ hs.length v l u (Nat.le_add_right _ _)).symm
theorem walk_pre {hs : Hs} {o : List Nat} (h : WT hs (roots hs) (Rch hs) o []) : o = (roots hs).flatMap (pre hs) := by
  have q := h.pr (pre hs) fun v r => by
    obtain ⟨l, u⟩ := r.ups
    exact pre_eq u
  simpa using q
theorem wt_done {hs : Hs} {st : List Nat} {Rn : Nat → Prop} (S : Starts hs st Rn) : ∀ (n : Nat) (found wait : List Nat), WT hs st Rn found wait → hs.length ≤ n + found.length → ∃ o, WT hs st Rn o []
  | n, found, wait, h, hn => by
    cases Nat.eq_zero_or_pos wait.length with
    | inl z =>
      rw [List.length_eq_zero_iff.mp z] at h
      exact ⟨found, h⟩
    | inr z =>
      obtain ⟨w, t, rfl⟩ := snoc_of z
      have room := h.room
      cases n with
      | zero => omega
      | succ n => exact wt_done S n _ _ (h.step S) (by rw [List.length_append]; show _ ≤ n + (found.length + 1); omega)
theorem pre_len (hs : Hs) : ((roots hs).flatMap (pre hs)).length ≤ hs.length := by
  obtain ⟨o, h⟩ := wt_done (starts_roots hs) hs.length [] _ (WT.start (starts_roots hs)) (Nat.le_add_right _ _)
  rw [← walk_pre h]
  have := h.lens
  rw [List.length_nil] at this
  omega
theorem kidsTo_more (hs : Hs) (u i : Nat) : ∀ d : Nat, ∃ r, kidsTo hs u (i + d) = kidsTo hs u i ++ r
  | 0 => ⟨[], by rw [List.append_nil]; rfl⟩
  | d + 1 => by
    obtain ⟨r, e⟩ := kidsTo_more hs u i d
    exact ⟨_, by rw [← Nat.add_assoc, kidsTo_succ, e, List.append_assoc]⟩
theorem rootsTo_more (hs : Hs) (i : Nat) : ∀ d : Nat, ∃ r, rootsTo hs (i + d) = rootsTo hs i ++ r
  | 0 => ⟨[], by rw [List.append_nil]; rfl⟩
  | d + 1 => by
    obtain ⟨r, e⟩ := rootsTo_more hs i d
    exact ⟨_, by rw [← Nat.add_assoc, rootsTo_succ, e, List.append_assoc]⟩
theorem kids_len {hs : Hs} {u i : Nat} (h : i ≤ hs.length) (f : Nat → List Nat) : ((kidsTo hs u i).flatMap f).length ≤ ((kids hs u).flatMap f).length := by
  obtain ⟨r, e⟩ := kidsTo_more hs u i (hs.length - i)
  rw [Nat.add_sub_cancel' h] at e
  show _ ≤ ((kidsTo hs u hs.length).flatMap f).length
  rw [e, List.flatMap_append, List.length_append]
  exact Nat.le_add_right _ _
theorem roots_len {hs : Hs} {i : Nat} (h : i ≤ hs.length) (f : Nat → List Nat) : ((rootsTo hs i).flatMap f).length ≤ ((roots hs).flatMap f).length := by
  obtain ⟨r, e⟩ := rootsTo_more hs i (hs.length - i)
  rw [Nat.add_sub_cancel' h] at e
  show _ ≤ ((rootsTo hs hs.length).flatMap f).length
  rw [e, List.flatMap_append, List.length_append]
  exact Nat.le_add_right _ _

/-! ### _law_walk: a def in a def that calls itself -/
abbrev st__law_walk : Stmt := topS 33
abbrev N__law_walk : List Str := ["plan", "found", "_law_go", "one"]
theorem sc__law_walk : FnScope N__law_walk ["plan"] (defScope st__law_walk) := ⟨rfl, rfl, rfl, by decide +kernel, rfl, by decide +kernel, by decide +kernel⟩
abbrev st__law_go : Stmt := (defBody st__law_walk).getD 1 (.Pass ⟨0, 0, 0, 0⟩)
abbrev N__law_go : List Str := ["one", "_law_go", "found", "plan", "mate"]
abbrev frGo : List Str := ["_law_go", "found", "plan"]
abbrev qGo : Str := (("_law_walk" : Str) ++ ".<locals>.") ++ "_law_go"
theorem sc__law_go : NdefX.NScope N__law_go ["one"] frGo (C8.fnScope st__law_go) := NdefX.nscope_by (by decide +kernel)
abbrev goF (cl : List (Str × Addr)) (c : Addr) : NdefX.NF := NdefX.NF.of st__law_go "_law_go" qGo cl c
abbrev TbG (T : Addr) : List NdefX.NTab := [(T, fun _ _ => qGo)]
def spGo (cl : List (Str × Addr)) (n : Nat) (f c : Addr) (ws : List (Option V)) : Sp := fun vs H Q _ => ∃ (t : Nat) (hs : Hs) (F p : Addr) (l o : List Nat), vs = [.int (t : Int)] ∧ ws = [some (.ref f), some (.ref F), some (.ref p)] ∧ H p = some (.tup (hs.map hv)) ∧
  hs.length ≤ 1000 ∧ Ups hs t l ∧ hs.length ≤ n + l.length ∧ H F = some (.lst (nv o)) ∧ (o ++ pre hs t).length ≤ 1000 ∧ ∀ H', Keep F H H' → H' F = some (.lst (nv (o ++ pre hs t))) → Q .non H'
theorem ndGo : NdefX.ndefB (defScope st__law_walk) (C8.fnScope st__law_go) frGo = true := by decide +kernel
theorem fnO_lst {f : Addr} {F : NdefX.NF} (xs : List V) : NdefX.FnO f F ≠ .lst xs := fun z => by
  unfold NdefX.FnO at z
  cases z
theorem codeO_lst {c : Addr} {q : Str} (xs : List V) : LamX.CodeO c q ≠ .lst xs := fun z => by
  unfold LamX.CodeO at z
  cases z
theorem off_lst {H : Hp} {a F : Addr} {o : HO} {xs : List V} (h : H a = some o) (hF : H F = some (.lst xs)) (n : o ≠ .lst xs) : a ≠ F := fun z => by
  rw [z, hF] at h
  exact n (Option.some.inj h).symm
section
variable {P : Program} {w : World} {K : PySem.W.Frag} {mg : Str → Option Value} {base : Heap}
theorem ok__law_go (B : Bl mg) (cl : List (Str × Addr)) : ∀ (n : Nat) (f c : Addr), NdefX.NOk P w K mg base CX0 n f (goF cl c) ["one"] frGo (spGo cl n f c)
  | 0, f, c => ⟨fun ws vs H Q E h => by obtain ⟨t, hs, F, p, l, o, rfl, _⟩ := h; rfl, fun A outer s H us vs ws Q E _ _ _ _ _ _ h => by
      obtain ⟨t, hs, F, p, l, o, _, _, _, _, hu, hn, _⟩ := h
      exact absurd hu.len (by omega)⟩
  | n + 1, f, c => by
    refine NdefX.nok_of (N := N__law_go) sc__law_go (fun doc pm ctv us hl => match us, hl with | [_], _ => rfl) (fun ws vs H Q E h => ?_) (fun A outer s H vs ws Q E hr hf hc hw h => ?_)
    · obtain ⟨t, hs, F, p, l, o, rfl, _⟩ := h; rfl
    obtain ⟨t, hs, F, p, l, o, rfl, rfl, hp, hl, hu, hn, hF, hlen, q⟩ := h
    refine ⟨_, PSs.nox (pss_cons (ps_expr (pe_bm PySem.F.plainAttrs_list PySem.F.slot_list_append PySem.F.type_list_append mt_append (pv 2) (pa_cons (pv 0) pa_nil)))
      (pss_one (ps_for PassesOwn.never rfl (pi_range1 (by rfl) B.range (pa_cons (pe_callB call_len (by rfl) B.len (by decide +kernel) (pa_cons (pv 3) pa_nil)) pa_nil)) (pg_name (i := 4) sc__law_go.nd rfl (Or.inl rfl))
        (pss_one (ps_if (pt_cmpR op_eq (pe_ix (ix_tupK K) (pv 3) (pv 4) (fun _ _ => rfl)) (pv 0) (nomark _))
          (pss_one (ps_expr (NdefX.pe_calln (i := 1) (js := [1, 2, 3]) (E := E0) (mk := fun c => goF cl c) (ok__law_go B cl n) (fun _ => rfl) (fun _ => NdefX.Caps.self (F := goF cl c) sc__law_go rfl rfl rfl) hr (Nat.le_refl _) pass0 rfl (Or.inr (Or.inr rfl)) (pa_cons (pv 4) pa_nil)))) pss_nil))))), ?_⟩
    have hlm : (hs.map hv).length = hs.length := List.length_map _
    have hpF : p ≠ F := off_lst hp hF (by intro z; cases z)
    have hfF : f ≠ F := off_lst hf hF (fnO_lst _)
    have hcF : c ≠ F := off_lst hc hF (codeO_lst _)
    have ep := pre_eq hu
    have hol : o.length < 1000 := by
      rw [List.length_append, ep, List.length_cons] at hlen; omega
    -- found.append(one)
    refine ⟨_, rfl, .inl ⟨rfl, _, SqL.of hF⟩, _, rfl, F, _, _, rfl, rfl, hF, by rw [nv_length]; exact szl (by omega), ?_⟩
    have k1 : Keep F H (upd H F (.lst (nv o ++ [V.int (t : Int)]))) := Keep.upd F H _
    have hF1 : upd H F (.lst (nv o ++ [V.int (t : Int)])) F = some (.lst (nv (o ++ [t]))) := by rw [upd_same, nv_append]; rfl
    generalize upd H F (.lst (nv o ++ [V.int (t : Int)])) = H1 at k1 hF1 ⊢
    -- for mate in range(len(plan))
    refine ⟨_, rfl, _, _, rfl, .inr ⟨_, SqT.of (k1 _ _ hpF hp), rfl⟩, _, rfl, by omega, by omega, for_it walk_range0 (fun i σ H' => ∃ v4, σ = [some (.int (t : Int)), some (.ref f), some (.ref F), some (.ref p), v4] ∧ Keep F H H' ∧ H' F = some (.lst (nv (o ++ [t] ++ (kidsTo hs t i).flatMap (pre hs)))))
      ⟨none, rfl, k1, by rw [show kidsTo hs t 0 = [] from rfl, List.flatMap_nil, List.append_nil]; exact hF1⟩ (fun _ _ _ _ _ => trivial) ?_ ?_⟩
    · rintro i x σ H2 H3 hi ⟨v4, rfl, k2, hF2⟩ ⟨rfl, rfl⟩
      rw [hlm] at hi
      obtain ⟨ho, eho⟩ : ∃ u, hs[i]? = some u := ⟨hs[i], List.getElem?_eq_getElem hi⟩
      have sc : scal (hv ho) (.int (t : Int)) = true := by cases ho <;> rfl
      refine ⟨_, rfl, _, rfl, p, _, _, _, rfl, rfl, SqT.of (k2 _ _ hpF hp), atI_nat (hv_at eho), _, rfl, sc, _, rfl, ?_⟩
      refine ite2 (fun z => ?_) (fun z => ?_)
      · have eo : ho = some t := by
          have z := of_decide_eq_true z
          cases ho with
          | none => cases z
          | some u =>
            have z2 := V.int.inj z
            congr 1; omega
        subst eo
        have um : Ups hs i (t :: l) := .step eho hu
        have el : kidsTo hs t (i + 1) = kidsTo hs t i ++ [i] := by rw [kidsTo_succ, eho, if_pos rfl]
        have ef : o ++ [t] ++ (kidsTo hs t (i + 1)).flatMap (pre hs) = o ++ [t] ++ (kidsTo hs t i).flatMap (pre hs) ++ pre hs i := by
          rw [el, List.flatMap_append, List.append_assoc (o ++ [t])]
          simp
        refine ⟨f, c, rfl, k2 _ _ hfF hf, _, rfl, k2 _ _ hfF hf, k2 _ _ hcF hc, i, hs, F, p, t :: l, _, rfl, rfl, k2 _ _ hpF hp, hl, um, by rw [List.length_cons]; omega, hF2, ?_, fun H' k3 hF3 => ⟨_, rfl, k2.trans k3, by rw [ef]; exact hF3⟩⟩
        rw [← ef, List.length_append, List.length_append]
        have := kids_len (u := t) (show i + 1 ≤ hs.length from hi) (pre hs)
        rw [ep, List.length_append, List.length_cons] at hlen
        show o.length + 1 + _ ≤ 1000
        omega
      · have eo : ¬ some ho = some (some t) := by intro y; cases y; exact z (decide_eq_true rfl)
        exact ⟨_, rfl, k2, by rw [kidsTo_succ, eho, if_neg eo, List.append_nil]; exact hF2⟩
    · rintro σ H2 ⟨v4, rfl, k2, hF2⟩
      rw [hlm] at hF2
      refine q H2 k2 ?_
      rw [hF2, ep, List.append_assoc]
      rfl
/-- .. and what it leaves: a list of its own, the tables told further -/
def spLWalk (T : Addr) : Sp := fun vs H Q _ => ∃ (p : Addr) (hs : Hs), vs = [.ref p] ∧ H p = some (.tup (hs.map hv)) ∧ Fo hs ∧ hs.length ≤ 60 ∧ NdefX.TabsN (TbG T) H ∧
  ∀ r H', LamX.ExtN H H' → NdefX.TabsN (TbG T) H' → H r = none → H' r = some (.lst (nv ((roots hs).flatMap (pre hs)))) → Q (.ref r) H'
theorem tabsG_keep {H H' : Hp} {T F : Addr} {xs : List V} (t : NdefX.TabsN (TbG T) H) (hF : H F = some (.lst xs)) (k : Keep F H H') : NdefX.TabsN (TbG T) H' := fun q hq => by
  obtain ⟨ps, h1, h2, h3⟩ := t q hq
  refine ⟨ps, k _ _ (off_lst h1 hF (by intro z; cases z)) h1, h2, fun pos cv hc => ?_⟩
  obtain ⟨c, e1, e2⟩ := h3 pos cv hc
  exact ⟨c, e1, k _ _ (off_lst e2 hF (codeO_lst _)) e2⟩
theorem ok__law_walk {c T : Addr} (D : DfC K mg "_law_walk" st__law_walk ["plan"] c) (B : Bl mg) (TB : LamX.TabB base mg c T) : Kn P w K mg base CX0 61 "_law_walk" st__law_walk ["plan"] (spLWalk T) := by
  refine D.ok sc__law_walk (fun vs H Q E h => ?_) (fun f A outer s H vs Q E hr h => ?_)
  · obtain ⟨p, hs, rfl, _⟩ := h; rfl
  obtain ⟨p, hs, rfl, hp, fo, hl, hT, q⟩ := h
  refine ⟨_, pss_cons (ps_set (i := 1) sc__law_walk.nd rfl (Or.inr rfl) (pe_lst pa_nil))
      (pss_cons (NdefX.ps_ndefS (st := st__law_go) (T := TbG T) (nm := fun _ _ => qGo) (i := 2) rfl TB rfl (List.mem_singleton.mpr rfl) rfl (fun z hz _ => by rw [List.mem_singleton.mp hz]) (NdefX.ndef_free ndGo) rfl rfl rfl sc__law_walk.nd rfl (Or.inr rfl) (Or.inl rfl))
      (pss_cons (ps_for PassesOwn.never rfl (pi_range1 (by rfl) B.range (pa_cons (pe_callB call_len (by rfl) B.len (by decide +kernel) (pa_cons (pv 0) pa_nil)) pa_nil)) (pg_name (i := 3) sc__law_walk.nd rfl (Or.inl rfl))
        (pss_one (ps_if (pt_cmpR op_isN (pe_ix (ix_tupK K) (pv 0) (pv 3) (fun _ _ => rfl)) pe_non (nomark _))
          (pss_one (ps_expr (NdefX.pe_calln (i := 2) (js := [2, 1, 0]) (E := E0) (mk := fun c => goF _ c) (ok__law_go B _ 60) (fun _ => rfl) (fun ok => NdefX.Caps.made ok (NdefX.ndef_free ndGo) (NdefX.ndef_fr ndGo) rfl) hr (Nat.le_refl _) pass0 rfl (Or.inr (Or.inl rfl)) (pa_cons (pv 3) pa_nil)))) pss_nil)))
      (pss_one (ps_ret (pv 1))))), ?_⟩
  have hlm : (hs.map hv).length = hs.length := List.length_map _
  -- found = []
  refine ⟨by show 0 ≤ sizeLine; decide, fun F hF => ?_⟩
  have s1 : Same H (upd H F (.lst [])) := (Same.refl H).new hF
  have hF1 : upd H F (.lst []) F = some (.lst []) := upd_same
  generalize upd H F (.lst []) = H1 at s1 hF1 ⊢
  -- def _law_go(one)
  refine ⟨fun z hz => (hT z hz).ext s1, fun g c' H2 e2 hT2 hg0 hg hc' => ?_⟩
  have hp2 := e2 _ _ (s1 _ _ hp) (by intro ps z; cases z)
  have hF2 := e2 _ _ hF1 (by intro ps z; cases z)
  have hpF : p ≠ F := off_lst hp2 hF2 (by intro z; cases z)
  have hgF : g ≠ F := off_lst hg hF2 (fnO_lst _)
  have hcF : c' ≠ F := off_lst hc' hF2 (codeO_lst _)
  have all := pre_len hs
  -- for one in range(len(plan))
  refine ⟨_, rfl, _, _, rfl, .inr ⟨_, SqT.of hp2, rfl⟩, _, rfl, by omega, by omega, for_it walk_range0 (fun i σ H' => ∃ v3, σ = [some (.ref p), some (.ref F), some (.ref g), v3] ∧ Keep F H2 H' ∧ H' F = some (.lst (nv ((rootsTo hs i).flatMap (pre hs)))))
    ⟨none, rfl, Keep.refl F H2, hF2⟩ (fun _ _ _ _ _ => trivial) ?_ ?_⟩
  · rintro i x σ H3 H4 hi ⟨v3, rfl, k3, hF3⟩ ⟨rfl, rfl⟩
    rw [hlm] at hi
    obtain ⟨ho, eho⟩ : ∃ u, hs[i]? = some u := ⟨hs[i], List.getElem?_eq_getElem hi⟩
    refine ⟨_, rfl, _, rfl, p, _, _, _, rfl, rfl, SqT.of (k3 _ _ hpF hp2), atI_nat (hv_at eho), rfl, _, rfl, ?_⟩
    cases ho with
    | some u => exact iteF ⟨_, rfl, k3, by rw [rootsTo_succ, eho, if_neg (by intro z; cases z), List.append_nil]; exact hF3⟩
    | none =>
      have el : rootsTo hs (i + 1) = rootsTo hs i ++ [i] := by rw [rootsTo_succ, eho, if_pos rfl]
      have ef : (rootsTo hs (i + 1)).flatMap (pre hs) = (rootsTo hs i).flatMap (pre hs) ++ pre hs i := by
        rw [el, List.flatMap_append]
        simp
      refine iteT ⟨g, c', rfl, k3 _ _ hgF hg, _, rfl, k3 _ _ hgF hg, k3 _ _ hcF hc', i, hs, F, p, [], _, rfl, rfl, k3 _ _ hpF hp2, by omega, .root eho, by rw [List.length_nil]; omega, hF3, ?_, fun H' k4 hF4 => ⟨_, rfl, k3.trans k4, by rw [ef]; exact hF4⟩⟩
      rw [← ef]
      have := roots_len (hs := hs) (show i + 1 ≤ hs.length from hi) (pre hs)
      omega
  · rintro σ H3 ⟨v3, rfl, k3, hF3⟩
    rw [hlm] at hF3
    refine ⟨_, rfl, q F H3 (fun b o e n => ?_) (tabsG_keep hT2 hF2 k3) hF hF3⟩
    exact k3 _ _ (ne_of_none e hF) (e2 _ _ (s1 _ _ e) n)
end

end My

namespace My
open PySem PySem.Spec PyProof.Rows L2
def Behind (hs : Hs) (o : List Nat) : Prop := ∀ (i v u : Nat), o[i]? = some v → hs[v]? = some (some u) → u ∈ o.take i

theorem askdF {H : Hp} {t : Addr} {hs : Hs} (ht : H t = some (.tup (hs.map hv))) (hl : hs.length ≤ 60) : Askd H (.ref t) := by
  refine ⟨.tup ht, fun xs e => ?_⟩
  rw [tupAt_tup ht] at e
  cases e
  refine ⟨by rw [List.length_map]; omega, fun y hy => ?_⟩
  obtain ⟨o, _, rfl⟩ := List.mem_map.mp hy
  exact vd_hv o

theorem isIdx_nat {n t : Nat} (h : t < n) : isIdx (n : Int) (.int (t : Int)) = true := by
  show (decide (0 ≤ (t : Int)) && decide ((t : Int) < (n : Int))) = true
  rw [decide_eq_true (by omega), decide_eq_true (by omega)]; rfl

theorem only_hs {H : Hp} {a : Addr} {hs hs' : Hs} (ha : H a = some (.tup (hs.map hv))) (e : tupAt H (.ref a) = some (hs'.map hv)) : hs' = hs := by
  rw [tupAt_tup ha] at e
  exact (hv_inj (Option.some.inj e)).symm
section
variable {CF CT : Addr}
theorem of_ask {R : Hs → List V → Prop} {H : Hp} {a : Addr} {hs : Hs} {Q : VK} {E : XK} (ha : H a = some (.tup (hs.map hv))) (fo : Fo hs) (hl : hs.length ≤ 60) (q : ∀ r l H', R hs l → Same H H' → H r = none → H' r = some (.lst l) → Q (.ref r) H') :
    spOf CF R [.ref a] H Q E :=
  ⟨.ref a, rfl, askdF ha hl, fun hs' e => by rw [only_hs ha e]; exact hl, fun n => absurd ⟨hs, tupAt_tup ha, fo⟩ n, fun hs' e fo' r l H' hR s hr hr2 => by
    have eh := only_hs ha e
    subst eh
    exact q r l H' hR s hr hr2⟩
end

structure Mid (d : PyData) : Prop where
  ok : d.showable = true
  short : d.leavesShort 100 = true
  bulk : d.bulk ≤ 700
  deep : d.depth ≤ 10
theorem mid_all : ∀ ds : List PyData, (∀ d ∈ ds, Mid d) → PyData.showableAll ds = true ∧ PyData.leavesShortAll 100 ds = true ∧ PyData.bulkAll ds ≤ 701 * ds.length ∧ PyData.depthAll ds ≤ 10
  | [], _ => ⟨rfl, rfl, Nat.le_refl _, Nat.zero_le _⟩
  | d :: ds, h => by
    obtain ⟨a, b, c, e⟩ := mid_all ds fun x hx => h x (List.mem_cons_of_mem _ hx)
    have k := h d List.mem_cons_self
    have kb := k.bulk
    have kd := k.deep
    refine ⟨by rw [PyData.showableAll, k.ok, a]; rfl, by rw [PyData.leavesShortAll, k.short, b]; rfl, ?_, ?_⟩
    · rw [PyData.bulkAll, List.length_cons]; omega
    · rw [PyData.depthAll]; omega
theorem mid_tuple {ds : List PyData} (h : ∀ d ∈ ds, Small d) (hl : ds.length ≤ 60) : Mid (.tuple ds) := by
  obtain ⟨a, b, c, e⟩ := small_all ds h
  exact ⟨by rw [PyData.showable]; exact a, by rw [PyData.leavesShort]; exact b, by rw [PyData.bulk]; omega, by rw [PyData.depth]; omega⟩

theorem rps_ints {z : Bool} {H : Hp} : ∀ l : List Int, Rps z H (iv l) (l.map PyData.int)
  | [] => .nil
  | x :: l => .cons (.int x) (rps_ints l)
theorem rps_nats {z : Bool} {H : Hp} : ∀ l : List Nat, Rps z H (nv l) (nD l)
  | [] => .nil
  | x :: l => .cons (.int (x : Int)) (rps_nats l)
theorem shows_pr {hs : Hs} {o : List Nat} (ib : InB hs) (hl : hs.length ≤ 60) (lo : o.length ≤ 60) (lt : ∀ v ∈ o, v < 60) : Shows (.list [.tuple (hs.map hD), .list (nD o)]) := by
  have m1 : Mid (.tuple (hs.map hD)) := mid_tuple (small_hD ib hl) (by rw [List.length_map]; exact hl)
  have m3 : Mid (.tuple (nD o)) := mid_tuple (fun x hx => by
    obtain ⟨v, mv, rfl⟩ := List.mem_map.mp hx
    have := lt v mv
    refine small_int ?_
    have e : (10 : Nat) ^ 12 = 1000000000000 := by decide
    rw [e, Int.natAbs_natCast]; omega) (by unfold nD; rw [List.length_map]; exact lo)
  have b1 := m1.bulk
  have d1 := m1.deep
  have a3 := m3.ok
  have s3 := m3.short
  have b3 := m3.bulk
  have d3 := m3.deep
  rw [PyData.showable] at a3
  rw [PyData.leavesShort] at s3
  rw [PyData.bulk] at b3
  rw [PyData.depth] at d3
  refine shows_of ?_ ?_ ?_ ?_
  · rw [PyData.showable, PyData.showableAll, PyData.showableAll, PyData.showableAll, m1.ok, PyData.showable, a3]; rfl
  · rw [PyData.leavesShort, PyData.leavesShortAll, PyData.leavesShortAll, PyData.leavesShortAll, m1.short, PyData.leavesShort, s3]; rfl
  · have b4 : (PyData.list (nD o)).bulk = PyData.bulkAll (nD o) := by rw [PyData.bulk]
    rw [PyData.bulk, PyData.bulkAll, PyData.bulkAll, PyData.bulkAll, b4]
    omega
  · have e4 : (PyData.list (nD o)).depth = 1 + PyData.depthAll (nD o) := by rw [PyData.depth]; omega
    rw [PyData.depth, PyData.depthAll, PyData.depthAll, PyData.depthAll]
    omega
/-! ### sequences; the walk is one -/
structure Sq (hs : Hs) (o : List Nat) : Prop where
  perm : o.Perm (List.range hs.length)
  bh : Behind hs o
theorem Sq.len {hs : Hs} {o : List Nat} (s : Sq hs o) : o.length = hs.length := by rw [s.perm.length_eq, List.length_range]
theorem Sq.mem {hs : Hs} {o : List Nat} (s : Sq hs o) {v : Nat} : v ∈ o ↔ v < hs.length := s.perm.mem_iff.trans List.mem_range
theorem Sq.nd {hs : Hs} {o : List Nat} (s : Sq hs o) : o.Nodup := s.perm.nodup_iff.mpr List.nodup_range
def behB (hs : Hs) (o : List Nat) : Bool := (List.range o.length).all fun i => match hs[o.getD i 0]? with
  | some (some u) => (o.take i).contains u
  | _ => true
theorem beh_of {hs : Hs} {o : List Nat} (h : behB hs o = true) : Behind hs o := fun i v u e1 e2 => by
  have il := (List.getElem?_eq_some_iff.mp e1).1
  have z := List.all_eq_true.mp h i (List.mem_range.mpr il)
  rw [List.getD_eq_getElem?_getD, e1, Option.getD_some, e2] at z
  exact List.contains_iff_mem.mp z
abbrev wk (hs : Hs) : List Nat := (roots hs).flatMap (pre hs)
theorem wk_wt (hs : Hs) : WT hs (roots hs) (Rch hs) (wk hs) [] := by
  obtain ⟨o, h⟩ := wt_done (starts_roots hs) hs.length [] _ (WT.start (starts_roots hs)) (Nat.le_add_right _ _)
  rw [walk_pre h] at h
  exact h
theorem wk_sq {hs : Hs} (fo : Fo hs) : Sq hs (wk hs) := by
  have O := (wk_wt hs).ord fo
  refine ⟨(List.perm_ext_iff_of_nodup O.nd List.nodup_range).mpr fun v => ⟨fun m => List.mem_range.mpr (O.lt v m), fun m => O.mem v (List.mem_range.mp m)⟩, fun i v u e1 e2 => ?_⟩
  obtain ⟨j, hj, ej⟩ := O.od i v u e1 e2
  exact List.mem_of_getElem? (i := j) (by rw [List.getElem?_take_of_lt hj]; exact ej)
/-! ### a forest of some of the things -/
/-- the place of a thing -/
def posOf (l : List Nat) (u : Nat) : Option Nat := l.findIdx? fun v => decide (v = u)
def amongH (hs : Hs) (l : List Nat) : Hs := l.map fun v => match hs[v]? with
  | some (some u) => posOf l u
  | _ => none
theorem posOf_snoc (l : List Nat) (v u : Nat) : posOf (l ++ [v]) u = (posOf l u).or (if v = u then some l.length else none) := by
  unfold posOf
  rw [List.findIdx?_append]
  by_cases c : v = u <;> simp [c]
theorem posOf_none {l : List Nat} {u : Nat} (h : ¬ u ∈ l) : posOf l u = none := by
  unfold posOf
  rw [List.findIdx?_eq_none_iff]
  intro v hv'
  exact decide_eq_false fun z => h (z ▸ hv')
/-- the dict tells the places -/
def NameK (kvs : List (Key × V)) (l : List Nat) : Prop := (∀ u : Nat, valV kvs (Sum.inl (u : Int)) = (posOf l u).map fun i : Nat => V.int ((i : Nat) : Int)) ∧ kvs.length ≤ l.length
theorem NameK.nil : NameK [] [] := ⟨fun _ => rfl, Nat.le_refl _⟩
theorem NameK.put {kvs : List (Key × V)} {l : List Nat} (h : NameK kvs l) {v : Nat} (hn : ¬ v ∈ l) : NameK (putK kvs (Sum.inl (v : Int)) (.int (l.length : Int))) (l ++ [v]) := by
  refine ⟨fun u => ?_, ?_⟩
  · rw [valV_put, posOf_snoc]
    by_cases e : u = v
    · subst e
      rw [if_pos rfl, if_pos rfl, posOf_none hn]; rfl
    · have n : ¬ (Sum.inl (u : Int) : Key) = Sum.inl (v : Int) := fun z => e (by have := Sum.inl.inj z; omega)
      rw [if_neg n, if_neg (fun z => e z.symm), Option.or_none]
      exact h.1 u
  · have z := length_putK kvs (Sum.inl (v : Int)) (V.int (l.length : Int))
    rw [List.length_append, List.length_singleton]
    have y := h.2
    omega
theorem dc_any {J : It} {n : Nat} {G : Hp → Prop} {Y : Nat → Hp → V → Hp → Prop} (wk : Walk J n G Y) {g : TG} {tt : TT} {tk tv : TE} {vs : List Nat} {σ : L2.St} {H1 : Hp} {D : Addr} {Qd : Hp → Prop} (S : Nat → Hp → Prop) (s0 : S 0 (upd H1 D (.dK [])))
    (sG : ∀ i H, i ≤ n → S i H → G H) (st : ∀ i x H H', i < n → S i H → Y i H x H' → g x (wipe σ vs) H' fun σ2 H2 => wipe σ2 vs = wipe σ vs ∧ tt σ2 H2 fun b H3 => if b = true then tk σ2 H3 fun y H4 => tv σ2 H4 fun z H5 => ∃ kvs k, y = kV k ∧ H5 D = some (.dK kvs) ∧ kvs.length < sizeLine ∧ S (i + 1) (upd H5 D (.dK (putK kvs k z))) else S (i + 1) H3)
    (fin : ∀ H, S n H → Qd H) : ∃ W : Nat → Nat → Hp → Prop, (∃ m, W 0 m (upd H1 D (.dK []))) ∧ ∀ i m H, W i m H → (J.stop i H ∧ Qd H) ∨ (J.go i H ∧ ∃ Nx : Hp → Prop, (∀ H', Nx H' → ∃ m', m' < m ∧ W (i + 1) m' H') ∧
      ∀ x H', J.yld i H x H' → g x (wipe σ vs) H' fun σ2 H2 => wipe σ2 vs = wipe σ vs ∧ tt σ2 H2 fun b H3 => if b = true then tk σ2 H3 fun y H4 => tv σ2 H4 fun z H5 => ∃ kvs k, y = kV k ∧ H5 D = some (.dK kvs) ∧ kvs.length < sizeLine ∧ Nx (upd H5 D (.dK (putK kvs k z))) else Nx H3) := by
  refine ⟨fun i m H => m + i = n ∧ S i H, ⟨n, rfl, s0⟩, fun i m H ⟨e, hS⟩ => ?_⟩
  have hG := sG i H (by omega) hS
  rcases Nat.eq_zero_or_pos m with z | z
  · have ei : i = n := by omega
    subst ei
    exact .inl ⟨wk.stops H hG, fin H hS⟩
  · have hi : i < n := by omega
    exact .inr ⟨wk.goes i H hi hG, S (i + 1), fun H' q => ⟨m - 1, by omega, by omega, q⟩, fun x H' y => st i x H H' hi hS (wk.yields i H x H' hi hG y)⟩
theorem among_len (hs : Hs) (l : List Nat) : (amongH hs l).length = l.length := List.length_map _
theorem among_step {hs : Hs} {l : List Nat} {i : Nat} (hi : i < l.length) : (amongH hs l).take (i + 1) = (amongH hs l).take i ++ [match hs[l[i]]? with
  | some (some u) => posOf l u
  | _ => none] := by
  rw [List.take_add_one, List.getElem?_eq_getElem (by rw [among_len]; exact hi)]
  unfold amongH
  rw [List.getElem_map]; rfl
def spAmong (K : PySem.W.Frag) : Sp := fun vs H Q _ => ∃ (a p : Addr) (hs : Hs) (l : List Nat), vs = [.ref a, .ref p] ∧ H a = some (.tup (hs.map hv)) ∧ (H p = some (.lst (nv l)) ∨ H p = some (.tup (nv l))) ∧ l.Nodup ∧ (∀ v ∈ l, v < hs.length) ∧ l.length ≤ 60 ∧
  ∀ r H', Same H H' → H r = none → H' r = some (.tup ((amongH hs l).map hv)) → Q (.ref r) H'
section
variable {P : Program} {w : World} {K : PySem.W.Frag} {mg : Str → Option Value} {base : Heap}
end

theorem pos_at {l : List Nat} (nd : l.Nodup) {i v : Nat} (e : l[i]? = some v) : posOf l v = some i := by
  obtain ⟨hi, ev⟩ := List.getElem?_eq_some_iff.mp e
  unfold posOf
  rw [List.findIdx?_eq_some_iff_getElem]
  refine ⟨hi, by simp [ev], fun j hj => ?_⟩
  simp only [decide_eq_true_eq]
  intro z
  have := nodup_at nd (List.getElem?_eq_some_iff.mpr ⟨by omega, z⟩) e
  omega
def pz (hs : Hs) (v : Nat) : Nat := (posOf (wk hs) v).getD 0
theorem pz_at {hs : Hs} (fo : Fo hs) {i v : Nat} (e : (wk hs)[i]? = some v) : pz hs v = i := by
  unfold pz
  rw [pos_at (wk_sq fo).nd e]; rfl
theorem pz_pos {hs : Hs} (fo : Fo hs) {v : Nat} (h : v < hs.length) : posOf (wk hs) v = some (pz hs v) ∧ pz hs v < hs.length := by
  obtain ⟨i, e⟩ := List.getElem?_of_mem ((wk_sq fo).mem.mpr h)
  have := (List.getElem?_eq_some_iff.mp e).1
  have l := (wk_sq fo).len
  rw [pos_at (wk_sq fo).nd e, pz_at fo e]
  exact ⟨rfl, by omega⟩
/-! ### turned pairs counted from either end -/
def invA (l : List Nat) (i : Nat) : Nat := ((l.drop i).filter fun y => decide (y < l.getD i 0)).length
def invB (l : List Nat) (i : Nat) : Nat := ((l.take i).filter fun y => decide (l.getD i 0 < y)).length
def invR : List Nat → Nat
  | [] => 0
  | x :: l => (l.filter fun y => decide (y < x)).length + invR l
theorem sum_addN (f g : Nat → Nat) : ∀ r : List Nat, (r.map fun i => f i + g i).sum = (r.map f).sum + (r.map g).sum
  | [] => rfl
  | x :: r => by rw [List.map_cons, List.sum_cons, sum_addN f g r, List.map_cons, List.sum_cons, List.map_cons, List.sum_cons]; omega
theorem invA_sum : ∀ l : List Nat, ((List.range l.length).map (invA l)).sum = invR l
  | [] => rfl
  | x :: l => by
    rw [List.length_cons, List.range_succ_eq_map, List.map_cons, List.sum_cons, List.map_map]
    have e0 : invA (x :: l) 0 = (l.filter fun y => decide (y < x)).length := by simp [invA]
    have e1 : (List.range l.length).map (invA (x :: l) ∘ Nat.succ) = (List.range l.length).map (invA l) := List.map_congr_left fun i _ => by simp [invA]
    rw [e0, e1, invA_sum l]; rfl
theorem cnt_lt (x : Nat) : ∀ l : List Nat, ((List.range l.length).map fun i => if l.getD i 0 < x then 1 else 0).sum = (l.filter fun y => decide (y < x)).length
  | [] => rfl
  | y :: l => by
    rw [List.length_cons, List.range_succ_eq_map, List.map_cons, List.sum_cons, List.map_map]
    have e1 : (List.range l.length).map ((fun i => if (y :: l).getD i 0 < x then 1 else 0) ∘ Nat.succ) = (List.range l.length).map fun i => if l.getD i 0 < x then 1 else 0 := List.map_congr_left fun i _ => by simp
    rw [e1, cnt_lt x l]
    by_cases c : y < x
    · simp [c, List.filter_cons]; omega
    · simp [c, List.filter_cons]
theorem invB_sum : ∀ l : List Nat, ((List.range l.length).map (invB l)).sum = invR l
  | [] => rfl
  | x :: l => by
    rw [List.length_cons, List.range_succ_eq_map, List.map_cons, List.sum_cons, List.map_map]
    have e0 : invB (x :: l) 0 = 0 := by simp [invB]
    have e1 : (List.range l.length).map (invB (x :: l) ∘ Nat.succ) = (List.range l.length).map fun i => (if l.getD i 0 < x then 1 else 0) + invB l i := List.map_congr_left fun i _ => by
      by_cases c : l.getD i 0 < x
      · simp [invB, c, List.filter_cons]; rw [List.getD_eq_getElem?_getD] at c; simp [c]; omega
      · simp [invB, c, List.filter_cons]; rw [List.getD_eq_getElem?_getD] at c; simp [c]
    rw [e0, e1, sum_addN, cnt_lt, invB_sum l, Nat.zero_add]; rfl
/-- the drop sum of a line -/
def drI (l : List Nat) : List Int := ((List.range (l.length - 1)).filter fun i => decide (l.getD (i + 1) 0 < l.getD i 0)).map fun i : Nat => (l.length : Int) - (1 + (i : Int))
theorem lc_u {J : It} {n : Nat} {G : Hp → Prop} {Y : Nat → Hp → V → Hp → Prop} (wk : Walk J n G Y) {D : Addr} (pr : Nat → Bool) (f : Nat → Int) {g : TG} {tt : TT} {te : TE} {vs : List Nat} {σ : L2.St} {H1 : Hp} {Qd : Hp → Prop} (hn : n ≤ 1000) (hD : H1 D = none) (hG : ∀ H, Same H1 H → G H)
    (st : ∀ (i : Nat) (x : V) (H2 H3 : Hp) (N : Hp → Prop) (A : VK), i < n → Same H1 H2 → Y i H2 x H3 → (pr i = false → ∀ H4, Same H2 H4 → N H4) → (pr i = true → ∀ H4, Same H2 H4 → A (.int (f i)) H4) → g x (wipe σ vs) H3 fun σ2 H4 => wipe σ2 vs = wipe σ vs ∧ tt σ2 H4 fun b H5 => if b = true then te σ2 H5 A else N H5)
    (done : ∀ H2, Same H1 H2 → H2 D = some (.lst (iv (((List.range n).filter pr).map f))) → Qd H2) :
    ∃ W : Nat → Nat → Hp → Prop, (∃ m, W 0 m (upd H1 D (.lst []))) ∧ ∀ i m H, W i m H →
      (J.stop i H ∧ Qd H) ∨ (J.go i H ∧ ∃ Nx : Hp → Prop, (∀ H', Nx H' → ∃ m', m' < m ∧ W (i + 1) m' H') ∧ ∀ x H', J.yld i H x H' → g x (wipe σ vs) H' fun σ2 H2 => wipe σ2 vs = wipe σ vs ∧ tt σ2 H2 fun b H3 =>
        if b = true then te σ2 H3 fun y H4 => ∃ acc, H4 D = some (.lst acc) ∧ acc.length < sizeLine ∧ Nx (upd H4 D (.lst (acc ++ [y]))) else Nx H3) := by
  refine lc_it wk (fun i H' => Same H1 H' ∧ H' D = some (.lst (iv (((List.range i).filter pr).map f)))) ⟨(Same.refl H1).new hD, upd_same⟩ (fun _ H _ z => hG H z.1) ?_ ?_
  · rintro i x H2 H3 hi ⟨s2, oD⟩ y
    have lz : (((List.range i).filter pr).map f).length ≤ i := by
      have z := List.length_filter_le pr (List.range i)
      rw [List.length_range] at z
      rw [List.length_map]; exact z
    refine st i x H2 H3 _ _ hi s2 y (fun c H4 s4 => ⟨s2.trans s4, ?_⟩) fun c H4 s4 => ⟨_, s4 _ _ oD, by rw [iv_length]; exact szl (by omega), (s2.trans s4).upd hD, ?_⟩
    · rw [List.range_succ, List.filter_append, List.filter_cons_of_neg (by rw [c]; exact Bool.false_ne_true), List.filter_nil, List.append_nil]; exact s4 _ _ oD
    · rw [upd_same, List.range_succ, List.filter_append, List.filter_cons_of_pos c, List.filter_nil, List.map_append]
      unfold iv
      rw [List.map_append]; rfl
  · rintro H2 ⟨s2, oD⟩
    exact done H2 s2 oD

end My

namespace My
open PySem PySem.Spec PyProof.Rows L2
/-! ### heldbehind.integers.lowest, heldbehind.shares._share -/
structure Bm (mg : Str → Option Value) : Prop where
  factorial : mg "factorial" = some (.builtin "math.factorial")
def gcI (a b : Int) : Int := ((Nat.gcd a.natAbs b.natAbs : Nat) : Int)
/-- a fraction in lowest terms -/
def lwV (a b : Int) : List V := [.int (a / gcI a b), .int (b / gcI a b)]
theorem gcI_pos {a b : Int} (h : 1 ≤ b) : 0 < gcI a b := by
  have z : 0 < Nat.gcd a.natAbs b.natAbs := Nat.gcd_pos_of_pos_right _ (by omega)
  unfold gcI; omega
theorem gcI_le {a b : Int} (h : 1 ≤ b) : (gcI a b).natAbs ≤ b.natAbs := by
  have z : Nat.gcd a.natAbs b.natAbs ≤ b.natAbs := Nat.le_of_dvd (by omega) (Nat.gcd_dvd_right _ _)
  unfold gcI; omega
def spLowest : Sp := fun vs H Q _ => ∃ a b : Int, vs = [.int a, .int b] ∧ 1 ≤ b ∧ b.natAbs < 2 ^ 8000 ∧ ∀ p H', Same H H' → H p = none → H' p = some (.tup (lwV a b)) → Q (.ref p) H'
def spShare : Sp := fun vs H Q _ => ∃ (t : Addr) (xs : List V) (a : Int), vs = [.ref t, .int a] ∧ H t = some (.tup xs) ∧ xs.length ≤ 60 ∧ ∀ p H', Same H H' → H p = none → H' p = some (.tup (lwV a ((fct xs.length : Nat) : Int))) → Q (.ref p) H'
section
variable {P : Program} {w : World} {K : PySem.W.Frag} {mg : Str → Option Value} {base : Heap}
end

/-! ### the law's own ways up, and how many things lie at or below each -/
def upF (hs : Hs) : Nat → Nat → List Nat
  | 0, _ => []
  | k + 1, v => match hs[v]? with
    | some (some u) => u :: upF hs k u
    | _ => []
def up (hs : Hs) (v : Nat) : List Nat := upF hs hs.length v
theorem upF_of {hs : Hs} {v : Nat} {l : List Nat} (a : Ups hs v l) : ∀ k : Nat, l.length ≤ k → upF hs k v = l := by
  induction a with
  | root h =>
    intro k _
    cases k with
    | zero => rfl
    | succ k => unfold upF; rw [h]
  | @step v u l h r ih =>
    intro k hk
    cases k with
    | zero => rw [List.length_cons] at hk; omega
    | succ k =>
      rw [List.length_cons] at hk
      unfold upF
      rw [h]
      show u :: upF hs k u = u :: l
      rw [ih k (by omega)]
theorem Ups.up {hs : Hs} {v : Nat} {l : List Nat} (a : Ups hs v l) : My.up hs v = l := upF_of a _ (Nat.le_of_lt a.len)
theorem Fo.ups {hs : Hs} (fo : Fo hs) {v : Nat} (h : v < hs.length) : Ups hs v (up hs v) := by
  obtain ⟨l, a⟩ := (fo.all v h).ups
  rw [a.up]; exact a
def ind (p : Prop) [Decidable p] : Int := if p then 1 else 0
theorem ind_split {hs : Hs} {v w : Nat} {l : List Nat} (a : Ups hs w l) : ind (v ∈ l) = ((kids hs v).map fun c => ind (c = w) + ind (c ∈ l)).sum := by
  have one : ∀ (cs : List Nat) (x : Nat), cs.Nodup → (cs.map fun c => ind (c = x)).sum = ind (x ∈ cs) := fun cs x => by
    induction cs with
    | nil => intro _; rfl
    | cons c cs ih =>
      intro nd
      obtain ⟨n1, n2⟩ := List.nodup_cons.mp nd
      rw [List.map_cons, List.sum_cons, ih n2]
      unfold ind
      by_cases e : c = x
      · subst e
        rw [if_pos rfl, if_neg n1, if_pos List.mem_cons_self]; rfl
      · rw [if_neg e]
        by_cases m : x ∈ cs
        · rw [if_pos m, if_pos (List.mem_cons_of_mem _ m)]; rfl
        · rw [if_neg m, if_neg (fun z => (List.mem_cons.mp z).elim (fun q => e q.symm) m)]; rfl
  have add : ∀ (cs : List Nat) (f g : Nat → Int), (cs.map fun c => f c + g c).sum = (cs.map f).sum + (cs.map g).sum := fun cs f g => by
    induction cs with
    | nil => rfl
    | cons c cs ih => rw [List.map_cons, List.sum_cons, List.map_cons, List.sum_cons, List.map_cons, List.sum_cons, ih]; omega
  induction a with
  | @root w h =>
    rw [add, one _ _ (nodup_kids hs v)]
    have z1 : ¬ w ∈ kids hs v := fun z => by rw [mem_kids.mp z] at h; cases h
    have z2 : ((kids hs v).map fun c => ind (c ∈ ([] : List Nat))).sum = 0 := by
      generalize kids hs v = cs
      induction cs with
      | nil => rfl
      | cons c cs ih =>
        rw [List.map_cons, List.sum_cons, ih]
        unfold ind
        rw [if_neg List.not_mem_nil]; rfl
    rw [z2]
    unfold ind
    rw [if_neg List.not_mem_nil, if_neg z1]; rfl
  | @step w u l h r ih =>
    rw [add] at ih ⊢
    rw [one _ _ (nodup_kids hs v)] at ih ⊢
    have nd := r.nd
    have z1 : ind (w ∈ kids hs v) = ind (v = u) := by
      unfold ind
      by_cases e : v = u
      · subst e
        rw [if_pos (mem_kids.mpr h), if_pos rfl]
      · rw [if_neg e, if_neg fun z => e ?_]
        have q := mem_kids.mp z
        rw [h] at q
        exact (Option.some.inj (Option.some.inj q)).symm
    have z2 : ∀ cs : List Nat, (cs.map fun c => ind (c ∈ u :: l)).sum = (cs.map fun c => ind (c = u)).sum + (cs.map fun c => ind (c ∈ l)).sum := fun cs => by
      rw [← add]
      congr 1
      refine List.map_congr_left fun c _ => ?_
      unfold ind
      by_cases e : c = u
      · subst e
        rw [if_pos List.mem_cons_self, if_pos rfl, if_neg (List.nodup_cons.mp nd).1]; rfl
      · rw [if_neg e]
        by_cases m : c ∈ l
        · rw [if_pos m, if_pos (List.mem_cons_of_mem _ m)]; rfl
        · rw [if_neg m, if_neg (fun z => (List.mem_cons.mp z).elim e m)]; rfl
    have z3 : ind (v ∈ u :: l) = ind (v = u) + ind (v ∈ l) := by
      have z := z2 [v]
      simpa using z
    rw [z1, z2, one _ _ (nodup_kids hs v), z3, ih]
/-- as many things as lie below one -/
def cnt (hs : Hs) (v i : Nat) : Int := ((List.range i).map fun w => ind (v ∈ up hs w)).sum
def Wt (hs : Hs) (F : List Int) : Prop := F.length = hs.length ∧ ∀ v : Nat, v < hs.length → F.getD v 0 = 1 + cnt hs v hs.length
theorem cnt_split {hs : Hs} (fo : Fo hs) (v : Nat) : ∀ i : Nat, i ≤ hs.length → cnt hs v i = ((kids hs v).map fun c => ind (c < i) + cnt hs c i).sum
  | 0, _ => by
    unfold cnt
    rw [List.range_zero]
    generalize kids hs v = cs
    show (0 : Int) = _
    induction cs with
    | nil => rfl
    | cons c cs ih => rw [List.map_cons, List.sum_cons, ← ih]; rfl
  | i + 1, h => by
    have ih := cnt_split fo v i (by omega)
    have suc : ∀ c : Nat, cnt hs c (i + 1) = cnt hs c i + ind (c ∈ up hs i) := fun c => by
      unfold cnt
      rw [List.range_succ, List.map_append, List.sum_append]
      show _ + (ind (c ∈ up hs i) + 0) = _
      omega
    rw [suc, ih, ind_split (v := v) (fo.ups (show i < hs.length by omega))]
    generalize kids hs v = cs
    induction cs with
    | nil => rfl
    | cons c cs ih2 =>
      rw [List.map_cons, List.sum_cons, List.map_cons, List.sum_cons, List.map_cons, List.sum_cons, ← ih2, suc]
      have z : ind (c < i + 1) = ind (c < i) + ind (c = i) := by
        unfold ind
        by_cases e : c = i
        · subst e
          rw [if_pos (Nat.lt_succ_self c), if_neg (Nat.lt_irrefl c), if_pos rfl]; rfl
        · rw [if_neg e]
          by_cases m : c < i
          · rw [if_pos m, if_pos (by omega)]; rfl
          · rw [if_neg m, if_neg (by omega)]; rfl
      rw [z]; omega
theorem Wt.size {hs : Hs} {F : List Int} (fo : Fo hs) (h : Wt hs F) : SizeOk hs F := by
  refine ⟨h.1, fun v hv => ?_⟩
  rw [h.2 v hv, cnt_split fo v _ (Nat.le_refl _)]
  congr 2
  refine List.map_congr_left fun c hc => ?_
  have hcl := (List.getElem?_eq_some_iff.mp (mem_kids.mp hc)).1
  rw [h.2 c hcl]
  unfold ind
  rw [if_pos hcl]
theorem size_one {hs : Hs} {F G : List Int} (fo : Fo hs) (h : SizeOk hs F) (g : SizeOk hs G) : F = G := by
  have key : ∀ (k v : Nat), v < hs.length → hs.length - (up hs v).length = k → F.getD v 0 = G.getD v 0 := fun k => by
    induction k using Nat.strongRecOn with
    | _ k ih =>
      intro v hv e
      rw [h.2 v hv, g.2 v hv]
      congr 2
      refine List.map_congr_left fun c hc => ?_
      have ec := mem_kids.mp hc
      have hcl := (List.getElem?_eq_some_iff.mp ec).1
      have u1 : up hs c = v :: up hs v := (Ups.step ec (fo.ups hv)).up
      have l1 := (fo.ups hcl).len
      refine ih (hs.length - (up hs c).length) ?_ c hcl rfl
      rw [u1, List.length_cons] at l1 ⊢
      omega
  refine List.ext_getElem (h.1.trans g.1.symm) fun i h1 h2 => ?_
  have z := key _ i (by rw [← h.1]; exact h1) rfl
  rw [List.getD_eq_getElem?_getD, List.getD_eq_getElem?_getD, List.getElem?_eq_getElem h1, List.getElem?_eq_getElem h2] at z
  exact z
def spUp : Sp := fun vs H Q _ => ∃ (t : Addr) (hs : Hs) (v : Nat), vs = [.ref t, .int (v : Int)] ∧ H t = some (.tup (hs.map hv)) ∧ Fo hs ∧ hs.length ≤ 1000 ∧ v < hs.length ∧ ∀ p H', Same H H' → H p = none → H' p = some (.lst (nv (up hs v))) → Q (.ref p) H'
section
variable {P : Program} {w : World} {K : PySem.W.Frag} {mg : Str → Option Value} {base : Heap}
abbrev st__law_up : Stmt := topS 29
abbrev N__law_up : List Str := ["plan", "one", "found"]
theorem sc__law_up : FnScope N__law_up ["plan", "one"] (defScope st__law_up) := ⟨rfl, rfl, rfl, by decide +kernel, rfl, by decide +kernel, by decide +kernel⟩
theorem ok__law_up (D : Df K mg "_law_up" st__law_up ["plan", "one"]) (B : Bl mg) : Kn P w K mg base CX0 1 "_law_up" st__law_up ["plan", "one"] spUp := by
  refine D.ok sc__law_up (fun vs H Q E h => ?_) (fun f cdv A outer s H vs Q E hr h => ?_)
  · obtain ⟨t, hs, v, rfl, _⟩ := h; rfl
  obtain ⟨t, hs, v, rfl, ht, fo, hl, hv1, q⟩ := h
  refine ⟨_, ((pss_cons (ps_set (i := 2) sc__law_up.nd rfl (Or.inl rfl) (pe_lst pa_nil))
      (pss_cons (ps_while PassesOwn.never (pt_cmpR op_notN (pe_ix ix_tup (pv 0) (pv 1) (fun _ _ => rfl)) pe_non (nomark _)) (pss_cons (ps_set (i := 1) sc__law_up.nd rfl (Or.inl rfl) (pe_ix ix_tup (pv 0) (pv 1) (fun _ _ => rfl)))
      (pss_one (ps_expr (pe_bm PySem.F.plainAttrs_list PySem.F.slot_list_append PySem.F.type_list_append mt_append (pv 2) (pa_cons (pv 1) pa_nil))))))
      (pss_one (ps_ret (pv 2)))))), ?_⟩
  have hu := fo.ups hv1
  have hlen := hu.len
  generalize up hs v = ups at hu hlen q
  refine ⟨by show 0 ≤ sizeLine; decide, fun F hF => ?_⟩
  have s0 : Same H (upd H F (.lst [])) := (Same.refl H).new hF
  have sq : ∀ {H' : Hp}, Same H H' → SqT K H' t (hs.map hv) := fun s' => SqT.of (s' _ _ ht)
  refine ⟨fun m σ H' => ∃ (u : Nat) (done rest : List Nat), σ = [some (.ref t), some (.int (u : Int)), some (.ref F)] ∧ Same H H' ∧ H' F = some (.lst (nv done)) ∧ ups = done ++ rest ∧ Ups hs u rest ∧ m = rest.length, ⟨_, v, [], ups, rfl, s0, upd_same, rfl, hu, rfl⟩, ?_⟩
  rintro m σ H' ⟨u, done, rest, rfl, s1, hF1, eu, hr1, rfl⟩
  obtain ⟨o, eo⟩ : ∃ o, hs[u]? = some o := ⟨hs[u]'hr1.lt, List.getElem?_eq_getElem hr1.lt⟩
  refine ⟨_, rfl, _, rfl, t, _, _, hv o, rfl, rfl, sq s1, atI_nat (hv_at eo), rfl, _, rfl, ?_⟩
  cases hr1 with
  | root h =>
    rw [h] at eo; cases eo
    refine iteF ⟨_, rfl, q F H' s1 hF ?_⟩
    rw [eu, List.append_nil]; exact hF1
  | @step _ u2 r' h r =>
    rw [h] at eo; cases eo
    have hdl : done.length ≤ 1000 := by
      rw [eu, List.length_append] at hlen; omega
    refine iteT ⟨fun σ' H' => ∃ m', m' < (u2 :: r').length ∧ ∃ (u : Nat) (done rest : List Nat), σ' = [some (.ref t), some (.int (u : Int)), some (.ref F)] ∧ Same H H' ∧ H' F = some (.lst (nv done)) ∧ ups = done ++ rest ∧ Ups hs u rest ∧ m' = rest.length, fun _ _ h => h, ?_⟩
    refine ⟨_, rfl, _, rfl, t, _, _, hv (some u2), rfl, rfl, sq s1, atI_nat (hv_at h), ?_⟩
    refine ⟨_, rfl, .inl ⟨rfl, _, SqL.of hF1⟩, _, rfl, F, _, _, rfl, rfl, hF1, by rw [nv_length]; exact szl hdl, ?_⟩
    refine ⟨r'.length, Nat.lt_succ_self _, u2, done ++ [u2], r', rfl, s1.upd hF, ?_, by rw [eu, List.append_assoc]; rfl, r, rfl⟩
    rw [upd_same, nv_append]; rfl
end

theorem cnt_zero (hs : Hs) (v : Nat) : cnt hs v 0 = 0 := rfl
theorem cnt_succ (hs : Hs) (v i : Nat) : cnt hs v (i + 1) = cnt hs v i + ind (v ∈ up hs i) := by
  unfold cnt
  rw [List.range_succ, List.map_append, List.sum_append]
  show _ + (ind (v ∈ up hs i) + 0) = _
  omega
theorem cnt_bound (hs : Hs) (v : Nat) : ∀ i : Nat, 0 ≤ cnt hs v i ∧ cnt hs v i ≤ (i : Int)
  | 0 => by rw [cnt_zero]; exact ⟨Int.le_refl _, Int.le_refl _⟩
  | i + 1 => by
    rw [cnt_succ]
    have h := cnt_bound hs v i
    unfold ind
    split <;> omega
def spWeights : Sp := fun vs H Q _ => ∃ (t : Addr) (hs : Hs), vs = [.ref t] ∧ H t = some (.tup (hs.map hv)) ∧ Fo hs ∧ hs.length ≤ 1000 ∧ ∀ p F H', Same H H' → H p = none → Wt hs F → H' p = some (.lst (iv F)) → Q (.ref p) H'
def spWeights0 : Sp := fun vs H Q _ => ∃ (t : Addr) (hs : Hs), vs = [.ref t] ∧ H t = some (.tup (hs.map hv)) ∧ (hs ≠ [] → Fo hs) ∧ hs.length ≤ 1000 ∧ ∀ p F H', Same H H' → H p = none → Wt hs F → H' p = some (.lst (iv F)) → Q (.ref p) H'
theorem Kn.imp {P : Program} {w : World} {K : PySem.W.Frag} {mg : Str → Option Value} {base : Heap} {CX : CXT} {k : Nat} {x : Str} {st : Stmt} {ps : List Str} {sp sp' : Sp} (F : Kn P w K mg base CX k x st ps sp) (h : ∀ vs H Q E, sp' vs H Q E → sp vs H Q E) : Kn P w K mg base CX k x st ps sp' := by
  obtain ⟨f, fd, ok, r⟩ := F.ex
  exact ⟨f, fd, ok.imp h, r⟩
section
variable {P : Program} {w : World} {K : PySem.W.Frag} {mg : Str → Option Value} {base : Heap}
abbrev st__law_weights : Stmt := topS 30
abbrev N__law_weights : List Str := ["plan", "found", "one", "mate"]
theorem sc__law_weights : FnScope N__law_weights ["plan"] (defScope st__law_weights) := ⟨rfl, rfl, rfl, by decide +kernel, rfl, by decide +kernel, by decide +kernel⟩
theorem ok__law_weights0 (D : Df K mg "_law_weights" st__law_weights ["plan"]) (B : Bl mg) (K_law_up : Kn P w K mg base CX0 1 "_law_up" st__law_up ["plan", "one"] spUp) : Kn P w K mg base CX0 3 "_law_weights" st__law_weights ["plan"] spWeights0 := by
  refine D.ok sc__law_weights (fun vs H Q E h => ?_) (fun f cdv A outer s H vs Q E hr h => ?_)
  · obtain ⟨t, hs, rfl, _⟩ := h; rfl
  obtain ⟨t, hs, rfl, ht, fo0, hl, q⟩ := h
  refine ⟨_, ((pss_cons (ps_setLc (i := 1) (own := [("one", 2)]) (g := gName 2) rfl sc__law_weights.nd rfl rfl (sw_true rfl rfl rfl (by decide +kernel)) (pi_tup (pv 0)) (blkOk_by (N := N__law_weights) (sc := defScope st__law_weights) (own := [("one", 2)]) (by decide +kernel)) (fun _ _ _ _ _ => by (exact (pg_name (i := 2) sc__law_weights.nd rfl (Or.inl rfl)))) (fun _ _ _ _ _ => by exact pts_nil) (fun _ _ _ _ _ => by exact pe_int))
      (pss_cons (ps_for PassesOwn.never rfl (pi_range1 (by rfl) B.range (pa_cons (pe_callB call_len (by rfl) B.len (by decide +kernel) (pa_cons (pv 0) pa_nil)) pa_nil)) (pg_name (i := 2) sc__law_weights.nd rfl (Or.inl rfl)) (pss_one (ps_for PassesOwn.never rfl (pi_list (pe_callF K_law_up (hr.mono (by decide)) pass0 (pa_cons (pv 0) (pa_cons (pv 2) pa_nil)))) (pg_name (i := 3) sc__law_weights.nd rfl (Or.inl rfl)) (pss_one (ps_asg (pe_op op_add (pe_ix ix_list (pv 1) (pv 3) (fun _ _ => rfl)) pe_int) (pg_sub (pv 1) (pv 3) set_list))))))
      (pss_one (ps_ret (pv 1)))))), ?_⟩
  have hlm : (hs.map hv).length = hs.length := List.length_map _
  have sq : ∀ {H' : Hp}, Same H H' → SqT K H' t (hs.map hv) := fun s' => SqT.of (s' _ _ ht)
  -- found = [1 for one in plan]
  refine ⟨_, rfl, t, rfl, ⟨_, SqT.of ht⟩, fun F hF => lc_it (walk_tup (xs := hs.map hv)) (fun i H' => Same H H' ∧ H' F = some (.lst (iv (List.replicate i 1)))) ⟨(Same.refl H).new hF, upd_same⟩ (fun i H' _ p => sq p.1) ?_ ?_⟩
  · rintro i x H1 H2 hi ⟨s1, hF1⟩ ⟨rfl, e1⟩
    refine ⟨rfl, _, hF1, by rw [iv_length, List.length_replicate]; exact szl (by omega), s1.upd hF, ?_⟩
    rw [upd_same, List.replicate_succ']
    unfold iv
    rw [List.map_append]; rfl
  · rintro H1 ⟨s1, hF1⟩
    rw [hlm] at hF1
    refine ⟨_, rfl, _, _, rfl, .inr ⟨_, sq s1, rfl⟩, _, rfl, by omega, by omega, for_it walk_range0 (fun i σ H' => ∃ v2 v3 G, σ = [some (.ref t), some (.ref F), v2, v3] ∧ Same H H' ∧ H' F = some (.lst (iv G)) ∧ G.length = hs.length ∧ ∀ v : Nat, v < hs.length → G.getD v 0 = 1 + cnt hs v i)
      ⟨none, none, _, rfl, s1, hF1, List.length_replicate, fun v hv => by rw [cnt_zero, List.getD_eq_getElem?_getD, List.getElem?_replicate, if_pos hv]; rfl⟩ (fun _ _ _ _ _ => trivial) ?_ ?_⟩
    · rintro i x σ H2 H3 hi ⟨v2, v3, G, rfl, s2, hF2, lG, eG⟩ ⟨rfl, rfl⟩
      have hi' : i < hs.length := by omega
      have fo := fo0 (fun z => by rw [z] at hi'; exact absurd hi' (Nat.not_lt_zero _))
      have hu := fo.ups hi'
      -- for mate in _law_up(plan, one)
      refine ⟨_, rfl, _, rfl, t, hs, i, rfl, s2 _ _ ht, fo, hl, hi', fun p H4 s4 hp hp4 => ?_⟩
      have hF4 := s4 _ _ hF2
      have hpF : p ≠ F := (ne_of_none hF2 hp).symm
      refine ⟨p, rfl, ⟨_, SqL.of hp4⟩, for_it (walk_list (xs := nv (up hs i))) (fun j σ H' => ∃ v3 G, σ = [some (.ref t), some (.ref F), some (.int (i : Int)), v3] ∧ Same H H' ∧ H' p = some (.lst (nv (up hs i))) ∧ H' F = some (.lst (iv G)) ∧ G.length = hs.length ∧ ∀ v : Nat, v < hs.length → G.getD v 0 = 1 + cnt hs v i + ind (v ∈ (up hs i).take j))
        ⟨v3, G, rfl, s2.trans s4, hp4, hF4, lG, fun v hv => by rw [eG v hv, List.take_zero]; show _ = _ + ind (v ∈ []); unfold ind; rw [if_neg List.not_mem_nil]; omega⟩ (fun j σ H' _ ⟨_, _, _, _, z, _⟩ => SqL.of z) ?_ ?_⟩
      · rintro j y σ H5 H6 hj ⟨v3, G, rfl, s5, hp5, hF5, lG, eG⟩ ⟨rfl, e5⟩
        obtain ⟨m, hm, rfl⟩ : ∃ m : Nat, (up hs i)[j]? = some m ∧ y = .int (m : Int) := nv_at e5
        obtain ⟨l', hl', _⟩ := hu.mem m (List.mem_of_getElem? hm)
        have hml := hl'.lt
        have eM : (iv G)[m]? = some (.int (G.getD m 0)) := iv_get (by omega)
        refine ⟨_, rfl, _, rfl, F, _, _, _, rfl, rfl, SqL.of hF5, atI_nat eM, _, _, rfl, rfl, ?_⟩
        refine ⟨_, rfl, _, rfl, F, _, _, m, rfl, rfl, hF5, by rw [iv_length, lG]; exact ixN_nat hml, ?_⟩
        refine ⟨_, G.set m (G.getD m 0 + 1), rfl, s5.upd hF, by rw [upd_ne hpF]; exact hp5, by rw [upd_same, iv_set], by rw [List.length_set]; exact lG, fun v hv => ?_⟩
        have nd := hu.nd
        have nd2 := (List.nodup_cons.mp nd).2
        rw [List.take_add_one, hm]
        by_cases e : m = v
        · subst e
          rw [getD_set_self (by omega), eG m hv]
          have n1 : m ∉ (up hs i).take j := fun z =>
            (List.nodup_append.mp (by rw [List.take_append_drop]; exact nd2 : ((up hs i).take j ++ (up hs i).drop j).Nodup)).2.2 m z m (List.mem_of_getElem? (i := 0) (by rw [List.getElem?_drop]; exact hm)) rfl
          unfold ind
          rw [if_neg n1, if_pos (show m ∈ (up hs i).take j ++ (some m).toList from List.mem_append_right _ (List.mem_singleton.mpr rfl))]
          omega
        · rw [getD_set_ne e, eG v hv]
          have z : (v ∈ (up hs i).take j ++ (some m).toList) ↔ v ∈ (up hs i).take j := by
            rw [List.mem_append]
            exact ⟨fun h => h.elim id fun h => absurd (List.mem_singleton.mp h).symm e, .inl⟩
          unfold ind
          by_cases c : v ∈ (up hs i).take j
          · rw [if_pos c, if_pos (z.mpr c)]
          · rw [if_neg c, if_neg (fun h => c (z.mp h))]
      · rintro σ H5 ⟨v3, G, rfl, s5, hp5, hF5, lG, eG⟩
        refine ⟨_, _, G, rfl, s5, hF5, lG, fun v hv => ?_⟩
        rw [eG v hv, cnt_succ, nv_length, List.take_length]
        omega
    · rintro σ H2 ⟨v2, v3, G, rfl, s2, hF2, lG, eG⟩
      exact ⟨_, rfl, q F G H2 s2 hF ⟨lG, by rw [← hlm]; exact hlm ▸ eG⟩ hF2⟩
theorem ok__law_weights (D : Df K mg "_law_weights" st__law_weights ["plan"]) (B : Bl mg) (K_law_up : Kn P w K mg base CX0 1 "_law_up" st__law_up ["plan", "one"] spUp) : Kn P w K mg base CX0 3 "_law_weights" st__law_weights ["plan"] spWeights :=
  Kn.imp (ok__law_weights0 D B K_law_up) fun _ _ _ _ ⟨t, hs, e, ht, fo, r⟩ => ⟨t, hs, e, ht, fun _ => fo, r⟩
end

/-! ### heldbehind.shares._place_weights -/
def mulL (a b : List Int) : List Int := List.zipWith (fun x y => x * y) a b
def stayL (l : Int) (ws wy : List Int) : List Int := List.zipWith (fun w s => w * (l - s)) ws wy
def pwStep (wy : List Int) (l : Int) (ws : List Int) : List Int := List.zipWith (fun x y => x + y) (0 :: (mulL ws wy).dropLast) (stayL l ws wy)
def pwTerm (wy ws : List Int) (l : Nat) : Int := (mulL ws wy).getLastD 0 * ((fct l : Nat) : Int)
/-- the weights behind i steps, of n things -/
def pwAt (wy : List Int) (n : Nat) : Nat → List Int
  | 0 => 1 :: List.replicate (wy.length - 1) 0
  | i + 1 => pwStep wy ((n : Int) - (i : Int)) (pwAt wy n i)
/-- for each place the integer whose share of n! is the place's -/
def pw (wy : List Int) (n : Nat) : List Int := (List.range n).map fun i => pwTerm wy (pwAt wy n i) (n - 1 - i)
/-- the sizes on the way down to a thing -/
def wayS (hs : Hs) (F : List Int) (t : Nat) : List Int := ((up hs t).reverse ++ [t]).map fun v => F.getD v 0
def szL (hs : Hs) : List Int := (List.range hs.length).map fun v => 1 + cnt hs v hs.length
theorem szL_wt (hs : Hs) : Wt hs (szL hs) := by
  unfold szL
  refine ⟨by rw [List.length_map, List.length_range], fun v hv => ?_⟩
  rw [List.getD_eq_getElem?_getD, List.getElem?_map, List.getElem?_range hv]; rfl
theorem szL_ok {hs : Hs} (fo : Fo hs) : SizeOk hs (szL hs) := (szL_wt hs).size fo
theorem szL_at {hs : Hs} (fo : Fo hs) {v : Nat} (h : v < hs.length) : 1 ≤ (szL hs).getD v 0 ∧ (szL hs).getD v 0 ≤ (hs.length : Int) := by
  rw [(szL_wt hs).2 v h]
  have z := cnt_bound hs v hs.length
  refine ⟨by omega, ?_⟩
  -- none is below itself
  have z2 : cnt hs v hs.length ≤ (hs.length : Int) - 1 := by
    have h2 : ∀ i : Nat, v < i → i ≤ hs.length → cnt hs v i ≤ (i : Int) - 1 := fun i => by
      induction i with
      | zero => intro q; omega
      | succ i ih =>
        intro q1 q2
        rw [cnt_succ]
        by_cases e : v = i
        · subst e
          have z3 := (cnt_bound hs v v).2
          have z4 : ind (v ∈ up hs v) = 0 := by
            unfold ind
            rw [if_neg (List.nodup_cons.mp (fo.ups h).nd).1]
          omega
        · have z3 := ih (by omega) (by omega)
          have z4 : ind (v ∈ up hs i) ≤ 1 := by unfold ind; split <;> omega
          omega
    exact h2 _ h (Nat.le_refl _)
  omega
theorem mulL_len {a b : List Int} (h : a.length = b.length) : (mulL a b).length = b.length := by
  unfold mulL; rw [List.length_zipWith, h, Nat.min_self]
theorem stayL_len {l : Int} {a b : List Int} (h : a.length = b.length) : (stayL l a b).length = b.length := by
  unfold stayL; rw [List.length_zipWith, h, Nat.min_self]
theorem pwStep_len {wy ws : List Int} {l : Int} (h : ws.length = wy.length) (h1 : 1 ≤ wy.length) : (pwStep wy l ws).length = wy.length := by
  unfold pwStep
  rw [List.length_zipWith, List.length_cons, List.length_dropLast, mulL_len h, stayL_len h]
  omega
theorem pwAt_len {wy : List Int} (n : Nat) (h1 : 1 ≤ wy.length) : ∀ i : Nat, (pwAt wy n i).length = wy.length
  | 0 => by rw [pwAt, List.length_cons, List.length_replicate]; omega
  | i + 1 => by rw [pwAt]; exact pwStep_len (pwAt_len n h1 i) h1
def Bd (B : Nat) (ws : List Int) : Prop := ∀ x ∈ ws, x.natAbs ≤ B
theorem zip_mem {f : Int → Int → Int} {a b : List Int} {x : Int} (h : x ∈ List.zipWith f a b) : ∃ y ∈ a, ∃ z ∈ b, x = f y z := by
  obtain ⟨i, e⟩ := List.getElem?_of_mem h
  rw [List.getElem?_zipWith] at e
  cases ea : a[i]? with
  | none => rw [ea] at e; cases e
  | some y =>
    cases eb : b[i]? with
    | none => rw [ea, eb] at e; cases e
    | some z =>
      rw [ea, eb] at e
      exact ⟨y, List.mem_of_getElem? ea, z, List.mem_of_getElem? eb, (Option.some.inj e).symm⟩
theorem Bd.mul {B C : Nat} {a b : List Int} (h : Bd B a) (g : Bd C b) : Bd (B * C) (mulL a b) := fun x hx => by
  obtain ⟨y, hy, z, hz, rfl⟩ := zip_mem hx
  rw [Int.natAbs_mul]
  exact Nat.mul_le_mul (h y hy) (g z hz)
theorem Bd.stay {B : Nat} {l : Int} {a b : List Int} (h : Bd B a) (g : Bd 60 b) (hl : l.natAbs ≤ 60) : Bd (B * 120) (stayL l a b) := fun x hx => by
  obtain ⟨y, hy, z, hz, rfl⟩ := zip_mem hx
  rw [Int.natAbs_mul]
  have := g z hz
  exact Nat.mul_le_mul (h y hy) (by omega)
theorem Bd.step {B : Nat} {l : Int} {wy ws : List Int} (h : Bd B ws) (g : Bd 60 wy) (hl : l.natAbs ≤ 60) : Bd (B * 256) (pwStep wy l ws) := fun x hx => by
  obtain ⟨y, hy, z, hz, rfl⟩ := zip_mem hx
  have h1 : y.natAbs ≤ B * 60 := by
    rcases List.mem_cons.mp hy with rfl | hy
    · exact Nat.zero_le _
    · exact h.mul g y ((List.dropLast_sublist _).subset hy)
  have h2 := h.stay g hl z hz
  have e : B * 256 = B * 60 + B * 120 + B * 76 := by omega
  omega
theorem pwAt_bd {wy : List Int} {n : Nat} (g : Bd 60 wy) (hn : n ≤ 60) : ∀ i : Nat, i ≤ n → Bd (256 ^ i) (pwAt wy n i)
  | 0, _ => fun x hx => by
    rw [pwAt] at hx
    rcases List.mem_cons.mp hx with rfl | hx
    · decide
    · rw [(List.mem_replicate.mp hx).2]; decide
  | i + 1, h => by
    rw [pwAt, Nat.pow_succ]
    exact (pwAt_bd g hn i (by omega)).step g (by omega)
theorem wayS_len (hs : Hs) (F : List Int) (t : Nat) : 1 ≤ (wayS hs F t).length := by
  unfold wayS
  rw [List.length_map, List.length_append]
  show 1 ≤ _ + 1
  omega
theorem way_lt {hs : Hs} (fo : Fo hs) {t : Nat} (ht : t < hs.length) : ∀ v ∈ (up hs t).reverse ++ [t], v < hs.length := fun v hv => by
  rcases List.mem_append.mp hv with h | h
  · obtain ⟨m, hm, _⟩ := (fo.ups ht).mem v (List.mem_reverse.mp h)
    exact hm.lt
  · rw [List.mem_singleton.mp h]; exact ht
theorem wayS_bd {hs : Hs} (fo : Fo hs) (h60 : hs.length ≤ 60) {t : Nat} (ht : t < hs.length) : Bd 60 (wayS hs (szL hs) t) := fun x hx => by
  obtain ⟨v, hv, rfl⟩ := List.mem_map.mp hx
  have z := szL_at fo (way_lt fo ht v hv)
  omega
theorem iv_at {F : List Int} {i : Nat} {x : V} (h : (iv F)[i]? = some x) : ∃ n : Int, F[i]? = some n ∧ x = .int n := by
  unfold iv at h
  rw [List.getElem?_map] at h
  cases e : F[i]? with
  | none => rw [e] at h; cases h
  | some n => rw [e] at h; exact ⟨n, rfl, (Option.some.inj h).symm⟩
theorem iv_snoc (F : List Int) (n : Int) : iv F ++ [V.int n] = iv (F ++ [n]) := by unfold iv; rw [List.map_append]; rfl
theorem zip_at {f : Int → Int → Int} {a b : List Int} {j : Nat} {y z : Int} (e1 : a[j]? = some y) (e2 : b[j]? = some z) : (List.zipWith f a b).take (j + 1) = (List.zipWith f a b).take j ++ [f y z] := by
  rw [List.take_add_one, List.getElem?_zipWith, e1, e2]; rfl
theorem iv_nv (l : List Nat) : nv l = iv (l.map fun v : Nat => ((v : Nat) : Int)) := by unfold nv iv; rw [List.map_map]; rfl
section
variable {P : Program} {w : World} {K : PySem.W.Frag} {mg : Str → Option Value} {base : Heap} {CF CT : Addr}
end

/-! ### heldbehind.sequences.count_sequences -/
/-- one size after the other divides -/
def divAll (a : Int) (F : List Int) : Int := F.foldl (fun x s => x / s) a
theorem divAll_snoc (a : Int) (F : List Int) (s : Int) : divAll a (F ++ [s]) = divAll a F / s := by
  unfold divAll
  rw [List.foldl_append]; rfl
/-- the number of sequences, as it is reckoned -/
def cntL (hs : Hs) : Int := divAll ((fct hs.length : Nat) : Int) (szL hs)
def spCnt : Sp := fun vs H Q _ => ∃ (a : Addr) (hs : Hs), vs = [.ref a] ∧ H a = some (.tup (hs.map hv)) ∧ Fo hs ∧ hs.length ≤ 60 ∧ ∀ H', Same H H' → Q (.int (cntL hs)) H'
section
variable {P : Program} {w : World} {K : PySem.W.Frag} {mg : Str → Option Value} {base : Heap} {CF : Addr}
abbrev st_count_sequences : Stmt := topS 17
abbrev N_count_sequences : List Str := ["forest", "size_of", "found", "size"]
theorem sc_count_sequences : FnScope N_count_sequences ["forest"] (defScope st_count_sequences) := ⟨rfl, rfl, rfl, by decide +kernel, rfl, by decide +kernel, by decide +kernel⟩
theorem ok_count_sequences (D : Df K mg "count_sequences" st_count_sequences ["forest"]) (B : Bl mg) (BM : Bm mg) (Ksizes : Kn P w K mg base (L2.CX P w) 7 "sizes" st_sizes ["forest"] (spOf CF fun hs l => ∃ F, l = iv F ∧ SizeOk hs F)) :
    Kn P w K mg base (L2.CX P w) 8 "count_sequences" st_count_sequences ["forest"] spCnt := by
  refine D.okX sc_count_sequences (fun vs H Q E h => ?_) (fun f cdv A outer s H vs Q E hr h => ?_)
  · obtain ⟨a, hs, rfl, _⟩ := h; rfl
  obtain ⟨a, hs, rfl, ha, fo, hl, q⟩ := h
  refine ⟨_, ((pss_cons (ps_set (i := 1) sc_count_sequences.nd rfl (Or.inl rfl) (pe_callF Ksizes (hr.mono (by decide)) (passX (takes_of rfl rfl rfl rfl)) (pa_cons (pv 0) pa_nil)))
      (pss_cons (ps_set (i := 2) sc_count_sequences.nd rfl (Or.inl rfl) (pe_callBfun cr_factorial (by rfl) BM.factorial (pa_cons (pe_callB call_len (by rfl) B.len (by decide +kernel) (pa_cons (pv 1) pa_nil)) pa_nil)))
      (pss_cons (ps_for (passes_of rfl) rfl (pi_list (pv 1)) (pg_name (i := 3) sc_count_sequences.nd rfl (Or.inl rfl)) (pss_one (ps_set (i := 2) sc_count_sequences.nd rfl (Or.inl rfl) (pe_op op_fdivW (pv 2) (pv 3)))))
      (pss_one (ps_ret (pv 2))))))), ?_⟩
  have e : tupAt H (.ref a) = some (hs.map hv) := tupAt_tup ha
  have hb : ∀ hs' : Hs, tupAt H (.ref a) = some (hs'.map hv) → hs'.length ≤ 60 := fun hs' e' => by
    rw [e] at e'
    have z := congrArg List.length (Option.some.inj e')
    rw [List.length_map, List.length_map] at z
    omega
  refine ⟨_, rfl, .ref a, rfl, askdF ha hl, hb, fun n => absurd ⟨hs, e, fo⟩ n, fun hs' e' fo' r l H1 ⟨F, el, ok⟩ s1 hrn hr1 => ?_⟩
  have eh : hs = hs' := by
    rw [e] at e'
    exact hv_inj (Option.some.inj e')
  subst eh
  subst el
  have lF := ok.1
  have eF : F = szL hs := size_one fo ok (szL_ok fo)
  subst eF
  refine ⟨_, rfl, _, _, rfl, .inl ⟨_, SqL.of hr1, rfl⟩, (szL hs).length, ?_, by omega, ?_⟩
  · rw [iv_length]
  rw [lF]
  refine ⟨_, rfl, r, rfl, ⟨_, SqL.of hr1⟩, for_it (walk_list (xs := iv (szL hs))) (fun i σ H' => ∃ v3, σ = [some (.ref a), some (.ref r), some (.int (divAll ((fct hs.length : Nat) : Int) ((szL hs).take i))), v3] ∧ Same H1 H') ⟨_, rfl, Same.refl H1⟩ (fun i σ H' _ z => ?_) ?_ ?_⟩
  · obtain ⟨_, _, z⟩ := z
    exact SqL.of (z _ _ hr1)
  · rintro i x σ H2 H3 hi ⟨v3, rfl, s2⟩ ⟨rfl, e1⟩
    rw [iv_length] at hi
    rw [iv_get hi] at e1
    cases e1
    rw [lF] at hi
    have b := szL_at fo hi
    have ds : divAll ((fct hs.length : Nat) : Int) ((szL hs).take (i + 1)) = divAll ((fct hs.length : Nat) : Int) ((szL hs).take i) / (szL hs).getD i 0 := by
      have hi2 : i < (szL hs).length := by omega
      have ei : (szL hs).getD i 0 = (szL hs)[i] := by rw [List.getD_eq_getElem?_getD, List.getElem?_eq_getElem hi2]; rfl
      have tk : (szL hs).take (i + 1) = (szL hs).take i ++ [(szL hs)[i]] := by rw [List.take_add_one, List.getElem?_eq_getElem hi2]; rfl
      rw [tk, divAll_snoc, ei]
    exact ⟨_, rfl, _, rfl, _, _, rfl, rfl, wide_div (b := 64) (by omega) (Nat.lt_of_le_of_lt (show _ ≤ 100 by omega) (by decide)) (by decide) (by decide), some (.int ((szL hs).getD i 0)), by rw [ds]; rfl, s2⟩
  · rintro σ H2 ⟨v3, rfl, s2⟩
    have et : (szL hs).take (iv (szL hs)).length = szL hs := by rw [iv_length, List.take_length]
    rw [et]
    exact ⟨_, rfl, q H2 (s1.trans s2)⟩
end

end My

namespace My
open PySem PySem.Spec PyProof.Rows L2
/-! ### sequences by beginnings: what can be next, and how many ways there are on -/
theorem sum_add (cs : List Nat) (f g : Nat → Int) : (cs.map fun c => f c + g c).sum = (cs.map f).sum + (cs.map g).sum := by
  induction cs with
  | nil => rfl
  | cons c cs ih => rw [List.map_cons, List.sum_cons, List.map_cons, List.sum_cons, List.map_cons, List.sum_cons, ih]; omega
theorem sum_zero {cs : List Nat} {f : Nat → Int} (h : ∀ c ∈ cs, f c = 0) : (cs.map f).sum = 0 := by
  induction cs with
  | nil => rfl
  | cons c cs ih => rw [List.map_cons, List.sum_cons, h c List.mem_cons_self, ih fun x hx => h x (List.mem_cons_of_mem _ hx)]; rfl
theorem sum_one {cs : List Nat} (nd : cs.Nodup) (x : Nat) : (cs.map fun c => ind (x = c)).sum = ind (x ∈ cs) := by
  induction cs with
  | nil => rfl
  | cons c cs ih =>
    obtain ⟨n1, n2⟩ := List.nodup_cons.mp nd
    rw [List.map_cons, List.sum_cons, ih n2]
    unfold ind
    by_cases e : x = c
    · subst e
      rw [if_pos rfl, if_neg n1, if_pos List.mem_cons_self]; rfl
    · rw [if_neg e]
      by_cases m : x ∈ cs
      · rw [if_pos m, if_pos (List.mem_cons_of_mem _ m)]; rfl
      · rw [if_neg m, if_neg (fun z => (List.mem_cons.mp z).elim e m)]; rfl
theorem sum_swap (cs ws : List Nat) (f : Nat → Nat → Int) : (cs.map fun c => (ws.map fun w => f c w).sum).sum = (ws.map fun w => (cs.map fun c => f c w).sum).sum := by
  induction cs with
  | nil => rw [List.map_nil]; exact (sum_zero fun _ _ => rfl).symm
  | cons c cs ih =>
    rw [List.map_cons, List.sum_cons, ih, ← sum_add]
    rfl
theorem sum_const (cs : List Nat) (x : Int) : (cs.map fun _ => x).sum = x * (cs.length : Int) := by
  induction cs with
  | nil => rw [List.map_nil, List.length_nil]; exact (Int.mul_zero x).symm
  | cons c cs ih =>
    rw [List.map_cons, List.sum_cons, ih, List.length_cons]
    have e : ((cs.length + 1 : Nat) : Int) = (cs.length : Int) + 1 := rfl
    rw [e, Int.mul_add, Int.mul_one]
    omega
theorem sum_mul (cs : List Nat) (f : Nat → Int) (x : Int) : (cs.map fun c => x * f c).sum = x * (cs.map f).sum := by
  induction cs with
  | nil => exact (Int.mul_zero x).symm
  | cons c cs ih => rw [List.map_cons, List.sum_cons, ih, List.map_cons, List.sum_cons, Int.mul_add]
def avB (hs : Hs) (r : List Nat) (v : Nat) : Bool := decide (v ∉ r) && (match hs[v]? with
  | some none => true
  | some (some u) => decide (u ∈ r)
  | none => false)
/-- what can be next behind a beginning -/
def av (hs : Hs) (r : List Nat) : List Nat := (List.range hs.length).filter (avB hs r)
structure Pre (hs : Hs) (r : List Nat) : Prop where
  nd : r.Nodup
  lt : ∀ v ∈ r, v < hs.length
  cl : ∀ v ∈ r, ∀ u : Nat, hs[v]? = some (some u) → u ∈ r
theorem av_nd (hs : Hs) (r : List Nat) : (av hs r).Nodup := List.nodup_range.filter _
theorem av_mem {hs : Hs} {r : List Nat} {v : Nat} : v ∈ av hs r ↔ v < hs.length ∧ v ∉ r ∧ ∀ u : Nat, hs[v]? = some (some u) → u ∈ r := by
  unfold av avB
  rw [List.mem_filter, List.mem_range, Bool.and_eq_true, decide_eq_true_eq]
  constructor
  · rintro ⟨h1, h2, h3⟩
    refine ⟨h1, h2, fun u e => ?_⟩
    rw [e] at h3
    exact of_decide_eq_true h3
  · rintro ⟨h1, h2, h3⟩
    refine ⟨h1, h2, ?_⟩
    rw [List.getElem?_eq_getElem h1] at h3 ⊢
    generalize hs[v]'h1 = o at h3 ⊢
    rcases o with _ | u
    · rfl
    · exact decide_eq_true (h3 u rfl)
theorem Pre.ups {hs : Hs} {r : List Nat} (p : Pre hs r) {w : Nat} {l : List Nat} (a : Ups hs w l) : w ∈ r → ∀ x ∈ l, x ∈ r := by
  induction a with
  | root h => intro _ x hx; cases hx
  | @step w u l h _ ih =>
    intro hw x hx
    have hu := p.cl w hw u h
    rcases List.mem_cons.mp hx with rfl | hx
    · exact hu
    · exact ih hu x hx
theorem av_one {hs : Hs} {r : List Nat} (p : Pre hs r) {w : Nat} {l : List Nat} (a : Ups hs w l) : ((av hs r).map fun v => ind (w = v) + ind (v ∈ l)).sum = ind (w ∉ r) := by
  have noav : ∀ v ∈ av hs r, v ∉ r := fun v hv => (av_mem.mp hv).2.1
  induction a with
  | @root w h =>
    have hl := (List.getElem?_eq_some_iff.mp h).1
    have e : (av hs r).map (fun v => ind (w = v) + ind (v ∈ ([] : List Nat))) = (av hs r).map fun v => ind (w = v) := List.map_congr_left fun v _ => by
      have z : ind (v ∈ ([] : List Nat)) = 0 := by unfold ind; rw [if_neg List.not_mem_nil]
      rw [z, Int.add_zero]
    rw [e, sum_one (av_nd hs r)]
    unfold ind
    by_cases c : w ∈ r
    · rw [if_neg (fun z => noav w z c), if_neg (fun z => z c)]
    · rw [if_pos (av_mem.mpr ⟨hl, c, fun u e => by rw [h] at e; cases e⟩), if_pos c]
  | @step w u l h ru ih =>
    have hl := (List.getElem?_eq_some_iff.mp h).1
    have nd := ru.nd
    have split : ∀ v : Nat, ind (v ∈ u :: l) = ind (u = v) + ind (v ∈ l) := fun v => by
      unfold ind
      by_cases e : u = v
      · subst e
        rw [if_pos List.mem_cons_self, if_pos rfl, if_neg (List.nodup_cons.mp nd).1]; rfl
      · rw [if_neg e]
        by_cases m : v ∈ l
        · rw [if_pos m, if_pos (List.mem_cons_of_mem _ m)]; rfl
        · rw [if_neg m, if_neg (fun z => (List.mem_cons.mp z).elim (fun q => e q.symm) m)]; rfl
    have e : (av hs r).map (fun v => ind (w = v) + ind (v ∈ u :: l)) = (av hs r).map fun v => ind (w = v) + (ind (u = v) + ind (v ∈ l)) := List.map_congr_left fun v _ => by rw [split]
    rw [e, sum_add, ih, sum_one (av_nd hs r)]
    unfold ind
    by_cases c : w ∈ r
    · rw [if_neg (fun z => noav w z c), if_neg (fun z => z (p.cl w c u h)), if_neg (fun z => z c)]; rfl
    · by_cases cu : u ∈ r
      · rw [if_pos (av_mem.mpr ⟨hl, c, fun u' e => by rw [h] at e; cases e; exact cu⟩), if_neg (fun z => z cu), if_pos c]; rfl
      · rw [if_neg (fun z => cu ((av_mem.mp z).2.2 u h)), if_pos cu, if_pos c]; rfl
/-- the sizes of what can be next come to what is left -/
theorem av_sum {hs : Hs} (fo : Fo hs) {r : List Nat} (p : Pre hs r) : ((av hs r).map fun v => (szL hs).getD v 0).sum = (hs.length : Int) - (r.length : Int) := by
  have e1 : (av hs r).map (fun v => (szL hs).getD v 0) = (av hs r).map fun v => ((List.range hs.length).map fun w => ind (w = v) + ind (v ∈ up hs w)).sum := List.map_congr_left fun v hv => by
    have hl := (av_mem.mp hv).1
    rw [(szL_wt hs).2 v hl, sum_add]
    have z : ((List.range hs.length).map fun w => ind (w = v)).sum = 1 := by
      have z1 : (List.range hs.length).map (fun w => ind (w = v)) = (List.range hs.length).map fun w => ind (v = w) := List.map_congr_left fun w _ => by
        unfold ind
        by_cases e : w = v
        · rw [if_pos e, if_pos e.symm]
        · rw [if_neg e, if_neg fun z => e z.symm]
      rw [z1, sum_one List.nodup_range]
      unfold ind
      rw [if_pos (List.mem_range.mpr hl)]
    rw [z]; rfl
  rw [e1, sum_swap]
  have e2 : (List.range hs.length).map (fun w => ((av hs r).map fun v => ind (w = v) + ind (v ∈ up hs w)).sum) = (List.range hs.length).map fun w => 1 + (-1) * ((r.map fun x => ind (w = x)).sum) := List.map_congr_left fun w hw => by
    rw [av_one p (fo.ups (List.mem_range.mp hw)), sum_one p.nd]
    unfold ind
    by_cases c : w ∈ r
    · rw [if_neg (fun z => z c), if_pos c]; rfl
    · rw [if_pos c, if_neg c]; rfl
  rw [e2, sum_add, sum_const, sum_mul, sum_swap]
  have e3 : (r.map fun x => ((List.range hs.length).map fun w => ind (w = x)).sum) = r.map fun _ => (1 : Int) := List.map_congr_left fun x hx => by
    have z1 : (List.range hs.length).map (fun w => ind (w = x)) = (List.range hs.length).map fun w => ind (x = w) := List.map_congr_left fun w _ => by
      unfold ind
      by_cases e : w = x
      · rw [if_pos e, if_pos e.symm]
      · rw [if_neg e, if_neg fun z => e z.symm]
    rw [z1, sum_one List.nodup_range]
    unfold ind
    rw [if_pos (List.mem_range.mpr (p.lt x hx))]
  rw [e3, sum_const, List.length_range]
  omega
theorem Pre.nil (hs : Hs) : Pre hs [] := ⟨List.nodup_nil, fun _ h => absurd h List.not_mem_nil, fun _ h => absurd h List.not_mem_nil⟩
theorem Pre.snoc {hs : Hs} {r : List Nat} {v : Nat} (p : Pre hs r) (h : v ∈ av hs r) : Pre hs (r ++ [v]) := by
  obtain ⟨h1, h2, h3⟩ := av_mem.mp h
  refine ⟨List.nodup_append.mpr ⟨p.nd, List.nodup_cons.mpr ⟨List.not_mem_nil, List.nodup_nil⟩, fun a ha b hb => ?_⟩, fun x hx => ?_, fun x hx u e => ?_⟩
  · rw [List.mem_singleton.mp hb]
    intro z; subst z; exact h2 ha
  · rcases List.mem_append.mp hx with hx | hx
    · exact p.lt x hx
    · rw [List.mem_singleton.mp hx]; exact h1
  · rcases List.mem_append.mp hx with hx | hx
    · exact List.mem_append_left _ (p.cl x hx u e)
    · rw [List.mem_singleton.mp hx] at e
      exact List.mem_append_left _ (h3 u e)

/-! ### how many ways there are on behind a beginning -/
def ext (hs : Hs) (r : List Nat) : List (List Nat) := (av hs r).map fun v => r ++ [v]
def rowsAt (hs : Hs) : Nat → List (List Nat)
  | 0 => [[]]
  | k + 1 => (rowsAt hs k).flatMap (ext hs)
def more (hs : Hs) : Nat → List Nat → Int
  | 0, _ => 1
  | k + 1, r => ((av hs r).map fun v => more hs k (r ++ [v])).sum
def facs (hs : Hs) (r : List Nat) (cs : List Nat) : List Int := cs.map fun w => if w ∈ r then 1 else (szL hs).getD w 0
def rest (hs : Hs) (r : List Nat) : Int := (facs hs r (List.range hs.length)).prod
theorem facs_same {hs : Hs} {r : List Nat} {v : Nat} : ∀ {cs : List Nat}, v ∉ cs → facs hs (r ++ [v]) cs = facs hs r cs := fun {cs} hv => List.map_congr_left fun w hw => by
  have e : w ∈ r ++ [v] ↔ w ∈ r := by
    rw [List.mem_append, List.mem_singleton]
    exact ⟨fun h => h.elim id fun z => absurd (z ▸ hw) hv, .inl⟩
  by_cases c : w ∈ r
  · rw [if_pos c, if_pos (e.mpr c)]
  · rw [if_neg c, if_neg fun z => c (e.mp z)]
theorem facs_prod {hs : Hs} {r : List Nat} {v : Nat} (hr : v ∉ r) : ∀ {cs : List Nat}, cs.Nodup → v ∈ cs → (facs hs r cs).prod = (facs hs (r ++ [v]) cs).prod * (szL hs).getD v 0
  | c :: cs, nd, hv => by
    obtain ⟨n1, n2⟩ := List.nodup_cons.mp nd
    show ((if c ∈ r then 1 else (szL hs).getD c 0) :: facs hs r cs).prod = ((if c ∈ r ++ [v] then 1 else (szL hs).getD c 0) :: facs hs (r ++ [v]) cs).prod * _
    rw [List.prod_cons, List.prod_cons]
    by_cases e : v = c
    · subst e
      rw [if_neg hr, if_pos (List.mem_append_right _ List.mem_cons_self), facs_same n1, Int.one_mul, Int.mul_comm]
    · have hv2 : v ∈ cs := (List.mem_cons.mp hv).resolve_left e
      rw [facs_prod hr n2 hv2]
      have e2 : c ∈ r ++ [v] ↔ c ∈ r := by
        rw [List.mem_append, List.mem_singleton]
        exact ⟨fun h => h.elim id fun z => absurd z.symm e, .inl⟩
      by_cases m : c ∈ r
      · rw [if_pos m, if_pos (e2.mpr m), Int.mul_assoc]
      · rw [if_neg m, if_neg (fun z => m (e2.mp z)), Int.mul_assoc]
theorem rest_pos {hs : Hs} (fo : Fo hs) (r : List Nat) : 0 < rest hs r := by
  have key : ∀ cs : List Nat, (∀ c ∈ cs, c < hs.length) → 0 < (facs hs r cs).prod := fun cs => by
    induction cs with
    | nil => intro _; exact Int.one_pos
    | cons c cs ih =>
      intro h
      show 0 < ((if c ∈ r then 1 else (szL hs).getD c 0) :: facs hs r cs).prod
      rw [List.prod_cons]
      have p := ih fun x hx => h x (List.mem_cons_of_mem _ hx)
      have q := (szL_at fo (h c List.mem_cons_self)).1
      refine Int.mul_pos ?_ p
      split <;> omega
  exact key _ fun c hc => List.mem_range.mp hc
theorem rest_step {hs : Hs} {r : List Nat} {v : Nat} (h : v ∈ av hs r) : rest hs r = rest hs (r ++ [v]) * (szL hs).getD v 0 :=
  facs_prod (av_mem.mp h).2.1 List.nodup_range (List.mem_range.mpr (av_mem.mp h).1)
theorem more_rest {hs : Hs} (fo : Fo hs) : ∀ (k : Nat) (r : List Nat), Pre hs r → r.length + k = hs.length → more hs k r * rest hs r = ((fct k : Nat) : Int)
  | 0, r, p, h => by
    have full := mem_of_full hs.length r p.nd p.lt (by omega)
    have e : facs hs r (List.range hs.length) = (List.range hs.length).map fun _ => (1 : Int) := List.map_congr_left fun w hw => if_pos (full w (List.mem_range.mp hw))
    have z : ∀ cs : List Nat, (cs.map fun _ => (1 : Int)).prod = 1 := fun cs => by
      induction cs with
      | nil => rfl
      | cons c cs ih => rw [List.map_cons, List.prod_cons, ih]; rfl
    unfold rest
    rw [e, z]; rfl
  | k + 1, r, p, h => by
    show ((av hs r).map fun v => more hs k (r ++ [v])).sum * rest hs r = _
    have e : ∀ cs : List Nat, (∀ v ∈ cs, v ∈ av hs r) → (cs.map fun v => more hs k (r ++ [v])).sum * rest hs r = ((fct k : Nat) : Int) * (cs.map fun v => (szL hs).getD v 0).sum := fun cs => by
      induction cs with
      | nil => intro _; show (0 : Int) * _ = _ * 0; rw [Int.zero_mul, Int.mul_zero]
      | cons v cs ih =>
        intro hc
        have hv := hc v List.mem_cons_self
        rw [List.map_cons, List.sum_cons, List.map_cons, List.sum_cons, Int.add_mul, ih fun x hx => hc x (List.mem_cons_of_mem _ hx), Int.mul_add]
        congr 1
        rw [rest_step hv, ← Int.mul_assoc, more_rest fo k (r ++ [v]) (p.snoc hv) (by rw [List.length_append]; show _ + 1 + k = _; omega)]
    rw [e _ fun _ h => h, av_sum fo p]
    have z : (hs.length : Int) - (r.length : Int) = ((k + 1 : Nat) : Int) := by omega
    rw [z, fct]; rfl
theorem more_step {hs : Hs} (fo : Fo hs) {k : Nat} {r : List Nat} (p : Pre hs r) (h : r.length + (k + 1) = hs.length) {v : Nat} (hv : v ∈ av hs r) : more hs (k + 1) r * (szL hs).getD v 0 = ((k + 1 : Nat) : Int) * more hs k (r ++ [v]) := by
  have a := more_rest fo (k + 1) r p h
  have b := more_rest fo k (r ++ [v]) (p.snoc hv) (by rw [List.length_append]; show _ + 1 + k = _; omega)
  have c := rest_pos fo (r ++ [v])
  rw [rest_step hv, fct, Int.natCast_mul, ← b] at a
  refine Int.eq_of_mul_eq_mul_right (Int.ne_of_gt c) ?_
  have e1 : more hs (k + 1) r * (szL hs).getD v 0 * rest hs (r ++ [v]) = more hs (k + 1) r * (rest hs (r ++ [v]) * (szL hs).getD v 0) := by rw [Int.mul_assoc, Int.mul_comm ((szL hs).getD v 0)]
  have e2 : ((k + 1 : Nat) : Int) * more hs k (r ++ [v]) * rest hs (r ++ [v]) = more hs k (r ++ [v]) * rest hs (r ++ [v]) * ((k + 1 : Nat) : Int) := by rw [Int.mul_assoc, Int.mul_comm]
  rw [e1, e2, a]
/-- over all beginnings of so many -/
def over (hs : Hs) (j : Nat) (f : List Nat → Int) : Int := ((rowsAt hs j).map f).sum
theorem over_step (hs : Hs) (j : Nat) (f : List Nat → Int) : over hs (j + 1) f = over hs j fun r => ((av hs r).map fun v => f (r ++ [v])).sum := by
  show (((rowsAt hs j).flatMap (ext hs)).map f).sum = _
  unfold over
  generalize rowsAt hs j = rs
  induction rs with
  | nil => rfl
  | cons r rs ih =>
    rw [List.flatMap_cons, List.map_append, List.sum_append, ih, List.map_cons, List.sum_cons]
    congr 1
    unfold ext
    rw [List.map_map]; rfl
theorem rows_pre (hs : Hs) : ∀ (j : Nat) (r : List Nat), r ∈ rowsAt hs j → Pre hs r ∧ r.length = j
  | 0, r, h => by
    rw [List.mem_singleton.mp h]
    exact ⟨Pre.nil hs, rfl⟩
  | j + 1, r, h => by
    obtain ⟨q, hq, hr⟩ := List.mem_flatMap.mp h
    obtain ⟨v, hv, rfl⟩ := List.mem_map.mp hr
    obtain ⟨p, l⟩ := rows_pre hs j q hq
    exact ⟨p.snoc hv, by rw [List.length_append, l]; rfl⟩
theorem over_congr {hs : Hs} {j : Nat} {f g : List Nat → Int} (h : ∀ r, Pre hs r → r.length = j → f r = g r) : over hs j f = over hs j g := by
  unfold over
  congr 1
  exact List.map_congr_left fun r hr => h r (rows_pre hs j r hr).1 (rows_pre hs j r hr).2

theorem over_on {hs : Hs} {f : List Nat → Int} {j0 : Nat} (h : ∀ r v, j0 ≤ r.length → f (r ++ [v]) = f r) : ∀ d j : Nat, j + d = hs.length → j0 ≤ j → over hs hs.length f = over hs j fun r => f r * more hs d r
  | 0, j, e, _ => by
    have ej : j = hs.length := by omega
    subst ej
    refine over_congr fun r _ _ => ?_
    show f r = f r * 1
    rw [Int.mul_one]
  | d + 1, j, e, hj => by
    rw [over_on h d (j + 1) (by omega) (by omega), over_step]
    refine over_congr fun r _ hr => ?_
    have e1 : (av hs r).map (fun v => f (r ++ [v]) * more hs d (r ++ [v])) = (av hs r).map fun v => f r * more hs d (r ++ [v]) := List.map_congr_left fun v _ => by rw [h r v (by omega)]
    rw [e1, sum_mul]; rfl
theorem rows_many (hs : Hs) : ((rowsAt hs hs.length).length : Int) = more hs hs.length [] := by
  have h := over_on (hs := hs) (f := fun _ => 1) (j0 := 0) (fun _ _ _ => rfl) hs.length 0 (Nat.zero_add _) (Nat.le_refl 0)
  have e : over hs hs.length (fun _ => 1) = ((rowsAt hs hs.length).length : Int) := by
    unfold over
    generalize rowsAt hs hs.length = rs
    induction rs with
    | nil => rfl
    | cons r rs ih => rw [List.map_cons, List.sum_cons, ih, List.length_cons]; omega
  rw [← e, h]
  show 1 * more hs hs.length [] + 0 = _
  rw [Int.one_mul, Int.add_zero]

theorem cntL_more {hs : Hs} (fo : Fo hs) : cntL hs = more hs hs.length [] := by
  have a := more_rest fo hs.length [] (Pre.nil hs) (by rw [List.length_nil, Nat.zero_add])
  have key : ∀ (F : List Int) (x : Int), (∀ y ∈ F, 1 ≤ y) → divAll (x * F.prod) F = x := fun F => by
    induction F with
    | nil => intro x _; show x * 1 = x; rw [Int.mul_one]
    | cons y F ih =>
      intro x h
      have hy := h y List.mem_cons_self
      show divAll (x * (y :: F).prod / y) F = x
      rw [List.prod_cons, show x * (y * F.prod) = (x * F.prod) * y by rw [Int.mul_comm y, Int.mul_assoc], Int.mul_ediv_cancel _ (by omega)]
      exact ih x fun z hz => h z (List.mem_cons_of_mem _ hz)
  have e : rest hs [] = (szL hs).prod := by
    unfold rest facs
    congr 1
    have lz : (szL hs).length = hs.length := (szL_ok fo).1
    refine List.ext_getElem (by rw [List.length_map, List.length_range, lz]) fun i h1 h2 => ?_
    rw [List.getElem_map, if_neg List.not_mem_nil, List.getElem_range, List.getD_eq_getElem?_getD, List.getElem?_eq_getElem h2]; rfl
  unfold cntL
  rw [← a, e]
  refine key _ _ fun y hy => ?_
  obtain ⟨i, ei⟩ := List.getElem?_of_mem hy
  have hi := (List.getElem?_eq_some_iff.mp ei).1
  have lz : (szL hs).length = hs.length := (szL_ok fo).1
  have b := szL_at fo (show i < hs.length by omega)
  rw [List.getD_eq_getElem?_getD, ei] at b
  exact b.1
theorem cntL_rows {hs : Hs} (fo : Fo hs) : cntL hs = ((rowsAt hs hs.length).length : Int) := by rw [rows_many, cntL_more fo]

theorem cnt_pos {hs : Hs} (fo : Fo hs) : 1 ≤ cntL hs := by
  rw [cntL_more fo]
  have a := more_rest fo hs.length [] (Pre.nil hs) (by rw [List.length_nil, Nat.zero_add])
  have b := rest_pos fo []
  have f : (0 : Int) < ((fct hs.length : Nat) : Int) := by
    have key : ∀ n, 0 < fct n := fun n => by
      induction n with
      | zero => exact Nat.one_pos
      | succ n ih => rw [fct]; exact Nat.mul_pos ih (Nat.succ_pos n)
    exact Int.ofNat_lt.mpr (key _)
  by_cases c : 1 ≤ more hs hs.length []
  · exact c
  · have z : more hs hs.length [] * rest hs [] ≤ 0 := Int.mul_nonpos_of_nonpos_of_nonneg (by omega) (Int.le_of_lt b)
    omega

/-! ### rows by which of two is ahead -/
theorem idx_ne {x a : Nat} {q : List Nat} (h : x ≠ a) : (x :: q).idxOf a = q.idxOf a + 1 := by
  rw [List.idxOf_cons, beq_false_of_ne h]; rfl
theorem sub_idx {a b : Nat} : ∀ {q : List Nat}, q.Nodup → [a, b].Sublist q → q.idxOf a < q.idxOf b
  | [], _, h => by cases h
  | x :: q, nd, h => by
    obtain ⟨n1, n2⟩ := List.nodup_cons.mp nd
    cases h with
    | cons _ h =>
      have ma : a ∈ q := h.subset List.mem_cons_self
      have mb : b ∈ q := h.subset (List.mem_cons_of_mem _ List.mem_cons_self)
      have ih := sub_idx n2 h
      rw [idx_ne (fun z : x = a => n1 (by rw [z]; exact ma)), idx_ne (fun z : x = b => n1 (by rw [z]; exact mb))]
      omega
    | cons_cons _ h =>
      have mb : b ∈ q := h.subset List.mem_cons_self
      rw [List.idxOf_cons_self, idx_ne (fun z : a = b => n1 (by rw [z]; exact mb))]
      omega
theorem idx_sub {a b : Nat} : ∀ {q : List Nat}, b ∈ q → q.idxOf a < q.idxOf b → [a, b].Sublist q
  | [], h, _ => by cases h
  | x :: q, h, l => by
    have nb : x ≠ b := fun z => by rw [z, List.idxOf_cons_self] at l; omega
    have mb : b ∈ q := (List.mem_cons.mp h).elim (fun z => absurd z.symm nb) id
    by_cases e : x = a
    · subst e
      exact .cons_cons _ (List.singleton_sublist.mpr mb)
    · rw [idx_ne e, idx_ne nb] at l
      exact .cons _ (idx_sub mb (by omega))
structure Row (hs : Hs) (q : List Nat) : Prop where
  nd : q.Nodup
  lt : ∀ v ∈ q, v < hs.length
  bh : ∀ v u : Nat, v ∈ q → hs[v]? = some (some u) → [u, v].Sublist q
theorem row_snoc {hs : Hs} {q : List Nat} {v : Nat} : Row hs (q ++ [v]) ↔ Row hs q ∧ v ∈ av hs q := by
  constructor
  · intro r
    obtain ⟨n1, _, n3⟩ := List.nodup_append.mp r.nd
    have nv : v ∉ q := fun m => n3 v m v (List.mem_singleton.mpr rfl) rfl
    have cut : ∀ u w, [u, w].Sublist (q ++ [v]) → (w ∈ q → [u, w].Sublist q) ∧ u ∈ q := fun u w s => by
      obtain ⟨l1, l2, e, s1, s2⟩ := List.sublist_append_iff.mp s
      rcases l1 with _ | ⟨x, _ | ⟨y, _ | ⟨z, l⟩⟩⟩
      · have z := s2.length_le
        rw [List.nil_append] at e
        rw [← e] at z
        exact absurd z (by simp)
      · have e2 := (List.cons.inj e).1
        have e3 : [w] = l2 := (List.cons.inj e).2
        subst e2
        rw [← e3] at s2
        have ew : w = v := List.mem_singleton.mp (s2.subset List.mem_cons_self)
        exact ⟨fun m => absurd (ew ▸ m) nv, s1.subset List.mem_cons_self⟩
      · have e2 := (List.cons.inj e).1
        have e3 := (List.cons.inj (List.cons.inj e).2).1
        subst e2
        subst e3
        exact ⟨fun _ => s1, s1.subset List.mem_cons_self⟩
      · have e3 := (List.cons.inj (List.cons.inj e).2).2
        cases e3
    refine ⟨⟨n1, fun x h => r.lt x (List.mem_append_left _ h), fun x u h e => (cut u x (r.bh x u (List.mem_append_left _ h) e)).1 h⟩, av_mem.mpr ⟨r.lt v (List.mem_append_right _ (List.mem_singleton.mpr rfl)), nv, fun u e => (cut u v (r.bh v u (List.mem_append_right _ (List.mem_singleton.mpr rfl)) e)).2⟩⟩
  · rintro ⟨r, m⟩
    obtain ⟨h1, h2, h3⟩ := av_mem.mp m
    refine ⟨List.nodup_append.mpr ⟨r.nd, List.nodup_cons.mpr ⟨List.not_mem_nil, List.nodup_nil⟩, fun a ha b hb => ?_⟩, fun x hx => ?_, fun x u hx e => ?_⟩
    · rw [List.mem_singleton.mp hb]
      intro z; subst z; exact h2 ha
    · rcases List.mem_append.mp hx with hx | hx
      · exact r.lt x hx
      · rw [List.mem_singleton.mp hx]; exact h1
    · rcases List.mem_append.mp hx with hx | hx
      · exact (r.bh x u hx e).trans (List.sublist_append_left _ _)
      · rw [List.mem_singleton.mp hx] at e ⊢
        exact (List.singleton_sublist.mpr (h3 u e)).append (List.Sublist.refl [v])
theorem row_nil (hs : Hs) : Row hs [] := ⟨List.nodup_nil, fun _ h => absurd h List.not_mem_nil, fun _ _ h => absurd h List.not_mem_nil⟩
theorem rows_mem {hs : Hs} : ∀ {k : Nat} {q : List Nat}, q ∈ rowsAt hs k ↔ Row hs q ∧ q.length = k
  | 0, q => by
    constructor
    · intro h
      rw [List.mem_singleton.mp h]
      exact ⟨row_nil hs, rfl⟩
    · rintro ⟨_, l⟩
      rw [List.length_eq_zero_iff.mp l]
      exact List.mem_singleton.mpr rfl
  | k + 1, q => by
    constructor
    · intro h
      obtain ⟨p, hp, hr⟩ := List.mem_flatMap.mp h
      obtain ⟨v, hv, rfl⟩ := List.mem_map.mp hr
      obtain ⟨r, l⟩ := rows_mem.mp hp
      exact ⟨row_snoc.mpr ⟨r, hv⟩, by rw [List.length_append, l]; rfl⟩
    · rintro ⟨r, l⟩
      rcases List.eq_nil_or_concat q with e | ⟨p, v, e⟩
      · rw [e] at l; cases l
      · rw [List.concat_eq_append] at e
        subst e
        rw [List.length_append] at l
        obtain ⟨r1, m⟩ := row_snoc.mp r
        exact List.mem_flatMap.mpr ⟨p, rows_mem.mpr ⟨r1, Nat.succ.inj l⟩, List.mem_map.mpr ⟨v, m, rfl⟩⟩
theorem row_full {hs : Hs} {q : List Nat} (r : Row hs q) (l : q.length = hs.length) {v : Nat} (h : v < hs.length) : v ∈ q := by
  by_cases c : v ∈ q
  · exact c
  · have z := nodup_len hs.length (v :: q) (List.nodup_cons.mpr ⟨c, r.nd⟩) fun x hx => by
      rcases List.mem_cons.mp hx with rfl | hx
      · exact h
      · exact r.lt x hx
    rw [List.length_cons] at z; omega
theorem row_ex {hs : Hs} (fo : Fo hs) : ∃ q, q ∈ rowsAt hs hs.length := by
  have a := cntL_rows fo
  have b := cnt_pos fo
  cases e : rowsAt hs hs.length with
  | nil => rw [e] at a; have : (([] : List (List Nat)).length : Int) = 0 := rfl; omega
  | cons q _ => exact ⟨q, List.mem_cons_self⟩
/-- the things of a closed set come first -/
theorem row_first {hs : Hs} {q : List Nat} (r : Row hs q) (S : Nat → Bool) (cl : ∀ v u : Nat, hs[v]? = some (some u) → S v = true → S u = true) :
    Row hs (q.filter S ++ q.filter fun v => !S v) ∧ (q.filter S ++ q.filter fun v => !S v).length = q.length ∧ (∀ x y, x ∈ q → y ∈ q → S x = true → S y = false → [x, y].Sublist (q.filter S ++ q.filter fun v => !S v)) ∧
      (∀ x y, S x = true → S y = true → [x, y].Sublist q → [x, y].Sublist (q.filter S ++ q.filter fun v => !S v)) := by
  have two : ∀ x y, S x = true → S y = true → [x, y].Sublist q → [x, y].Sublist (q.filter S ++ q.filter fun v => !S v) := fun x y hx hy s => by
    have z := s.filter S
    rw [List.filter_cons_of_pos hx, List.filter_cons_of_pos hy, List.filter_nil] at z
    exact z.trans (List.sublist_append_left _ _)
  have one : ∀ x y, x ∈ q → y ∈ q → S x = true → S y = false → [x, y].Sublist (q.filter S ++ q.filter fun v => !S v) := fun x y mx my hx hy =>
    (List.singleton_sublist.mpr (List.mem_filter.mpr ⟨mx, hx⟩)).append (List.singleton_sublist.mpr (List.mem_filter.mpr ⟨my, by rw [hy]; rfl⟩))
  refine ⟨⟨?_, fun v h => ?_, fun v u h e => ?_⟩, ?_, one, two⟩
  · refine List.nodup_append.mpr ⟨r.nd.filter _, r.nd.filter _, fun x hx y hy z => ?_⟩
    have a := (List.mem_filter.mp hx).2
    have b := (List.mem_filter.mp hy).2
    rw [← z, a] at b; cases b
  · rcases List.mem_append.mp h with h | h
    · exact r.lt v (List.mem_filter.mp h).1
    · exact r.lt v (List.mem_filter.mp h).1
  · have mv : v ∈ q := by
      rcases List.mem_append.mp h with h | h
      · exact (List.mem_filter.mp h).1
      · exact (List.mem_filter.mp h).1
    have s := r.bh v u mv e
    have mu : u ∈ q := s.subset List.mem_cons_self
    cases cv : S v with
    | true => exact two u v (cl v u e cv) cv s
    | false =>
      cases cu : S u with
      | true => exact one u v mu mv cu cv
      | false =>
        have z := s.filter fun v => !S v
        rw [List.filter_cons_of_pos (p := fun v => !S v) (by rw [cu]; rfl), List.filter_cons_of_pos (p := fun v => !S v) (by rw [cv]; rfl), List.filter_nil] at z
        exact z.trans (List.sublist_append_right _ _)
  · rw [List.length_append]
    have z := List.length_eq_countP_add_countP (p := S) (l := q)
    rw [List.countP_eq_length_filter, List.countP_eq_length_filter] at z
    have e : (q.filter fun v => !S v) = q.filter fun a => decide ¬S a = true := List.filter_congr fun v _ => by cases S v <;> rfl
    rw [e]; omega

/-! ### a closed set, what is ahead in all rows -/
def upS (hs : Hs) (a : Nat) (v : Nat) : Bool := decide (v = a ∨ v ∈ up hs a)
theorem upS_cl {hs : Hs} (fo : Fo hs) {a : Nat} (ha : a < hs.length) : ∀ v u : Nat, hs[v]? = some (some u) → upS hs a v = true → upS hs a u = true := by
  intro v u e h
  have key : ∀ {a : Nat} {l : List Nat}, Ups hs a l → (v = a ∨ v ∈ l) → u ∈ l := fun {a l} r => by
    induction r with
    | @root a h =>
      rintro (rfl | m)
      · rw [h] at e; cases e
      · cases m
    | @step a w l h r ih =>
      rintro (rfl | m)
      · rw [h] at e; cases e; exact List.mem_cons_self
      · exact List.mem_cons_of_mem _ (ih (List.mem_cons.mp m))
  exact decide_eq_true (.inr (key (fo.ups ha) (of_decide_eq_true h)))
theorem up_cons {hs : Hs} (fo : Fo hs) {b u : Nat} (e : hs[b]? = some (some u)) : up hs b = u :: up hs u := by
  have hb := (List.getElem?_eq_some_iff.mp e).1
  have hu := fo.inb b u e
  exact (fo.ups hb).inj (.step e (fo.ups hu))
theorem up_self {hs : Hs} (fo : Fo hs) {a : Nat} (ha : a < hs.length) : ¬ a ∈ up hs a := fun m => (List.nodup_cons.mp (fo.ups ha).nd).1 m
/-- what is above is ahead -/
theorem up_ahead {hs : Hs} (fo : Fo hs) {q : List Nat} (r : Row hs q) {a b : Nat} (hb : b ∈ q) (m : a ∈ up hs b) : q.idxOf a < q.idxOf b := by
  have key : ∀ {b : Nat} {l : List Nat}, Ups hs b l → b ∈ q → a ∈ l → q.idxOf a < q.idxOf b := fun {b l} u => by
    induction u with
    | root h => intro _ m; cases m
    | @step v u l h _ ih =>
      intro hv m
      have s := r.bh v u hv h
      have z := sub_idx r.nd s
      rcases List.mem_cons.mp m with rfl | m
      · exact z
      · have y := ih (s.subset List.mem_cons_self) m
        omega
  exact key (fo.ups (r.lt b hb)) hb m
/-- what isn't above need not be ahead -/
theorem not_ahead {hs : Hs} (fo : Fo hs) {a b : Nat} (ha : a < hs.length) (hb : b < hs.length) (ne : a ≠ b) (m : ¬ a ∈ up hs b) : ∃ q ∈ rowsAt hs hs.length, q.idxOf b < q.idxOf a := by
  obtain ⟨q, hq⟩ := row_ex fo
  obtain ⟨r, l⟩ := rows_mem.mp hq
  obtain ⟨r1, l1, one, _⟩ := row_first r (upS hs b) (upS_cl fo hb)
  refine ⟨_, rows_mem.mpr ⟨r1, l1.trans l⟩, sub_idx r1.nd (one b a (row_full r l hb) (row_full r l ha) (decide_eq_true (.inl rfl)) (decide_eq_false ?_))⟩
  rintro (z | z)
  · exact ne z
  · exact m z
/-- things above one thing are above one another -/
theorem up_chain {hs : Hs} (fo : Fo hs) {b x y : Nat} (hb : b < hs.length) (hx : x ∈ up hs b) (hy : y ∈ up hs b) (ne : x ≠ y) : x ∈ up hs y ∨ y ∈ up hs x := by
  have key : ∀ {b : Nat} {l : List Nat}, Ups hs b l → x ∈ l → y ∈ l → x ∈ up hs y ∨ y ∈ up hs x := fun {b l} u => by
    induction u with
    | root h => intro m; cases m
    | @step v u l h r ih =>
      have eu : up hs u = l := (fo.ups r.lt).inj r
      intro mx my
      rcases List.mem_cons.mp mx with ex | mx2
      · rcases List.mem_cons.mp my with ey | my2
        · exact absurd (ex.trans ey.symm) ne
        · exact .inr (by rw [ex, eu]; exact my2)
      · rcases List.mem_cons.mp my with ey | my2
        · exact .inl (by rw [ey, eu]; exact mx2)
        · exact ih mx2 my2
  exact key (fo.ups hb) hx hy
/-- rows with both of two orders, both ahead of a third thing -/
theorem both_ahead {hs : Hs} (fo : Fo hs) {a b u : Nat} (ha : a < hs.length) (e : hs[b]? = some (some u)) (ne : a ≠ b) (n1 : ¬ a ∈ up hs b) (n2 : ¬ b ∈ up hs a) (n3 : ¬ u ∈ up hs a) :
    (∃ q ∈ rowsAt hs hs.length, q.idxOf u < q.idxOf a ∧ q.idxOf a < q.idxOf b) ∧ ∃ q ∈ rowsAt hs hs.length, q.idxOf a < q.idxOf u ∧ q.idxOf a < q.idxOf b := by
  have hb := (List.getElem?_eq_some_iff.mp e).1
  have hu := fo.inb b u e
  rw [up_cons fo e] at n1
  have nau : a ≠ u := fun z => n1 (z ▸ List.mem_cons_self)
  have nau2 : ¬ a ∈ up hs u := fun z => n1 (List.mem_cons_of_mem _ z)
  have nbu : ¬ (b = u ∨ b ∈ up hs u) := fun z => up_self fo hb (by rw [up_cons fo e]; exact z.elim (fun y => y ▸ List.mem_cons_self) (List.mem_cons_of_mem _))
  let S2 : Nat → Bool := fun v => upS hs u v || upS hs a v
  have cl2 : ∀ v w : Nat, hs[v]? = some (some w) → S2 v = true → S2 w = true := fun v w ew h => by
    rcases Bool.or_eq_true_iff.mp h with h | h
    · exact Bool.or_eq_true_iff.mpr (.inl (upS_cl fo hu v w ew h))
    · exact Bool.or_eq_true_iff.mpr (.inr (upS_cl fo ha v w ew h))
  have s2u : S2 u = true := Bool.or_eq_true_iff.mpr (.inl (decide_eq_true (.inl rfl)))
  have s2a : S2 a = true := Bool.or_eq_true_iff.mpr (.inr (decide_eq_true (.inl rfl)))
  have s2b : S2 b = false := by
    show (upS hs u b || upS hs a b) = false
    have h1 : upS hs u b = false := decide_eq_false nbu
    have h2 : upS hs a b = false := decide_eq_false (by rintro (z | z); exact ne z.symm; exact n2 z)
    rw [h1, h2]; rfl
  obtain ⟨q, hq⟩ := row_ex fo
  obtain ⟨r, l⟩ := rows_mem.mp hq
  have go : ∀ (S : Nat → Bool), (∀ v w : Nat, hs[v]? = some (some w) → S v = true → S w = true) → ∀ x y, S2 x = true → S2 y = true → S x = true → S y = false → x < hs.length → y < hs.length → ∃ q ∈ rowsAt hs hs.length, q.idxOf x < q.idxOf y ∧ q.idxOf a < q.idxOf b := fun S cl x y x2 y2 x1 y1 hx hy => by
    obtain ⟨r1, l1, one, _⟩ := row_first r S cl
    have s1 := one x y (row_full r l hx) (row_full r l hy) x1 y1
    have l1' := l1.trans l
    obtain ⟨r2, l2, one2, two2⟩ := row_first r1 S2 cl2
    exact ⟨_, rows_mem.mpr ⟨r2, l2.trans l1'⟩, sub_idx r2.nd (two2 x y x2 y2 s1), sub_idx r2.nd (one2 a b (row_full r1 l1' ha) (row_full r1 l1' hb) s2a s2b)⟩
  constructor
  · exact go (upS hs u) (upS_cl fo hu) u a s2u s2a (decide_eq_true (.inl rfl)) (decide_eq_false (by rintro (z | z); exact nau z; exact nau2 z)) hu ha
  · exact go (upS hs a) (upS_cl fo ha) a u s2a s2u (decide_eq_true (.inl rfl)) (decide_eq_false (by rintro (z | z); exact nau z.symm; exact n3 z)) ha hu
def keptR (hs : Hs) (a b : Nat) : List (List Nat) := (rowsAt hs hs.length).filter fun q => decide (q.idxOf a < q.idxOf b)
theorem kept_mem {hs : Hs} {a b : Nat} {q : List Nat} : q ∈ keptR hs a b ↔ q ∈ rowsAt hs hs.length ∧ q.idxOf a < q.idxOf b := by
  unfold keptR
  rw [List.mem_filter, decide_eq_true_eq]
/-- no forest has just the rows with a thing ahead of another one -/
theorem no_forest {hs : Hs} (fo : Fo hs) {a b u : Nat} (ha : a < hs.length) (e : hs[b]? = some (some u)) (ne : a ≠ b) (n1 : ¬ a ∈ up hs b) (n2 : ¬ b ∈ up hs a) (n3 : ¬ u ∈ up hs a)
    {G : Hs} (fg : Fo G) (len : G.length = hs.length) : rowsAt G G.length ≠ keptR hs a b := fun z => by
  have hb := (List.getElem?_eq_some_iff.mp e).1
  have hu := fo.inb b u e
  have nau : a ≠ u := fun z => n1 (by rw [up_cons fo e, z]; exact List.mem_cons_self)
  have ab : a ∈ up G b := by
    by_cases m : a ∈ up G b
    · exact m
    · obtain ⟨q, hq, w⟩ := not_ahead fg (by omega) (by omega) ne m
      rw [z] at hq
      have := (kept_mem.mp hq).2
      omega
  have ub : u ∈ up G b := by
    by_cases m : u ∈ up G b
    · exact m
    · have nub : u ≠ b := fun y => by
        have := (fo.ups hb)
        rw [y] at e
        exact up_self fo hb (by rw [up_cons fo e]; exact List.mem_cons_self)
      obtain ⟨q, hq, w⟩ := not_ahead fg (by omega) (by omega) nub m
      rw [z] at hq
      obtain ⟨r, l⟩ := rows_mem.mp (kept_mem.mp hq).1
      have := sub_idx r.nd (r.bh b u (row_full r l hb) e)
      omega
  obtain ⟨⟨q1, h1, w1, x1⟩, ⟨q2, h2, w2, x2⟩⟩ := both_ahead fo ha e ne n1 n2 n3
  have g1 : q1 ∈ rowsAt G G.length := by rw [z]; exact kept_mem.mpr ⟨h1, x1⟩
  have g2 : q2 ∈ rowsAt G G.length := by rw [z]; exact kept_mem.mpr ⟨h2, x2⟩
  obtain ⟨r1, l1⟩ := rows_mem.mp g1
  obtain ⟨r2, l2⟩ := rows_mem.mp g2
  rcases up_chain fg (by omega) ab ub nau with m | m
  · have := up_ahead fg r1 (row_full r1 l1 (by omega)) m
    omega
  · have := up_ahead fg r2 (row_full r2 l2 (by omega)) m
    omega

end My

namespace My
open PySem PySem.Spec PyProof.Rows L2
theorem posOf_some {l : List Nat} {u j : Nat} (h : posOf l u = some j) : l[j]? = some u := by
  unfold posOf at h
  obtain ⟨hj, h1, _⟩ := List.findIdx?_eq_some_iff_getElem.mp h
  rw [List.getElem?_eq_getElem hj, of_decide_eq_true h1]
theorem posOf_mem {l : List Nat} {u : Nat} (h : u ∈ l) : ∃ j, posOf l u = some j := by
  unfold posOf
  cases e : l.findIdx? fun v => decide (v = u) with
  | some j => exact ⟨j, rfl⟩
  | none => exact absurd (List.findIdx?_eq_none_iff.mp e u h) (by simp)
theorem among_at {hs : Hs} {l : List Nat} {i v : Nat} (h : l[i]? = some v) : (amongH hs l)[i]? = some (match hs[v]? with
  | some (some u) => posOf l u
  | _ => none) := by
  unfold amongH
  rw [List.getElem?_map, h]; rfl
theorem fo_among {hs : Hs} {l : List Nat} (fo : Fo hs) (ne : l ≠ []) (nd : l.Nodup) (hlt : ∀ v ∈ l, v < hs.length) : Fo (amongH hs l) := by
  have key : ∀ v, Rch hs v → ∀ i, l[i]? = some v → Rch (amongH hs l) i := fun v r => by
    induction r with
    | @root v h =>
      intro i e
      refine .root ?_
      rw [among_at e, h]
    | @step v u h r ih =>
      intro i e
      by_cases m : u ∈ l
      · obtain ⟨j, ej⟩ := posOf_mem m
        refine .step (u := j) ?_ (ih j (posOf_some ej))
        rw [among_at e, h]
        show some (posOf l u) = _
        rw [ej]
      · refine .root ?_
        rw [among_at e, h]
        show some (posOf l u) = _
        rw [posOf_none m]
  refine ⟨fun z => ne ?_, fun v u e => ?_, fun v hv' => ?_⟩
  · have q := congrArg List.length z
    rw [among_len] at q
    exact List.eq_nil_of_length_eq_zero q
  · rw [among_len]
    have lt := (List.getElem?_eq_some_iff.mp e).1
    rw [among_len] at lt
    rw [among_at (List.getElem?_eq_getElem lt)] at e
    have e2 := Option.some.inj e
    cases eh : hs[l[v]]? with
    | none => rw [eh] at e2; cases e2
    | some o =>
      rw [eh] at e2
      cases o with
      | none => cases e2
      | some w =>
        have e3 : posOf l w = some u := e2
        exact (List.getElem?_eq_some_iff.mp (posOf_some e3)).1
  · rw [among_len] at hv'
    exact key l[v] (fo.all _ (hlt _ (List.getElem_mem hv'))) v (List.getElem?_eq_getElem hv')

/-! ### the things by their places in the walk -/
abbrev fw (hs : Hs) : Hs := amongH hs (wk hs)
theorem fw_len {hs : Hs} (fo : Fo hs) : (fw hs).length = hs.length := by rw [among_len, (wk_sq fo).len]
theorem wk_at {hs : Hs} (fo : Fo hs) {v : Nat} (h : v < hs.length) : (wk hs)[pz hs v]? = some v := by
  obtain ⟨i, e⟩ := List.getElem?_of_mem ((wk_sq fo).mem.mpr h)
  rw [pz_at fo e]; exact e
theorem pz_lt {hs : Hs} (fo : Fo hs) {v : Nat} (h : v < hs.length) : pz hs v < hs.length := (pz_pos fo h).2
theorem pz_inj {hs : Hs} (fo : Fo hs) {a b : Nat} (ha : a < hs.length) (hb : b < hs.length) (e : pz hs a = pz hs b) : a = b := by
  have x := wk_at fo ha
  rw [e, wk_at fo hb] at x
  exact (Option.some.inj x).symm
theorem fw_fo {hs : Hs} (fo : Fo hs) : Fo (fw hs) := fo_among fo (fun z => by
  have l := (wk_sq fo).len
  rw [z] at l
  exact fo.ne (List.eq_nil_of_length_eq_zero l.symm)) (wk_sq fo).nd fun v m => (wk_sq fo).mem.mp m
theorem fw_at {hs : Hs} (fo : Fo hs) {v : Nat} {o : Option Nat} (h : hs[v]? = some o) : (fw hs)[pz hs v]? = some (o.map (pz hs)) := by
  have hv := (List.getElem?_eq_some_iff.mp h).1
  rw [among_at (wk_at fo hv), h]
  cases o with
  | none => rfl
  | some u =>
    show some (posOf (wk hs) u) = _
    rw [(pz_pos fo (fo.inb v u h)).1]; rfl
theorem fw_ups {hs : Hs} (fo : Fo hs) {v : Nat} {l : List Nat} (a : Ups hs v l) : Ups (fw hs) (pz hs v) (l.map (pz hs)) := by
  induction a with
  | root h => exact .root (fw_at fo h)
  | step h r ih => exact .step (fw_at fo h) ih
theorem fw_up {hs : Hs} (fo : Fo hs) {v : Nat} (h : v < hs.length) : My.up (fw hs) (pz hs v) = (My.up hs v).map (pz hs) := (fw_ups fo (fo.ups h)).up
/-! ### a thing's holder is the thing before it in the walk, or one above that -/
def Nx (hs : Hs) (x y : Nat) : Prop := ∀ u : Nat, hs[y]? = some (some u) → u = x ∨ Blw hs u x
theorem blw_trans {hs : Hs} {a b x : Nat} (h : Blw hs b x) (k : Blw hs a b) : Blw hs a x := by
  induction h with
  | kid h => exact .step h k
  | step h r ih => exact .step h ih
inductive Cn (hs : Hs) : List Nat → Prop where
  | nil : Cn hs []
  | one (x : Nat) : Cn hs [x]
  | cons {x y : Nat} {l : List Nat} (h : Nx hs x y) (r : Cn hs (y :: l)) : Cn hs (x :: y :: l)
theorem cn_app {hs : Hs} : ∀ {a b : List Nat}, Cn hs a → Cn hs b → (∀ x ∈ a, ∀ y, b.head? = some y → Nx hs x y) → Cn hs (a ++ b)
  | [], b, _, h, _ => h
  | [x], [], _, _, _ => .one x
  | [x], y :: b, _, h, k => .cons (k x List.mem_cons_self y rfl) h
  | x :: y :: a, b, h1, h, k => by
    cases h1 with
    | cons h1 h2 => exact .cons h1 (cn_app h2 h fun z m => k z (List.mem_cons_of_mem _ m))
theorem cn_at {hs : Hs} : ∀ {l : List Nat}, Cn hs l → ∀ {i x y : Nat}, l[i]? = some x → l[i + 1]? = some y → Nx hs x y
  | [], _, i, x, y, e, _ => by cases e
  | [a], _, i, x, y, _, e => by cases e
  | a :: b :: l, h, i, x, y, e1, e2 => by
    cases h with
    | cons h r =>
      cases i with
      | zero =>
        rw [← Option.some.inj e1, ← Option.some.inj e2]; exact h
      | succ i => exact cn_at r e1 e2
theorem pre_cn {hs : Hs} : ∀ (k v : Nat), Cn hs (preF hs k v) ∧ (preF hs k v).head? = some v ∧ ∀ x ∈ preF hs k v, x = v ∨ Blw hs v x
  | 0, v => ⟨.one v, rfl, fun x m => .inl (List.mem_singleton.mp m)⟩
  | k + 1, v => by
    have blk : ∀ cs : List Nat, (∀ c ∈ cs, hs[c]? = some (some v)) → Cn hs (cs.flatMap (preF hs k)) ∧ (∀ y, (cs.flatMap (preF hs k)).head? = some y → y ∈ cs) ∧ ∀ x ∈ cs.flatMap (preF hs k), Blw hs v x := fun cs => by
      induction cs with
      | nil => exact fun _ => ⟨.nil, fun y e => (by cases e), fun x m => absurd m List.not_mem_nil⟩
      | cons c cs ih =>
        intro h
        obtain ⟨i1, i2, i3⟩ := ih fun d m => h d (List.mem_cons_of_mem _ m)
        obtain ⟨p1, p2, p3⟩ := pre_cn (hs := hs) k c
        have hc := h c List.mem_cons_self
        have below : ∀ x ∈ preF hs k c, Blw hs v x := fun x m => (p3 x m).elim (fun e => by rw [e]; exact .kid hc) fun b => blw_trans b (.kid hc)
        rw [List.flatMap_cons]
        refine ⟨cn_app p1 i1 (fun x m y e u hu => ?_), fun y e => ?_, fun x m => (List.mem_append.mp m).elim (below x) (i3 x)⟩
        · have hy := h y (List.mem_cons_of_mem _ (i2 y e))
          rw [hy] at hu
          cases hu
          exact .inr (below x m)
        · rw [List.head?_append, p2] at e
          cases e
          exact List.mem_cons_self
    obtain ⟨b1, b2, b3⟩ := blk (kids hs v) fun c m => mem_kids.mp m
    refine ⟨cn_app (a := [v]) (.one v) b1 (fun x m y e u hu => ?_), rfl, fun x m => (List.mem_cons.mp m).elim .inl fun z => .inr (b3 x z)⟩
    rw [List.mem_singleton.mp m]
    have hy := mem_kids.mp (b2 y e)
    rw [hy] at hu
    cases hu
    exact .inl rfl
theorem wk_cn (hs : Hs) : Cn hs (wk hs) := by
  have blk : ∀ cs : List Nat, (∀ c ∈ cs, hs[c]? = some none) → Cn hs (cs.flatMap (pre hs)) ∧ ∀ y, (cs.flatMap (pre hs)).head? = some y → y ∈ cs := fun cs => by
    induction cs with
    | nil => exact fun _ => ⟨.nil, fun y e => (by cases e)⟩
    | cons c cs ih =>
      intro h
      obtain ⟨i1, i2⟩ := ih fun d m => h d (List.mem_cons_of_mem _ m)
      obtain ⟨p1, p2, p3⟩ := pre_cn (hs := hs) hs.length c
      rw [List.flatMap_cons]
      refine ⟨cn_app p1 i1 (fun x m y e u hu => ?_), fun y e => ?_⟩
      · have hy := h y (List.mem_cons_of_mem _ (i2 y e))
        rw [hy] at hu
        cases hu
      · rw [List.head?_append, show (pre hs c).head? = some c from p2] at e
        cases e
        exact List.mem_cons_self
  exact (blk (roots hs) fun c m => mem_roots.mp m).1
def plainB (F : Hs) : Bool := (List.range F.length).all fun j => match F[j + 1]? with
  | some (some u) => decide (u ∈ j :: My.up F j)
  | _ => true
theorem fw_plain {hs : Hs} (fo : Fo hs) : plainB (fw hs) = true := by
  refine List.all_eq_true.mpr fun j hj => ?_
  cases e : (fw hs)[j + 1]? with
  | none => rfl
  | some o =>
    cases o with
    | none => rfl
    | some w =>
      have j1 := (List.getElem?_eq_some_iff.mp e).1
      rw [fw_len fo] at j1
      have wl := (wk_sq fo).len
      obtain ⟨x, ex⟩ : ∃ x, (wk hs)[j]? = some x := ⟨_, List.getElem?_eq_getElem (by omega)⟩
      obtain ⟨y, ey⟩ : ∃ y, (wk hs)[j + 1]? = some y := ⟨_, List.getElem?_eq_getElem (by omega)⟩
      have hx : x < hs.length := (wk_sq fo).mem.mp (List.mem_of_getElem? ex)
      have hy : y < hs.length := (wk_sq fo).mem.mp (List.mem_of_getElem? ey)
      have px := pz_at fo ex
      have py := pz_at fo ey
      obtain ⟨o, ho⟩ : ∃ o, hs[y]? = some o := ⟨_, List.getElem?_eq_getElem hy⟩
      rw [← py, fw_at fo ho] at e
      cases o with
      | none => cases e
      | some u =>
        have eu : pz hs u = w := Option.some.inj (Option.some.inj e)
        refine decide_eq_true ?_
        rw [← px, fw_up fo hx, ← eu]
        rcases cn_at (wk_cn hs) ex ey u ho with c | b
        · rw [c]; exact List.mem_cons_self
        · exact List.mem_cons_of_mem _ (List.mem_map.mpr ⟨u, b.ups (fo.ups hx), rfl⟩)
def allH : Nat → List Hs
  | 0 => [[]]
  | k + 1 => (allH k).flatMap fun l => (none :: (List.range k).map some).map fun h => l ++ [h]
theorem allH_mem : ∀ {k : Nat} {F : Hs}, F.length = k → (∀ j u : Nat, F[j]? = some (some u) → u < j) → F ∈ allH k
  | 0, F, l, _ => by rw [List.length_eq_zero_iff.mp l]; exact List.mem_singleton.mpr rfl
  | k + 1, F, l, h => by
    rcases List.eq_nil_or_concat F with e | ⟨p, o, e⟩
    · rw [e] at l; cases l
    · rw [List.concat_eq_append] at e
      subst e
      rw [List.length_append] at l
      have lp : p.length = k := Nat.succ.inj l
      refine List.mem_flatMap.mpr ⟨p, allH_mem lp fun j u e => h j u ?_, List.mem_map.mpr ⟨o, ?_, rfl⟩⟩
      · rw [List.getElem?_append_left (List.getElem?_eq_some_iff.mp e).1]; exact e
      · cases o with
        | none => exact List.mem_cons_self
        | some u =>
          refine List.mem_cons_of_mem _ (List.mem_map.mpr ⟨u, List.mem_range.mpr ?_, rfl⟩)
          have z := h k u (by rw [List.getElem?_append_right (by omega), lp, Nat.sub_self]; rfl)
          exact z
def plains (n : Nat) : List Hs := (allH n).filter plainB
theorem fw_mem {hs : Hs} (fo : Fo hs) : fw hs ∈ plains hs.length := by
  refine List.mem_filter.mpr ⟨allH_mem (fw_len fo) fun j w e => ?_, fw_plain fo⟩
  have j1 := (List.getElem?_eq_some_iff.mp e).1
  rw [fw_len fo] at j1
  have wl := (wk_sq fo).len
  obtain ⟨y, ey⟩ : ∃ y, (wk hs)[j]? = some y := ⟨_, List.getElem?_eq_getElem (by omega)⟩
  have hy : y < hs.length := (wk_sq fo).mem.mp (List.mem_of_getElem? ey)
  obtain ⟨o, ho⟩ : ∃ o, hs[y]? = some o := ⟨_, List.getElem?_eq_getElem hy⟩
  rw [← pz_at fo ey, fw_at fo ho] at e
  cases o with
  | none => cases e
  | some u =>
    have eu : pz hs u = w := Option.some.inj (Option.some.inj e)
    obtain ⟨i, ei⟩ := List.getElem?_of_mem ((wk_sq fo).bh j y u ey ho)
    have il := (List.getElem?_eq_some_iff.mp ei).1
    rw [List.length_take] at il
    rw [List.getElem?_take_of_lt (by omega)] at ei
    rw [← eu, pz_at fo ei]; omega
/-! ### the rows by places -/
def dz (hs : Hs) (i : Nat) : Nat := (wk hs).getD i 0
theorem dz_pz {hs : Hs} (fo : Fo hs) {v : Nat} (h : v < hs.length) : dz hs (pz hs v) = v := by
  unfold dz
  rw [List.getD_eq_getElem?_getD, wk_at fo h]; rfl
theorem dz_at {hs : Hs} (fo : Fo hs) {i : Nat} (h : i < hs.length) : (wk hs)[i]? = some (dz hs i) := by
  have wl := (wk_sq fo).len
  unfold dz
  rw [List.getD_eq_getElem?_getD, List.getElem?_eq_getElem (by omega)]; rfl
theorem dz_lt {hs : Hs} (fo : Fo hs) {i : Nat} (h : i < hs.length) : dz hs i < hs.length := (wk_sq fo).mem.mp (List.mem_of_getElem? (dz_at fo h))
theorem pz_dz {hs : Hs} (fo : Fo hs) {i : Nat} (h : i < hs.length) : pz hs (dz hs i) = i := pz_at fo (dz_at fo h)
theorem nd_map {f : Nat → Nat} : ∀ {l : List Nat}, l.Nodup → (∀ a ∈ l, ∀ b ∈ l, f a = f b → a = b) → (l.map f).Nodup
  | [], _, _ => List.nodup_nil
  | x :: l, nd, h => by
    obtain ⟨n1, n2⟩ := List.nodup_cons.mp nd
    refine List.nodup_cons.mpr ⟨fun m => ?_, nd_map n2 fun a ha b hb => h a (List.mem_cons_of_mem _ ha) b (List.mem_cons_of_mem _ hb)⟩
    obtain ⟨y, my, ey⟩ := List.mem_map.mp m
    rw [h y (List.mem_cons_of_mem _ my) x List.mem_cons_self ey] at my
    exact n1 my
theorem row_fw {hs : Hs} (fo : Fo hs) {q : List Nat} (r : Row hs q) : Row (fw hs) (q.map (pz hs)) where
  nd := nd_map r.nd fun a ha b hb e => pz_inj fo (r.lt a ha) (r.lt b hb) e
  lt := fun v m => by
    obtain ⟨x, mx, rfl⟩ := List.mem_map.mp m
    rw [fw_len fo]; exact pz_lt fo (r.lt x mx)
  bh := fun v w m e => by
    obtain ⟨x, mx, rfl⟩ := List.mem_map.mp m
    obtain ⟨o, ho⟩ : ∃ o, hs[x]? = some o := ⟨_, List.getElem?_eq_getElem (r.lt x mx)⟩
    rw [fw_at fo ho] at e
    cases o with
    | none => cases e
    | some u =>
      have eu : pz hs u = w := Option.some.inj (Option.some.inj e)
      rw [← eu]
      exact (r.bh x u mx ho).map (pz hs)
theorem row_bk {hs : Hs} (fo : Fo hs) {q : List Nat} (r : Row (fw hs) q) : Row hs (q.map (dz hs)) := by
  have lt : ∀ v ∈ q, v < hs.length := fun v m => by
    have := r.lt v m
    rwa [fw_len fo] at this
  refine ⟨nd_map r.nd fun a ha b hb e => ?_, fun v m => ?_, fun v u m e => ?_⟩
  · rw [← pz_dz fo (lt a ha), ← pz_dz fo (lt b hb), e]
  · obtain ⟨x, mx, rfl⟩ := List.mem_map.mp m
    exact dz_lt fo (lt x mx)
  · obtain ⟨x, mx, rfl⟩ := List.mem_map.mp m
    have z := fw_at fo e
    rw [pz_dz fo (lt x mx)] at z
    have y := (r.bh x (pz hs u) mx z).map (dz hs)
    have w : [pz hs u, x].map (dz hs) = [u, dz hs x] := by
      show [dz hs (pz hs u), dz hs x] = _
      rw [dz_pz fo (fo.inb _ u e)]
    rw [w] at y
    exact y
theorem nodup_flat {f : List Nat → List (List Nat)} : ∀ {L : List (List Nat)}, L.Nodup → (∀ v, (f v).Nodup) → (∀ v y, y ∈ f v → y.dropLast = v) → (L.flatMap f).Nodup
  | [], _, _, _ => List.nodup_nil
  | x :: L, h, h1, h2 => by
    obtain ⟨n1, n2⟩ := List.nodup_cons.mp h
    rw [List.flatMap_cons]
    refine List.nodup_append.mpr ⟨h1 x, nodup_flat n2 h1 h2, fun a ha b hb e => ?_⟩
    subst e
    obtain ⟨y, hy, hb2⟩ := List.mem_flatMap.mp hb
    have z := (h2 x a ha).symm.trans (h2 y a hb2)
    rw [z] at n1
    exact n1 hy
theorem rowsAt_nd (hs : Hs) : ∀ k : Nat, (rowsAt hs k).Nodup
  | 0 => List.nodup_cons.mpr ⟨List.not_mem_nil, List.nodup_nil⟩
  | k + 1 => nodup_flat (rowsAt_nd hs k) (fun r => by
      unfold ext List.Nodup
      rw [List.pairwise_map]
      exact (av_nd hs r).imp fun h e => h (List.cons.inj (List.append_cancel_left e)).1) fun r y hy => by
      obtain ⟨p, _, rfl⟩ := List.mem_map.mp hy
      rw [List.dropLast_concat]
theorem fw_rows {hs : Hs} (fo : Fo hs) : ((rowsAt hs hs.length).map (List.map (pz hs))).Perm (rowsAt (fw hs) hs.length) := by
  have lt : ∀ {q : List Nat}, q ∈ rowsAt hs hs.length → Row hs q ∧ q.length = hs.length := fun m => rows_mem.mp m
  refine (List.perm_ext_iff_of_nodup ?_ (rowsAt_nd _ _)).mpr fun q => ⟨fun m => ?_, fun m => ?_⟩
  · unfold List.Nodup
    rw [List.pairwise_map]
    refine List.Pairwise.imp_of_mem (fun {a b} ha hb h e => h ?_) (rowsAt_nd hs hs.length)
    have back : ∀ {q : List Nat}, Row hs q → (q.map (pz hs)).map (dz hs) = q := fun {q} r => by
      rw [List.map_map]
      conv => rhs; rw [← List.map_id q]
      exact List.map_congr_left fun v mv => dz_pz fo (r.lt v mv)
    rw [← back (lt ha).1, ← back (lt hb).1, e]
  · obtain ⟨r, mr, rfl⟩ := List.mem_map.mp m
    obtain ⟨ro, rl⟩ := lt mr
    exact rows_mem.mpr ⟨row_fw fo ro, by rw [List.length_map, rl]⟩
  · obtain ⟨ro, rl⟩ := rows_mem.mp m
    refine List.mem_map.mpr ⟨q.map (dz hs), rows_mem.mpr ⟨row_bk fo ro, by rw [List.length_map, rl]⟩, ?_⟩
    rw [List.map_map]
    conv => rhs; rw [← List.map_id q]
    refine List.map_congr_left fun v mv => ?_
    have := ro.lt v mv
    rw [fw_len fo] at this
    exact pz_dz fo this
/-! ### sizes and depths by places -/
theorem fw_perm {hs : Hs} (fo : Fo hs) {g' g : Nat → Int} (h : ∀ v, v < hs.length → g' (pz hs v) = g v) : ((List.range hs.length).map g').Perm ((List.range hs.length).map g) := by
  have e : (List.range hs.length).map g' = (wk hs).map g := by
    refine List.ext_getElem? fun i => ?_
    rw [List.getElem?_map, List.getElem?_map]
    by_cases c : i < hs.length
    · rw [List.getElem?_range c, dz_at fo c]
      show some (g' i) = some (g (dz hs i))
      rw [← h _ (dz_lt fo c), pz_dz fo c]
    · rw [List.getElem?_eq_none (by rw [List.length_range]; omega), List.getElem?_eq_none (by rw [(wk_sq fo).len]; omega)]
      rfl
  rw [e]
  exact (wk_sq fo).perm.map g
theorem perm_sum {a b : List Int} (p : a.Perm b) : a.sum = b.sum := by
  induction p with
  | nil => rfl
  | cons x _ ih => rw [List.sum_cons, List.sum_cons, ih]
  | swap x y l => rw [List.sum_cons, List.sum_cons, List.sum_cons, List.sum_cons]; omega
  | trans _ _ h1 h2 => exact h1.trans h2
theorem ups_lt {hs : Hs} (fo : Fo hs) {x : Nat} {l : List Nat} (a : Ups hs x l) : ∀ y ∈ l, y < hs.length := by
  induction a with
  | root h => exact fun y m => absurd m List.not_mem_nil
  | step h r ih => exact fun y m => (List.mem_cons.mp m).elim (fun e => by rw [e]; exact fo.inb _ _ h) (ih y)
theorem fw_cnt {hs : Hs} (fo : Fo hs) {v : Nat} (hv : v < hs.length) : cnt (fw hs) (pz hs v) hs.length = cnt hs v hs.length := by
  unfold cnt
  refine perm_sum (fw_perm fo fun x hx => ?_)
  unfold ind
  rw [fw_up fo hx]
  by_cases c : v ∈ My.up hs x
  · rw [if_pos c, if_pos (List.mem_map.mpr ⟨v, c, rfl⟩)]
  · rw [if_neg c, if_neg fun m => ?_]
    obtain ⟨y, my, ey⟩ := List.mem_map.mp m
    have hy : y < hs.length := ups_lt fo (fo.ups hx) y my
    rw [pz_inj fo hy hv ey] at my
    exact c my
theorem fw_szL {hs : Hs} (fo : Fo hs) : (szL (fw hs)).Perm (szL hs) := by
  unfold szL
  rw [fw_len fo]
  exact fw_perm fo fun v hv => by rw [fw_cnt fo hv]
def dpL (hs : Hs) : List Int := (List.range hs.length).map fun v => ((My.up hs v).length : Int)
theorem fw_dpL {hs : Hs} (fo : Fo hs) : (dpL (fw hs)).Perm (dpL hs) := by
  unfold dpL
  rw [fw_len fo]
  exact fw_perm fo fun v hv => by rw [fw_up fo hv, List.length_map]
def mostZ (hs : Hs) : Int := ((List.range hs.length).map fun v => (hs.length : Int) - (1 + cnt hs v hs.length) - ((My.up hs v).length : Int)).sum / 2
theorem fw_most {hs : Hs} (fo : Fo hs) : mostZ (fw hs) = mostZ hs := by
  unfold mostZ
  rw [fw_len fo]
  congr 1
  exact perm_sum (fw_perm fo fun v hv => by rw [fw_cnt fo hv, fw_up fo hv, List.length_map])

end My

namespace My
open PySem PySem.Spec PyProof.Rows L2
/-! ### brackets: numbers by powers -/
abbrev Ser := Nat → Int
def tS (k : Nat) (P : Ser) : Ser := fun i => P i - if k ≤ i then P (i - k) else 0
def oS (s : Nat) (P : Ser) (i : Nat) : Int := P i + if h : 0 < s ∧ s ≤ i then oS s P (i - s) else 0
termination_by i
decreasing_by omega
theorem oS_eq (s : Nat) (P : Ser) (i : Nat) : oS s P i = P i + if 0 < s ∧ s ≤ i then oS s P (i - s) else 0 := by
  rw [oS]; split <;> rfl
theorem oS_zero (P : Ser) : oS 0 P = P := by
  funext i
  rw [oS_eq, if_neg (by omega)]; omega
theorem t_o {s : Nat} (hs : 0 < s) (P : Ser) : tS s (oS s P) = P := by
  funext i
  unfold tS
  rw [oS_eq s P i]
  by_cases c : s ≤ i
  · rw [if_pos ⟨hs, c⟩, if_pos c]; omega
  · rw [if_neg fun z => c z.2, if_neg c]; omega
theorem o_t {s : Nat} (hs : 0 < s) (P : Ser) : oS s (tS s P) = P := by
  funext i
  induction i using Nat.strongRecOn with
  | ind i ih =>
    rw [oS_eq]
    unfold tS
    by_cases c : s ≤ i
    · rw [if_pos c, if_pos ⟨hs, c⟩]
      have z := ih (i - s) (by omega)
      unfold tS at z
      rw [z]; omega
    · rw [if_neg c, if_neg fun z => c z.2]; omega
theorem t_comm (a b : Nat) (P : Ser) : tS a (tS b P) = tS b (tS a P) := by
  funext i
  unfold tS
  have e : i - a - b = i - b - a := by omega
  by_cases c : a ≤ i <;> by_cases d : b ≤ i
  · rw [if_pos c, if_pos d, if_pos c, if_pos d, e]
    by_cases x : b ≤ i - a
    · rw [if_pos x, if_pos (show a ≤ i - b by omega)]; omega
    · rw [if_neg x, if_neg (show ¬ a ≤ i - b by omega)]; omega
  · rw [if_pos c, if_neg d, if_pos c, if_neg d, if_neg (show ¬ b ≤ i - a by omega)]; omega
  · rw [if_neg c, if_pos d, if_pos d, if_neg c, if_neg (show ¬ a ≤ i - b by omega)]; omega
  · rw [if_neg c, if_neg d, if_neg d, if_neg c]
theorem ot_comm (s k : Nat) (P : Ser) : oS s (tS k P) = tS k (oS s P) := by
  rcases Nat.eq_zero_or_pos s with z | z
  · rw [z, oS_zero, oS_zero]
  · have e : tS s (tS k (oS s P)) = tS k P := by rw [t_comm, t_o z]
    rw [← e, o_t z]
theorem oo_comm (a b : Nat) (P : Ser) : oS a (oS b P) = oS b (oS a P) := by
  rcases Nat.eq_zero_or_pos a with z | z
  · rw [z, oS_zero, oS_zero]
  · rcases Nat.eq_zero_or_pos b with y | y
    · rw [y, oS_zero, oS_zero]
    · have e1 : tS b (tS a (oS a (oS b P))) = P := by rw [t_o z, t_o y]
      rw [t_comm] at e1
      have e2 : tS b (oS a (oS b P)) = oS a P := by rw [← e1, o_t z, e1]
      rw [← e2, o_t y]
def deltaS : Ser := fun i => if i = 0 then 1 else 0
def tcS (s : Nat → Nat) : Nat → Ser
  | 0 => deltaS
  | v + 1 => oS (s v) (tS (v + 1) (tcS s v))
def ttS : Nat → Ser
  | 0 => deltaS
  | v + 1 => tS (v + 1) (ttS v)
theorem t_fold (k : Nat) : ∀ (l : List Nat) (P : Ser), tS k (l.foldl (fun Q x => oS x Q) P) = l.foldl (fun Q x => oS x Q) (tS k P)
  | [], _ => rfl
  | x :: l, P => by
    rw [List.foldl_cons, List.foldl_cons, t_fold k l, ot_comm]
theorem tcS_eq (s : Nat → Nat) : ∀ n : Nat, tcS s n = ((List.range n).map s).foldl (fun Q x => oS x Q) (ttS n)
  | 0 => rfl
  | n + 1 => by
    rw [List.range_succ, List.map_append, List.foldl_append]
    show oS (s n) (tS (n + 1) (tcS s n)) = oS (s n) _
    rw [tcS_eq s n, t_fold]; rfl
theorem tcS_perm {s s' : Nat → Nat} {n : Nat} (p : ((List.range n).map s).Perm ((List.range n).map s')) : tcS s n = tcS s' n := by
  rw [tcS_eq, tcS_eq]
  exact p.foldl_eq' (fun x _ y _ z => oo_comm y x z) _
/-! ### as lists -/
def serL (m : Nat) (P : Ser) : List Int := (List.range m).map P
theorem serL_len (m : Nat) (P : Ser) : (serL m P).length = m := by unfold serL; rw [List.length_map, List.length_range]
theorem serL_at {m : Nat} {P : Ser} {i : Nat} (h : i < m) : (serL m P).getD i 0 = P i := by
  unfold serL
  rw [List.getD_eq_getElem?_getD, List.getElem?_map, List.getElem?_range h]; rfl
def timesL (c : List Int) (k : Nat) : List Int := (List.range c.length).map fun i => c.getD i 0 - if k ≤ i then c.getD (i - k) 0 else 0
def overL (c : List Int) (s : Nat) : List Int := (List.range c.length).foldl (fun acc i => acc ++ [c.getD i 0 + if 0 < s ∧ s ≤ i then acc.getD (i - s) 0 else 0]) []
theorem timesL_ser (m : Nat) (P : Ser) (k : Nat) : timesL (serL m P) k = serL m (tS k P) := by
  unfold timesL
  rw [serL_len]
  refine List.map_congr_left fun i hi => ?_
  have h := List.mem_range.mp hi
  rw [serL_at h]
  unfold tS
  by_cases c : k ≤ i
  · rw [if_pos c, if_pos c, serL_at (by omega)]
  · rw [if_neg c, if_neg c]
theorem overL_ser (m : Nat) (P : Ser) (s : Nat) : overL (serL m P) s = serL m (oS s P) := by
  unfold overL
  rw [serL_len]
  have key : ∀ j : Nat, j ≤ m → (List.range j).foldl (fun acc i => acc ++ [(serL m P).getD i 0 + if 0 < s ∧ s ≤ i then acc.getD (i - s) 0 else 0]) [] = serL j (oS s P) := fun j => by
    induction j with
    | zero => exact fun _ => rfl
    | succ j ih =>
      intro hj
      rw [List.range_succ, List.foldl_append, ih (by omega)]
      show serL j (oS s P) ++ [_] = serL (j + 1) (oS s P)
      unfold serL
      rw [List.range_succ, List.map_append]
      congr 1
      show [_] = [oS s P j]
      rw [oS_eq s P j]
      congr 1
      rw [show ((List.range m).map P).getD j 0 = P j from serL_at (m := m) (P := P) (by omega)]
      congr 1
      by_cases c : 0 < s ∧ s ≤ j
      · rw [if_pos c, if_pos c]
        exact serL_at (m := j) (P := oS s P) (by omega)
      · rw [if_neg c, if_neg c]
  exact key m (Nat.le_refl m)
def tcL (s : Nat → Nat) (n m : Nat) : List Int := (List.range n).foldl (fun c v => overL (timesL c (v + 1)) (s v)) (serL m deltaS)
theorem tcL_eq (s : Nat → Nat) (m : Nat) : ∀ n : Nat, tcL s n m = serL m (tcS s n)
  | 0 => rfl
  | n + 1 => by
    have ih := tcL_eq s m n
    unfold tcL at ih ⊢
    rw [List.range_succ, List.foldl_append, ih]
    show overL (timesL (serL m (tcS s n)) (n + 1)) (s n) = _
    rw [timesL_ser, overL_ser]; rfl
def sN (hs : Hs) (v : Nat) : Nat := ((szL hs).getD v 0).toNat
theorem sN_map (hs : Hs) : (List.range hs.length).map (sN hs) = (szL hs).map Int.toNat := by
  refine List.ext_getElem? fun i => ?_
  rw [List.getElem?_map, List.getElem?_map]
  have l : (szL hs).length = hs.length := by unfold szL; rw [List.length_map, List.length_range]
  by_cases c : i < hs.length
  · rw [List.getElem?_range c, List.getElem?_eq_getElem (by omega)]
    show some (sN hs i) = some _
    unfold sN
    rw [List.getD_eq_getElem?_getD, List.getElem?_eq_getElem (by omega)]; rfl
  · rw [List.getElem?_eq_none (by rw [List.length_range]; omega), List.getElem?_eq_none (by omega)]; rfl
/-- the numbers of sequences by turned pairs -/
def tcv (hs : Hs) : List Int := serL ((mostZ hs).toNat + 1) (tcS (sN hs) hs.length)
theorem fw_tcv {hs : Hs} (fo : Fo hs) : tcv (fw hs) = tcv hs := by
  unfold tcv
  rw [fw_most fo, fw_len fo]
  congr 1
  refine tcS_perm ?_
  have e := sN_map (fw hs)
  rw [fw_len fo] at e
  rw [e, sN_map]
  exact (fw_szL fo).map _
/-! ### tallies -/
def tlN (L : List Nat) : List Int := (List.range (L.foldr max 0 + 1)).map fun k => ((L.count k : Nat) : Int)
theorem tlN_perm {a b : List Nat} (p : a.Perm b) : tlN a = tlN b := by
  unfold tlN
  have e : a.foldr max 0 = b.foldr max 0 := p.foldr_eq' (fun x _ y _ z => by omega) 0
  rw [e]
  exact List.map_congr_left fun k _ => by rw [p.count_eq]
def drN (l : List Nat) : Nat := (((List.range (l.length - 1)).filter fun i => decide (l.getD (i + 1) 0 < l.getD i 0)).map fun i => l.length - (1 + i)).sum
def chkF (F : Hs) : Bool := tlN ((rowsAt F F.length).map invR) == tcL (sN F) F.length ((mostZ F).toNat + 1) && tlN ((rowsAt F F.length).map drN) == tcL (sN F) F.length ((mostZ F).toNat + 1)

end My

namespace My
open PySem PySem.Spec PyProof.Rows L2
theorem all_split {α : Type} (p : α → Bool) (k : Nat) (l : List α) (h1 : (l.take k).all p = true) (h2 : (l.drop k).all p = true) : l.all p = true := by
  rw [← List.take_append_drop k l, List.all_append, h1, h2]; rfl
theorem chk_low : ((List.range 6).all fun n => (plains n).all chkF) = true := by decide +kernel
theorem chk6_0 : (((plains 6).drop 0).take 6).all chkF = true := by decide +kernel
theorem chk6_1 : (((plains 6).drop 6).take 6).all chkF = true := by decide +kernel
theorem chk6_2 : (((plains 6).drop 12).take 6).all chkF = true := by decide +kernel
theorem chk6_3 : (((plains 6).drop 18).take 6).all chkF = true := by decide +kernel
theorem chk6_4 : (((plains 6).drop 24).take 6).all chkF = true := by decide +kernel
theorem chk6_5 : (((plains 6).drop 30).take 6).all chkF = true := by decide +kernel
theorem chk6_6 : (((plains 6).drop 36).take 6).all chkF = true := by decide +kernel
theorem chk6_7 : (((plains 6).drop 42).take 6).all chkF = true := by decide +kernel
theorem chk6_8 : (((plains 6).drop 48).take 6).all chkF = true := by decide +kernel
theorem chk6_9 : (((plains 6).drop 54).take 6).all chkF = true := by decide +kernel
theorem chk6_10 : (((plains 6).drop 60).take 6).all chkF = true := by decide +kernel
theorem chk6_11 : (((plains 6).drop 66).take 6).all chkF = true := by decide +kernel
theorem chk6_12 : (((plains 6).drop 72).take 6).all chkF = true := by decide +kernel
theorem chk6_13 : (((plains 6).drop 78).take 6).all chkF = true := by decide +kernel
theorem chk6_14 : (((plains 6).drop 84).take 6).all chkF = true := by decide +kernel
theorem chk6_15 : (((plains 6).drop 90).take 6).all chkF = true := by decide +kernel
theorem chk6_16 : (((plains 6).drop 96).take 6).all chkF = true := by decide +kernel
theorem chk6_17 : (((plains 6).drop 102).take 6).all chkF = true := by decide +kernel
theorem chk6_18 : (((plains 6).drop 108).take 6).all chkF = true := by decide +kernel
theorem chk6_19 : (((plains 6).drop 114).take 6).all chkF = true := by decide +kernel
theorem chk6_20 : (((plains 6).drop 120).take 6).all chkF = true := by decide +kernel
theorem chk6_21 : (((plains 6).drop 126).take 6).all chkF = true := by decide +kernel
theorem chk6_r22 : ((plains 6).drop 132).all chkF = true := by decide +kernel
theorem chk6_r21 : ((plains 6).drop 126).all chkF = true := all_split _ 6 _ chk6_21 (by rw [List.drop_drop]; exact chk6_r22)
theorem chk6_r20 : ((plains 6).drop 120).all chkF = true := all_split _ 6 _ chk6_20 (by rw [List.drop_drop]; exact chk6_r21)
theorem chk6_r19 : ((plains 6).drop 114).all chkF = true := all_split _ 6 _ chk6_19 (by rw [List.drop_drop]; exact chk6_r20)
theorem chk6_r18 : ((plains 6).drop 108).all chkF = true := all_split _ 6 _ chk6_18 (by rw [List.drop_drop]; exact chk6_r19)
theorem chk6_r17 : ((plains 6).drop 102).all chkF = true := all_split _ 6 _ chk6_17 (by rw [List.drop_drop]; exact chk6_r18)
theorem chk6_r16 : ((plains 6).drop 96).all chkF = true := all_split _ 6 _ chk6_16 (by rw [List.drop_drop]; exact chk6_r17)
theorem chk6_r15 : ((plains 6).drop 90).all chkF = true := all_split _ 6 _ chk6_15 (by rw [List.drop_drop]; exact chk6_r16)
theorem chk6_r14 : ((plains 6).drop 84).all chkF = true := all_split _ 6 _ chk6_14 (by rw [List.drop_drop]; exact chk6_r15)
theorem chk6_r13 : ((plains 6).drop 78).all chkF = true := all_split _ 6 _ chk6_13 (by rw [List.drop_drop]; exact chk6_r14)
theorem chk6_r12 : ((plains 6).drop 72).all chkF = true := all_split _ 6 _ chk6_12 (by rw [List.drop_drop]; exact chk6_r13)
theorem chk6_r11 : ((plains 6).drop 66).all chkF = true := all_split _ 6 _ chk6_11 (by rw [List.drop_drop]; exact chk6_r12)
theorem chk6_r10 : ((plains 6).drop 60).all chkF = true := all_split _ 6 _ chk6_10 (by rw [List.drop_drop]; exact chk6_r11)
theorem chk6_r9 : ((plains 6).drop 54).all chkF = true := all_split _ 6 _ chk6_9 (by rw [List.drop_drop]; exact chk6_r10)
theorem chk6_r8 : ((plains 6).drop 48).all chkF = true := all_split _ 6 _ chk6_8 (by rw [List.drop_drop]; exact chk6_r9)
theorem chk6_r7 : ((plains 6).drop 42).all chkF = true := all_split _ 6 _ chk6_7 (by rw [List.drop_drop]; exact chk6_r8)
theorem chk6_r6 : ((plains 6).drop 36).all chkF = true := all_split _ 6 _ chk6_6 (by rw [List.drop_drop]; exact chk6_r7)
theorem chk6_r5 : ((plains 6).drop 30).all chkF = true := all_split _ 6 _ chk6_5 (by rw [List.drop_drop]; exact chk6_r6)
theorem chk6_r4 : ((plains 6).drop 24).all chkF = true := all_split _ 6 _ chk6_4 (by rw [List.drop_drop]; exact chk6_r5)
theorem chk6_r3 : ((plains 6).drop 18).all chkF = true := all_split _ 6 _ chk6_3 (by rw [List.drop_drop]; exact chk6_r4)
theorem chk6_r2 : ((plains 6).drop 12).all chkF = true := all_split _ 6 _ chk6_2 (by rw [List.drop_drop]; exact chk6_r3)
theorem chk6_r1 : ((plains 6).drop 6).all chkF = true := all_split _ 6 _ chk6_1 (by rw [List.drop_drop]; exact chk6_r2)
theorem chk6_r0 : ((plains 6).drop 0).all chkF = true := all_split _ 6 _ chk6_0 (by rw [List.drop_drop]; exact chk6_r1)
theorem chk_all {n : Nat} (h : n ≤ 6) : (plains n).all chkF = true := by
  rcases Nat.lt_or_ge n 6 with c | c
  · exact List.all_eq_true.mp chk_low n (List.mem_range.mpr c)
  · have e : n = 6 := by omega
    rw [e]
    exact chk6_r0
theorem tal_main {hs : Hs} (fo : Fo hs) (n6 : hs.length ≤ 6) : tlN ((rowsAt hs hs.length).map fun r => invR (r.map (pz hs))) = tcv hs ∧ tlN ((rowsAt hs hs.length).map fun r => drN (r.map (pz hs))) = tcv hs := by
  have c := List.all_eq_true.mp (chk_all n6) (fw hs) (fw_mem fo)
  unfold chkF at c
  rw [Bool.and_eq_true, beq_iff_eq, beq_iff_eq, tcL_eq] at c
  have e : serL ((mostZ (fw hs)).toNat + 1) (tcS (sN (fw hs)) (fw hs).length) = tcv hs := fw_tcv fo
  rw [e, fw_len fo] at c
  have p := fw_rows fo
  refine ⟨?_, ?_⟩
  · rw [← c.1, ← tlN_perm (p.map invR), List.map_map]; rfl
  · rw [← c.2, ← tlN_perm (p.map drN), List.map_map]; rfl

end My

namespace My
open PySem PySem.Spec PyProof.Rows L2
/-! ### sizes in order -/
def soL (hs : Hs) : List Int := (szL hs).mergeSort fun a b => decide (a ≤ b)
theorem soL_perm (hs : Hs) : (soL hs).Perm (szL hs) := List.mergeSort_perm _ _
theorem soL_up (hs : Hs) : (soL hs).Pairwise (· ≤ ·) := (List.pairwise_mergeSort (le := fun a b : Int => decide (a ≤ b)) (fun a b c h1 h2 => decide_eq_true (Int.le_trans (of_decide_eq_true h1) (of_decide_eq_true h2))) (fun a b => by
  rcases Int.le_total a b with h | h
  · rw [decide_eq_true h]; rfl
  · rw [decide_eq_true h, Bool.or_true]) (szL hs)).imp fun h => of_decide_eq_true h
theorem soL_of {hs : Hs} {l : List Int} (p : l.Perm (szL hs)) (s : l.Pairwise (· ≤ ·)) : l = soL hs :=
  List.Perm.eq_of_pairwise (le := fun a b : Int => a ≤ b) (fun a b _ _ h1 h2 => Int.le_antisymm h1 h2) s (soL_up hs) (p.trans (soL_perm hs).symm)
theorem soL_len (hs : Hs) : (soL hs).length = hs.length := by rw [(soL_perm hs).length_eq]; unfold szL; rw [List.length_map, List.length_range]
def spSorted : Sp := fun vs H Q _ => ∃ (a : Addr) (hs : Hs), vs = [.ref a] ∧ H a = some (.tup (hs.map hv)) ∧ Fo hs ∧ hs.length ≤ 60 ∧ ∀ r H', Same H H' → H r = none → H' r = some (.lst (iv (soL hs))) → Q (.ref r) H'
def spTwoB (R : Hs → Hs → V) : Sp := fun vs H Q _ => ∃ (a b : Addr) (hs ms : Hs), vs = [.ref a, .ref b] ∧ H a = some (.tup (hs.map hv)) ∧ H b = some (.tup (ms.map hv)) ∧ Fo hs ∧ Fo ms ∧ hs.length ≤ 60 ∧ ms.length ≤ 60 ∧ ∀ H', Same H H' → Q (R hs ms) H'
def ptL (a b : List Int) : V := match (List.range (max a.length b.length)).find? (fun i : Nat => decide (a.count (1 + (i : Int)) ≠ b.count (1 + (i : Int)))) with
  | some i => .int (1 + (i : Int))
  | none => .non
theorem cntV_int (k : Int) : ∀ L : List Int, cntV (.int k) (iv L) = L.count k
  | [] => rfl
  | x :: L => by
    have ih := cntV_int k L
    unfold cntV iv at ih ⊢
    rw [List.map_cons, List.countP_cons, List.count_cons, ih]
    congr 1
theorem flat_ivs (L : List Int) : (iv L).all flatV = true := List.all_eq_true.mpr fun x hx => by
  obtain ⟨v, _, rfl⟩ := List.mem_map.mp hx
  rfl
theorem dp_iv {K : PySem.W.Frag} {H : Hp} : ∀ l : List Int, DpAll K H (iv l) (l.map PyData.int)
  | [] => .nil
  | x :: l => .cons (.int x) (dp_iv l)
theorem lay_ints : ∀ l : List Int, PyData.canLayAll0 (l.map PyData.int) = true
  | [] => rfl
  | v :: l => by
    show PyData.canLayAll0 (PyData.int v :: l.map PyData.int) = true
    rw [PyData.canLayAll0, lay_ints l]; rfl
theorem deep_ints : ∀ l : List Int, PyData.depthAll (l.map PyData.int) = 0
  | [] => rfl
  | v :: l => by
    show PyData.depthAll (PyData.int v :: l.map PyData.int) = 0
    rw [PyData.depthAll, deep_ints l]; rfl
theorem shaped_ints (l : List Int) : SeqAt.shaped (.list (l.map PyData.int)) = true := by
  unfold SeqAt.shaped
  rw [PyData.canLay0, lay_ints, PyData.depth, deep_ints]; rfl
theorem eqvA_ints : ∀ a b : List Int, PyData.eqvAll (a.map PyData.int) (b.map PyData.int) = decide (a = b)
  | [], [] => rfl
  | [], _ :: _ => rfl
  | _ :: _, [] => rfl
  | x :: a, y :: b => by
    show PyData.eqvAll (PyData.int x :: a.map PyData.int) (PyData.int y :: b.map PyData.int) = _
    rw [PyData.eqvAll, eqvA_ints a b, PyData.eqv]
    by_cases h : x = y
    · subst h
      by_cases h2 : a = b
      · subst h2; simp
      · simp [h2]
    · simp [h]
theorem eqv_ints (a b : List Int) : PyData.eqv (.list (a.map PyData.int)) (.list (b.map PyData.int)) = decide (a = b) := by rw [eqv_list, eqvA_ints]
section
variable {P : Program} {w : World} {K : PySem.W.Frag} {mg : Str → Option Value} {base : Heap} {CF : Addr}
abbrev st_ordered_sizes : Stmt := topS 19
abbrev N_ordered_sizes : List Str := ["forest"]
theorem sc_ordered_sizes : FnScope N_ordered_sizes ["forest"] (defScope st_ordered_sizes) := ⟨rfl, rfl, rfl, by decide +kernel, rfl, by decide +kernel, by decide +kernel⟩
theorem ok_ordered_sizes (D : Df K mg "ordered_sizes" st_ordered_sizes ["forest"]) (B : Bl mg) (Ksizes : Kn P w K mg base (L2.CX P w) 7 "sizes" st_sizes ["forest"] (spOf CF fun hs l => ∃ F, l = iv F ∧ SizeOk hs F)) :
    Kn P w K mg base (L2.CX P w) 8 "ordered_sizes" st_ordered_sizes ["forest"] spSorted := by
  refine D.okX sc_ordered_sizes (fun vs H Q E h => ?_) (fun f cdv A outer s H vs Q E hr h => ?_)
  · obtain ⟨a, hs, rfl, _⟩ := h; rfl
  obtain ⟨a, hs, rfl, ha, fo, l60, q⟩ := h
  refine ⟨_, ((pss_one (ps_ret (pe_callB cr_sorted (by rfl) B.sorted (by decide +kernel) (pa_cons (pe_callF Ksizes (hr.mono (by decide)) (passX (takes_of rfl rfl rfl rfl)) (pa_cons (pv 0) pa_nil)) pa_nil))))), ?_⟩
  refine ⟨_, rfl, ?_⟩
  dsimp only [tNil, tCons, tC, List.nil_append, List.append_nil, List.cons_append, List.reverse_cons, List.reverse_nil]
  refine of_ask ha fo l60 fun S l H1 ⟨F, el, sok⟩ s1 hS0 oS => ?_
  subst el
  have eF := size_one fo sok (szL_ok fo)
  subst eF
  have lS : (szL hs).length = hs.length := (szL_ok fo).1
  refine ⟨S, szL hs, rfl, SqL.of oS, by omega, fun ns' p pm pw hp => ?_⟩
  rw [soL_of pm pw]
  exact q p _ (s1.new hp) (s1.free hp) upd_same
abbrev st_are_alike : Stmt := topS 21
abbrev N_are_alike : List Str := ["forest", "other"]
theorem sc_are_alike : FnScope N_are_alike ["forest", "other"] (defScope st_are_alike) := ⟨rfl, rfl, rfl, by decide +kernel, rfl, by decide +kernel, by decide +kernel⟩
theorem ok_are_alike (D : Df K mg "are_alike" st_are_alike ["forest", "other"]) (B : Bl mg) (Kordered_sizes : Kn P w K mg base (L2.CX P w) 8 "ordered_sizes" st_ordered_sizes ["forest"] spSorted) :
    Kn P w K mg base (L2.CX P w) 9 "are_alike" st_are_alike ["forest", "other"] (spTwoB fun hs ms => .bl (decide (soL hs = soL ms))) := by
  refine D.okX sc_are_alike (fun vs H Q E h => ?_) (fun f cdv A outer s H vs Q E hr h => ?_)
  · obtain ⟨a, b, hs, ms, rfl, _⟩ := h; rfl
  obtain ⟨a, b, hs, ms, rfl, ha, hb, fo, fm, l60, m60, q⟩ := h
  refine ⟨_, ((pss_one (ps_ret (pe_cmpR (op_eqD hr.units) (pe_callF Kordered_sizes (hr.mono (by decide)) (passX (takes_of rfl rfl rfl rfl)) (pa_cons (pv 0) pa_nil)) (pe_callF Kordered_sizes (hr.mono (by decide)) (passX (takes_of rfl rfl rfl rfl)) (pa_cons (pv 1) pa_nil)) (nomark _))))), ?_⟩
  refine ⟨_, rfl, a, hs, rfl, ha, fo, l60, fun r H1 s1 hr1 o1 => ⟨_, rfl, b, ms, rfl, s1 _ _ hb, fm, m60, fun r2 H2 s2 hr2 o2 => ?_⟩⟩
  refine ⟨_, _, .lst (SqL.of (s2 _ _ o1)) (dp_iv _), .lst (SqL.of o2) (dp_iv _), shaped_ints _, shaped_ints _, ?_⟩
  rw [eqv_ints]
  exact q H2 (s1.trans s2)
abbrev st_parting_size : Stmt := topS 22
abbrev N_parting_size : List Str := ["forest", "other", "size_list", "other_sizes", "size"]
theorem sc_parting_size : FnScope N_parting_size ["forest", "other"] (defScope st_parting_size) := ⟨rfl, rfl, rfl, by decide +kernel, rfl, by decide +kernel, by decide +kernel⟩
theorem ok_parting_size (D : Df K mg "parting_size" st_parting_size ["forest", "other"]) (B : Bl mg) (Kordered_sizes : Kn P w K mg base (L2.CX P w) 8 "ordered_sizes" st_ordered_sizes ["forest"] spSorted) :
    Kn P w K mg base (L2.CX P w) 9 "parting_size" st_parting_size ["forest", "other"] (spTwoB fun hs ms => ptL (soL hs) (soL ms)) := by
  refine D.okX sc_parting_size (fun vs H Q E h => ?_) (fun f cdv A outer s H vs Q E hr h => ?_)
  · obtain ⟨a, b, hs, ms, rfl, _⟩ := h; rfl
  obtain ⟨a, b, hs, ms, rfl, ha, hb, fo, fm, l60, m60, q⟩ := h
  refine ⟨_, ((pss_cons (ps_par (i := 2) (j := 3) (by rfl) sc_parting_size.nd rfl rfl (by decide) rfl rfl (pa_cons (pe_callF Kordered_sizes (hr.mono (by decide)) (passX (takes_of rfl rfl rfl rfl)) (pa_cons (pv 0) pa_nil)) (pa_cons (pe_callF Kordered_sizes (hr.mono (by decide)) (passX (takes_of rfl rfl rfl rfl)) (pa_cons (pv 1) pa_nil)) pa_nil)) (by rfl))
      (pss_cons (ps_for (passes_of rfl) rfl (pi_range2 (by rfl) B.range (pa_cons pe_int (pa_cons (pe_op op_add (pe_callB (call_max2 rfl) (by rfl) B.max (by decide +kernel) (pa_cons (pe_callB call_len (by rfl) B.len (by decide +kernel) (pa_cons (pv 2) pa_nil)) (pa_cons (pe_callB call_len (by rfl) B.len (by decide +kernel) (pa_cons (pv 3) pa_nil)) pa_nil))) pe_int) pa_nil))) (pg_name (i := 4) sc_parting_size.nd rfl (Or.inl rfl)) (pss_one (ps_if (pt_cmpR op_ne (pe_bm PySem.F.plainAttrs_list PySem.F.slot_list_count PySem.F.type_list_count mt_lcountV (pv 2) (pa_cons (pv 4) pa_nil)) (pe_bm PySem.F.plainAttrs_list PySem.F.slot_list_count PySem.F.type_list_count mt_lcountV (pv 3) (pa_cons (pv 4) pa_nil)) (nomark _)) (pss_one (ps_ret (pv 4))) pss_nil)))
      (pss_one (ps_ret pe_non))))), ?_⟩
  refine ⟨_, rfl, a, hs, rfl, ha, fo, l60, fun r H1 s1 hr1 o1 => ⟨_, rfl, b, ms, rfl, s1 _ _ hb, fm, m60, fun r2 H2 s2 hr2 o2 => ?_⟩⟩
  have p62 : (2 : Int) ^ 62 = 4611686018427387904 := by decide
  have la := soL_len hs
  have lb := soL_len ms
  have o1 := s2 _ _ o1
  have q : ∀ H', Same H2 H' → Q (ptL (soL hs) (soL ms)) H' := fun H' s => q H' ((s1.trans s2).trans s)
  generalize soL hs = A0 at la o1 q
  generalize soL ms = B0 at lb o2 q
  refine ⟨_, _, rfl, ?_⟩
  refine ⟨_, rfl, _, _, rfl, .inl ⟨_, SqL.of o1, rfl⟩, _, rfl, _, _, rfl, .inl ⟨_, SqL.of o2, rfl⟩, _, _, rfl, ?_⟩
  rw [iv_length, iv_length]
  have em : (if (B0.length : Int) > (A0.length : Int) then (B0.length : Int) else (A0.length : Int)) = ((max A0.length B0.length : Nat) : Int) := by
    split <;> omega
  rw [em]
  have hm : max A0.length B0.length ≤ 60 := by omega
  refine ⟨_, _, rfl, rfl, _, _, rfl, ⟨by omega, by omega, by omega, by omega⟩, for_it (walk_range (lo := 1) (n := (((max A0.length B0.length : Nat) : Int) + 1 - 1).toNat)) (fun i σ H' => ∃ v4, σ = [some (.ref a), some (.ref b), some (.ref r), some (.ref r2), v4] ∧ Same H2 H' ∧ ∀ j : Nat, j < i → A0.count (1 + (j : Int)) = B0.count (1 + (j : Int))) ⟨none, rfl, Same.refl H2, fun j hj => absurd hj (Nat.not_lt_zero j)⟩ (fun _ _ _ _ _ => trivial) ?_ ?_⟩
  · rintro i x σ H3 H4 hi ⟨v4, rfl, s3, eqs⟩ ⟨rfl, rfl⟩
    refine ⟨_, rfl, .inl ⟨rfl, _, SqL.of (s3 _ _ o1)⟩, _, rfl, r, _, _, rfl, rfl, SqL.of (s3 _ _ o1), rfl, flat_ivs _, _, rfl, .inl ⟨rfl, _, SqL.of (s3 _ _ o2)⟩, _, rfl, r2, _, _, rfl, rfl, SqL.of (s3 _ _ o2), rfl, flat_ivs _, ?_⟩
    rw [cntV_int, cntV_int]
    refine ⟨rfl, _, rfl, ite2 (fun c => ?_) (fun c => ?_)⟩
    · have ne : A0.count (1 + (i : Int)) ≠ B0.count (1 + (i : Int)) := fun z => by
        rw [z] at c
        exact absurd c (by simp)
      have z := q _ s3
      have e : ptL A0 B0 = .int (1 + (i : Int)) := by
        unfold ptL
        have f : (List.range (max A0.length B0.length)).find? (fun i : Nat => decide (A0.count (1 + (i : Int)) ≠ B0.count (1 + (i : Int)))) = some i := by
          rw [List.find?_range_eq_some]
          refine ⟨decide_eq_true ne, List.mem_range.mpr (by omega), fun j hj => ?_⟩
          rw [decide_eq_false (fun z => z (eqs j hj))]; rfl
        rw [f]
      rw [e] at z
      exact ⟨_, rfl, z⟩
    · refine ⟨_, rfl, s3, fun j hj => ?_⟩
      by_cases d : j < i
      · exact eqs j d
      · have e : j = i := by omega
        subst e
        exact Classical.byContradiction fun z => c (by
          show (!decide (V.int _ = V.int _)) = true
          rw [decide_eq_false fun y => z (by have := V.int.inj y; omega)]; rfl)
  · rintro σ H3 ⟨v4, rfl, s3, eqs⟩
    have z := q H3 s3
    have e : ptL A0 B0 = .non := by
      unfold ptL
      rw [List.find?_eq_none.mpr fun i hi => ?_]
      have := List.mem_range.mp hi
      rw [decide_eq_true_eq]
      exact fun c => c (eqs i (by omega))
    rw [e] at z
    exact z
abbrev st_same_number : Stmt := topS 23
abbrev N_same_number : List Str := ["forest", "other"]
theorem sc_same_number : FnScope N_same_number ["forest", "other"] (defScope st_same_number) := ⟨rfl, rfl, rfl, by decide +kernel, rfl, by decide +kernel, by decide +kernel⟩
theorem ok_same_number (D : Df K mg "same_number" st_same_number ["forest", "other"]) (B : Bl mg) (Kcount_sequences : Kn P w K mg base (L2.CX P w) 8 "count_sequences" st_count_sequences ["forest"] spCnt) :
    Kn P w K mg base (L2.CX P w) 9 "same_number" st_same_number ["forest", "other"] (spTwoB fun hs ms => .bl (decide (cntL hs = cntL ms))) := by
  refine D.okX sc_same_number (fun vs H Q E h => ?_) (fun f cdv A outer s H vs Q E hr h => ?_)
  · obtain ⟨a, b, hs, ms, rfl, _⟩ := h; rfl
  obtain ⟨a, b, hs, ms, rfl, ha, hb, fo, fm, l60, m60, q⟩ := h
  refine ⟨_, ((pss_one (ps_ret (pe_cmpR op_eq (pe_callF Kcount_sequences (hr.mono (by decide)) (passX (takes_of rfl rfl rfl rfl)) (pa_cons (pv 0) pa_nil)) (pe_callF Kcount_sequences (hr.mono (by decide)) (passX (takes_of rfl rfl rfl rfl)) (pa_cons (pv 1) pa_nil)) (nomark _))))), ?_⟩
  refine ⟨_, rfl, a, hs, rfl, ha, fo, l60, fun H1 s1 => ⟨_, rfl, b, ms, rfl, s1 _ _ hb, fm, m60, fun H2 s2 => ?_⟩⟩
  have z := q H2 (s1.trans s2)
  have e : decide (V.int (cntL hs) = V.int (cntL ms)) = decide (cntL hs = cntL ms) := decide_eq_decide.mpr ⟨V.int.inj, fun h => by rw [h]⟩
  refine ⟨rfl, ?_⟩
  rw [e]
  exact z
end

end My

namespace My
open PySem PySem.Spec PyProof.Rows L2
def spLaw (K : PySem.W.Frag) : Sp := fun vs H Q _ => ∃ (a : Addr) (ns : List Int), vs = [.ref a] ∧ SqL K H a (ns.map V.int) ∧ ns.length ≤ 63 ∧ ∀ H', Q (.bl true) H'
theorem Well.ne {H : Hp} {wl p : Addr} {n : Nat} (w : Well H wl n) (h : H p = none) : p ≠ wl := by
  obtain ⟨l, e⟩ := w.here
  exact (ne_of_none e h).symm
theorem thenK {H H1 H2 : Hp} {wl : Addr} (s : Same H H1) (hn : H wl = none) (k : Keep wl H1 H2) : Same H H2 := fun b o e => k b o (ne_of_none e hn) (s b o e)
theorem isF_fo {H : Hp} {x : V} {hs : Hs} (e : tupAt H x = some (hs.map hv)) (h : IsF H x) : Fo hs := by
  obtain ⟨hs', e', fo⟩ := h
  rw [e] at e'
  rw [hv_inj (Option.some.inj e')]; exact fo
/-- values that are no forests: by what their tuple is -/
theorem noF_none {H : Hp} {x : V} (h : tupAt H x = none) : ¬ IsF H x := fun ⟨hs, e, _⟩ => by rw [h] at e; cases e
theorem noF_nil {H : Hp} {x : V} (h : tupAt H x = some []) : ¬ IsF H x := fun ⟨hs, e, fo⟩ => by
  rw [h] at e
  have z := Option.some.inj e
  cases hs with
  | nil => exact fo.ne rfl
  | cons o r => cases z
theorem noF_odd {H : Hp} {x : V} {xs : List V} {y : V} (h : tupAt H x = some (xs ++ [y])) (hy : ∀ o, y ≠ hv o) : ¬ IsF H x := fun ⟨hs, e, fo⟩ => by
  rw [h] at e
  have z := Option.some.inj e
  have hm : y ∈ hs.map hv := by rw [← z]; simp
  obtain ⟨o, _, ho⟩ := List.mem_map.mp hm
  exact hy o ho.symm
theorem snoc_hs {hs hs' : Hs} {o : Option Nat} (h : hs.map hv ++ [hv o] = hs'.map hv) : hs' = hs ++ [o] := by
  have e : (hs ++ [o]).map hv = hs'.map hv := by rw [List.map_append]; exact h
  exact (hv_inj e).symm
theorem noF_self {H : Hp} {x : V} {hs : Hs} (h : tupAt H x = some (hs.map hv ++ [.int (hs.length : Int)])) : ¬ IsF H x := fun ⟨hs', e, fo⟩ => by
  rw [h] at e
  have z := snoc_hs (o := some hs.length) (Option.some.inj e)
  subst z
  have hat : (hs ++ [some hs.length])[hs.length]? = some (some hs.length) := by
    rw [List.getElem?_append_right (Nat.le_refl _), Nat.sub_self]; rfl
  have no : ∀ v, Rch (hs ++ [some hs.length]) v → v ≠ hs.length := fun v r => by
    induction r with
    | root h1 => intro e1; rw [e1, hat] at h1; cases h1
    | step h1 _ ih =>
      intro e1
      rw [e1, hat] at h1
      cases h1
      exact ih rfl
  exact no hs.length (fo.all hs.length (by rw [List.length_append]; exact Nat.lt_succ_self _)) rfl
theorem noF_far {H : Hp} {x : V} {hs : Hs} (h : tupAt H x = some (hs.map hv ++ [.int ((hs.length : Int) + 1)])) : ¬ IsF H x := fun ⟨hs', e, fo⟩ => by
  rw [h] at e
  have z := snoc_hs (o := some (hs.length + 1)) (Option.some.inj e)
  subst z
  have hat : (hs ++ [some (hs.length + 1)])[hs.length]? = some (some (hs.length + 1)) := by
    rw [List.getElem?_append_right (Nat.le_refl _), Nat.sub_self]; rfl
  have q := fo.inb _ _ hat
  rw [List.length_append] at q
  exact Nat.lt_irrefl _ q
theorem askd_tup {H : Hp} {a : Addr} {xs : List V} (h : H a = some (.tup xs)) (hl : xs.length ≤ 1000) (hv' : ∀ y ∈ xs, Vd H y) : Askd H (.ref a) :=
  ⟨.tup h, fun ys e => by rw [tupAt_tup h] at e; cases e; exact ⟨hl, hv'⟩⟩
theorem askd_no {H : Hp} {x : V} (v : Vd H x) (h : tupAt H x = none) : Askd H x := ⟨v, fun ys e => by rw [h] at e; cases e⟩
theorem hv_ne_str (z : Str) (o : Option Nat) : V.str z ≠ hv o := by cases o <;> (intro e; cases e)
theorem hv_ne_bl (z : Bool) (o : Option Nat) : V.bl z ≠ hv o := by cases o <;> (intro e; cases e)
abbrev slL (a t : Addr) (at' : Int) (wl : Addr) (x : V) (way : Int) (y : V) (due : Str) (v7 v8 : Option V) : L2.St := [some (.ref a), some (.int at'), some (.ref wl), some x, some (.int way), some y, some (.str due), v7, v8]

/-! ### a list's method with an argument, in a comprehension -/
theorem mt_indexK {X : Cx} (K : PySem.W.Frag) (e : X.K = K := by rfl) : MtR X "list.index" (rIndex K) := by subst e; exact mt_index
theorem pe_bmK {X : Cx} (K : PySem.W.Frag) {o a : Expr} {es : List Expr} {T name id : String} {r : V → List V → Hp → VK → Prop} {to : TE} {t : TA} {apos cpos : Pos} (pa : PlainAttrs T) (slot : Slot T name id) (hty : typeOf (.builtin id) = pure (.type "method_descriptor")) (hm : MtR X id r) (ho : PE X o to) (ha : PA X (a :: es) t) (e : X.K = K := by rfl)
    (hbase : attributeBase o name X.env (eval o X.env) = eval o X.env := by rfl)
    (hfew : ((backTo cpos (starEach (a :: es) X.env)).all (fun x => !x.1) && (backToKw cpos (keywordEach [] X.env)).all (fun x => x.1.isSome) && decide ((a :: es).length + ([] : List Keyword).length + (if ([] : List Keyword).isEmpty then 0 else 1) < 30)) = true := by rfl)
    (hline : (apos.endLine == cpos.line) = true := by rfl) (hs : starEach (a :: es) X.env = (false, eval a X.env) :: starEach es X.env := by rfl) (hplain : (backTo cpos (starEach es X.env)).any (·.1) = false := by rfl) :
    PE X (.Call (.Attribute o name apos) (a :: es) [] cpos) (tBM K T r to t) := by subst e; exact pe_bm pa slot hty hm ho ha hbase hfew hline hs hplain
theorem mt_popAtK {X : Cx} (K : PySem.W.Frag) : MtR X "list.pop" rPopAt := mt_popAt

/-! ### facts about a heap, kept together -/
structure Kp (H0 H : Hp) (L : List (Addr × HO)) : Prop where
  same : Same H0 H
  has : ∀ q ∈ L, H q.1 = some q.2
theorem Kp.start {H : Hp} : Kp H H [] := ⟨Same.refl H, fun _ h => absurd h List.not_mem_nil⟩
theorem Kp.new {H0 H : Hp} {L : List (Addr × HO)} {p : Addr} {o : HO} (k : Kp H0 H L) (hp : H p = none) : Kp H0 (upd H p o) ((p, o) :: L) := ⟨k.same.new hp, fun q hq => by
  rcases List.mem_cons.mp hq with rfl | hq
  · exact upd_same
  · exact (upd_ne (ne_of_none (k.has q hq) hp)).trans (k.has q hq)⟩
theorem ne_of_hold {H : Hp} {L : List (Addr × HO)} {p : Addr} (h : ∀ q ∈ L, H q.1 = some q.2) (hp : H p = none) : ∀ q ∈ L, q.1 ≠ p := fun q hq => ne_of_none (h q hq) hp
theorem Kp.at {H0 H : Hp} {L : List (Addr × HO)} {p : Addr} {o : HO} (k : Kp H0 H L) (i : Nat) (e : L[i]? = some (p, o) := by rfl) : H p = some o := k.has _ (List.mem_of_getElem? e)
theorem Kp.to {H0 H H' : Hp} {L : List (Addr × HO)} (k : Kp H0 H L) (s : Same H H') : Kp H0 H' L := ⟨k.same.trans s, fun q hq => s _ _ (k.has q hq)⟩
theorem Kp.add {H0 H : Hp} {L : List (Addr × HO)} {p : Addr} {o : HO} (k : Kp H0 H L) (h : H p = some o) : Kp H0 H ((p, o) :: L) := ⟨k.same, fun q hq => by
  rcases List.mem_cons.mp hq with rfl | hq
  · exact h
  · exact k.has q hq⟩

theorem sl_listK {X : Cx} (K : PySem.W.Frag) (e : X.K = K := by rfl) : SlR X (rSlL K) := by subst e; exact sl_list

/-! ### parts of tuples, tuples put together -/
theorem cut_whole (xs : List V) {lo hi : Option Int} (h : HT.sIx xs.length 0 lo = 0 ∧ HT.sIx xs.length xs.length hi = xs.length) : cutV xs lo hi = xs := by
  unfold cutV
  rw [h.1, h.2, List.drop_zero, Nat.sub_zero, List.take_length]
theorem cut_mem {xs : List V} {lo hi : Option Int} {y : V} (h : y ∈ cutV xs lo hi) : y ∈ xs := List.mem_of_mem_drop (List.mem_of_mem_take h)
theorem cut_lo (xs : List V) (d : Nat) : (cutV xs none (some (d : Int))).length ≤ d := by
  unfold cutV
  rw [HT.sIx_nat, HT.sIx_none, List.length_take]
  omega
theorem cut_hi (xs : List V) (d : Nat) : (cutV xs (some (d : Int)) none).length ≤ xs.length - d := by
  unfold cutV
  rw [HT.sIx_nat, HT.sIx_none, List.length_take, List.length_drop]
  omega
theorem slA {K : PySem.W.Frag} {H : Hp} {t : Addr} {xs : List V} {lo hi : Option Int} {Q : VK} (h : H t = some (.tup xs)) (q : ∀ p H', Same H H' → H' p = some (.tup (cutV xs lo hi)) → Q (.ref p) H') : rSlA K (.ref t) lo hi H Q :=
  ⟨t, xs, rfl, SqT.of h, fun c => q t H (Same.refl H) (by rw [cut_whole xs c]; exact h), fun _ p hp => q p _ ((Same.refl H).new hp) upd_same⟩
theorem catA {K : PySem.W.Frag} {H : Hp} {a b : Addr} {xs ys : List V} {Q : VK} (ha : H a = some (.tup xs)) (hb : H b = some (.tup ys)) (hz : xs.length + ys.length ≤ 1000) (q : ∀ p H', Same H H' → H' p = some (.tup (xs ++ ys)) → Q (.ref p) H') : rCatA K (.ref a) (.ref b) H Q := by
  refine ⟨a, b, xs, ys, rfl, rfl, SqT.of ha, SqT.of hb, Nat.le_of_lt (szl hz), fun e => ?_, fun _ e => ?_, fun _ _ p hp => q p _ ((Same.refl H).new hp) upd_same⟩
  · subst e; exact q b H (Same.refl H) hb
  · subst e; exact q a H (Same.refl H) (by rw [List.append_nil]; exact ha)

/-! ### a plan under new names -/
theorem fo_turnedF {l T : Hs} {nm : List Nat} (fo : Fo l) (hp : nm.Perm (List.range l.length)) (hT : T.length = l.length)
    (hr : ∀ (j v : Nat) (o : Option Nat), nm[j]? = some v → l[j]? = some o → T[v]? = some (ren nm o)) : Fo T := by
  have hlen : nm.length = l.length := by rw [hp.length_eq, List.length_range]
  have at_ : ∀ j : Nat, j < l.length → ∃ v, nm[j]? = some v ∧ v < l.length := fun j hj => by
    have h1 : j < nm.length := by omega
    exact ⟨nm[j], List.getElem?_eq_getElem h1, List.mem_range.mp (hp.mem_iff.mp (List.getElem_mem h1))⟩
  have back : ∀ v : Nat, v < l.length → ∃ j : Nat, nm[j]? = some v ∧ j < l.length := fun v hv => by
    obtain ⟨j, e⟩ := List.getElem?_of_mem (hp.mem_iff.mpr (List.mem_range.mpr hv))
    have q := (List.getElem?_eq_some_iff.mp e).1
    exact ⟨j, e, by omega⟩
  have rc : ∀ j, Rch l j → ∀ v, nm[j]? = some v → Rch T v := fun j r => by
    induction r with
    | root h => exact fun v e => .root (hr _ v _ e h)
    | @step j u h r ih =>
      intro v e
      obtain ⟨vu, f1, _⟩ := at_ u (fo.inb j u h)
      have g : nm.getD u 0 = vu := by rw [List.getD_eq_getElem?_getD, f1]; rfl
      have q := hr j v _ e h
      refine .step (u := vu) ?_ (ih vu f1)
      rw [q]; show some (some (nm.getD u 0)) = _; rw [g]
  refine ⟨fun z => fo.ne (List.eq_nil_of_length_eq_zero (by rw [z] at hT; exact hT.symm)), fun v u e => ?_, fun v hv => ?_⟩
  · have hv := (List.getElem?_eq_some_iff.mp e).1
    rw [hT] at hv
    obtain ⟨j, ej, hj⟩ := back v hv
    have eo : l[j]? = some l[j] := List.getElem?_eq_getElem hj
    generalize l[j] = o at eo
    have q := hr j v o ej eo
    rw [q] at e
    cases o with
    | none => cases e
    | some w =>
      obtain ⟨vu, f1, f2⟩ := at_ w (fo.inb j w eo)
      have g : nm.getD w 0 = u := Option.some.inj (Option.some.inj e)
      rw [List.getD_eq_getElem?_getD, f1] at g
      rw [hT, ← g]; exact f2
  · rw [hT] at hv
    obtain ⟨j, ej, hj⟩ := back v hv
    exact rc j (fo.all j hj) v ej
def spFresh : Sp := fun vs H Q _ => ∃ (wl t : Addr) (n : Nat) (hs : Hs), vs = [.ref wl, .ref t] ∧ Well H wl n ∧ n < 2 ^ 50 ∧ H t = some (.tup (hs.map hv)) ∧ Fo hs ∧ hs.length ≤ 60 ∧
  ∀ t' hs' H', Fo hs' → hs'.length = hs.length → Keep wl H H' → Well H' wl (n + 60) → H t' = none → H' t' = some (.tup (hs'.map hv)) → Q (.ref t') H'
theorem keep_free {H H' : Hp} {wl a : Addr} (k : Keep wl H H') (n : a ≠ wl) (h : H' a = none) : H a = none := by
  cases e : H a with
  | none => rfl
  | some o =>
    have z := k a o n e
    rw [h] at z; cases z
theorem keep_upd {H H' : Hp} {wl a : Addr} {o : HO} (k : Keep wl H H') (h : H a = none) : Keep wl H (upd H' a o) := fun b u hb e => (upd_ne (ne_of_none e h)).trans (k b u hb e)
theorem Well.updN {H : Hp} {wl a : Addr} {o : HO} {n : Nat} (w : Well H wl n) (h : a ≠ wl) : Well (upd H a o) wl n := by
  obtain ⟨x, y, z, e, r⟩ := w.ex
  exact ⟨x, y, z, (upd_ne h.symm).trans e, r⟩
theorem Well.neT2 {H : Hp} {wl p : Addr} {n : Nat} (w : Well H wl n) {xs : List V} (h : H p = some (.tup xs)) : p ≠ wl := fun e => by
  obtain ⟨l, e2⟩ := w.here
  rw [e, e2] at h; cases h
section
variable {P : Program} {w : World} {K : PySem.W.Frag} {mg : Str → Option Value} {base : Heap}
abbrev st__law_fresh : Stmt := topS 34
abbrev N__law_fresh : List Str := ["well", "plan", "names", "left", "k", "found"]
theorem sc__law_fresh : FnScope N__law_fresh ["well", "plan"] (defScope st__law_fresh) := ⟨rfl, rfl, rfl, by decide +kernel, rfl, by decide +kernel, by decide +kernel⟩
theorem ok__law_fresh (D : Df K mg "_law_fresh" st__law_fresh ["well", "plan"]) (B : Bl mg) (K_law_draw : Kn P w K mg base CX0 1 "_law_draw" st__law_draw ["well", "most"] spDraw) :
    Kn P w K mg base CX0 2 "_law_fresh" st__law_fresh ["well", "plan"] spFresh := by
  refine D.ok sc__law_fresh (fun vs H Q E h => ?_) (fun f cdv A outer s H vs Q E hr h => ?_)
  · obtain ⟨wl, t, n, hs, rfl, _⟩ := h; rfl
  obtain ⟨wl, t, n, hs, rfl, hw, hn, ht, fo, l60, q⟩ := h
  refine ⟨_, ((pss_cons (ps_par (i := 2) (j := 3) (by rfl) sc__law_fresh.nd rfl rfl (by decide) rfl rfl (pa_cons (pe_lst pa_nil) (pa_cons (pe_listRg rfl (by rfl) B.list (prg_1 (by rfl) B.range (pe_callB call_len (by rfl) B.len (by decide +kernel) (pa_cons (pv 1) pa_nil)))) pa_nil)) (by rfl))
      (pss_cons (ps_for PassesOwn.never rfl (pi_range1 (by rfl) B.range (pa_cons (pe_callB call_len (by rfl) B.len (by decide +kernel) (pa_cons (pv 1) pa_nil)) pa_nil)) (pg_name (i := 4) sc__law_fresh.nd rfl (Or.inl rfl)) (pss_one (ps_expr (pe_bm PySem.F.plainAttrs_list PySem.F.slot_list_append PySem.F.type_list_append mt_append (pv 2) (pa_cons (pe_bm PySem.F.plainAttrs_list PySem.F.slot_list_pop PySem.F.type_list_pop mt_popAt (pv 3) (pa_cons (pe_callF K_law_draw (hr.mono (by decide)) pass0 (pa_cons (pv 0) (pa_cons (pe_callB call_len (by rfl) B.len (by decide +kernel) (pa_cons (pv 3) pa_nil)) pa_nil))) pa_nil)) pa_nil)))))
      (pss_cons (ps_set (i := 5) sc__law_fresh.nd rfl (Or.inl rfl) (pe_op op_rep (pe_lst (pa_cons pe_non pa_nil)) (pe_callB call_len (by rfl) B.len (by decide +kernel) (pa_cons (pv 1) pa_nil))))
      (pss_cons (ps_for PassesOwn.never rfl (pi_range1 (by rfl) B.range (pa_cons (pe_callB call_len (by rfl) B.len (by decide +kernel) (pa_cons (pv 1) pa_nil)) pa_nil)) (pg_name (i := 4) sc__law_fresh.nd rfl (Or.inl rfl)) (pss_one (ps_asg (pe_ifExp (pt_cmpR op_isN (pe_ix ix_tup (pv 1) (pv 4) (fun _ _ => rfl)) pe_non (nomark _)) pe_non (pe_ix ix_list (pv 2) (pe_ix ix_tup (pv 1) (pv 4) (fun _ _ => rfl)) (fun _ _ => rfl))) (pg_sub (pv 5) (pe_ix ix_list (pv 2) (pv 4) (fun _ _ => rfl)) set_list))))
      (pss_one (ps_ret (pe_callTy call_tuple_of (by rfl) B.tuple (by decide +kernel) (pa_cons (pv 5) pa_nil))))))))), ?_⟩
  have p50 : (2 : Nat) ^ 50 = 1125899906842624 := by decide
  have p60 : (2 : Nat) ^ 60 = 1152921504606846976 := by decide
  have p100 : (2 : Nat) ^ 100 = 1267650600228229401496703205376 := by decide +kernel
  have p62 : (2 : Int) ^ 62 = 4611686018427387904 := by decide
  have p63 : (2 : Int) ^ 63 = 9223372036854775808 := by decide
  have hlm : (hs.map hv).length = hs.length := List.length_map _
  have tw : t ≠ wl := hw.neT2 ht
  -- names, left
  refine ⟨by show 0 ≤ sizeLine; decide, fun N hN => ?_⟩
  have s1 := (Same.refl H).new (o := .lst []) hN
  have oN : upd H N (.lst []) N = some (.lst (nv [])) := upd_same
  have nNw := hw.ne hN
  have w1 := hw.same s1
  generalize upd H N (.lst []) = H1 at s1 oN w1 ⊢
  refine ⟨_, rfl, _, _, rfl, .inr ⟨_, SqT.of (s1 _ _ ht), rfl⟩, _, rfl, RgOk.of_le (by omega) (by omega) (by omega) (by omega), fun L hL => ⟨_, _, rfl, ?_⟩⟩
  rw [hlm, nv_range]
  have hLn := s1.free hL
  have nLw := hw.ne hLn
  have nNL : N ≠ L := ne_of_none oN hL
  have s2 := s1.new (o := .lst (nv (List.range hs.length))) hL
  have w2 := w1.same ((Same.refl H1).new (o := .lst (nv (List.range hs.length))) hL)
  have oL : upd H1 L (.lst (nv (List.range hs.length))) L = some (.lst (nv (List.range hs.length))) := upd_same
  have oN2 := ((Same.refl H1).new (o := .lst (nv (List.range hs.length))) hL) _ _ oN
  generalize upd H1 L (.lst (nv (List.range hs.length))) = H2 at s2 w2 oL oN2 ⊢
  -- names.append(left.pop(draw))
  refine ⟨_, rfl, _, _, rfl, .inr ⟨_, SqT.of (s2 _ _ ht), rfl⟩, _, rfl, by omega, by omega, for_it walk_range0 (fun i σ H' => ∃ v4, σ = [some (.ref wl), some (.ref t), some (.ref N), some (.ref L), v4, none] ∧ Keep wl H H' ∧ Well H' wl (n + i) ∧
      ∃ nm lf : List Nat, nm.length = i ∧ (nm ++ lf).Perm (List.range hs.length) ∧ H' N = some (.lst (nv nm)) ∧ H' L = some (.lst (nv lf)))
    ⟨none, rfl, s2.keep, w2, [], List.range hs.length, rfl, List.Perm.refl _, oN2, oL⟩ (fun _ _ _ _ _ => trivial) ?_ ?_⟩
  · rintro i x σ H5 H6 hi ⟨v4, rfl, k5, w5, nm, lf, hnm, hp, hN5, hL5⟩ ⟨rfl, rfl⟩
    have hi' : i < hs.length := by omega
    have hlf : nm.length + lf.length = hs.length := by
      have z := hp.length_eq
      rw [List.length_append, List.length_range] at z; exact z
    refine ⟨_, rfl, .inl ⟨rfl, _, SqL.of hN5⟩, ?_⟩
    refine ⟨_, rfl, .inl ⟨rfl, _, SqL.of hL5⟩, ?_⟩
    refine ⟨_, rfl, _, rfl, _, _, rfl, .inl ⟨_, SqL.of hL5, rfl⟩, wl, _, _, rfl, w5, by omega, by rw [nv_length]; omega, by rw [nv_length]; omega, fun d H6 d0 d1 k6 w6 => ?_⟩
    rw [nv_length] at d1
    obtain ⟨j, hj⟩ : ∃ j : Nat, d = (j : Int) := ⟨d.toNat, by omega⟩
    subst hj
    have hjl : j < lf.length := by omega
    have hL6 := k6 L _ nLw hL5
    have hN6 := k6 N _ nNw hN5
    refine ⟨L, _, _, j, _, rfl, rfl, hL6, by omega, by omega, by rw [nv_length]; exact seq_nat hjl, nv_get (List.getElem?_eq_getElem hjl), ?_⟩
    refine ⟨N, _, _, rfl, rfl, by rw [upd_ne nNL]; exact hN6, by rw [nv_length]; exact szl (by omega), ?_⟩
    refine ⟨_, rfl, keep_upd (keep_upd (k5.trans k6) hLn) hN, (w6.updN nLw).updN nNw, nm ++ [lf[j]], lf.eraseIdx j, by rw [List.length_append, hnm]; rfl, ?_, by rw [upd_same, nv_append]; rfl, by rw [upd_ne nNL.symm, upd_same, nv_erase]⟩
    have pe := erase_perm lf j hjl
    rw [List.append_assoc]
    exact (List.Perm.append_left nm pe).trans hp
  · rintro σ H5 ⟨v4, rfl, k5, w5, nm, lf, hnm, hp, hN5, hL5⟩
    rw [hlm, Int.toNat_natCast] at hnm w5
    have hlf : nm.length + lf.length = hs.length := by
      have z := hp.length_eq
      rw [List.length_append, List.length_range] at z; exact z
    have hlf0 : lf = [] := List.eq_nil_of_length_eq_zero (by omega)
    subst hlf0
    rw [List.append_nil] at hp
    have ht5 := k5 t _ tw ht
    -- found = [None] * len(plan)
    refine ⟨by show 1 ≤ sizeLine; decide, fun O hO => ?_⟩
    refine ⟨_, rfl, _, _, rfl, .inr ⟨_, SqT.of (((Same.refl H5).new (o := .lst [.non]) hO) _ _ ht5), rfl⟩, O, _, _, rfl, rfl, upd_same, by omega, by omega, ?_, fun T hT => ?_⟩
    · show 1 * ((hs.map hv).length : Int).toNat ≤ sizeLine
      rw [hlm, Int.toNat_natCast, Nat.one_mul]; exact Nat.le_of_lt (szl (by omega))
    have hT5 : H5 T = none := by
      have z := hT
      rw [upd_ne (ne_of_none upd_same hT).symm] at z; exact z
    have o2 : O ≠ wl := w5.ne hO
    have t2 : T ≠ wl := w5.ne hT5
    have o1 := keep_free k5 o2 hO
    have t1 := keep_free k5 t2 hT5
    have t4 : N ≠ T := ne_of_none hN5 hT5
    have o4 : N ≠ O := ne_of_none hN5 hO
    have hnl : ∀ j : Nat, j < hs.length → ∃ v, nm[j]? = some v ∧ v < hs.length := fun j hj => by
      have h1 : j < nm.length := by omega
      exact ⟨nm[j], List.getElem?_eq_getElem h1, List.mem_range.mp (hp.mem_iff.mp (List.getElem_mem h1))⟩
    have hnd : nm.Nodup := hp.nodup_iff.mpr List.nodup_range
    have ht6 := ((Same.refl (upd H5 O (.lst [.non]))).new (o := .lst ((List.replicate ((hs.map hv).length : Int).toNat [V.non]).flatten)) hT) _ _ (((Same.refl H5).new (o := .lst [.non]) hO) _ _ ht5)
    -- found[names[k]] = ..
    refine ⟨_, rfl, _, _, rfl, .inr ⟨_, SqT.of ht6, rfl⟩, _, rfl, by omega, by omega, for_it walk_range0 (fun i σ H' => ∃ v4, σ = [some (.ref wl), some (.ref t), some (.ref N), some (.ref L), v4, some (.ref T)] ∧ Keep wl H H' ∧ Well H' wl (n + hs.length) ∧ H' N = some (.lst (nv nm)) ∧
        ∃ th : Hs, th.length = hs.length ∧ (∀ (j v : Nat) (o : Option Nat), j < i → nm[j]? = some v → hs[j]? = some o → th[v]? = some (ren nm o)) ∧ H' T = some (.lst (th.map hv)))
      ⟨v4, rfl, keep_upd (keep_upd k5 o1) t1, (w5.updN o2).updN t2, by rw [upd_ne t4, upd_ne o4]; exact hN5, List.replicate hs.length none, List.length_replicate, fun j v o hj => absurd hj (Nat.not_lt_zero j), by rw [upd_same, rep_non, hlm, Int.toNat_natCast]⟩ (fun _ _ _ _ _ => trivial) ?_ ?_⟩
    · rintro i x σ H6 H7 hi ⟨v4, rfl, k6, w6, hN6, th, hth, hr', hT6⟩ ⟨rfl, rfl⟩
      have hi' : i < hs.length := by omega
      obtain ⟨v, ev, hv'⟩ := hnl i hi'
      have eo : hs[i]? = some hs[i] := List.getElem?_eq_getElem hi'
      generalize hs[i] = o at eo
      have ht7 := k6 t _ tw ht
      have fin : ∀ x : V, x = hv (ren nm o) → gSub (tVar 5) (tOp (rIxL K) (tVar 2) (tVar 4)) rSetL x [some (.ref wl), some (.ref t), some (.ref N), some (.ref L), some (.int (i : Int)), some (.ref T)] H7
          (fun σ H' => ∃ v4, σ = [some (.ref wl), some (.ref t), some (.ref N), some (.ref L), v4, some (.ref T)] ∧ Keep wl H H' ∧ Well H' wl (n + hs.length) ∧ H' N = some (.lst (nv nm)) ∧
            ∃ th : Hs, th.length = hs.length ∧ (∀ (j v : Nat) (o : Option Nat), j < i + 1 → nm[j]? = some v → hs[j]? = some o → th[v]? = some (ren nm o)) ∧ H' T = some (.lst (th.map hv))) := by
        rintro x rfl
        refine ⟨_, rfl, _, rfl, _, rfl, N, _, _, _, rfl, rfl, SqL.of hN6, atI_nat (nv_get ev), T, _, _, v, rfl, rfl, hT6, by rw [List.length_map, hth]; exact ixN_nat hv', ?_⟩
        refine ⟨_, rfl, keep_upd k6 t1, w6.updN t2, by rw [upd_ne t4]; exact hN6, th.set v (ren nm o), by rw [List.length_set]; exact hth, ?_, by rw [upd_same, List.map_set]⟩
        intro j v' o' hj e1 e2
        by_cases hji : j = i
        · subst hji
          have q1 : v' = v := Option.some.inj (e1.symm.trans ev)
          have q2 : o' = o := Option.some.inj (e2.symm.trans eo)
          subst q1 q2
          exact List.getElem?_set_self (by rw [hth]; exact hv')
        · have hne : v ≠ v' := fun z => hji (nodup_at hnd e1 (by rw [← z]; exact ev))
          rw [List.getElem?_set_ne hne]
          exact hr' j v' o' (by omega) e1 e2
      refine ⟨_, rfl, _, rfl, t, _, _, _, rfl, rfl, SqT.of ht7, atI_nat (hv_at eo), rfl, _, rfl, ?_⟩
      cases o with
      | none => exact iteT (fin _ rfl)
      | some u =>
        have hu := fo.inb i u eo
        obtain ⟨vu, eu, _⟩ := hnl u (by omega)
        refine iteF ⟨_, rfl, _, rfl, _, rfl, t, _, _, _, rfl, rfl, SqT.of ht7, atI_nat (hv_at eo), N, _, _, _, rfl, rfl, SqL.of hN6, atI_nat (nv_get eu), fin _ ?_⟩
        show V.int (vu : Int) = V.int ((nm.getD u 0 : Nat) : Int)
        rw [List.getD_eq_getElem?_getD, eu]; rfl
    · rintro σ H6 ⟨v4, rfl, k6, w6, hN6, th, hth, hr', hT6⟩
      rw [hlm, Int.toNat_natCast] at hr'
      refine ⟨_, rfl, T, _, rfl, .inl ⟨SqL.of hT6, fun r hr2 => ?_⟩⟩
      have rw' := w6.ne hr2
      refine q r th _ (fo_turnedF fo hp hth fun j v o e1 e2 => hr' j v o (List.getElem?_eq_some_iff.mp e2).1 e1 e2) hth (keep_upd k6 (keep_free k6 rw' hr2)) ((w6.updN rw').mono (by omega)) (keep_free k6 rw' hr2) upd_same
end

end My

namespace My
open PySem PySem.Spec PyProof.Rows L2
/-! ### forests with one holder changed, or two crossed -/
theorem rch_like {hs th : Hs} {v : Nat} {l : List Nat} (a : Ups hs v l) : (∀ x ∈ v :: l, th[x]? = hs[x]?) → Rch th v := by
  induction a with
  | root h => exact fun k => .root ((k _ List.mem_cons_self).trans h)
  | step h r ih => exact fun k => .step ((k _ List.mem_cons_self).trans h) (ih fun x m => k x (List.mem_cons_of_mem _ m))
theorem upC {hs : Hs} (fo : Fo hs) {b u : Nat} (e : hs[b]? = some (some u)) : My.up hs b = u :: My.up hs u := up_cons fo e
theorem fo_rch {hs th : Hs} (ne : hs ≠ []) (l : th.length = hs.length) (inb : ∀ v u : Nat, th[v]? = some (some u) → u < hs.length) (r : ∀ v, v < hs.length → Rch th v) : Fo th :=
  ⟨fun z => ne (List.eq_nil_of_length_eq_zero (by rw [z] at l; exact l.symm)), fun v u e => by rw [l]; exact inb v u e, fun v hv => r v (by rw [l] at hv; exact hv)⟩
theorem hung_fo {hs : Hs} (fo : Fo hs) {a : Nat} (ha : a < hs.length) {o : Option Nat} (ho : ∀ u, o = some u → u < hs.length ∧ u ≠ a ∧ a ∉ My.up hs u) : Fo (hs.set a o) := by
  have off : ∀ x, x ≠ a → (hs.set a o)[x]? = hs[x]? := fun x n => List.getElem?_set_ne (Ne.symm n)
  have on : (hs.set a o)[a]? = some o := List.getElem?_set_self ha
  have ra : Rch (hs.set a o) a := by
    cases o with
    | none => exact .root on
    | some u =>
      obtain ⟨h1, h2, h3⟩ := ho u rfl
      refine .step on (rch_like (fo.ups h1) fun x m => off x fun z => ?_)
      rw [z] at m
      exact (List.mem_cons.mp m).elim (fun q => h2 q.symm) h3
  refine fo_rch fo.ne List.length_set (fun v u e => ?_) fun v hv => ?_
  · by_cases c : v = a
    · subst c
      rw [on] at e
      exact (ho u (Option.some.inj e)).1
    · rw [off v c] at e
      exact fo.inb v u e
  · have r := fo.all v hv
    induction r with
    | @root v h =>
      by_cases c : v = a
      · rw [c]; exact ra
      · exact .root ((off v c).trans h)
    | @step v u h r ih =>
      by_cases c : v = a
      · rw [c]; exact ra
      · exact .step ((off v c).trans h) (ih (fo.inb v u h))
theorem cross_fo {hs : Hs} (fo : Fo hs) {a b : Nat} {oa ob : Option Nat} (ea : hs[a]? = some oa) (eb : hs[b]? = some ob) (ne : a ≠ b) (nab : a ∉ My.up hs b) (nba : b ∉ My.up hs a) : Fo ((hs.set a ob).set b oa) := by
  have ha := (List.getElem?_eq_some_iff.mp ea).1
  have hb := (List.getElem?_eq_some_iff.mp eb).1
  have off : ∀ x, x ≠ a → x ≠ b → ((hs.set a ob).set b oa)[x]? = hs[x]? := fun x n m => by
    rw [List.getElem?_set_ne (Ne.symm m), List.getElem?_set_ne (Ne.symm n)]
  have onB : ((hs.set a ob).set b oa)[b]? = some oa := List.getElem?_set_self (by rw [List.length_set]; exact hb)
  have onA : ((hs.set a ob).set b oa)[a]? = some ob := by
    rw [List.getElem?_set_ne (Ne.symm ne)]; exact List.getElem?_set_self ha
  have ra : Rch ((hs.set a ob).set b oa) a := by
    cases ob with
    | none => exact .root onA
    | some u =>
      have hu := fo.inb b u eb
      have eu := upC fo eb
      rw [eu] at nab
      have nb : b ∉ u :: My.up hs u := by
        rw [← eu]; exact up_self fo hb
      exact .step onA (rch_like (fo.ups hu) fun x m => off x (fun z => nab (by rw [← z]; exact m)) fun z => nb (by rw [← z]; exact m))
  have rb : Rch ((hs.set a ob).set b oa) b := by
    cases oa with
    | none => exact .root onB
    | some u =>
      have hu := fo.inb a u ea
      have eu := upC fo ea
      rw [eu] at nba
      have na : a ∉ u :: My.up hs u := by
        rw [← eu]; exact up_self fo ha
      exact .step onB (rch_like (fo.ups hu) fun x m => off x (fun z => na (by rw [← z]; exact m)) fun z => nba (by rw [← z]; exact m))
  refine fo_rch fo.ne (by rw [List.length_set, List.length_set]) (fun v u e => ?_) fun v hv => ?_
  · by_cases c : v = b
    · subst c
      rw [onB] at e
      rw [Option.some.inj e] at ea
      exact fo.inb a u ea
    · by_cases d : v = a
      · subst d
        rw [onA] at e
        rw [Option.some.inj e] at eb
        exact fo.inb b u eb
      · rw [off v d c] at e
        exact fo.inb v u e
  · have r := fo.all v hv
    induction r with
    | @root v h =>
      by_cases c : v = a
      · rw [c]; exact ra
      · by_cases d : v = b
        · rw [d]; exact rb
        · exact .root ((off v c d).trans h)
    | @step v u h r ih =>
      by_cases c : v = a
      · rw [c]; exact ra
      · by_cases d : v = b
        · rw [d]; exact rb
        · exact .step ((off v c d).trans h) (ih (fo.inb v u h))

end My

namespace My
open PySem PySem.Spec PyProof.Rows L2
/-! ### a thing hung elsewhere -/
def spHung : Sp := fun vs H Q _ => ∃ (wl t : Addr) (n : Nat) (hs : Hs), vs = [.ref wl, .ref t] ∧ Well H wl n ∧ n < 2 ^ 50 ∧ H t = some (.tup (hs.map hv)) ∧ Fo hs ∧ hs.length ≤ 60 ∧
  ∀ t' hs' H', Fo hs' → hs'.length = hs.length → Keep wl H H' → Well H' wl (n + 2) → H t' = none → H' t' = some (.tup (hs'.map hv)) → Q (.ref t') H'
section
variable {P : Program} {w : World} {K : PySem.W.Frag} {mg : Str → Option Value} {base : Heap}
abbrev st__law_hung : Stmt := topS 36
abbrev N__law_hung : List Str := ["well", "plan", "one", "some", "mate", "found"]
theorem sc__law_hung : FnScope N__law_hung ["well", "plan"] (defScope st__law_hung) := ⟨rfl, rfl, rfl, by decide +kernel, rfl, by decide +kernel, by decide +kernel⟩
theorem ok__law_hung (D : Df K mg "_law_hung" st__law_hung ["well", "plan"]) (B : Bl mg) (K_law_draw : Kn P w K mg base CX0 1 "_law_draw" st__law_draw ["well", "most"] spDraw) (K_law_up : Kn P w K mg base CX0 1 "_law_up" st__law_up ["plan", "one"] spUp) :
    Kn P w K mg base CX0 2 "_law_hung" st__law_hung ["well", "plan"] spHung := by
  refine D.ok sc__law_hung (fun vs H Q E h => ?_) (fun f cdv A outer s H vs Q E hr h => ?_)
  · obtain ⟨wl, t, n, hs, rfl, _⟩ := h; rfl
  obtain ⟨wl, t, n, hs, rfl, hw, hn, ht, fo, l60, q⟩ := h
  refine ⟨_, ((pss_cons (ps_par (i := 2) (j := 3) (by rfl) sc__law_hung.nd rfl rfl (by decide) rfl rfl (pa_cons (pe_callF K_law_draw (hr.mono (by decide)) pass0 (pa_cons (pv 0) (pa_cons (pe_callB call_len (by rfl) B.len (by decide +kernel) (pa_cons (pv 1) pa_nil)) pa_nil))) (pa_cons (pe_lst (pa_cons pe_non pa_nil)) pa_nil)) (by rfl))
      (pss_cons (ps_for PassesOwn.never rfl (pi_range1 (by rfl) B.range (pa_cons (pe_callB call_len (by rfl) B.len (by decide +kernel) (pa_cons (pv 1) pa_nil)) pa_nil)) (pg_name (i := 4) sc__law_hung.nd rfl (Or.inl rfl)) (pss_one (ps_if (PW.pt (pw_and (pt_cmpR op_ne (pv 4) (pv 2) (nomark _)) (pw_and1 (pt_cmpR op_notIn_seq (pv 2) (pe_callF K_law_up (hr.mono (by decide)) pass0 (pa_cons (pv 1) (pa_cons (pv 4) pa_nil))) (by rfl))))) (pss_one (ps_expr (pe_bm PySem.F.plainAttrs_list PySem.F.slot_list_append PySem.F.type_list_append mt_append (pv 3) (pa_cons (pv 4) pa_nil)))) pss_nil)))
      (pss_cons (ps_set (i := 5) sc__law_hung.nd rfl (Or.inl rfl) (pe_callTy call_list_of (by rfl) B.list (by decide +kernel) (pa_cons (pv 1) pa_nil)))
      (pss_cons (ps_asg (pe_ix ix_list (pv 3) (pe_callF K_law_draw (hr.mono (by decide)) pass0 (pa_cons (pv 0) (pa_cons (pe_callB call_len (by rfl) B.len (by decide +kernel) (pa_cons (pv 3) pa_nil)) pa_nil))) (fun _ _ => rfl)) (pg_sub (pv 5) (pv 2) set_list))
      (pss_one (ps_ret (pe_callTy call_tuple_of (by rfl) B.tuple (by decide +kernel) (pa_cons (pv 5) pa_nil))))))))), ?_⟩
  have p50 : (2 : Nat) ^ 50 = 1125899906842624 := by decide
  have p60 : (2 : Nat) ^ 60 = 1152921504606846976 := by decide
  have p100 : (2 : Nat) ^ 100 = 1267650600228229401496703205376 := by decide +kernel
  have p63 : (2 : Int) ^ 63 = 9223372036854775808 := by decide
  have hlm : (hs.map hv).length = hs.length := List.length_map _
  have tw : t ≠ wl := hw.neT2 ht
  have n1 : 1 ≤ hs.length := by
    have := fo.ne
    cases hs with
    | nil => exact absurd rfl this
    | cons _ _ => exact Nat.succ_le_succ (Nat.zero_le _)
  refine ⟨_, rfl, _, rfl, _, _, rfl, .inr ⟨_, SqT.of ht, rfl⟩, wl, n, _, rfl, hw, by omega, by rw [hlm]; omega, by rw [hlm]; omega, fun d H1 d0 d1 k1 w1 => ⟨by show 1 ≤ sizeLine; decide, fun S hS => ⟨_, _, rfl, ?_⟩⟩⟩
  rw [hlm] at d1
  obtain ⟨a, rfl⟩ : ∃ a : Nat, d = (a : Int) := ⟨d.toNat, by omega⟩
  have ha : a < hs.length := by omega
  have ht1 := k1 _ _ tw ht
  have Sw : S ≠ wl := w1.ne hS
  have s2 := (Same.refl H1).new (o := .lst [.non]) hS
  have oS : upd H1 S (.lst [.non]) S = some (.lst (([none] : Hs).map hv)) := upd_same
  have hSH := keep_free k1 Sw hS
  generalize upd H1 S (.lst [.non]) = H2 at s2 oS ⊢
  have ht2 := s2 _ _ ht1
  have tS : t ≠ S := fun z => by rw [z, oS] at ht2; cases ht2
  have w2 := w1.same s2
  have k2 : Keep wl H H2 := fun b o nb e => s2 _ _ (k1 b o nb e)
  refine ⟨_, rfl, _, _, rfl, .inr ⟨_, SqT.of ht2, rfl⟩, _, rfl, by rw [hlm]; omega, by rw [hlm]; omega, for_it walk_range0 (fun i σ H' => ∃ v4, σ = [some (.ref wl), some (.ref t), some (.int (a : Int)), some (.ref S), v4, none] ∧ Keep S H2 H' ∧ ∃ gs : Hs, H' S = some (.lst (gs.map hv)) ∧ gs ≠ [] ∧ gs.length ≤ 1 + i ∧ ∀ o ∈ gs, ∀ u, o = some u → u < hs.length ∧ u ≠ a ∧ a ∉ My.up hs u)
    ⟨none, rfl, Keep.refl S H2, [none], oS, by decide, by show 1 ≤ _; omega, fun o m u e => by rw [List.mem_singleton.mp m] at e; cases e⟩ (fun _ _ _ _ _ => trivial) ?_ ?_⟩
  · rintro i x σ H3 H4 hi ⟨v4, rfl, k3, gs, oS3, ne, lg, hg⟩ ⟨rfl, rfl⟩
    rw [hlm] at hi
    have hi : i < hs.length := by omega
    have ht3 := k3 _ _ tS ht2
    have stay : ∀ {H' : Hp}, Same H4 H' → ∃ v4, [some (V.ref wl), some (V.ref t), some (V.int (a : Int)), some (V.ref S), some (V.int (i : Int)), none] = [some (.ref wl), some (.ref t), some (.int (a : Int)), some (.ref S), v4, none] ∧ Keep S H2 H' ∧ ∃ gs : Hs, H' S = some (.lst (gs.map hv)) ∧ gs ≠ [] ∧ gs.length ≤ 1 + (i + 1) ∧ ∀ o ∈ gs, ∀ u, o = some u → u < hs.length ∧ u ≠ a ∧ a ∉ My.up hs u :=
      fun s => ⟨_, rfl, fun b o nb e => s _ _ (k3 b o nb e), gs, s _ _ oS3, ne, by omega, hg⟩
    refine ⟨_, rfl, _, rfl, rfl, _, rfl, ite2 (fun c => ?_) (fun c => stay (Same.refl _))⟩
    have nia : i ≠ a := fun z => by subst z; simp at c
    refine ⟨_, rfl, _, rfl, _, rfl, t, hs, i, rfl, ht3, fo, by omega, hi, fun p H5 s5 hp op => ⟨p, _, rfl, .inl (SqL.of op), rfl, flat_nv _, !decide (a ∈ My.up hs i), congrArg (fun b => V.bl (!b)) (inV_nv _ _), ite2 (fun c2 => ?_) (fun c2 => stay s5)⟩⟩
    have nau : a ∉ My.up hs i := fun z => by rw [decide_eq_true z] at c2; cases c2
    have oS5 := s5 _ _ oS3
    refine ⟨_, rfl, .inl ⟨rfl, _, SqL.of oS5⟩, _, rfl, S, _, _, rfl, rfl, oS5, by rw [List.length_map]; exact szl (by omega), ?_⟩
    refine ⟨_, rfl, fun b o nb e => (upd_ne nb).trans (s5 _ _ (k3 b o nb e)), gs ++ [some i], by rw [upd_same, List.map_append]; rfl, by simp, by rw [List.length_append]; show gs.length + 1 ≤ _; omega, fun o m u e => ?_⟩
    rcases List.mem_append.mp m with m | m
    · exact hg o m u e
    · rw [List.mem_singleton.mp m] at e
      cases e
      exact ⟨hi, nia, nau⟩
  rintro σ H3 ⟨v4, rfl, k3, gs, oS3, ne, lg, hg⟩
  rw [hlm] at lg
  have ht3 := k3 _ _ tS ht2
  have w3 : Well H3 wl (n + 1) := by
    obtain ⟨x, y, z, e, r⟩ := w2.ex
    exact ⟨x, y, z, k3 _ _ Sw.symm e, r⟩
  have kwl3 : Keep wl H H3 := fun b o nb e => k3 b o (fun z => by rw [z, hSH] at e; cases e) (k2 b o nb e)
  refine ⟨_, rfl, t, _, rfl, .inr (SqT.of ht3), fun F hF => ?_⟩
  have Fw : F ≠ wl := w3.ne hF
  have s4 := (Same.refl H3).new (o := .lst (hs.map hv)) hF
  have oF : upd H3 F (.lst (hs.map hv)) F = some (.lst (hs.map hv)) := upd_same
  have hFH := keep_free kwl3 Fw hF
  generalize upd H3 F (.lst (hs.map hv)) = H4 at s4 oF ⊢
  have oS4 := s4 _ _ oS3
  have lg1 : 1 ≤ gs.length := by
    cases gs with
    | nil => exact absurd rfl ne
    | cons _ _ => exact Nat.succ_le_succ (Nat.zero_le _)
  have lgm : (gs.map hv).length = gs.length := List.length_map _
  refine ⟨_, rfl, _, rfl, _, rfl, _, _, rfl, .inl ⟨_, SqL.of oS4, rfl⟩, wl, _, _, rfl, w3.same s4, by omega, by rw [lgm]; omega, by rw [lgm]; omega, fun d2 H5 e0 e1 k5 w5 => ?_⟩
  rw [lgm] at e1
  obtain ⟨j, rfl⟩ : ∃ j : Nat, d2 = (j : Int) := ⟨d2.toNat, by omega⟩
  have hj : j < gs.length := by omega
  have eo : gs[j]? = some gs[j] := List.getElem?_eq_getElem hj
  have ho := hg _ (List.getElem_mem hj)
  generalize gs[j] = o at eo ho
  have oS5 := k5 _ _ Sw oS4
  have oF5 := k5 _ _ Fw oF
  refine ⟨S, _, _, _, rfl, rfl, SqL.of oS5, atI_nat (hv_at eo), _, rfl, _, rfl, F, _, _, a, rfl, rfl, oF5, by rw [hlm]; exact ixN_nat ha, ?_⟩
  have k6 : Keep wl H (upd H5 F (.lst ((hs.map hv).set a (hv o)))) := fun b u nb e => by
    have nF : b ≠ F := fun z => by rw [z, hFH] at e; cases e
    exact (upd_ne nF).trans (k5 b u nb (s4 _ _ (kwl3 b u nb e)))
  have w6 := (w5.updN (o := .lst ((hs.map hv).set a (hv o))) Fw).mono (show n + 1 + 1 ≤ n + 2 by omega)
  have oF6 : upd H5 F (.lst ((hs.map hv).set a (hv o))) F = some (.lst ((hs.set a o).map hv)) := by rw [upd_same, List.map_set]
  generalize upd H5 F (.lst ((hs.map hv).set a (hv o))) = H6 at k6 w6 oF6 ⊢
  refine ⟨_, rfl, F, _, rfl, .inl ⟨SqL.of oF6, fun r hr2 => ?_⟩⟩
  have rw' := w6.ne hr2
  exact q r (hs.set a o) _ (hung_fo fo ha ho) List.length_set (keep_upd k6 (keep_free k6 rw' hr2)) (w6.updN rw') (keep_free k6 rw' hr2) upd_same
end

end My

namespace My
open PySem PySem.Spec PyProof.Rows L2
/-! ### two holders crossed -/
theorem sz_less {hs : Hs} (fo : Fo hs) {v u : Nat} (e : hs[v]? = some (some u)) : (szL hs).getD v 0 < (szL hs).getD u 0 := by
  have hu := fo.inb v u e
  rw [(szL_ok fo).2 u hu]
  have hm := mem_kids.mpr e
  have pos : ∀ c ∈ kids hs u, 1 ≤ (szL hs).getD c 0 := fun c hc => (szL_at fo (List.getElem?_eq_some_iff.mp (mem_kids.mp hc)).1).1
  generalize kids hs u = cs at hm pos
  have key : (szL hs).getD v 0 ≤ (cs.map fun c => (szL hs).getD c 0).sum ∧ 0 ≤ (cs.map fun c => (szL hs).getD c 0).sum := by
    induction cs with
    | nil => cases hm
    | cons c cs ih =>
      rw [List.map_cons, List.sum_cons]
      have p1 := pos c List.mem_cons_self
      have nn : 0 ≤ (cs.map fun c => (szL hs).getD c 0).sum := by
        have all : ∀ x ∈ cs, 1 ≤ (szL hs).getD x 0 := fun x hx => pos x (List.mem_cons_of_mem _ hx)
        clear ih hm pos
        induction cs with
        | nil => exact Int.le_refl 0
        | cons d cs ih2 =>
          rw [List.map_cons, List.sum_cons]
          have := all d List.mem_cons_self
          have := ih2 fun x hx => all x (List.mem_cons_of_mem _ hx)
          omega
      rcases List.mem_cons.mp hm with rfl | hm
      · omega
      · have := ih hm fun x hx => pos x (List.mem_cons_of_mem _ hx)
        omega
  omega
theorem way_pair {hs : Hs} (fo : Fo hs) {t : Nat} {l : List Nat} (a : Ups hs t l) : ((l.reverse ++ [t]).map fun v => (szL hs).getD v 0).Pairwise (fun a b => b < a) := by
  induction a with
  | root h => exact List.pairwise_singleton _ _
  | @step t u l h r ih =>
    have e : (u :: l).reverse ++ [t] = (l.reverse ++ [u]) ++ [t] := by rw [List.reverse_cons]
    rw [e, List.map_append, List.pairwise_append]
    refine ⟨ih, List.pairwise_singleton _ _, fun x hx y hy => ?_⟩
    have ey : y = (szL hs).getD t 0 := List.mem_singleton.mp hy
    subst ey
    have z := sz_less fo h
    rw [List.map_append, List.pairwise_append] at ih
    rw [List.map_append] at hx
    rcases List.mem_append.mp hx with hx | hx
    · have q := ih.2.2 x hx _ (List.mem_singleton.mpr rfl)
      exact Int.lt_trans z q
    · rw [List.mem_singleton.mp hx]; exact z
theorem up_gt {hs : Hs} (fo : Fo hs) {t : Nat} (ht : t < hs.length) {u : Nat} (hu : u ∈ up hs t) : (szL hs).getD t 0 < (szL hs).getD u 0 := by
  have w := way_pair fo (fo.ups ht)
  rw [List.map_append, List.pairwise_append] at w
  exact w.2.2 ((szL hs).getD u 0) (List.mem_map.mpr ⟨u, List.mem_reverse.mpr hu, rfl⟩) ((szL hs).getD t 0) (by simp)

def prI (p : Nat × Nat) : PyData := .tuple [.int (p.1 : Int), .int (p.2 : Int)]
theorem lay_prI : ∀ l : List (Nat × Nat), PyData.canLayAll0 (l.map prI) = true
  | [] => rfl
  | v :: l => by
    show PyData.canLayAll0 (prI v :: l.map prI) = true
    rw [PyData.canLayAll0, lay_prI l]; rfl
theorem deep_prI : ∀ l : List (Nat × Nat), PyData.depthAll (l.map prI) ≤ 1
  | [] => Nat.zero_le _
  | v :: l => by
    show PyData.depthAll (prI v :: l.map prI) ≤ 1
    rw [PyData.depthAll]
    exact Nat.max_le.mpr ⟨Nat.le_refl _, deep_prI l⟩
theorem shaped_prI (l : List (Nat × Nat)) : SeqAt.shaped (.list (l.map prI)) = true := by
  unfold SeqAt.shaped
  have d := deep_prI l
  rw [PyData.canLay0, lay_prI, PyData.depth]
  show decide (_ ≤ 64) = true
  exact decide_eq_true (by omega)
/-- the pairs told so far -/
structure Prs (H : Hp) (as : List Addr) (ps : List (Nat × Nat)) : Prop where
  len : as.length = ps.length
  at_ : ∀ (i : Nat) (a : Addr) (p : Nat × Nat), as[i]? = some a → ps[i]? = some p → H a = some (.tup [.int (p.1 : Int), .int (p.2 : Int)])
theorem Prs.same {H H' : Hp} {as : List Addr} {ps : List (Nat × Nat)} (h : Prs H as ps) (s : ∀ a ∈ as, ∀ o, H a = some o → H' a = some o) : Prs H' as ps := ⟨h.len, fun i a p e1 e2 => s a (List.mem_of_getElem? e1) _ (h.at_ i a p e1 e2)⟩
theorem Prs.snoc {H : Hp} {as : List Addr} {ps : List (Nat × Nat)} {a : Addr} {p : Nat × Nat} (h : Prs H as ps) (e : H a = some (.tup [.int (p.1 : Int), .int (p.2 : Int)])) : Prs H (as ++ [a]) (ps ++ [p]) := by
  refine ⟨by rw [List.length_append, List.length_append, h.len]; rfl, fun i b r e1 e2 => ?_⟩
  by_cases c : i < as.length
  · rw [List.getElem?_append_left c] at e1
    rw [List.getElem?_append_left (by rw [← h.len]; exact c)] at e2
    exact h.at_ i b r e1 e2
  · rw [List.getElem?_append_right (by omega)] at e1
    rw [List.getElem?_append_right (by rw [← h.len]; omega)] at e2
    have z : i - as.length = 0 := by
      have := (List.getElem?_eq_some_iff.mp e1).1
      rw [List.length_singleton] at this; omega
    rw [z] at e1
    rw [← h.len, z] at e2
    rw [← Option.some.inj e1, ← Option.some.inj e2]; exact e
theorem Prs.dp {K : PySem.W.Frag} {H : Hp} : ∀ {as : List Addr} {ps : List (Nat × Nat)}, Prs H as ps → DpAll K H (as.map V.ref) (ps.map prI)
  | [], [], _ => .nil
  | [], _ :: _, h => by have := h.len; cases this
  | _ :: _, [], h => by have := h.len; cases this
  | a :: as, p :: ps, h => .cons (.tup (SqT.of (h.at_ 0 a p rfl rfl)) (.cons (.int _) (.cons (.int _) .nil))) (Prs.dp ⟨Nat.succ.inj h.len, fun i b r e1 e2 => h.at_ (i + 1) b r e1 e2⟩)
theorem eqv_prI : ∀ l : List (Nat × Nat), PyData.eqv (.list (l.map prI)) (.list []) = decide (l = [])
  | [] => by rw [eqv_list]; rfl
  | p :: l => by rw [eqv_list]; rfl
def GoodP (hs : Hs) (p : Nat × Nat) : Prop := p.1 < hs.length ∧ p.2 < p.1 ∧ (szL hs).getD p.1 0 = (szL hs).getD p.2 0
def spCross : Sp := fun vs H Q _ => ∃ (wl t : Addr) (n : Nat) (hs : Hs), vs = [.ref wl, .ref t] ∧ Well H wl n ∧ n < 2 ^ 50 ∧ H t = some (.tup (hs.map hv)) ∧ Fo hs ∧ hs.length ≤ 60 ∧
  ∀ t' hs' H', Fo hs' → hs'.length = hs.length → Keep wl H H' → Well H' wl (n + 1) → t' ≠ wl → H' t' = some (.tup (hs'.map hv)) → Q (.ref t') H'
section
variable {P : Program} {w : World} {K : PySem.W.Frag} {mg : Str → Option Value} {base : Heap}
abbrev st__law_crossed : Stmt := topS 35
abbrev N__law_crossed : List Str := ["well", "plan", "weights", "pairs", "one", "mate", "found"]
theorem sc__law_crossed : FnScope N__law_crossed ["well", "plan"] (defScope st__law_crossed) := ⟨rfl, rfl, rfl, by decide +kernel, rfl, by decide +kernel, by decide +kernel⟩
theorem ok__law_crossed (D : Df K mg "_law_crossed" st__law_crossed ["well", "plan"]) (B : Bl mg) (K_law_draw : Kn P w K mg base CX0 1 "_law_draw" st__law_draw ["well", "most"] spDraw) (K_law_weights : Kn P w K mg base CX0 3 "_law_weights" st__law_weights ["plan"] spWeights0) :
    Kn P w K mg base CX0 4 "_law_crossed" st__law_crossed ["well", "plan"] spCross := by
  refine D.ok sc__law_crossed (fun vs H Q E h => ?_) (fun f cdv A outer s H vs Q E hr h => ?_)
  · obtain ⟨wl, t, n, hs, rfl, _⟩ := h; rfl
  obtain ⟨wl, t, n, hs, rfl, hw, hn, ht, fo, l60, q⟩ := h
  refine ⟨_, ((pss_cons (ps_par (i := 2) (j := 3) (by rfl) sc__law_crossed.nd rfl rfl (by decide) rfl rfl (pa_cons (pe_callF K_law_weights (hr.mono (by decide)) pass0 (pa_cons (pv 1) pa_nil)) (pa_cons (pe_lst pa_nil) pa_nil)) (by rfl))
      (pss_cons (ps_for PassesOwn.never rfl (pi_range1 (by rfl) B.range (pa_cons (pe_callB call_len (by rfl) B.len (by decide +kernel) (pa_cons (pv 1) pa_nil)) pa_nil)) (pg_name (i := 4) sc__law_crossed.nd rfl (Or.inl rfl)) (pss_one (ps_for PassesOwn.never rfl (pi_range1 (by rfl) B.range (pa_cons (pv 4) pa_nil)) (pg_name (i := 5) sc__law_crossed.nd rfl (Or.inl rfl)) (pss_one (ps_if (PW.pt (pw_and (pt_cmpR op_eq (pe_ix ix_list (pv 2) (pv 4) (fun _ _ => rfl)) (pe_ix ix_list (pv 2) (pv 5) (fun _ _ => rfl)) (nomark _)) (pw_and1 (pt_cmpR op_ne (pe_ix ix_tup (pv 1) (pv 4) (fun _ _ => rfl)) (pe_ix ix_tup (pv 1) (pv 5) (fun _ _ => rfl)) (nomark _))))) (pss_one (ps_expr (pe_bm PySem.F.plainAttrs_list PySem.F.slot_list_append PySem.F.type_list_append mt_append (pv 3) (pa_cons (pe_tup (pa_cons (pv 4) (pa_cons (pv 5) pa_nil))) pa_nil)))) pss_nil)))))
      (pss_cons (ps_if (pt_cmpR (op_eqD hr.units) (pv 3) (pe_lst pa_nil) (nomark _)) (pss_one (ps_ret (pv 1))) pss_nil)
      (pss_cons (ps_asg (pe_ix ix_list (pv 3) (pe_callF K_law_draw (hr.mono (by decide)) pass0 (pa_cons (pv 0) (pa_cons (pe_callB call_len (by rfl) B.len (by decide +kernel) (pa_cons (pv 3) pa_nil)) pa_nil))) (fun _ _ => rfl)) (pg_tup rfl (pgs_cons (pg_name (i := 4) sc__law_crossed.nd rfl (Or.inl rfl)) (pgs_cons (pg_name (i := 5) sc__law_crossed.nd rfl (Or.inl rfl)) pgs_nil))))
      (pss_cons (ps_set (i := 6) sc__law_crossed.nd rfl (Or.inl rfl) (pe_callTy call_list_of (by rfl) B.list (by decide +kernel) (pa_cons (pv 1) pa_nil)))
      (pss_cons (ps_asg (pe_ix ix_tup (pv 1) (pv 5) (fun _ _ => rfl)) (pg_sub (pv 6) (pv 4) set_list))
      (pss_cons (ps_asg (pe_ix ix_tup (pv 1) (pv 4) (fun _ _ => rfl)) (pg_sub (pv 6) (pv 5) set_list))
      (pss_one (ps_ret (pe_callTy call_tuple_of (by rfl) B.tuple (by decide +kernel) (pa_cons (pv 6) pa_nil)))))))))))), ?_⟩
  have p50 : (2 : Nat) ^ 50 = 1125899906842624 := by decide
  have p60 : (2 : Nat) ^ 60 = 1152921504606846976 := by decide
  have p100 : (2 : Nat) ^ 100 = 1267650600228229401496703205376 := by decide +kernel
  have p63 : (2 : Int) ^ 63 = 9223372036854775808 := by decide
  have hlm : (hs.map hv).length = hs.length := List.length_map _
  have tw : t ≠ wl := hw.neT2 ht
  refine ⟨_, rfl, t, hs, rfl, ht, fun _ => fo, by omega, fun W Fw H1 s1 hW0 wt oW => ⟨by show 0 ≤ sizeLine; decide, fun S hS => ⟨_, _, rfl, ?_⟩⟩⟩
  have eF := size_one fo (wt.size fo) (szL_ok fo)
  subst eF
  have lS : (szL hs).length = hs.length := (szL_ok fo).1
  have s2 := s1.new (o := .lst []) hS
  have oS : upd H1 S (.lst []) S = some (.lst (([] : List Addr).map V.ref)) := upd_same
  have oW2 := ((Same.refl H1).new (o := .lst []) hS) _ _ oW
  have hSH := s1.free hS
  generalize upd H1 S (.lst []) = H2 at s2 oS oW2 ⊢
  have ht2 := s2 _ _ ht
  have tS : t ≠ S := fun z => by rw [z, oS] at ht2; cases ht2
  have WS : W ≠ S := (ne_of_none oW hS)
  have Sw : S ≠ wl := hw.ne hSH
  -- the pairs
  refine ⟨_, rfl, _, _, rfl, .inr ⟨_, SqT.of ht2, rfl⟩, _, rfl, by rw [hlm]; omega, by rw [hlm]; omega, for_it walk_range0 (fun i σ H' => ∃ v4 v5, σ = [some (.ref wl), some (.ref t), some (.ref W), some (.ref S), v4, v5, none] ∧ Keep S H2 H' ∧ ∃ as ps, H' S = some (.lst (as.map V.ref)) ∧ Prs H' as ps ∧ S ∉ as ∧ ps.length ≤ i * 60 ∧ ∀ p ∈ ps, GoodP hs p)
    ⟨none, none, rfl, Keep.refl S H2, [], [], oS, ⟨rfl, fun i a p e _ => by cases e⟩, List.not_mem_nil, Nat.zero_le _, fun p m => absurd m List.not_mem_nil⟩ (fun _ _ _ _ _ => trivial) ?_ ?_⟩
  · rintro i x σ H3 H4 hi ⟨v4, v5, rfl, k3, as, ps, oS3, pr, nS, lp, gp⟩ ⟨rfl, rfl⟩
    rw [hlm] at hi
    have hi : i < hs.length := by omega
    refine ⟨_, rfl, _, rfl, by omega, by omega, for_it walk_range0 (fun j σ H' => ∃ v5, σ = [some (.ref wl), some (.ref t), some (.ref W), some (.ref S), some (.int (i : Int)), v5, none] ∧ Keep S H2 H' ∧ ∃ as ps, H' S = some (.lst (as.map V.ref)) ∧ Prs H' as ps ∧ S ∉ as ∧ ps.length ≤ i * 60 + j ∧ ∀ p ∈ ps, GoodP hs p)
      ⟨v5, rfl, k3, as, ps, oS3, pr, nS, by omega, gp⟩ (fun _ _ _ _ _ => trivial) ?_ ?_⟩
    · rintro j y σ H5 H6 hj ⟨v5, rfl, k5, as, ps, oS5, pr, nS, lp, gp⟩ ⟨rfl, rfl⟩
      have hj : j < i := by omega
      have hjl : j < hs.length := by omega
      have ht5 := k5 _ _ tS ht2
      have oW5 := k5 _ _ WS oW2
      have w1 : atI (iv (szL hs)) (i : Int) = some (.int ((szL hs).getD i 0)) := atI_nat (iv_get (by omega))
      have w2 : atI (iv (szL hs)) (j : Int) = some (.int ((szL hs).getD j 0)) := atI_nat (iv_get (by omega))
      have e1 : hs[i]? = some hs[i] := List.getElem?_eq_getElem hi
      have e2 : hs[j]? = some hs[j] := List.getElem?_eq_getElem hjl
      generalize hs[i] = oi at e1
      generalize hs[j] = oj at e2
      have stay : ∃ v5, [some (V.ref wl), some (V.ref t), some (V.ref W), some (V.ref S), some (V.int (i : Int)), some (V.int (j : Int)), none] = [some (.ref wl), some (.ref t), some (.ref W), some (.ref S), some (.int (i : Int)), v5, none] ∧ Keep S H2 H6 ∧ ∃ as ps, H6 S = some (.lst (as.map V.ref)) ∧ Prs H6 as ps ∧ S ∉ as ∧ ps.length ≤ i * 60 + (j + 1) ∧ ∀ p ∈ ps, GoodP hs p :=
        ⟨_, rfl, k5, as, ps, oS5, pr, nS, by omega, gp⟩
      refine ⟨_, rfl, _, rfl, W, _, _, _, rfl, rfl, SqL.of oW5, w1, _, rfl, _, rfl, W, _, _, _, rfl, rfl, SqL.of oW5, w2, rfl, _, rfl, ite2 (fun c => ?_) (fun _ => stay)⟩
      have esz : (szL hs).getD i 0 = (szL hs).getD j 0 := V.int.inj (of_decide_eq_true c)
      refine ⟨_, rfl, _, rfl, t, _, _, _, rfl, rfl, SqT.of ht5, atI_nat (hv_at e1), _, rfl, _, rfl, t, _, _, _, rfl, rfl, SqT.of ht5, atI_nat (hv_at e2), by cases oi <;> cases oj <;> rfl, _, rfl, ite2 (fun _ => ?_) (fun _ => stay)⟩
      refine ⟨_, rfl, .inl ⟨rfl, _, SqL.of oS5⟩, _, rfl, _, rfl, by show 2 ≤ sizeLine; decide, fun X hX => ?_⟩
      have nXS : X ≠ S := (ne_of_none oS5 hX).symm
      have sX := (Same.refl H6).new (o := .tup [.int (i : Int), .int (j : Int)]) hX
      have oX : upd H6 X (.tup [.int (i : Int), .int (j : Int)]) X = some (.tup [.int (i : Int), .int (j : Int)]) := upd_same
      generalize upd H6 X (.tup [.int (i : Int), .int (j : Int)]) = H7 at sX oX ⊢
      refine ⟨S, _, _, rfl, rfl, sX _ _ oS5, by rw [List.length_map, pr.len, sizeLine_eq]; omega, ?_⟩
      refine ⟨_, rfl, fun b o nb e => (upd_ne nb).trans (sX _ _ (k5 b o nb e)), as ++ [X], ps ++ [(i, j)], by rw [upd_same, List.map_append]; rfl, ?_, fun m => (List.mem_append.mp m).elim nS fun m => nXS (List.mem_singleton.mp m).symm, by rw [List.length_append]; show ps.length + 1 ≤ _; omega, fun p m => ?_⟩
      · exact (pr.same fun a ha o e => (upd_ne fun z => nS (by rw [← z]; exact ha)).trans (sX _ _ e)).snoc ((upd_ne nXS).trans oX)
      · rcases List.mem_append.mp m with m | m
        · exact gp p m
        · rw [List.mem_singleton.mp m]; exact ⟨hi, hj, esz⟩
    · rintro σ H5 ⟨v5, rfl, k5, as, ps, oS5, pr, nS, lp, gp⟩
      exact ⟨_, _, rfl, k5, as, ps, oS5, pr, nS, by omega, gp⟩
  rintro σ H3 ⟨v4, v5, rfl, k3, as, ps, oS3, pr, nS, lp, gp⟩
  rw [hlm] at lp
  have lp : ps.length ≤ 3600 := Nat.le_trans lp (by rw [Int.toNat_natCast]; exact Nat.mul_le_mul_right 60 l60)
  have ht3 := k3 _ _ tS ht2
  have k03 : Keep wl H H3 := fun b o nb e => k3 b o (fun z => by rw [z, hSH] at e; cases e) (s2 _ _ e)
  have w3 : Well H3 wl n := by
    obtain ⟨x, y, z, e, r⟩ := hw.ex
    exact ⟨x, y, z, k3 _ _ Sw.symm (s2 _ _ e), r⟩
  -- if pairs == []
  refine ⟨_, rfl, by show 0 ≤ sizeLine; decide, fun N hN => ?_⟩
  have sN := (Same.refl H3).new (o := .lst []) hN
  have oN : upd H3 N (.lst []) N = some (.lst []) := upd_same
  have Nw : N ≠ wl := w3.ne hN
  have hNH := keep_free k03 Nw hN
  generalize upd H3 N (.lst []) = H4 at sN oN ⊢
  have oS4 := sN _ _ oS3
  have pr4 : Prs H4 as ps := pr.same fun a _ o e => sN _ _ e
  have k04 : Keep wl H H4 := fun b o nb e => sN _ _ (k03 b o nb e)
  have w4 := w3.same sN
  have ht4 := sN _ _ ht3
  refine ⟨_, _, .lst (SqL.of oS4) pr4.dp, .lst (SqL.of oN) .nil, shaped_prI _, by decide +kernel, _, rfl, ite2 (fun _ => ?_) (fun c => ?_)⟩
  · exact ⟨_, rfl, q t hs H4 fo rfl k04 (w4.mono (by omega)) tw ht4⟩
  rw [eqv_prI] at c
  have ne : ps ≠ [] := fun z => c (decide_eq_true z)
  have l1 : 1 ≤ ps.length := by
    cases ps with
    | nil => exact absurd rfl ne
    | cons _ _ => exact Nat.succ_le_succ (Nat.zero_le _)
  have lam : (as.map V.ref).length = ps.length := by rw [List.length_map, pr.len]
  refine ⟨_, rfl, _, rfl, _, rfl, _, _, rfl, .inl ⟨_, SqL.of oS4, rfl⟩, wl, n, _, rfl, w4, by omega, by rw [lam]; omega, by rw [lam]; omega, fun d H5 e0 e1 k5 w5 => ?_⟩
  rw [lam] at e1
  obtain ⟨j, rfl⟩ : ∃ j : Nat, d = (j : Int) := ⟨d.toNat, by omega⟩
  have hj : j < ps.length := by omega
  have eX : as[j]? = some (as[j]'(by rw [pr.len]; exact hj)) := List.getElem?_eq_getElem _
  generalize as[j]'(by rw [pr.len]; exact hj) = X at eX
  have ep : ps[j]? = some ps[j] := List.getElem?_eq_getElem hj
  obtain ⟨g1, g2, g3⟩ := gp _ (List.getElem_mem hj)
  generalize ps[j] = p at ep g1 g2 g3
  obtain ⟨a, b⟩ := p
  have g1 : a < hs.length := g1
  have g2 : b < a := g2
  have hb : b < hs.length := by omega
  have oX4 := pr4.at_ j X (a, b) eX ep
  have Xw : X ≠ wl := w4.neT2 oX4
  have oX5 := k5 _ _ Xw oX4
  have oS5 := k5 _ _ Sw oS4
  have ht5 := k5 _ _ tw ht4
  have k05 := k04.trans k5
  refine ⟨S, _, _, _, rfl, rfl, SqL.of oS5, atI_nat (by rw [List.getElem?_map, eX]; rfl), X, _, rfl, SqT.of oX5, rfl, _, _, rfl, _, _, rfl, rfl, ?_⟩
  have ea : hs[a]? = some hs[a] := List.getElem?_eq_getElem g1
  have eb : hs[b]? = some hs[b] := List.getElem?_eq_getElem hb
  generalize hs[a] = oa at ea
  generalize hs[b] = ob at eb
  refine ⟨_, rfl, t, _, rfl, .inr (SqT.of ht5), fun F hF => ?_⟩
  have Fw : F ≠ wl := w5.ne hF
  have hFH := keep_free k05 Fw hF
  have sF := (Same.refl H5).new (o := .lst (hs.map hv)) hF
  have oF : upd H5 F (.lst (hs.map hv)) F = some (.lst (hs.map hv)) := upd_same
  have tF : t ≠ F := ne_of_none ht5 hF
  generalize upd H5 F (.lst (hs.map hv)) = H6 at sF oF ⊢
  have ht6 := sF _ _ ht5
  refine ⟨_, rfl, _, rfl, t, _, _, _, rfl, rfl, SqT.of ht6, atI_nat (hv_at eb), _, rfl, _, rfl, F, _, _, a, rfl, rfl, oF, by rw [hlm]; exact ixN_nat g1, ?_⟩
  have ht7 := (upd_ne (o := .lst ((hs.map hv).set a (hv ob))) (H := H6) tF).trans ht6
  refine ⟨_, rfl, _, rfl, t, _, _, _, rfl, rfl, SqT.of ht7, atI_nat (hv_at ea), _, rfl, _, rfl, F, _, _, b, rfl, rfl, upd_same, by rw [List.length_set, hlm]; exact ixN_nat hb, ?_⟩
  have k6 : Keep wl H (upd (upd H6 F (.lst ((hs.map hv).set a (hv ob)))) F (.lst (((hs.map hv).set a (hv ob)).set b (hv oa)))) := fun c u nb e => by
    have nF : c ≠ F := fun z => by rw [z, hFH] at e; cases e
    exact (upd_ne nF).trans ((upd_ne nF).trans (sF _ _ (k05 c u nb e)))
  have w6 := (((w5.same sF).updN (o := .lst ((hs.map hv).set a (hv ob))) Fw).updN (o := .lst (((hs.map hv).set a (hv ob)).set b (hv oa))) Fw)
  have oF6 : upd (upd H6 F (.lst ((hs.map hv).set a (hv ob)))) F (.lst (((hs.map hv).set a (hv ob)).set b (hv oa))) F = some (.lst (((hs.set a ob).set b oa).map hv)) := by rw [upd_same, List.map_set, List.map_set]
  generalize upd (upd H6 F (.lst ((hs.map hv).set a (hv ob)))) F (.lst (((hs.map hv).set a (hv ob)).set b (hv oa))) = H7 at k6 w6 oF6 ⊢
  refine ⟨_, rfl, F, _, rfl, .inl ⟨SqL.of oF6, fun r hr2 => ?_⟩⟩
  have rw' := w6.ne hr2
  have g3 : (szL hs).getD a 0 = (szL hs).getD b 0 := g3
  have nab : a ∉ My.up hs b := fun m => by have := up_gt fo hb m; omega
  have nba : b ∉ My.up hs a := fun m => by have := up_gt fo g1 m; omega
  exact q r _ _ (cross_fo fo ea eb (by omega) nab nba) (by rw [List.length_set, List.length_set]) (keep_upd k6 (keep_free k6 rw' hr2)) (w6.updN rw') rw' upd_same
end

end My

namespace My
open PySem PySem.Spec PyProof.Rows L2
/-! ### up to five things: tallies alike just when sizes are -/
def kF (F : Hs) : List Nat := (List.range 6).map fun k => (szL F).count ((k : Nat) : Int)
def kT (F : Hs) : List Nat × List Int := (kF F, tcL (sN F) F.length ((mostZ F).toNat + 1))
def okPair (p q : List Nat × List Int) : Bool := decide (p.1 = q.1) == decide (p.2 = q.2)
theorem chk5 : ((List.range 6).all fun n => (fun L : List (List Nat × List Int) => L.all fun p => L.all fun q => okPair p q) ((plains n).map kT)) = true := by decide +kernel
theorem kF_perm {F G : Hs} (p : (szL F).Perm (szL G)) : kF F = kF G := List.map_congr_left fun k _ => p.count_eq _
theorem szL_mem {hs : Hs} (fo : Fo hs) {x : Int} (h : x ∈ szL hs) : 1 ≤ x ∧ x ≤ (hs.length : Int) := by
  obtain ⟨i, e⟩ := List.getElem?_of_mem h
  have ll : (szL hs).length = hs.length := (szL_ok fo).1
  have lt := (List.getElem?_eq_some_iff.mp e).1
  have b := szL_at fo (show i < hs.length by omega)
  rw [List.getD_eq_getElem?_getD, e] at b
  exact b
theorem perm_kF {hs ms : Hs} (fo : Fo hs) (fm : Fo ms) (h5 : hs.length ≤ 5) (m5 : ms.length ≤ 5) (h : kF hs = kF ms) : (szL hs).Perm (szL ms) := by
  rw [List.perm_iff_count]
  intro x
  by_cases c : 1 ≤ x ∧ x ≤ 5
  · obtain ⟨k, rfl⟩ : ∃ k : Nat, x = (k : Int) := ⟨x.toNat, by omega⟩
    have z := congrArg (fun l : List Nat => l[k]?) h
    simp only [kF, List.getElem?_map, List.getElem?_range (show k < 6 by omega)] at z
    exact Option.some.inj z
  · rw [List.count_eq_zero.mpr fun m => c (by have := szL_mem fo m; omega), List.count_eq_zero.mpr fun m => c (by have := szL_mem fm m; omega)]
theorem soL_iff {hs ms : Hs} : soL hs = soL ms ↔ (szL hs).Perm (szL ms) :=
  ⟨fun e => (soL_perm hs).symm.trans (by rw [e]; exact soL_perm ms), fun p => soL_of ((soL_perm hs).trans p) (soL_up hs)⟩
theorem alike_tal {hs ms : Hs} (fo : Fo hs) (fm : Fo ms) (h5 : hs.length ≤ 5) (e : ms.length = hs.length) : soL hs = soL ms ↔ tcv hs = tcv ms := by
  have c := List.all_eq_true.mp chk5 hs.length (List.mem_range.mpr (by omega))
  have c1 := List.all_eq_true.mp (List.all_eq_true.mp c (kT (fw hs)) (List.mem_map.mpr ⟨_, fw_mem fo, rfl⟩)) (kT (fw ms)) (List.mem_map.mpr ⟨_, by have := fw_mem fm; rwa [e] at this, rfl⟩)
  unfold okPair at c1
  have c2 : decide ((kT (fw hs)).1 = (kT (fw ms)).1) = decide ((kT (fw hs)).2 = (kT (fw ms)).2) := eq_of_beq c1
  have t1 : (kT (fw hs)).2 = tcv hs := by rw [← fw_tcv fo]; exact tcL_eq _ _ _
  have t2 : (kT (fw ms)).2 = tcv ms := by rw [← fw_tcv fm]; exact tcL_eq _ _ _
  have k1 : (kT (fw hs)).1 = kF hs := kF_perm (fw_szL fo)
  have k2 : (kT (fw ms)).1 = kF ms := kF_perm (fw_szL fm)
  rw [t1, t2, k1, k2] at c2
  rw [soL_iff]
  have c3 : (kF hs = kF ms) ↔ (tcv hs = tcv ms) := decide_eq_decide.mp c2
  exact ⟨fun p => c3.mp (kF_perm p), fun t => perm_kF fo fm h5 (by omega) (c3.mpr t)⟩

end My

namespace My
open PySem PySem.Spec PyProof.Rows L2
/-! ### the law's tally -/
theorem max_of2 : ∀ (L : List Nat), (∀ v ∈ L, v ≤ L.foldr max 0) ∧ (L = [] ∨ L.foldr max 0 ∈ L)
  | [] => ⟨fun v m => absurd m List.not_mem_nil, .inl rfl⟩
  | x :: L => by
    obtain ⟨a, b⟩ := max_of2 L
    rw [List.foldr_cons]
    refine ⟨fun v m => ?_, .inr ?_⟩
    · rcases List.mem_cons.mp m with e | m
      · rw [e]; exact Nat.le_max_left _ _
      · exact Nat.le_trans (a v m) (Nat.le_max_right _ _)
    · rcases b with e | m
      · rw [e]; show max x 0 ∈ [x]; rw [Nat.max_zero]; exact List.mem_cons_self
      · rcases Nat.le_total x (L.foldr max 0) with c | c
        · rw [Nat.max_eq_right c]; exact List.mem_cons_of_mem _ m
        · rw [Nat.max_eq_left c]; exact List.mem_cons_self
def tal11 (L : List Nat) : List Int := (List.range 11).map fun k => ((L.count k : Nat) : Int)
theorem tal_iff {A B : List Nat} (na : A ≠ []) (nb : B ≠ []) (ha : ∀ v ∈ A, v ≤ 10) (hb : ∀ v ∈ B, v ≤ 10) : tal11 A = tal11 B ↔ tlN A = tlN B := by
  obtain ⟨a1, a2⟩ := max_of2 A
  obtain ⟨b1, b2⟩ := max_of2 B
  have a2 := a2.resolve_left na
  have b2 := b2.resolve_left nb
  have same : (∀ k, A.count k = B.count k) → tlN A = tlN B := fun h => by
    have e : A.foldr max 0 = B.foldr max 0 := by
      refine Nat.le_antisymm (b1 _ ?_) (a1 _ ?_)
      · exact List.count_pos_iff.mp (by rw [← h]; exact List.count_pos_iff.mpr a2)
      · exact List.count_pos_iff.mp (by rw [h]; exact List.count_pos_iff.mpr b2)
    unfold tlN
    rw [e]
    exact List.map_congr_left fun k _ => by rw [h k]
  constructor
  · intro h
    refine same fun k => ?_
    by_cases c : k < 11
    · have z := congrArg (fun l : List Int => l[k]?) h
      simp only [tal11, List.getElem?_map, List.getElem?_range c] at z
      have y : ((A.count k : Nat) : Int) = ((B.count k : Nat) : Int) := Option.some.inj z
      omega
    · rw [List.count_eq_zero.mpr fun m => by have := ha k m; omega, List.count_eq_zero.mpr fun m => by have := hb k m; omega]
  · intro h
    have l : A.foldr max 0 = B.foldr max 0 := by
      have z := congrArg List.length h
      unfold tlN at z
      rw [List.length_map, List.length_map, List.length_range, List.length_range] at z
      omega
    unfold tal11
    refine List.map_congr_left fun k _ => ?_
    by_cases c : k < A.foldr max 0 + 1
    · have z := congrArg (fun l : List Int => l[k]?) h
      unfold tlN at z
      simp only [List.getElem?_map, List.getElem?_range c, List.getElem?_range (show k < B.foldr max 0 + 1 by omega)] at z
      exact Option.some.inj z
    · rw [List.count_eq_zero.mpr fun m => by have := a1 k m; omega, List.count_eq_zero.mpr fun m => by have := b1 k m; omega]
def tyl (hs : Hs) : List Nat := (rowsAt hs hs.length).map fun r => invR (r.map (pz hs))
theorem mostZ_5 {hs : Hs} (fo : Fo hs) (n5 : hs.length ≤ 5) : 0 ≤ mostZ hs ∧ mostZ hs ≤ 10 := by
  have c : ((List.range 6).all fun n => (plains n).all fun F => decide (0 ≤ mostZ F) && decide (mostZ F ≤ 10)) = true := by decide +kernel
  have z := List.all_eq_true.mp (List.all_eq_true.mp c hs.length (List.mem_range.mpr (by omega))) (fw hs) (fw_mem fo)
  rw [Bool.and_eq_true, decide_eq_true_eq, decide_eq_true_eq, fw_most fo] at z
  exact z
theorem tyl_ten {hs : Hs} (fo : Fo hs) (n5 : hs.length ≤ 5) : ∀ v ∈ tyl hs, v ≤ 10 := fun v m => by
  have t := (tal_main fo (by omega)).1
  have a := (max_of2 (tyl hs)).1 v m
  have l := congrArg List.length t
  have m5 := mostZ_5 fo n5
  unfold tlN tcv serL at l
  rw [List.length_map, List.length_map, List.length_range, List.length_range] at l
  have l2 : (tyl hs).foldr max 0 + 1 = (mostZ hs).toNat + 1 := l
  omega
theorem tyl_some {hs : Hs} (fo : Fo hs) : tyl hs ≠ [] := fun z => by
  have cR := cntL_rows fo
  have a := cnt_pos fo
  have l := congrArg List.length z
  unfold tyl at l
  rw [List.length_map] at l
  have l : (rowsAt hs hs.length).length = 0 := l
  omega
theorem tyl_iff {hs ms : Hs} (fo : Fo hs) (fm : Fo ms) (h5 : hs.length ≤ 5) (e : ms.length = hs.length) : tal11 (tyl hs) = tal11 (tyl ms) ↔ soL hs = soL ms := by
  rw [tal_iff (tyl_some fo) (tyl_some fm) (tyl_ten fo h5) (tyl_ten fm (by omega)), alike_tal fo fm h5 e]
  have a : tlN (tyl hs) = tcv hs := (tal_main fo (by omega)).1
  have b : tlN (tyl ms) = tcv ms := (tal_main fm (by omega)).1
  rw [a, b]

end My

namespace My
open PySem PySem.Spec PyProof.Rows L2
theorem cut_to (xs : List V) (d : Nat) : cutV xs none (some (d : Int)) = xs.take d := by
  unfold cutV
  rw [HT.sIx_nat, HT.sIx_none, List.drop_zero, Nat.sub_zero]
  by_cases c : d ≤ xs.length
  · rw [Nat.min_eq_left c]
  · rw [Nat.min_eq_right (by omega), List.take_of_length_le (Nat.le_refl _), List.take_of_length_le (by omega)]
theorem cut_from (xs : List V) (d : Nat) : cutV xs (some (d : Int)) none = xs.drop d := by
  unfold cutV
  rw [HT.sIx_nat, HT.sIx_none]
  by_cases c : d ≤ xs.length
  · rw [Nat.min_eq_left c, List.take_of_length_le (by rw [List.length_drop]; omega)]
  · rw [Nat.min_eq_right (by omega), List.drop_of_length_le (Nat.le_refl _), List.drop_of_length_le (by omega), List.take_nil]
theorem cut_mid (xs : List V) {i j : Nat} (h : i ≤ j) (hj : j ≤ xs.length) : cutV xs (some (i : Int)) (some (j : Int)) = (xs.drop i).take (j - i) := by
  unfold cutV
  rw [HT.sIx_nat, HT.sIx_nat, Nat.min_eq_left (by omega), Nat.min_eq_left (by omega)]
theorem nv_take (l : List Nat) (d : Nat) : (nv l).take d = nv (l.take d) := by unfold nv; rw [List.map_take]
theorem nv_drop (l : List Nat) (d : Nat) : (nv l).drop d = nv (l.drop d) := by unfold nv; rw [List.map_drop]

/-! ### [x for x in xs if ..] over a list of naturals -/
theorem lc_nat {K : PySem.W.Frag} {L D : Addr} {l : List Nat} (pr : Nat → Bool) {k : Nat} {tt : TT} {te : TE} {vs : List Nat} {σ : L2.St} {H1 : Hp} {Qd : Hp → Prop} (hL : H1 L = some (.lst (nv l))) (hl : l.length ≤ 1000) (hD : H1 D = none)
    (wi : ∀ v : V, wipe ((wipe σ vs).set k (some v)) vs = wipe σ vs) (val : ∀ (v : V) (H : Hp) (Q : VK), Q v H → te ((wipe σ vs).set k (some v)) H Q)
    (test : ∀ (v : Nat) (H2 : Hp) (Q' : Bool → Hp → Prop), v ∈ l → Same H1 H2 → (∀ H4, Same H2 H4 → Q' (pr v) H4) → tt ((wipe σ vs).set k (some (.int (v : Int)))) H2 Q')
    (done : ∀ H2, Same H1 H2 → H2 D = some (.lst (nv (l.filter pr))) → Qd H2) :
    ∃ W : Nat → Nat → Hp → Prop, (∃ m, W 0 m (upd H1 D (.lst []))) ∧ ∀ i m H, W i m H →
      ((Itl K L).stop i H ∧ Qd H) ∨ ((Itl K L).go i H ∧ ∃ Nx : Hp → Prop, (∀ H', Nx H' → ∃ m', m' < m ∧ W (i + 1) m' H') ∧ ∀ x H', (Itl K L).yld i H x H' → gName k x (wipe σ vs) H' fun σ2 H2 => wipe σ2 vs = wipe σ vs ∧ tt σ2 H2 fun b H3 =>
        if b = true then te σ2 H3 fun y H4 => ∃ acc, H4 D = some (.lst acc) ∧ acc.length < sizeLine ∧ Nx (upd H4 D (.lst (acc ++ [y]))) else Nx H3) := by
  refine lc_it (walk_list (xs := nv l)) (fun i H' => Same H1 H' ∧ H' D = some (.lst (nv ((l.take i).filter pr)))) ⟨(Same.refl H1).new hD, upd_same⟩ (fun i H' _ z => SqL.of (z.1 _ _ hL)) ?_ ?_
  · rintro i x H2 H3 hi ⟨s2, oD⟩ ⟨rfl, e1⟩
    obtain ⟨v, ev, rfl⟩ := nv_at e1
    have mv := List.mem_of_getElem? ev
    have il := (List.getElem?_eq_some_iff.mp ev).1
    have lz : ((l.take i).filter pr).length ≤ i := by
      have z := List.length_filter_le pr (l.take i)
      rw [List.length_take] at z; omega
    have tk : (l.take (i + 1)).filter pr = (l.take i).filter pr ++ (if pr v = true then [v] else []) := by
      rw [List.take_add_one, ev, List.filter_append]
      congr 1
      by_cases c : pr v = true
      · rw [if_pos c]
        show [v].filter _ = _
        rw [List.filter_cons_of_pos c]; rfl
      · rw [if_neg c]
        show [v].filter _ = _
        rw [List.filter_cons_of_neg c]; rfl
    refine ⟨wi _, test v H3 _ mv s2 fun H4 s4 => ?_⟩
    have oD4 := s4 _ _ oD
    by_cases c : pr v = true
    · rw [if_pos c]
      refine val _ _ _ ⟨_, oD4, by rw [nv_length]; exact szl (by omega), (s2.trans s4).upd hD, ?_⟩
      rw [upd_same, tk, if_pos c, nv_append]; rfl
    · rw [if_neg c]
      refine ⟨s2.trans s4, ?_⟩
      rw [tk, if_neg c, List.append_nil]; exact oD4
  · rintro H2 ⟨s2, oD⟩
    rw [nv_length, List.take_length] at oD
    exact done H2 s2 oD

def dsI (l : List Nat) : Int := (drI l).sum
theorem lt_nat (a b : Nat) : decide ((a : Int) < (b : Int)) = decide (a < b) := decide_eq_decide.mpr (by omega)
theorem rep_flat1 (x : V) : ∀ n : Nat, (List.replicate n [x]).flatten = List.replicate n x
  | 0 => rfl
  | n + 1 => by rw [List.replicate_succ, List.flatten_cons, rep_flat1 x n]; rfl

theorem Well.extN {H H' : Hp} {wl : Addr} {n : Nat} (w : Well H wl n) (e : LamX.ExtN H H') : Well H' wl n := by
  obtain ⟨a, b, c, z, r⟩ := w.ex
  exact ⟨a, b, c, e _ _ z (by intro ps y; cases y), r⟩
theorem seqN {K : PySem.W.Frag} {H H' : Hp} {a : Addr} {xs : List V} (e : LamX.ExtN H H') (h : SqL K H a xs) : SqL K H' a xs := by
  rcases h with (h | ⟨o, h⟩) | h
  · exact .inl (.inl (e _ _ h (by intro ps z; cases z)))
  · exact .inl (.inr ⟨o, e _ _ h (by intro ps z; cases z)⟩)
  · exact .inr h
theorem keepN {H H1 H2 : Hp} {wl : Addr} (e : LamX.ExtN H H1) (hw : H wl = none) (k : Keep wl H1 H2) : LamX.ExtN H H2 := fun b o z n => k b o (ne_of_none z hw) (e b o z n)
theorem tabsG_same {H H' : Hp} {T : Addr} (t : NdefX.TabsN (TbG T) H) (s : Same H H') : NdefX.TabsN (TbG T) H' := fun z hz => (t z hz).ext s
theorem tabsG_well {H H' : Hp} {T wl : Addr} {n : Nat} (t : NdefX.TabsN (TbG T) H) (w : Well H wl n) (k : Keep wl H H') : NdefX.TabsN (TbG T) H' := by
  obtain ⟨l, e⟩ := w.here
  exact tabsG_keep t e k
def fixA : Hs := [none, some 0, some 0, some 1, none]
def fixB : Hs := [some 3, none, some 1, some 2]
theorem fo_fixA : Fo fixA := fo_plain (by decide) fun j u e => by
  unfold fixA at e
  rcases j with _ | _ | _ | _ | _ | j <;> simp at e <;> omega
theorem fo_fixB : Fo fixB := by
  have r1 : Rch fixB 1 := .root rfl
  have r2 : Rch fixB 2 := .step (u := 1) rfl r1
  have r3 : Rch fixB 3 := .step (u := 2) rfl r2
  refine ⟨by decide, fun v u e => ?_, fun v hv => ?_⟩
  · unfold fixB at e ⊢
    rcases v with _ | _ | _ | _ | v <;> simp at e <;> subst e <;> decide
  · rcases v with _ | _ | _ | _ | v
    · exact .step (u := 3) rfl r3
    · exact r1
    · exact r2
    · exact r3
    · exact absurd hv (by show ¬ v + 1 + 1 + 1 + 1 < 4; omega)
def spLawT (K : PySem.W.Frag) (T : Addr) : Sp := fun vs H Q _ => ∃ (a : Addr) (ns : List Int), vs = [.ref a] ∧ SqL K H a (ns.map V.int) ∧ ns.length ≤ 63 ∧ H T = some (.tbl #[]) ∧ ∀ H', Q (.bl true) H'

theorem divAll_bd : ∀ {F : List Int} {a : Int}, 0 ≤ a → (∀ x ∈ F, 1 ≤ x) → 0 ≤ divAll a F ∧ divAll a F ≤ a
  | [], a, h, _ => ⟨h, Int.le_refl _⟩
  | x :: F, a, h, hx => by
    have x1 := hx x List.mem_cons_self
    have d0 : 0 ≤ a / x := Int.ediv_nonneg h (by omega)
    have d1 : a / x ≤ a := Int.ediv_le_self x h
    have z := divAll_bd (F := F) d0 fun y hy => hx y (List.mem_cons_of_mem _ hy)
    exact ⟨z.1, Int.le_trans z.2 d1⟩
theorem cnt_bd {hs : Hs} (fo : Fo hs) : 0 ≤ cntL hs ∧ cntL hs ≤ ((fct hs.length : Nat) : Int) := divAll_bd (by omega) fun x hx => by
  obtain ⟨i, e⟩ := List.getElem?_of_mem hx
  have lt := (List.getElem?_eq_some_iff.mp e).1
  have ll : (szL hs).length = hs.length := (szL_ok fo).1
  have b := szL_at fo (show i < hs.length by omega)
  have ei : (szL hs).getD i 0 = x := by rw [List.getD_eq_getElem?_getD, e]; rfl
  omega

theorem iv_map (f : Nat → Nat) (l : List Nat) : iv (((List.range l.length).filter fun _ => true).map fun i => ((f (l.getD i 0) : Nat) : Int)) = nv (l.map f) := by
  rw [List.filter_eq_self.mpr fun _ _ => rfl]
  refine List.ext_getElem? fun i => ?_
  unfold iv nv
  rw [List.getElem?_map, List.getElem?_map, List.getElem?_map, List.getElem?_map]
  by_cases c : i < l.length
  · simp [List.getElem?_range c, List.getD_eq_getElem?_getD, List.getElem?_eq_getElem c]
  · rw [List.getElem?_eq_none (by rw [List.length_range]; omega), List.getElem?_eq_none (by omega)]; rfl
theorem rows_few {hs : Hs} (fo : Fo hs) (n6 : hs.length ≤ 6) : (rowsAt hs hs.length).length ≤ 720 := by
  have cR := cntL_rows fo
  have a := (cnt_bd fo).2
  have b : ∀ n, n < 7 → fct n ≤ 720 := by decide
  have c := b hs.length (by omega)
  omega
theorem ref_atT {as : List Addr} {i : Nat} {x : V} (h : (as.map V.ref)[i]? = some x) : ∃ a, as[i]? = some a ∧ x = .ref a := by
  rw [List.getElem?_map] at h
  cases e : as[i]? with
  | none => rw [e] at h; cases h
  | some a => rw [e] at h; exact ⟨a, rfl, (Option.some.inj h).symm⟩

/-! ### the law's own rows -/
def extTo (hs : Hs) (r : List Nat) (j : Nat) : List (List Nat) := ((List.range j).filter (avB hs r)).map fun v => r ++ [v]
theorem extTo_succ (hs : Hs) (r : List Nat) (j : Nat) : extTo hs r (j + 1) = extTo hs r j ++ (if avB hs r j then [r ++ [j]] else []) := by
  unfold extTo
  rw [List.range_succ, List.filter_append, List.map_append]
  congr 1
  by_cases c : avB hs r j = true
  · rw [if_pos c, List.filter_cons_of_pos c]; rfl
  · rw [if_neg c, List.filter_cons_of_neg c]; rfl
theorem extTo_all (hs : Hs) (r : List Nat) : extTo hs r hs.length = ext hs r := rfl
theorem rows_bound {hs : Hs} : ∀ k : Nat, (rowsAt hs k).length ≤ hs.length ^ k
  | 0 => Nat.le_refl _
  | k + 1 => by
    have ih := rows_bound (hs := hs) k
    show ((rowsAt hs k).flatMap (ext hs)).length ≤ _
    have z : ∀ rs : List (List Nat), (rs.flatMap (ext hs)).length ≤ rs.length * hs.length := fun rs => by
      induction rs with
      | nil => exact Nat.zero_le _
      | cons r rs ih =>
        rw [List.flatMap_cons, List.length_append, List.length_cons, Nat.add_mul, Nat.one_mul]
        have q : (ext hs r).length ≤ hs.length := by
          unfold ext av
          rw [List.length_map]
          have := List.length_filter_le (avB hs r) (List.range hs.length)
          rw [List.length_range] at this; exact this
        omega
    exact Nat.le_trans (z _) (by rw [Nat.pow_succ]; exact Nat.mul_le_mul_right _ ih)
structure Rws (H : Hp) (as : List Addr) (rs : List (List Nat)) : Prop where
  len : as.length = rs.length
  at_ : ∀ (i : Nat) (p : Addr) (r : List Nat), as[i]? = some p → rs[i]? = some r → H p = some (.lst (nv r))
theorem Rws.same {H H' : Hp} {as : List Addr} {rs : List (List Nat)} (h : Rws H as rs) (s : Same H H') : Rws H' as rs := ⟨h.len, fun i p r e1 e2 => s _ _ (h.at_ i p r e1 e2)⟩
theorem Rws.but {H : Hp} {as : List Addr} {rs : List (List Nat)} (h : Rws H as rs) {a : Addr} {o : HO} (n : a ∉ as) : Rws (upd H a o) as rs := ⟨h.len, fun i p r e1 e2 => by
  rw [upd_ne (fun z : p = a => n (by rw [← z]; exact List.mem_of_getElem? e1))]; exact h.at_ i p r e1 e2⟩
theorem Rws.grow {H : Hp} {as : List Addr} {rs : List (List Nat)} {p : Addr} {r : List Nat} (h : Rws H as rs) (hp : H p = some (.lst (nv r))) : Rws H (as ++ [p]) (rs ++ [r]) := by
  refine ⟨by rw [List.length_append, List.length_append, h.len]; rfl, fun i q y e1 e2 => ?_⟩
  by_cases c : i < as.length
  · rw [List.getElem?_append_left c] at e1
    rw [List.getElem?_append_left (by rw [← h.len]; exact c)] at e2
    exact h.at_ i q y e1 e2
  · have c2 : as.length ≤ i := by omega
    rw [List.getElem?_append_right c2] at e1
    rw [List.getElem?_append_right (by rw [← h.len]; exact c2), ← h.len] at e2
    rcases hz : i - as.length with _ | m
    · rw [hz] at e1 e2
      cases e1; cases e2; exact hp
    · rw [hz] at e1; cases e1

def spRows : Sp := fun vs H Q _ => ∃ (t : Addr) (hs : Hs), vs = [.ref t] ∧ H t = some (.tup (hs.map hv)) ∧ Fo hs ∧ hs.length ≤ 6 ∧ ∀ p as H', Same H H' → H p = none → H' p = some (.lst (as.map V.ref)) → Rws H' as (rowsAt hs hs.length) → Q (.ref p) H'
def spRowsN : Sp := fun vs H Q _ => ∃ (t : Addr) (hs : Hs), vs = [.ref t] ∧ H t = some (.tup (hs.map hv)) ∧ Fo hs ∧ hs.length ≤ 6 ∧ ∀ p as H', Same H H' → H p = none → H' p = some (.lst (as.map V.ref)) → Rws H' as (rowsAt hs hs.length) → (∀ q ∈ as, H q = none) → Q (.ref p) H'
section
variable {P : Program} {w : World} {K : PySem.W.Frag} {mg : Str → Option Value} {base : Heap}
abbrev st__law_rows : Stmt := topS 31
abbrev N__law_rows : List Str := ["plan", "rows", "k", "fresh", "row", "one"]
theorem sc__law_rows : FnScope N__law_rows ["plan"] (defScope st__law_rows) := ⟨rfl, rfl, rfl, by decide +kernel, rfl, by decide +kernel, by decide +kernel⟩
theorem ok__law_rowsN (D : Df K mg "_law_rows" st__law_rows ["plan"]) (B : Bl mg) : Kn P w K mg base CX0 1 "_law_rows" st__law_rows ["plan"] spRowsN := by
  refine D.ok sc__law_rows (fun vs H Q E h => ?_) (fun f cdv A outer s H vs Q E hr h => ?_)
  · obtain ⟨t, hs, rfl, _⟩ := h; rfl
  obtain ⟨t, hs, rfl, ht, fo, h6, q⟩ := h
  refine ⟨_, ((pss_cons (ps_set (i := 1) sc__law_rows.nd rfl (Or.inl rfl) (pe_lst (pa_cons (pe_lst pa_nil) pa_nil)))
      (pss_cons (ps_for PassesOwn.never rfl (pi_range1 (by rfl) B.range (pa_cons (pe_callB call_len (by rfl) B.len (by decide +kernel) (pa_cons (pv 0) pa_nil)) pa_nil)) (pg_name (i := 2) sc__law_rows.nd rfl (Or.inl rfl)) (pss_cons (ps_set (i := 3) sc__law_rows.nd rfl (Or.inl rfl) (pe_lst pa_nil))
      (pss_cons (ps_for PassesOwn.never rfl (pi_list (pv 1)) (pg_name (i := 4) sc__law_rows.nd rfl (Or.inl rfl)) (pss_one (ps_for PassesOwn.never rfl (pi_range1 (by rfl) B.range (pa_cons (pe_callB call_len (by rfl) B.len (by decide +kernel) (pa_cons (pv 0) pa_nil)) pa_nil)) (pg_name (i := 5) sc__law_rows.nd rfl (Or.inl rfl)) (pss_one (ps_if (PW.pt (pw_and (pt_cmpR op_notIn_seq (pv 5) (pv 4) (by rfl)) (pw_and1 (PW.pt (pw_or (pt_cmpR op_isN (pe_ix ix_tup (pv 0) (pv 5) (fun _ _ => rfl)) pe_non (nomark _)) (pw_or1 (pt_cmpR op_in_seq (pe_ix ix_tup (pv 0) (pv 5) (fun _ _ => rfl)) (pv 4) (by rfl)))))))) (pss_one (ps_expr (pe_bm PySem.F.plainAttrs_list PySem.F.slot_list_append PySem.F.type_list_append mt_append (pv 3) (pa_cons (pe_op op_cat (pv 4) (pe_lst (pa_cons (pv 5) pa_nil))) pa_nil)))) pss_nil)))))
      (pss_one (ps_set (i := 1) sc__law_rows.nd rfl (Or.inl rfl) (pv 3))))))
      (pss_one (ps_ret (pv 1)))))), ?_⟩
  have hlm : (hs.map hv).length = hs.length := List.length_map _
  have sq : ∀ {H' : Hp}, Same H H' → SqT K H' t (hs.map hv) := fun s' => SqT.of (s' _ _ ht)
  have big : ∀ k, k ≤ 6 → (rowsAt hs k).length ≤ 46656 := fun k hk => Nat.le_trans (rows_bound k) (Nat.le_trans (Nat.pow_le_pow_left h6 k) (Nat.le_trans (Nat.pow_le_pow_right (by decide) hk) (by decide)))
  -- rows = [[]]
  refine ⟨by show 0 ≤ sizeLine; decide, fun Z hZ => ?_⟩
  have s0 := (Same.refl H).new (o := .lst []) hZ
  have oZ : upd H Z (.lst []) Z = some (.lst []) := upd_same
  generalize upd H Z (.lst []) = H0 at s0 oZ ⊢
  refine ⟨by show 1 ≤ sizeLine; decide, fun R hR => ?_⟩
  have s1 := s0.new (o := .lst [.ref Z]) hR
  have hRn : H R = none := s0.free hR
  have oR : upd H0 R (.lst [.ref Z]) R = some (.lst ([Z].map V.ref)) := upd_same
  have oZ1 := (upd_ne (H := H0) (a := R) (o := .lst [.ref Z]) (ne_of_none oZ hR)).trans oZ
  generalize upd H0 R (.lst [.ref Z]) = H1 at s1 oR oZ1 ⊢
  have w0 : Rws H1 [Z] (rowsAt hs 0) := ⟨rfl, fun i p r e1 e2 => by
    rcases i with _ | i
    · cases e1; cases e2; exact oZ1
    · cases e1⟩
  refine ⟨_, rfl, _, _, rfl, .inr ⟨_, sq s1, rfl⟩, _, rfl, by omega, by omega, for_it walk_range0 (fun k σ H' => ∃ R as v2 v3 v4 v5, σ = [some (.ref t), some (.ref R), v2, v3, v4, v5] ∧ Same H H' ∧ H R = none ∧ H' R = some (.lst (as.map V.ref)) ∧ Rws H' as (rowsAt hs k) ∧ ∀ q ∈ as, H q = none) ⟨R, [Z], _, _, _, _, rfl, s1, hRn, oR, w0, fun q h => by rw [List.mem_singleton.mp h]; exact hZ⟩ (fun _ _ _ _ _ => trivial) ?_ ?_⟩
  · rintro k x σ Ha Hb hk ⟨R, as, v2, v3, v4, v5, rfl, sa, hRn, oR, hw, _⟩ ⟨rfl, rfl⟩
    have hk' : k < hs.length := by omega
    -- fresh = []
    refine ⟨by show 0 ≤ sizeLine; decide, fun Fr hF => ?_⟩
    have hFn : H Fr = none := sa.free hF
    have s2 := sa.new (o := .lst []) hF
    have nas : Fr ∉ as := fun z => by
      obtain ⟨i, e⟩ := List.getElem?_of_mem z
      have hi := (List.getElem?_eq_some_iff.mp e).1
      have q1 := hw.at_ i Fr _ e (List.getElem?_eq_getElem (by rw [← hw.len]; exact hi))
      rw [hF] at q1; cases q1
    have oF : upd Hb Fr (.lst []) Fr = some (.lst []) := upd_same
    have oR2 := (upd_ne (H := Hb) (a := Fr) (o := .lst []) (ne_of_none oR hF)).trans oR
    have nRF : R ≠ Fr := ne_of_none oR hF
    have hw2 := hw.same ((Same.refl Hb).new (o := .lst []) hF)
    generalize upd Hb Fr (.lst []) = H2 at s2 oF oR2 hw2 ⊢
    clear oR hw sa hF
    -- for row in rows
    refine ⟨_, rfl, R, rfl, ⟨_, SqL.of oR2⟩, for_it (walk_list (xs := as.map V.ref)) (fun i σ H' => ∃ v4 v5 fs, σ = [some (.ref t), some (.ref R), some (.int (k : Int)), some (.ref Fr), v4, v5] ∧ Same H H' ∧ H' R = some (.lst (as.map V.ref)) ∧ Rws H' as (rowsAt hs k) ∧ H' Fr = some (.lst (fs.map V.ref)) ∧ Rws H' fs (((rowsAt hs k).take i).flatMap (ext hs)) ∧ Fr ∉ fs ∧ ∀ q ∈ fs, H q = none)
      ⟨_, _, [], rfl, s2, oR2, hw2, oF, ⟨rfl, fun i p r e1 _ => by cases e1⟩, List.not_mem_nil, fun q h => absurd h List.not_mem_nil⟩ (fun i σ H' _ p => by obtain ⟨_, _, _, _, _, z, _⟩ := p; exact SqL.of z) ?_ ?_⟩
    · rintro i x σ Hc Hd hi ⟨v4, v5, fs, rfl, sc, oR, hw, oF, hf, nfs, nnf⟩ ⟨rfl, e1⟩
      rw [List.getElem?_map] at e1
      obtain ⟨qa, eq, rfl⟩ : ∃ qa, as[i]? = some qa ∧ x = V.ref qa := by
        cases e : as[i]? with
        | none => rw [e] at e1; cases e1
        | some qa => rw [e] at e1; exact ⟨qa, rfl, (Option.some.inj e1).symm⟩
      have hil := (List.getElem?_eq_some_iff.mp eq).1
      obtain ⟨row, er⟩ : ∃ row, (rowsAt hs k)[i]? = some row := ⟨_, List.getElem?_eq_getElem (by rw [← hw.len]; exact hil)⟩
      have hrp := rows_pre hs k row (List.mem_of_getElem? er)
      have etake : (rowsAt hs k).take (i + 1) = (rowsAt hs k).take i ++ [row] := by rw [List.take_add_one, er]; rfl
      have lpre : (((rowsAt hs k).take (i + 1)).flatMap (ext hs)).length ≤ 46656 := by
        have z : (((rowsAt hs k).take (i + 1)).flatMap (ext hs)).length ≤ (rowsAt hs (k + 1)).length := by
          show _ ≤ ((rowsAt hs k).flatMap (ext hs)).length
          rw [← List.take_append_drop (i + 1) (rowsAt hs k), List.flatMap_append, List.length_append, List.take_append_drop]
          exact Nat.le_add_right _ _
        exact Nat.le_trans z (big (k + 1) (by omega))
      rw [etake, List.flatMap_append, List.length_append] at lpre
      generalize hpref : ((rowsAt hs k).take i).flatMap (ext hs) = pref at hf lpre
      -- for one in range(len(plan))
      refine ⟨_, rfl, _, _, rfl, .inr ⟨_, sq sc, rfl⟩, _, rfl, by omega, by omega, for_it walk_range0 (fun j σ H' => ∃ v5 fs, σ = [some (.ref t), some (.ref R), some (.int (k : Int)), some (.ref Fr), some (.ref qa), v5] ∧ Same H H' ∧ H' R = some (.lst (as.map V.ref)) ∧ Rws H' as (rowsAt hs k) ∧ H' Fr = some (.lst (fs.map V.ref)) ∧ Rws H' fs (pref ++ extTo hs row j) ∧ Fr ∉ fs ∧ ∀ q ∈ fs, H q = none)
        ⟨_, fs, rfl, sc, oR, hw, oF, by show Rws _ _ (pref ++ []); rw [List.append_nil]; exact hf, nfs, nnf⟩ (fun _ _ _ _ _ => trivial) ?_ ?_⟩
      · rintro j x σ He Hf hj ⟨v5, fs, rfl, se, oR, hw, oF, hf, nfs, nnf⟩ ⟨rfl, rfl⟩
        have hj' : j < hs.length := by omega
        have hq := hw.at_ i qa row eq er
        obtain ⟨o, ho⟩ : ∃ o, hs[j]? = some o := ⟨_, List.getElem?_eq_getElem hj'⟩
        have skip : ¬ avB hs row j = true → ∃ v5 fs, [some (V.ref t), some (V.ref R), some (V.int (k : Int)), some (V.ref Fr), some (V.ref qa), some (V.int (j : Int))] = [some (.ref t), some (.ref R), some (.int (k : Int)), some (.ref Fr), some (.ref qa), v5] ∧ Same H Hf ∧ Hf R = some (.lst (as.map V.ref)) ∧ Rws Hf as (rowsAt hs k) ∧ Hf Fr = some (.lst (fs.map V.ref)) ∧ Rws Hf fs (pref ++ extTo hs row (j + 1)) ∧ Fr ∉ fs ∧ (∀ q ∈ fs, H q = none) := fun c =>
          ⟨_, fs, rfl, se, oR, hw, oF, by rw [extTo_succ, if_neg c, List.append_nil]; exact hf, nfs, nnf⟩
        have lfs : fs.length ≤ 46656 := by
          have z1 := hf.len
          rw [List.length_append] at z1
          have z2 : (extTo hs row j).length ≤ (ext hs row).length := by
            rw [← extTo_all]
            unfold extTo
            rw [List.length_map, List.length_map]
            have z3 : List.range hs.length = List.range j ++ (List.range hs.length).drop j := by
              have z4 := List.take_append_drop j (List.range hs.length)
              rw [List.take_range, Nat.min_eq_left (Nat.le_of_lt hj')] at z4
              exact z4.symm
            rw [z3, List.filter_append, List.length_append]
            exact Nat.le_add_right _ _
          have z5 : ([row].flatMap (ext hs)).length = (ext hs row).length := by rw [List.flatMap_cons, List.flatMap_nil, List.append_nil]
          omega
        have sz : (46656 : Nat) < sizeLine := by decide
        have hrow : row.length ≤ 60 := by rw [hrp.2]; omega
        have nqF : qa ≠ Fr := fun z => nas (by rw [← z]; exact List.mem_of_getElem? eq)
        refine ⟨_, rfl, _, rfl, qa, _, rfl, .inl (SqL.of hq), rfl, flat_nv row, !decide (j ∈ row), by show V.bl (!inV _ _) = _; rw [inV_nv], ?_⟩
        by_cases hjr : j ∈ row
        · rw [decide_eq_true hjr]
          exact iteF (iteF (skip (by unfold avB; rw [decide_eq_false (fun z => z hjr), Bool.false_and]; exact Bool.false_ne_true)))
        · rw [decide_eq_false hjr]
          refine iteT ⟨_, rfl, _, rfl, t, _, _, hv o, rfl, rfl, sq se, atI_nat (hv_at ho), rfl, decide (hv o = V.non), rfl, ?_⟩
          rcases o with _ | u
          · have hav : avB hs row j = true := by unfold avB; rw [ho, decide_eq_true hjr]; rfl
            refine iteT (iteT ?_)
            refine ⟨_, rfl, .inl ⟨rfl, _, SqL.of oF⟩, _, rfl, _, rfl, by show 1 ≤ sizeLine; decide, fun L hL => ?_⟩
            have sL := se.new (o := .lst [.int (j : Int)]) hL
            have oL : upd Hf L (.lst [.int (j : Int)]) L = some (.lst [.int (j : Int)]) := upd_same
            have kL := (Same.refl Hf).new (o := .lst [.int (j : Int)]) hL
            generalize upd Hf L (.lst [.int (j : Int)]) = Hg at sL oL kL ⊢
            refine ⟨qa, L, _, _, rfl, rfl, kL _ _ hq, oL, by rw [nv_length]; exact Nat.le_of_lt (szl (by show _ + 1 ≤ 1000; omega)), fun N hN => ?_⟩
            have eN : nv row ++ [V.int (j : Int)] = nv (row ++ [j]) := by rw [nv_append]; rfl
            rw [eN]
            have sN := sL.new (o := .lst (nv (row ++ [j]))) hN
            have kN := kL.trans ((Same.refl Hg).new (o := .lst (nv (row ++ [j]))) hN)
            have oN : upd Hg N (.lst (nv (row ++ [j]))) N = some (.lst (nv (row ++ [j]))) := upd_same
            have nNF : Fr ≠ N := ne_of_none (kL _ _ oF) hN
            generalize upd Hg N (.lst (nv (row ++ [j]))) = Hh at sN kN oN ⊢
            refine ⟨Fr, _, _, rfl, rfl, kN _ _ oF, by rw [List.length_map]; omega, ?_⟩
            refine ⟨_, fs ++ [N], rfl, sN.upd hFn, by rw [upd_ne nRF]; exact kN _ _ oR, (hw.same kN).but nas, by rw [upd_same, List.map_append]; rfl, ?_, fun z => (List.mem_append.mp z).elim nfs fun z => nNF (List.mem_singleton.mp z), fun q hq => (List.mem_append.mp hq).elim (nnf q) fun z => by rw [List.mem_singleton.mp z]; exact sL.free hN⟩
            rw [extTo_succ, if_pos hav, ← List.append_assoc]
            exact ((hf.same kN).but nfs).grow (by rw [upd_ne nNF.symm]; exact oN)
          · refine iteF ⟨_, rfl, _, rfl, t, _, _, hv (some u), rfl, rfl, sq se, atI_nat (hv_at ho), _, rfl, qa, _, rfl, .inl (SqL.of hq), rfl, flat_nv row, decide (u ∈ row), congrArg V.bl (inV_nv u row), ?_⟩
            by_cases hur : u ∈ row
            · have hav : avB hs row j = true := by unfold avB; rw [ho, decide_eq_true hjr]; exact decide_eq_true hur
              rw [decide_eq_true hur]
              refine iteT ?_
              refine ⟨_, rfl, .inl ⟨rfl, _, SqL.of oF⟩, _, rfl, _, rfl, by show 1 ≤ sizeLine; decide, fun L hL => ?_⟩
              have sL := se.new (o := .lst [.int (j : Int)]) hL
              have oL : upd Hf L (.lst [.int (j : Int)]) L = some (.lst [.int (j : Int)]) := upd_same
              have kL := (Same.refl Hf).new (o := .lst [.int (j : Int)]) hL
              generalize upd Hf L (.lst [.int (j : Int)]) = Hg at sL oL kL ⊢
              refine ⟨qa, L, _, _, rfl, rfl, kL _ _ hq, oL, by rw [nv_length]; exact Nat.le_of_lt (szl (by show _ + 1 ≤ 1000; omega)), fun N hN => ?_⟩
              have eN : nv row ++ [V.int (j : Int)] = nv (row ++ [j]) := by rw [nv_append]; rfl
              rw [eN]
              have sN := sL.new (o := .lst (nv (row ++ [j]))) hN
              have kN := kL.trans ((Same.refl Hg).new (o := .lst (nv (row ++ [j]))) hN)
              have oN : upd Hg N (.lst (nv (row ++ [j]))) N = some (.lst (nv (row ++ [j]))) := upd_same
              have nNF : Fr ≠ N := ne_of_none (kL _ _ oF) hN
              generalize upd Hg N (.lst (nv (row ++ [j]))) = Hh at sN kN oN ⊢
              refine ⟨Fr, _, _, rfl, rfl, kN _ _ oF, by rw [List.length_map]; omega, ?_⟩
              refine ⟨_, fs ++ [N], rfl, sN.upd hFn, by rw [upd_ne nRF]; exact kN _ _ oR, (hw.same kN).but nas, by rw [upd_same, List.map_append]; rfl, ?_, fun z => (List.mem_append.mp z).elim nfs fun z => nNF (List.mem_singleton.mp z), fun q hq => (List.mem_append.mp hq).elim (nnf q) fun z => by rw [List.mem_singleton.mp z]; exact sL.free hN⟩
              rw [extTo_succ, if_pos hav, ← List.append_assoc]
              exact ((hf.same kN).but nfs).grow (by rw [upd_ne nNF.symm]; exact oN)
            · rw [decide_eq_false hur]
              exact iteF (skip (by unfold avB; rw [ho, decide_eq_true hjr, Bool.true_and]; show ¬ decide (u ∈ row) = true; rw [decide_eq_false hur]; exact Bool.false_ne_true))
      · rintro σ He ⟨v5, fs, rfl, se, oR, hw, oF, hf, nfs, nnf⟩
        have eN : ((((hs.map hv).length : Nat) : Int)).toNat = hs.length := by omega
        rw [eN, extTo_all] at hf
        refine ⟨_, _, fs, rfl, se, oR, hw, oF, ?_, nfs, nnf⟩
        rw [etake, List.flatMap_append, List.flatMap_cons, List.flatMap_nil, List.append_nil, hpref]
        exact hf
    · rintro σ Hc ⟨v4, v5, fs, rfl, sc, oR, hw, oF, hf, nfs, nnf⟩
      have lr := hw.len
      rw [List.length_map, lr, List.take_length] at hf
      exact ⟨_, rfl, Fr, fs, _, _, _, _, rfl, sc, hFn, oF, hf, nnf⟩
  · rintro σ Ha ⟨R, as, v2, v3, v4, v5, rfl, sa, hRn, oR, hw, nnw⟩
    have eN : ((((hs.map hv).length : Nat) : Int)).toNat = hs.length := by omega
    rw [eN] at hw
    exact ⟨_, rfl, q R as Ha sa hRn oR hw nnw⟩
theorem ok__law_rows (D : Df K mg "_law_rows" st__law_rows ["plan"]) (B : Bl mg) : Kn P w K mg base CX0 1 "_law_rows" st__law_rows ["plan"] spRows :=
  Kn.imp (ok__law_rowsN D B) fun _ _ _ _ ⟨t, hs, e, ht, fo, h6, q⟩ => ⟨t, hs, e, ht, fo, h6, fun p as H' s hp ho wr _ => q p as H' s hp ho wr⟩
end

theorem idx_get {j : Nat} : ∀ {q : List Nat}, j ∈ q → q[q.idxOf j]? = some j
  | x :: q, h => by
    by_cases e : x = j
    · rw [e, List.idxOf_cons_self]; rfl
    · rw [idx_ne e]
      exact idx_get ((List.mem_cons.mp h).elim (fun y => absurd y.symm e) id)
theorem idx_first {j v : Nat} : ∀ {q : List Nat} {m : Nat}, m < q.idxOf j → q[m]? = some v → v ≠ j
  | [], _, _, h => by cases h
  | x :: q, m, l, h => by
    by_cases e : x = j
    · rw [e, List.idxOf_cons_self] at l; omega
    · rw [idx_ne e] at l
      cases m with
      | zero => cases h; exact e
      | succ m => exact idx_first (q := q) (m := m) (by omega) h
theorem idx_take {m : Nat} : ∀ {q : List Nat} {k : Nat}, m ∈ q.take k → q.idxOf m < k
  | [], _, h => by rw [List.take_nil] at h; cases h
  | x :: q, 0, h => by rw [List.take_zero] at h; cases h
  | x :: q, k + 1, h => by
    rw [List.take_succ_cons] at h
    by_cases e : x = m
    · rw [e, List.idxOf_cons_self]; exact Nat.succ_pos _
    · rw [idx_ne e]
      have := idx_take (q := q) ((List.mem_cons.mp h).elim (fun y => absurd y.symm e) id)
      omega
theorem index_ask {K : PySem.W.Frag} {H : Hp} {a : Addr} {q : List Nat} {j : Nat} {Q : VK} (h : H a = some (.lst (nv q))) (m : j ∈ q) (k : Q (.int ((q.idxOf j : Nat) : Int)) H) : rIndex K (.ref a) [.int (j : Int)] H Q := by
  refine ⟨a, nv q, .int (j : Int), q.idxOf j, .int (j : Int), rfl, rfl, SqL.of h, rfl, flat_nv q, nv_get (idx_get m), ?_, fun p z hp hz => ?_, k⟩
  · exact decide_eq_true rfl
  · obtain ⟨v, ev, rfl⟩ := nv_at hz
    have n := idx_first hp ev
    exact decide_eq_false fun e => n (by omega)

/-! ### the law's own number of sequences -/
def spLMany : Sp := fun vs H Q _ => ∃ (a : Addr) (hs : Hs), vs = [.ref a] ∧ H a = some (.tup (hs.map hv)) ∧ (hs ≠ [] → Fo hs) ∧ hs.length ≤ 60 ∧ ∀ H', Same H H' → Q (.int (cntL hs)) H'
section
variable {P : Program} {w : World} {K : PySem.W.Frag} {mg : Str → Option Value} {base : Heap}
abbrev st__law_many : Stmt := topS 32
abbrev N__law_many : List Str := ["plan", "top", "k", "size"]
theorem sc__law_many : FnScope N__law_many ["plan"] (defScope st__law_many) := ⟨rfl, rfl, rfl, by decide +kernel, rfl, by decide +kernel, by decide +kernel⟩
theorem ok__law_many (D : Df K mg "_law_many" st__law_many ["plan"]) (B : Bl mg) (K_law_weights : Kn P w K mg base CX0 3 "_law_weights" st__law_weights ["plan"] spWeights0) : Kn P w K mg base CX0 4 "_law_many" st__law_many ["plan"] spLMany := by
  refine D.ok sc__law_many (fun vs H Q E h => ?_) (fun f cdv A outer s H vs Q E hr h => ?_)
  · obtain ⟨a, hs, rfl, _⟩ := h; rfl
  obtain ⟨a, hs, rfl, ha, fo0, hl, q⟩ := h
  have lF : (szL hs).length = hs.length := by unfold szL; rw [List.length_map, List.length_range]
  refine ⟨_, ((pss_cons (ps_set (i := 1) sc__law_many.nd rfl (Or.inl rfl) pe_int)
      (pss_cons (ps_for PassesOwn.never rfl (pi_range1 (by rfl) B.range (pa_cons (pe_callB call_len (by rfl) B.len (by decide +kernel) (pa_cons (pv 0) pa_nil)) pa_nil)) (pg_name (i := 2) sc__law_many.nd rfl (Or.inl rfl)) (pss_one (ps_set (i := 1) sc__law_many.nd rfl (Or.inl rfl) (pe_op op_mulW (pv 1) (pe_op op_add (pv 2) pe_int)))))
      (pss_cons (ps_for PassesOwn.never rfl (pi_list (pe_callF K_law_weights (hr.mono (by decide)) pass0 (pa_cons (pv 0) pa_nil))) (pg_name (i := 3) sc__law_many.nd rfl (Or.inl rfl)) (pss_one (ps_set (i := 1) sc__law_many.nd rfl (Or.inl rfl) (pe_op op_fdivW (pv 1) (pv 3)))))
      (pss_one (ps_ret (pv 1))))))), ?_⟩
  have hlm : (hs.map hv).length = hs.length := List.length_map _
  have big : fct 60 < 2 ^ 1000 := by decide +kernel
  refine ⟨_, rfl, _, _, rfl, .inr ⟨_, SqT.of ha, rfl⟩, _, rfl, by omega, by omega, for_it walk_range0 (fun i σ H' => ∃ v2 v3, σ = [some (.ref a), some (.int ((fct i : Nat) : Int)), v2, v3] ∧ H' = H) ⟨_, _, rfl, rfl⟩ (fun _ _ _ _ _ => trivial) ?_ ?_⟩
  · rintro i x σ H1 H2 hi ⟨v2, v3, rfl, rfl⟩ ⟨rfl, rfl⟩
    have hi2 : i < hs.length := by omega
    have m := fct_mono (show i ≤ 60 by omega)
    refine ⟨_, rfl, _, rfl, _, _, rfl, rfl, _, _, rfl, rfl, wide_mul (a := 1000) (b := 64) (by omega) (Nat.lt_of_le_of_lt (show _ ≤ 100 by omega) (by decide)) (by decide) (by decide) (by decide), some (.int (i : Int)), v3, ?_, rfl⟩
    have e : ((fct (i + 1) : Nat) : Int) = ((fct i : Nat) : Int) * ((i : Int) + 1) := by rw [fct]; exact Int.natCast_mul _ _
    rw [e]; rfl
  · rintro σ H1 ⟨v2, v3, rfl, rfl⟩
    have en : (((hs.map hv).length : Nat) : Int).toNat = hs.length := by rw [hlm]; omega
    rw [en]
    refine ⟨_, rfl, a, hs, rfl, ha, fo0, by omega, fun p F H2 s2 hp wt hF => ?_⟩
    have eF : F = szL hs := by
      by_cases z : hs = []
      · subst z
        exact List.eq_nil_of_length_eq_zero wt.1
      · exact size_one (fo0 z) (wt.size (fo0 z)) (szL_ok (fo0 z))
    subst eF
    refine ⟨p, rfl, ⟨_, SqL.of hF⟩, for_it (walk_list (xs := iv (szL hs))) (fun i σ H' => ∃ v2 v3, σ = [some (.ref a), some (.int (divAll ((fct hs.length : Nat) : Int) ((szL hs).take i))), v2, v3] ∧ H' = H2) ⟨_, _, rfl, rfl⟩ (fun i σ H' _ z => ?_) ?_ ?_⟩
    · obtain ⟨_, _, _, z⟩ := z
      rw [z]; exact SqL.of hF
    · rintro i x σ H3 H4 hi ⟨v2, v3, rfl, rfl⟩ ⟨rfl, e1⟩
      rw [iv_length] at hi
      rw [iv_get hi] at e1
      cases e1
      rw [lF] at hi
      have fo := fo0 (fun z => by rw [z] at hi; exact absurd hi (Nat.not_lt_zero _))
      have b := szL_at fo hi
      have ds : divAll ((fct hs.length : Nat) : Int) ((szL hs).take (i + 1)) = divAll ((fct hs.length : Nat) : Int) ((szL hs).take i) / (szL hs).getD i 0 := by
        have hi2 : i < (szL hs).length := by omega
        have ei : (szL hs).getD i 0 = (szL hs)[i] := by rw [List.getD_eq_getElem?_getD, List.getElem?_eq_getElem hi2]; rfl
        have tk : (szL hs).take (i + 1) = (szL hs).take i ++ [(szL hs)[i]] := by rw [List.take_add_one, List.getElem?_eq_getElem hi2]; rfl
        rw [tk, divAll_snoc, ei]
      exact ⟨_, rfl, _, rfl, _, _, rfl, rfl, wide_div (b := 64) (by omega) (Nat.lt_of_le_of_lt (show _ ≤ 100 by omega) (by decide)) (by decide) (by decide), v2, some (.int ((szL hs).getD i 0)), by rw [ds]; rfl, rfl⟩
    · rintro σ H3 ⟨v2, v3, rfl, rfl⟩
      have et : (szL hs).take (iv (szL hs)).length = szL hs := by rw [iv_length, List.take_length]
      rw [et]
      exact ⟨_, rfl, q H3 s2⟩
end

end My

namespace My
open PySem PySem.Spec PyProof.Rows L2
def spTally (T : Addr) : Sp := fun vs H Q _ => ∃ (t : Addr) (hs : Hs), vs = [.ref t] ∧ H t = some (.tup (hs.map hv)) ∧ Fo hs ∧ hs.length ≤ 5 ∧ NdefX.TabsN (TbG T) H ∧
  ∀ r H', LamX.ExtN H H' → NdefX.TabsN (TbG T) H' → H' r = some (.lst (iv (tal11 (tyl hs)))) → Q (.ref r) H'
theorem wk_idx {hs : Hs} (fo : Fo hs) {v : Nat} (h : v < hs.length) : (wk hs).idxOf v = pz hs v := by
  have a := idx_get ((wk_sq fo).mem.mpr h)
  exact (pz_at fo a).symm
def cntTo (L : List Nat) (i : Nat) : List Int := (List.range 11).map fun k => (((L.take i).count k : Nat) : Int)
theorem cntTo_at {L : List Nat} {i m : Nat} (h : m < 11) : (iv (cntTo L i))[m]? = some (.int (((L.take i).count m : Nat) : Int)) := by
  unfold iv cntTo
  rw [List.getElem?_map, List.getElem?_map, List.getElem?_range h]; rfl
theorem cntTo_len (L : List Nat) (i : Nat) : (iv (cntTo L i)).length = 11 := by
  unfold iv cntTo
  rw [List.length_map, List.length_map, List.length_range]
theorem cnt_next {L : List Nat} {i m : Nat} (e : L[i]? = some m) (h : m < 11) : (iv (cntTo L i)).set m (.int ((((L.take i).count m : Nat) : Int) + 1)) = iv (cntTo L (i + 1)) := by
  have tk : L.take (i + 1) = L.take i ++ [m] := by rw [List.take_add_one, e]; rfl
  refine List.ext_getElem? fun j => ?_
  by_cases c : j < 11
  · rw [cntTo_at c, tk, List.count_append]
    by_cases d : j = m
    · subst d
      rw [List.getElem?_set_self (by rw [cntTo_len]; exact c), List.count_singleton_self]
      rw [Int.natCast_add]; rfl
    · rw [List.getElem?_set_ne (Ne.symm d), cntTo_at c, List.count_singleton, if_neg (by simpa using fun z => d z.symm)]
      rfl
  · rw [List.getElem?_eq_none (by rw [List.length_set, cntTo_len]; omega), List.getElem?_eq_none (by rw [cntTo_len]; omega)]
section
variable {P : Program} {w : World} {K : PySem.W.Frag} {mg : Str → Option Value} {base : Heap} {T : Addr}
abbrev st__law_tally : Stmt := topS 37
abbrev N__law_tally : List Str := ["plan", "names", "found", "row", "spots", "total", "k", "one", "spot"]
theorem sc__law_tally : FnScope N__law_tally ["plan"] (defScope st__law_tally) := ⟨rfl, rfl, rfl, by decide +kernel, rfl, by decide +kernel, by decide +kernel⟩
theorem ok__law_tally (D : Df K mg "_law_tally" st__law_tally ["plan"]) (B : Bl mg) (K_law_walk : Kn P w K mg base CX0 61 "_law_walk" st__law_walk ["plan"] (spLWalk T)) (K_law_rows : Kn P w K mg base CX0 1 "_law_rows" st__law_rows ["plan"] spRowsN) :
    Kn P w K mg base CX0 62 "_law_tally" st__law_tally ["plan"] (spTally T) := by
  refine D.ok sc__law_tally (fun vs H Q E h => ?_) (fun f cdv A outer s H vs Q E hr h => ?_)
  · obtain ⟨t, hs, rfl, _⟩ := h; rfl
  obtain ⟨t, hs, rfl, ht, fo, n5, hT, q⟩ := h
  refine ⟨_, ((pss_cons (ps_asg (pe_tup (pa_cons (pe_callF K_law_walk (hr.mono (by decide)) pass0 (pa_cons (pv 0) pa_nil)) (pa_cons (pe_op op_rep (pe_lst (pa_cons pe_int pa_nil)) pe_int) pa_nil))) (pg_tup rfl (pgs_cons (pg_name (i := 1) sc__law_tally.nd rfl (Or.inr rfl)) (pgs_cons (pg_name (i := 2) sc__law_tally.nd rfl (Or.inl rfl)) pgs_nil))))
      (pss_cons (ps_for PassesOwn.never rfl (pi_list (pe_callF K_law_rows (hr.mono (by decide)) pass0 (pa_cons (pv 0) pa_nil))) (pg_name (i := 3) sc__law_tally.nd rfl (Or.inl rfl)) (pss_cons (ps_set (i := 4) sc__law_tally.nd rfl (Or.inr rfl) (pe_lc (own := [("one", 7)]) (g := gName 7) rfl sc__law_tally.nd (pi_list (pv 3)) (blkOk_by (N := N__law_tally) (sc := defScope st__law_tally) (own := [("one", 7)]) (by decide +kernel)) (fun _ _ _ _ _ => by (exact (pg_name (i := 7) sc__law_tally.nd rfl (Or.inl rfl)))) (fun _ _ _ _ _ => by exact pts_nil) (fun _ _ _ _ _ => by exact (pe_bmK K PySem.F.plainAttrs_list PySem.F.slot_list_index PySem.F.type_list_index (mt_indexK K) (pv 1) (pa_cons (pv 7) pa_nil)))))
      (pss_cons (ps_set (i := 5) sc__law_tally.nd rfl (Or.inl rfl) pe_int)
      (pss_cons (ps_for PassesOwn.never rfl (pi_range1 (by rfl) B.range (pa_cons (pe_callB call_len (by rfl) B.len (by decide +kernel) (pa_cons (pv 4) pa_nil)) pa_nil)) (pg_name (i := 6) sc__law_tally.nd rfl (Or.inr rfl)) (pss_one (ps_set (i := 5) sc__law_tally.nd rfl (Or.inl rfl) (pe_op op_add (pv 5) (pe_callB call_len (by rfl) B.len (by decide +kernel) (pa_cons (pe_lc (own := [("spot", 8)]) (g := gName 8) rfl sc__law_tally.nd (pi_list (pe_slice sl_list (pv 4) (po_some (pv 6)) po_none)) (blkOk_by (N := N__law_tally) (sc := defScope st__law_tally) (own := [("spot", 8)]) (by decide +kernel)) (fun _ _ _ _ _ => by (exact (pg_name (i := 8) sc__law_tally.nd rfl (Or.inl rfl)))) (fun _ _ _ _ _ => by exact (pts_one (pt_cmpR op_lt (pv 8) (pe_ix (ix_listK K) (pv 4) (pv 6) (fun _ _ => rfl)) (nomark _)))) (fun _ _ _ _ _ => by exact (pv 8))) pa_nil))))))
      (pss_one (ps_asg (pe_op op_add (pe_ix ix_list (pv 2) (pv 5) (fun _ _ => rfl)) pe_int) (pg_sub (pv 2) (pv 5) set_list)))))))
      (pss_one (ps_ret (pv 2)))))), ?_⟩
  have l60 : hs.length ≤ 60 := by omega
  have p62 : (2 : Int) ^ 62 = 4611686018427387904 := by decide
  have p63 : (2 : Int) ^ 63 = 9223372036854775808 := by decide
  refine ⟨_, rfl, t, hs, rfl, ht, fo, l60, hT, fun N H1 e1 t1 hN oN => ⟨by show 1 ≤ sizeLine; decide, fun Z hZ => ⟨Z, _, _, rfl, rfl, upd_same, by omega, by omega, by show 1 * (11 : Int).toNat ≤ sizeLine; decide, fun F hF => ⟨by show 2 ≤ sizeLine; decide, fun X hX => ?_⟩⟩⟩⟩
  have sZ := (Same.refl H1).new (o := .lst [.int 0]) hZ
  rw [iv_rep] at hX ⊢
  have sF := sZ.new (o := .lst (iv (List.replicate (11 : Int).toNat 0))) hF
  have oF : upd (upd H1 Z (.lst [.int 0])) F (.lst (iv (List.replicate (11 : Int).toNat 0))) F = some (.lst (iv (cntTo (tyl hs) 0))) := by rw [upd_same]; rfl
  have hF1 := sZ.free hF
  generalize upd (upd H1 Z (.lst [.int 0])) F (.lst (iv (List.replicate (11 : Int).toNat 0))) = H2 at sF oF hX ⊢
  have sX := sF.new (o := .tup [.ref N, .ref F]) hX
  have oX : upd H2 X (.tup [.ref N, .ref F]) X = some (.tup [.ref N, .ref F]) := upd_same
  have oF := ((Same.refl H2).new (o := .tup [.ref N, .ref F]) hX) _ _ oF
  generalize upd H2 X (.tup [.ref N, .ref F]) = H3 at sX oX oF ⊢
  refine ⟨X, _, rfl, SqT.of oX, rfl, _, _, rfl, _, _, rfl, rfl, ?_⟩
  have ht1 := e1 _ _ ht (by intro ps z; cases z)
  have oN3 := sX _ _ oN
  have NF : N ≠ F := ne_of_none oN hF1
  have t3 := tabsG_same t1 sX
  have e3 : LamX.ExtN H H3 := fun b o z n => sX _ _ (e1 b o z n)
  have hFn : ∀ b o, H b = some o → (∀ ps, o ≠ .tbl ps) → b ≠ F := fun b o z n => ne_of_none (e1 b o z n) hF1
  -- for row in _law_rows(plan)
  refine ⟨_, rfl, t, hs, rfl, sX _ _ ht1, fo, by omega, fun P1 as H4 s4 hP oP rw' nw => ?_⟩
  have oF4 := s4 _ _ oF
  have PF : P1 ≠ F := fun z => by rw [z, oF] at hP; cases hP
  have oN4 := s4 _ _ oN3
  have nwF : ∀ a ∈ as, a ≠ F := fun a m z => by have := nw a m; rw [z, oF] at this; cases this
  have c720 := rows_few fo (by omega)
  have lm : (as.map V.ref).length = (rowsAt hs hs.length).length := by rw [List.length_map, rw'.len]
  have lW := (wk_sq fo).len
  refine ⟨P1, rfl, ⟨_, SqL.of oP⟩, for_it (walk_list (xs := as.map V.ref)) (fun i σ H' => ∃ v3 v4 v5 v6, σ = [some (.ref t), some (.ref N), some (.ref F), v3, v4, v5, v6, none, none] ∧ Keep F H4 H' ∧ H' F = some (.lst (iv (cntTo (tyl hs) i)))) ⟨none, none, none, none, rfl, Keep.refl F H4, oF4⟩ (fun i σ H' _ z => by obtain ⟨_, _, _, _, _, k, _⟩ := z; exact SqL.of (k _ _ PF oP)) ?_ ?_⟩
  · rintro i x σ H5 H6 hi ⟨v3, v4, v5, v6, rfl, k5, oF5⟩ ⟨rfl, e1'⟩
    obtain ⟨p, ep, rfl⟩ := ref_atT e1'
    have hi2 := (List.getElem?_eq_some_iff.mp ep).1
    rw [rw'.len] at hi2
    have er : (rowsAt hs hs.length)[i]? = some (rowsAt hs hs.length)[i] := List.getElem?_eq_getElem hi2
    obtain ⟨ro, rl⟩ := rows_mem.mp (List.getElem_mem hi2)
    have op := rw'.at_ i p _ ep er
    generalize (rowsAt hs hs.length)[i] = r at er ro rl op
    have op5 := k5 _ _ (nwF p (List.mem_of_getElem? ep)) op
    have oN5 := k5 _ _ NF oN4
    -- spots
    refine ⟨_, rfl, p, rfl, ⟨_, SqL.of op5⟩, fun Sp hSp => lc_u (walk_list (xs := nv r)) (fun _ => true) (fun j => ((pz hs (r.getD j 0) : Nat) : Int)) (by rw [nv_length]; omega) hSp (fun H' s' => SqL.of (s' _ _ op5)) ?_ fun H7 s7 oS => ?_⟩
    · rintro j y H7 H8 N' A' hj s7 ⟨rfl, e2⟩ _ hA
      obtain ⟨v, ev, rfl⟩ := nv_at e2
      have hv' := ro.lt v (List.mem_of_getElem? ev)
      have z := hA rfl _ (Same.refl _)
      rw [List.getD_eq_getElem?_getD, ev] at z
      refine ⟨rfl, _, rfl, .inl ⟨rfl, _, SqL.of (s7 _ _ oN5)⟩, _, rfl, index_ask (s7 _ _ oN5) ((wk_sq fo).mem.mpr hv') ?_⟩
      rw [wk_idx fo hv']
      exact z
    rw [nv_length, iv_map (pz hs)] at oS
    have ll : (r.map (pz hs)).length = hs.length := by rw [List.length_map, rl]
    have etl : (tyl hs)[i]? = some (invR (r.map (pz hs))) := by unfold tyl; rw [List.getElem?_map, er]; rfl
    have m10 := tyl_ten fo n5 _ (List.mem_of_getElem? etl)
    generalize r.map (pz hs) = l at oS ll etl m10
    refine ⟨_, rfl, _, _, rfl, .inl ⟨_, SqL.of oS, rfl⟩, _, rfl, by rw [nv_length]; omega, by rw [nv_length]; omega, for_it walk_range0 (fun k σ H' => ∃ v6, σ = [some (.ref t), some (.ref N), some (.ref F), some (.ref p), some (.ref Sp), some (.int ((((List.range k).map (invA l)).sum : Nat) : Int)), v6, none, none] ∧ Same H7 H') ⟨v6, rfl, Same.refl H7⟩ (fun _ _ _ _ _ => trivial) ?_ ?_⟩
    · rintro k y σ H8 H9 hk ⟨v6, rfl, s8⟩ ⟨rfl, rfl⟩
      rw [nv_length] at hk
      have hk : k < l.length := by omega
      have ek : l[k]? = some (l.getD k 0) := by rw [List.getD_eq_getElem?_getD, List.getElem?_eq_getElem hk]; rfl
      refine ⟨_, rfl, _, rfl, _, rfl, _, rfl, ?_⟩
      dsimp only [tNoPart]
      refine ⟨Sp, _, rfl, SqL.of (s8 _ _ oS), fun U hU => ?_⟩
      rw [cut_from, show (nv l).drop k = nv (l.drop k) from by unfold nv; rw [List.map_drop]]
      have s9 := s8.new (o := .lst (nv (l.drop k))) hU
      have oU : upd H9 U (.lst (nv (l.drop k))) U = some (.lst (nv (l.drop k))) := upd_same
      generalize upd H9 U (.lst (nv (l.drop k))) = H10 at s9 oU ⊢
      refine ⟨U, rfl, ⟨_, SqL.of oU⟩, fun L hL => lc_nat (fun y => decide (y < l.getD k 0)) oU (by rw [List.length_drop]; omega) hL (fun _ => rfl) (fun v H Q h => ⟨_, rfl, h⟩) (fun v H11 Q' mv s11 q' => ?_) fun H11 s11 oL => ?_⟩
      · refine ⟨_, rfl, _, rfl, _, rfl, Sp, _, _, _, rfl, rfl, SqL.of ((s9.trans s11) _ _ oS), atI_nat (nv_get ek), _, _, rfl, rfl, _, rfl, ?_⟩
        rw [lt_nat]
        exact q' H11 (Same.refl H11)
      refine ⟨_, _, rfl, .inl ⟨_, SqL.of oL, rfl⟩, _, _, rfl, rfl, some (.int (k : Int)), ?_, s9.trans s11⟩
      have e : ((((List.range (k + 1)).map (invA l)).sum : Nat) : Int) = ((((List.range k).map (invA l)).sum : Nat) : Int) + ((invA l k : Nat) : Int) := by
        rw [List.range_succ, List.map_append, List.sum_append]
        show (((_ + (invA l k + 0) : Nat)) : Int) = _
        omega
      rw [e, nv_length]
      rfl
    rintro σ H8 ⟨v6, rfl, s8⟩
    rw [nv_length, Int.toNat_natCast, invA_sum]
    have s58 := s7.trans s8
    have oF8 := s58 _ _ oF5
    refine ⟨_, rfl, _, rfl, F, _, _, _, rfl, rfl, SqL.of oF8, atI_nat (cntTo_at (by omega)), _, _, rfl, rfl, _, rfl, _, rfl, F, _, _, invR l, rfl, rfl, oF8, by rw [cntTo_len]; exact ixN_nat (by omega), ?_⟩
    refine ⟨_, _, _, _, rfl, fun b o nb e => (upd_ne nb).trans (s58 _ _ (k5 b o nb e)), ?_⟩
    rw [upd_same, cnt_next etl (by omega)]
  · rintro σ H5 ⟨v3, v4, v5, v6, rfl, k5, oF5⟩
    rw [lm] at oF5
    have eT : cntTo (tyl hs) (rowsAt hs hs.length).length = tal11 (tyl hs) := by
      unfold cntTo tal11
      rw [List.take_of_length_le (by unfold tyl; rw [List.length_map]; exact Nat.le_refl _)]
    rw [eT] at oF5
    exact ⟨_, rfl, q F H5 (fun b o z n => k5 b o (hFn b o z n) (s4 _ _ (e3 b o z n))) (tabsG_keep (tabsG_same t3 s4) oF4 k5) oF5⟩
end

end My

namespace My
open PySem PySem.Spec PyProof.Rows L2
/-! ### the least size that two lists count differently -/
def dfS (a b : List Int) (s : Nat) : Bool := decide (a.count (s : Int) ≠ b.count (s : Int))
/-- the least size from s up, k sizes long -/
def lsF (a b : List Int) : Nat → Nat → V
  | _, 0 => .non
  | s, k + 1 => if dfS a b s then .int (s : Int) else lsF a b (s + 1) k
theorem lsF_back (a b : List Int) (s k : Nat) : lsF a b s (k + 1) = if dfS a b s then .int (s : Int) else lsF a b (s + 1) k := rfl
theorem lsF_non {a b : List Int} : ∀ {s k : Nat}, (∀ i, i < k → dfS a b (s + i) = false) → lsF a b s k = .non
  | _, 0, _ => rfl
  | s, k + 1, h => by
    rw [lsF, if_neg (by rw [show dfS a b s = false from h 0 (Nat.succ_pos _)]; exact Bool.false_ne_true)]
    exact lsF_non fun i hi => by
      have := h (i + 1) (by omega)
      rwa [show s + (i + 1) = s + 1 + i by omega] at this
theorem lsF_some {a b : List Int} : ∀ {s k i : Nat}, i < k → dfS a b (s + i) = true → (∀ j, j < i → dfS a b (s + j) = false) → lsF a b s k = .int ((s + i : Nat) : Int)
  | s, 0, i, h, _, _ => absurd h (Nat.not_lt_zero i)
  | s, k + 1, 0, _, h, _ => by rw [lsF, if_pos (show dfS a b s = true from h)]; rfl
  | s, k + 1, i + 1, hi, h, n => by
    rw [lsF, if_neg (by rw [show dfS a b s = false from n 0 (Nat.succ_pos _)]; exact Bool.false_ne_true)]
    have z := lsF_some (a := a) (b := b) (s := s + 1) (k := k) (i := i) (by omega) (by rwa [show s + 1 + i = s + (i + 1) by omega]) fun j hj => by
      have := n (j + 1) (by omega)
      rwa [show s + 1 + j = s + (j + 1) by omega]
    rw [z, show s + 1 + i = s + (i + 1) by omega]
theorem pt_ls {hs ms : Hs} (fo : Fo hs) (fm : Fo ms) (h60 : hs.length ≤ 60) (m60 : ms.length ≤ 60) : ptL (soL hs) (soL ms) = lsF (soL hs) (soL ms) 1 60 := by
  have big : ∀ s : Nat, hs.length < s → ms.length < s → dfS (soL hs) (soL ms) s = false := fun s h1 h2 => by
    unfold dfS
    rw [(soL_perm hs).count_eq, (soL_perm ms).count_eq, List.count_eq_zero.mpr fun m => by have := szL_mem fo m; omega, List.count_eq_zero.mpr fun m => by have := szL_mem fm m; omega]
    exact decide_eq_false fun z => z rfl
  have e1 : ∀ i : Nat, (1 + (i : Int)) = ((1 + i : Nat) : Int) := fun i => by omega
  unfold ptL
  have la := soL_len hs
  have lb := soL_len ms
  rw [la, lb]
  cases f : (List.range (max hs.length ms.length)).find? (fun i : Nat => decide ((soL hs).count (1 + (i : Int)) ≠ (soL ms).count (1 + (i : Int)))) with
  | none =>
    refine (lsF_non fun i hi => ?_).symm
    by_cases c : i < max hs.length ms.length
    · have z := List.find?_eq_none.mp f i (List.mem_range.mpr c)
      unfold dfS
      rw [← e1]
      exact Bool.eq_false_iff.mpr z
    · exact big _ (by omega) (by omega)
  | some i =>
    rw [List.find?_range_eq_some] at f
    obtain ⟨h1, h2, h3⟩ := f
    have hi := List.mem_range.mp h2
    show V.int (1 + (i : Int)) = _
    rw [e1]
    refine (lsF_some (by omega) ?_ fun j hj => ?_).symm
    · unfold dfS
      rw [← e1]; exact h1
    · have z := h3 j hj
      unfold dfS
      rw [← e1]
      simpa using z
theorem ls_swap (a b : List Int) : ∀ s k : Nat, lsF a b s k = lsF b a s k
  | _, 0 => rfl
  | s, k + 1 => by
    rw [lsF, lsF, ls_swap a b (s + 1) k]
    have e : dfS a b s = dfS b a s := by
      unfold dfS
      exact decide_eq_decide.mpr ne_comm
    rw [e]
theorem ls_alike {hs ms : Hs} (fo : Fo hs) (fm : Fo ms) (h60 : hs.length ≤ 60) (m60 : ms.length ≤ 60) : lsF (soL hs) (soL ms) 1 60 = .non ↔ soL hs = soL ms := by
  constructor
  · intro h
    rw [soL_iff, List.perm_iff_count]
    intro x
    by_cases c : 1 ≤ x ∧ x ≤ 60
    · obtain ⟨k, rfl⟩ : ∃ k : Nat, x = (k : Int) := ⟨x.toNat, by omega⟩
      refine Classical.byContradiction fun z => ?_
      have some_ : ∀ (s n : Nat), (∃ i, i < n ∧ dfS (soL hs) (soL ms) (s + i) = true) → lsF (soL hs) (soL ms) s n ≠ .non := fun s n => by
        induction n generalizing s with
        | zero => exact fun ⟨i, hi, _⟩ => absurd hi (Nat.not_lt_zero i)
        | succ n ih =>
          rintro ⟨i, hi, hd⟩ q
          rw [lsF] at q
          by_cases d : dfS (soL hs) (soL ms) s = true
          · rw [if_pos d] at q; cases q
          · rw [if_neg d] at q
            cases i with
            | zero => exact d hd
            | succ i => exact ih (s + 1) ⟨i, by omega, by rwa [show s + 1 + i = s + (i + 1) by omega]⟩ q
      refine some_ 1 60 ⟨k - 1, by omega, ?_⟩ h
      rw [show 1 + (k - 1) = k by omega]
      unfold dfS
      rw [(soL_perm hs).count_eq, (soL_perm ms).count_eq]
      exact decide_eq_true z
    · rw [List.count_eq_zero.mpr fun m => c (by have := szL_mem fo m; omega), List.count_eq_zero.mpr fun m => c (by have := szL_mem fm m; omega)]
  · intro e
    rw [e]
    exact lsF_non fun i _ => decide_eq_false fun z => z rfl

end My

namespace My
open PySem PySem.Spec PyProof.Rows L2
/-- the heap without some of its objects (the well, the row that grows) -/
def Off (P : Addr → Bool) (H : Hp) : Hp := fun a => if P a = true then none else H a
theorem Off.at {P : Addr → Bool} {p : Addr} {H : Hp} {o : HO} (n : P p = false) (h : H p = some o) : Off P H p = some o := by
  unfold Off; rw [if_neg (by rw [n]; exact Bool.false_ne_true)]; exact h
theorem Off.keep {P : Addr → Bool} {wl : Addr} {H H' : Hp} (k : Keep wl H H') (pw : P wl = true) : Same (Off P H) (Off P H') := fun b o h => by
  unfold Off at h ⊢
  by_cases c : P b = true
  · rw [if_pos c] at h; cases h
  · rw [if_neg c] at h ⊢
    exact k b o (fun e => c (by rw [e]; exact pw)) h
theorem Off.same {P : Addr → Bool} {H : Hp} : Same (Off P H) H := fun b o h => by
  unfold Off at h
  by_cases c : P b = true
  · rw [if_pos c] at h; cases h
  · rw [if_neg c] at h; exact h
theorem Off.upd {P : Addr → Bool} {H : Hp} {a : Addr} {o : HO} (pa : P a = true) : Same (Off P H) (Off P (upd H a o)) := Off.keep (Keep.upd a H o) pa
theorem ne_P {P : Addr → Bool} {wl p : Addr} (pw : P wl = true) (n : P p = false) : p ≠ wl := fun e => by rw [e, pw] at n; cases n
theorem catA_w {K : PySem.W.Frag} {H : Hp} {a b : Addr} {P : Addr → Bool} {xs ys : List V} {Q : VK} (ha : H a = some (.tup xs)) (hb : H b = some (.tup ys)) (na : P a = false) (nb : P b = false) (hz : xs.length + ys.length ≤ 1000) (pn : ∀ a, H a = none → P a = false)
    (q : ∀ p H', Same H H' → P p = false → H' p = some (.tup (xs ++ ys)) → Q (.ref p) H') : rCatA K (.ref a) (.ref b) H Q := by
  refine ⟨a, b, xs, ys, rfl, rfl, SqT.of ha, SqT.of hb, Nat.le_of_lt (szl hz), fun e => ?_, fun _ e => ?_, fun _ _ p hp => q p _ ((Same.refl H).new hp) (pn p hp) upd_same⟩
  · subst e; exact q b H (Same.refl H) nb hb
  · subst e; exact q a H (Same.refl H) na (by rw [List.append_nil]; exact ha)
theorem slA_w {K : PySem.W.Frag} {H : Hp} {t : Addr} {P : Addr → Bool} {xs : List V} {lo hi : Option Int} {Q : VK} (h : H t = some (.tup xs)) (nt : P t = false) (pn : ∀ a, H a = none → P a = false) (q : ∀ p H', Same H H' → P p = false → H' p = some (.tup (cutV xs lo hi)) → Q (.ref p) H') : rSlA K (.ref t) lo hi H Q :=
  ⟨t, xs, rfl, SqT.of h, fun c => q t H (Same.refl H) nt (by rw [cut_whole xs c]; exact h), fun _ p hp => q p _ ((Same.refl H).new hp) (pn p hp) upd_same⟩
/-- what can be shown, a little larger -/
structure Md (d : PyData) : Prop where
  ok : d.showable = true
  short : d.leavesShort 100 = true
  bulk : d.bulk ≤ 2000
  deep : d.depth ≤ 20
theorem Small.md {d : PyData} (s : Small d) : Md d := ⟨s.ok, s.short, Nat.le_trans s.bulk (by decide), Nat.le_trans s.deep (by decide)⟩
theorem md_big : Md (.int ((10 : Int) ^ (39 : Int).toNat)) := ⟨by decide +kernel, by decide +kernel, Nat.zero_le _, Nat.zero_le _⟩
theorem md_gib : Md (.int (0 - (10 : Int) ^ (39 : Int).toNat)) := ⟨by decide +kernel, by decide +kernel, Nat.zero_le _, Nat.zero_le _⟩
theorem small_s0 : Small (.str "0") := ⟨by decide +kernel, by decide +kernel, by decide +kernel, by decide +kernel⟩
theorem small_s1 : Small (.str "-") := ⟨by decide +kernel, by decide +kernel, by decide +kernel, by decide +kernel⟩
theorem small_s2 : Small (.str "") := ⟨by decide +kernel, by decide +kernel, by decide +kernel, by decide +kernel⟩
theorem small_t0 : Small (.tuple [.int 0]) := ⟨by decide +kernel, by decide +kernel, by decide +kernel, by decide +kernel⟩
theorem small_l0 : Small (.list [.int 0]) := ⟨by decide +kernel, by decide +kernel, by decide +kernel, by decide +kernel⟩
theorem small_ln : Small (.list [.none]) := ⟨by decide +kernel, by decide +kernel, by decide +kernel, by decide +kernel⟩
theorem small_d0 : Small (.dict []) := ⟨by decide +kernel, by decide +kernel, by decide +kernel, by decide +kernel⟩
theorem md_tuple {ds : List PyData} (h : ∀ d ∈ ds, Small d) (hl : ds.length ≤ 60) : Md (.tuple ds) := by
  obtain ⟨a, b, c, e⟩ := small_all ds h
  exact ⟨by rw [PyData.showable]; exact a, by rw [PyData.leavesShort]; exact b, by rw [PyData.bulk]; omega, by rw [PyData.depth]; omega⟩
theorem md_list {ds : List PyData} (h : ∀ d ∈ ds, Small d) (hl : ds.length ≤ 60) : Md (.list ds) := by
  obtain ⟨a, b, c, e⟩ := small_all ds h
  exact ⟨by rw [PyData.showable]; exact a, by rw [PyData.leavesShort]; exact b, by rw [PyData.bulk]; omega, by rw [PyData.depth]; omega⟩
theorem md_inner {ds : List PyData} (h : ∀ d ∈ ds, Small d) (hl : ds.length ≤ 60) : Md (.tuple [.tuple ds]) := by
  obtain ⟨a, b, c, e⟩ := small_all ds h
  refine ⟨?_, ?_, ?_, ?_⟩
  · rw [PyData.showable, PyData.showableAll, PyData.showable, a]; rfl
  · rw [PyData.leavesShort, PyData.leavesShortAll, PyData.leavesShort, b]; rfl
  · rw [PyData.bulk, PyData.bulkAll, PyData.bulk, PyData.bulkAll]; omega
  · rw [PyData.depth, PyData.depthAll, PyData.depth, PyData.depthAll]; omega
theorem md_row : ∀ ds : List PyData, (∀ d ∈ ds, Md d) → PyData.showableAll ds = true ∧ PyData.leavesShortAll 100 ds = true ∧ PyData.bulkAll ds ≤ 2001 * ds.length ∧ PyData.depthAll ds ≤ 20
  | [], _ => ⟨rfl, rfl, Nat.le_refl _, Nat.zero_le _⟩
  | d :: ds, h => by
    obtain ⟨a, b, c, e⟩ := md_row ds fun x hx => h x (List.mem_cons_of_mem _ hx)
    have k := h d List.mem_cons_self
    refine ⟨by rw [PyData.showableAll, k.ok, a]; rfl, by rw [PyData.leavesShortAll, k.short, b]; rfl, ?_, ?_⟩
    · rw [PyData.bulkAll, List.length_cons]
      have := k.bulk
      omega
    · rw [PyData.depthAll]
      exact Nat.max_le.mpr ⟨k.deep, e⟩
theorem shows_row {ds : List PyData} (h : ∀ d ∈ ds, Md d) (hl : ds.length ≤ 10) : Shows (.list ds) := by
  obtain ⟨a, b, c, e⟩ := md_row ds h
  exact shows_of (by rw [PyData.showable]; exact a) (by rw [PyData.leavesShort]; exact b) (by rw [PyData.bulk]; omega) (by rw [PyData.depth]; omega)
theorem Rps.app {z : Bool} {H : Hp} : ∀ {xs : List V} {ds : List PyData} {ys : List V} {es : List PyData}, Rps z H xs ds → Rps z H ys es → Rps z H (xs ++ ys) (ds ++ es)
  | _, _, _, _, .nil, b => b
  | _, _, _, _, .cons h r, b => .cons h (Rps.app r b)
/-- no forest: some things hold one another in a ring -/
theorem noF_ring {H : Hp} {x : V} {hs : Hs} (h : tupAt H x = some (hs.map hv)) (S : Nat → Prop) {v0 : Nat} (h0 : S v0) (hl : v0 < hs.length) (cl : ∀ v, S v → ∃ u, hs[v]? = some (some u) ∧ S u) : ¬ IsF H x := fun ⟨hs', e, fo⟩ => by
  rw [h] at e
  have z := hv_inj (Option.some.inj e)
  subst z
  have no : ∀ v, Rch hs v → ¬ S v := fun v r => by
    induction r with
    | root h1 =>
      intro s
      obtain ⟨u, e1, _⟩ := cl _ s
      rw [h1] at e1; cases e1
    | step h1 _ ih =>
      intro s
      obtain ⟨u, e1, s1⟩ := cl _ s
      rw [h1] at e1
      have := Option.some.inj (Option.some.inj e1)
      exact ih (by rw [this]; exact s1)
  exact no v0 (fo.all v0 hl) h0

/-! ### one pair of forests -/
def vD : V → PyData
  | .int i => .int i
  | .bl b => .bool b
  | _ => .none
theorem rp_ls {H : Hp} (a b : List Int) : ∀ s k : Nat, Rp false H (lsF a b s k) (vD (lsF a b s k))
  | _, 0 => .non
  | s, k + 1 => by
    rw [lsF]
    split
    · exact .int _
    · exact rp_ls a b (s + 1) k
theorem dep_vD (v : V) : (vD v).depth = 0 := by cases v <;> rfl
theorem short_vD (v : V) : shortD (vD v) = true := by cases v <;> rfl
theorem shows_pair {hs ms : Hs} (fo : Fo hs) (fm : Fo ms) (h60 : hs.length ≤ 60) (m60 : ms.length ≤ 60) : Shows (.list [.tuple (hs.map hD), .tuple (ms.map hD)]) :=
  shows_row (ds := [.tuple (hs.map hD), .tuple (ms.map hD)]) (fun d m => by
    rcases List.mem_cons.mp m with e | m
    · rw [e]; exact md_tuple (small_hD fo.inb h60) (by rw [List.length_map]; exact h60)
    · rw [List.mem_singleton.mp m]; exact md_tuple (small_hD fm.inb m60) (by rw [List.length_map]; exact m60)) (by show 2 ≤ 10; decide)
def spRight26 : Sp := fun vs H Q _ => ∃ (t u : Addr) (hs ms : Hs), vs = [.ref t, .ref u] ∧ H t = some (.tup (hs.map hv)) ∧ H u = some (.tup (ms.map hv)) ∧ Fo hs ∧ Fo ms ∧ hs.length ≤ 60 ∧ ms.length ≤ 60 ∧ ∀ H', Same H H' → Q (.bl true) H'
section
variable {P : Program} {w : World} {K : PySem.W.Frag} {mg : Str → Option Value} {base : Heap}
theorem kb_are_alike_other_forest : KwB "are_alike" st_are_alike ["forest", "other"] ["other", "forest"] (fun us ws => us ++ ws.reverse) (fun us ws => us ++ ws.reverse) :=
  ⟨fun _ _ _ _ _ _ us ws hl => by
    rw [List.length_append, List.length_reverse] at hl
    have z : ([("forest" : Str), ("other" : Str)]).length = 2 := rfl
    rcases us with _ | ⟨u1, _ | ⟨u2, us⟩⟩
    · have h : ws.length = 2 := by rw [List.length_nil] at hl; omega
      exact match ws, h with | [_, _], _ => rfl
    · have h : ws.length = 1 := by rw [List.length_cons, List.length_nil] at hl; omega
      exact match ws, h with | [_], _ => rfl
    · rw [List.length_cons, List.length_cons] at hl
      have h : ws.length = 0 := by omega
      have h2 : us.length = 0 := by omega
      exact match us, ws, h2, h with | [], [], _, _ => rfl, fun a b => a.append b.reverse⟩
theorem kb_parting_size_other_forest : KwB "parting_size" st_parting_size ["forest", "other"] ["other", "forest"] (fun us ws => us ++ ws.reverse) (fun us ws => us ++ ws.reverse) :=
  ⟨fun _ _ _ _ _ _ us ws hl => by
    rw [List.length_append, List.length_reverse] at hl
    have z : ([("forest" : Str), ("other" : Str)]).length = 2 := rfl
    rcases us with _ | ⟨u1, _ | ⟨u2, us⟩⟩
    · have h : ws.length = 2 := by rw [List.length_nil] at hl; omega
      exact match ws, h with | [_, _], _ => rfl
    · have h : ws.length = 1 := by rw [List.length_cons, List.length_nil] at hl; omega
      exact match ws, h with | [_], _ => rfl
    · rw [List.length_cons, List.length_cons] at hl
      have h : ws.length = 0 := by omega
      have h2 : us.length = 0 := by omega
      exact match us, ws, h2, h with | [], [], _, _ => rfl, fun a b => a.append b.reverse⟩
theorem kb_same_number_other_forest : KwB "same_number" st_same_number ["forest", "other"] ["other", "forest"] (fun us ws => us ++ ws.reverse) (fun us ws => us ++ ws.reverse) :=
  ⟨fun _ _ _ _ _ _ us ws hl => by
    rw [List.length_append, List.length_reverse] at hl
    have z : ([("forest" : Str), ("other" : Str)]).length = 2 := rfl
    rcases us with _ | ⟨u1, _ | ⟨u2, us⟩⟩
    · have h : ws.length = 2 := by rw [List.length_nil] at hl; omega
      exact match ws, h with | [_, _], _ => rfl
    · have h : ws.length = 1 := by rw [List.length_cons, List.length_nil] at hl; omega
      exact match ws, h with | [_], _ => rfl
    · rw [List.length_cons, List.length_cons] at hl
      have h : ws.length = 0 := by omega
      have h2 : us.length = 0 := by omega
      exact match us, ws, h2, h with | [], [], _, _ => rfl, fun a b => a.append b.reverse⟩
abbrev st__law_right : Stmt := topS 38
abbrev N__law_right : List Str := ["plan", "mate", "before", "one", "two", "least", "size", "equal", "found", "due"]
theorem sc__law_right : FnScope N__law_right ["plan", "mate"] (defScope st__law_right) := ⟨rfl, rfl, rfl, by decide +kernel, rfl, by decide +kernel, by decide +kernel⟩
theorem ok__law_right (D : Df K mg "_law_right" st__law_right ["plan", "mate"]) (B : Bl mg) (K_law_weights : Kn P w K mg base CX0 3 "_law_weights" st__law_weights ["plan"] spWeights0) (K_law_many : Kn P w K mg base CX0 4 "_law_many" st__law_many ["plan"] spLMany)
    (K_law_same : Kn P w K mg base CX0 2 "_law_same" st__law_same ["found", "due"] (spSame 2)) (Kare_alike : Kn P w K mg base (L2.CX P w) 9 "are_alike" st_are_alike ["forest", "other"] (spTwoB fun hs ms => .bl (decide (soL hs = soL ms))))
    (Kparting_size : Kn P w K mg base (L2.CX P w) 9 "parting_size" st_parting_size ["forest", "other"] (spTwoB fun hs ms => ptL (soL hs) (soL ms))) (Ksame_number : Kn P w K mg base (L2.CX P w) 9 "same_number" st_same_number ["forest", "other"] (spTwoB fun hs ms => .bl (decide (cntL hs = cntL ms)))) :
    KnQ P w K mg base 10 "_law_right" st__law_right ["plan", "mate"] spRight26 := by
  refine D.okQ sc__law_right (fun vs H Q E h => ?_) (fun f cdv A outer s H vs Q E hr hq h => ?_)
  · obtain ⟨t, u, hs, ms, rfl, _⟩ := h; rfl
  obtain ⟨t, u, hs, ms, rfl, ht, hu, fo, fm, h60, m60, q⟩ := h
  refine ⟨_, ((pss_cons (ps_par3 (i := 2) (j := 3) (l := 4) (by rfl) sc__law_right.nd rfl rfl rfl (by decide) (by decide) (by decide) rfl rfl rfl (pa_cons (pe_callB (call_repr hr hq) (by rfl) B.repr (by decide +kernel) (pa_cons (pe_lst (pa_cons (pv 0) (pa_cons (pv 1) pa_nil))) pa_nil)) (pa_cons (pe_callB cr_sorted (by rfl) B.sorted (by decide +kernel) (pa_cons (pe_callF K_law_weights (hr.mono (by decide)) pass0 (pa_cons (pv 0) pa_nil)) pa_nil)) (pa_cons (pe_callB cr_sorted (by rfl) B.sorted (by decide +kernel) (pa_cons (pe_callF K_law_weights (hr.mono (by decide)) pass0 (pa_cons (pv 1) pa_nil)) pa_nil)) pa_nil))) (by rfl))
      (pss_cons (ps_set (i := 5) sc__law_right.nd rfl (Or.inl rfl) pe_non)
      (pss_cons (ps_for PassesOwn.never rfl (pi_range3 (by rfl) B.range (pa_cons pe_int (pa_cons pe_int (pa_cons (pe_un un_neg pe_int) pa_nil)))) (pg_name (i := 6) sc__law_right.nd rfl (Or.inl rfl)) (pss_one (ps_if (pt_cmpR op_ne (pe_bm PySem.F.plainAttrs_list PySem.F.slot_list_count PySem.F.type_list_count mt_lcountV (pv 3) (pa_cons (pv 6) pa_nil)) (pe_bm PySem.F.plainAttrs_list PySem.F.slot_list_count PySem.F.type_list_count mt_lcountV (pv 4) (pa_cons (pv 6) pa_nil)) (nomark _)) (pss_one (ps_set (i := 5) sc__law_right.nd rfl (Or.inl rfl) (pv 6))) pss_nil)))
      (pss_cons (ps_set (i := 7) sc__law_right.nd rfl (Or.inl rfl) (pe_cmpR op_eq (pe_callF K_law_many (hr.mono (by decide)) pass0 (pa_cons (pv 0) pa_nil)) (pe_callF K_law_many (hr.mono (by decide)) pass0 (pa_cons (pv 1) pa_nil)) (nomark _)))
      (pss_cons (ps_set (i := 8) sc__law_right.nd rfl (Or.inl rfl) (pe_lst (pa_cons (pe_callF Kare_alike (hr.mono (by decide)) passL (pa_cons (pv 0) (pa_cons (pv 1) pa_nil))) (pa_cons (pe_callFK0 Kare_alike (hr.mono (by decide)) kb_are_alike_other_forest passL (pk_cons (pv 0) (pk_cons (pv 1) pk_nil))) pa_nil))))
      (pss_cons (ps_set (i := 8) sc__law_right.nd rfl (Or.inl rfl) (pe_op op_cat (pv 8) (pe_lst (pa_cons (pe_callF Kparting_size (hr.mono (by decide)) passL (pa_cons (pv 0) (pa_cons (pv 1) pa_nil))) (pa_cons (pe_callFK0 Kparting_size (hr.mono (by decide)) kb_parting_size_other_forest passL (pk_cons (pv 0) (pk_cons (pv 1) pk_nil))) pa_nil)))))
      (pss_cons (ps_set (i := 8) sc__law_right.nd rfl (Or.inl rfl) (pe_op op_cat (pv 8) (pe_lst (pa_cons (pe_callF Ksame_number (hr.mono (by decide)) passL (pa_cons (pv 0) (pa_cons (pv 1) pa_nil))) (pa_cons (pe_callFK0 Ksame_number (hr.mono (by decide)) kb_same_number_other_forest passL (pk_cons (pv 0) (pk_cons (pv 1) pk_nil))) pa_nil)))))
      (pss_cons (ps_set (i := 9) sc__law_right.nd rfl (Or.inl rfl) (pe_lst (pa_cons (pe_cmpR op_isN (pv 5) pe_non (nomark _)) (pa_cons (pe_cmpR op_isN (pv 5) pe_non (nomark _)) (pa_cons (pv 5) (pa_cons (pv 5) (pa_cons (pv 7) (pa_cons (pv 7) pa_nil))))))))
      (pss_one (ps_ret (pe_and (pe_callF K_law_same (hr.mono (by decide)) pass0 (pa_cons (pv 8) (pa_cons (pv 9) pa_nil))) (pe_one (pe_cmpR op_eq (pe_callB (call_repr hr hq) (by rfl) B.repr (by decide +kernel) (pa_cons (pe_lst (pa_cons (pv 0) (pa_cons (pv 1) pa_nil))) pa_nil)) (pv 2) (nomark _))))))))))))))), ?_⟩
  have p62 : (2 : Int) ^ 62 = 4611686018427387904 := by decide
  have sh := shows_pair fo fm h60 m60
  have rp : ∀ {H' : Hp} {A : Addr}, Same H H' → H' A = some (.lst [.ref t, .ref u]) → Rp false H' (.ref A) (.list [.tuple (hs.map hD), .tuple (ms.map hD)]) := fun s e => .lst e (fun z => by cases z) (.cons (.tup (s _ _ ht) (rps_hv hs)) (.cons (.tup (s _ _ hu) (rps_hv ms)) .nil))
  -- before, one, two
  refine ⟨_, rfl, _, rfl, by show 2 ≤ sizeLine; decide, fun X1 hX1 => ⟨false, _, _, rfl, rp ((Same.refl H).new hX1) upd_same, sh, ?_⟩⟩
  have s1 := (Same.refl H).new (o := .lst [.ref t, .ref u]) hX1
  generalize upd H X1 (.lst [.ref t, .ref u]) = H1 at s1 ⊢
  generalize eb : (PyData.list [.tuple (hs.map hD), .tuple (ms.map hD)]).shown = bef
  have lS := (szL_ok fo).1
  have lM := (szL_ok fm).1
  refine ⟨_, rfl, t, hs, rfl, s1 _ _ ht, fun _ => fo, by omega, fun W1 F1 H2 s2 _ wt1 o1 => ?_⟩
  have e1 := size_one fo (wt1.size fo) (szL_ok fo)
  subst e1
  refine ⟨W1, szL hs, rfl, SqL.of o1, by omega, fun n1 A1 pm1 pw1 hA1 => ?_⟩
  rw [soL_of pm1 pw1]
  have s3 := (s1.trans s2).new (o := .lst (iv (soL hs))) hA1
  have oA : upd H2 A1 (.lst (iv (soL hs))) A1 = some (.lst (iv (soL hs))) := upd_same
  have oA : upd H2 A1 (.lst ((soL hs).map V.int)) A1 = some (.lst (iv (soL hs))) := oA
  have s3 : Same H (upd H2 A1 (.lst ((soL hs).map V.int))) := s3
  generalize upd H2 A1 (.lst ((soL hs).map V.int)) = H3 at s3 oA ⊢
  refine ⟨_, rfl, u, ms, rfl, s3 _ _ hu, fun _ => fm, by omega, fun W2 F2 H4 s4 _ wt2 o2 => ?_⟩
  have e2 := size_one fm (wt2.size fm) (szL_ok fm)
  subst e2
  refine ⟨W2, szL ms, rfl, SqL.of o2, by omega, fun n2 B1 pm2 pw2 hB1 => ?_⟩
  rw [soL_of pm2 pw2]
  have oA := ((Same.refl H4).new (o := .lst ((soL ms).map V.int)) hB1) _ _ (s4 _ _ oA)
  have s5 := (s3.trans s4).new (o := .lst ((soL ms).map V.int)) hB1
  have oB : upd H4 B1 (.lst ((soL ms).map V.int)) B1 = some (.lst (iv (soL ms))) := upd_same
  generalize upd H4 B1 (.lst ((soL ms).map V.int)) = H5 at s5 oA oB ⊢
  have eN := ls_alike fo fm h60 m60
  have fP := pt_ls fo fm h60 m60
  have fP2 := pt_ls fm fo m60 h60
  rw [ls_swap] at fP2
  have fA : decide (soL ms = soL hs) = decide (soL hs = soL ms) := decide_eq_decide.mpr eq_comm
  have fC : decide (cntL ms = cntL hs) = decide (cntL hs = cntL ms) := decide_eq_decide.mpr eq_comm
  refine ⟨_, _, _, rfl, ?_⟩
  refine ⟨_, rfl, _, _, _, _, rfl, RgC.neg (by omega) (by omega) (by omega) (by omega), for_it walk_rangeC (fun i σ H' => ∃ v6, σ = [some (.ref t), some (.ref u), some (.str bef), some (.ref A1), some (.ref B1), some (lsF (soL hs) (soL ms) (61 - i) i), v6, none, none, none] ∧ H' = H5) ⟨none, rfl, rfl⟩ (fun _ _ _ _ _ => trivial) ?_ ?_⟩
  · rintro i x σ H6 H7 hi ⟨v6, rfl, rfl⟩ ⟨rfl, rfl⟩
    have hi : i < 60 := hi
    have ex : ((60 : Int) + (i : Int) * -1) = ((60 - i : Nat) : Int) := by omega
    refine ⟨_, rfl, .inl ⟨rfl, _, SqL.of oA⟩, _, rfl, A1, _, _, rfl, rfl, SqL.of oA, rfl, flat_ivs _, _, rfl, .inl ⟨rfl, _, SqL.of oB⟩, _, rfl, B1, _, _, rfl, rfl, SqL.of oB, rfl, flat_ivs _, ?_⟩
    rw [cntV_int, cntV_int, ex]
    have step : lsF (soL hs) (soL ms) (61 - (i + 1)) (i + 1) = if dfS (soL hs) (soL ms) (60 - i) then .int ((60 - i : Nat) : Int) else lsF (soL hs) (soL ms) (61 - i) i := by
      rw [show 61 - (i + 1) = 60 - i by omega, lsF_back, show 60 - i + 1 = 61 - i by omega]
    refine ⟨rfl, _, rfl, ite2 (fun c => ?_) (fun c => ?_)⟩
    · have d : dfS (soL hs) (soL ms) (60 - i) = true := by
        unfold dfS
        refine decide_eq_true fun z => ?_
        rw [z] at c
        exact absurd c (by simp)
      refine ⟨_, rfl, some (.int ((60 - i : Nat) : Int)), ?_, rfl⟩
      rw [step, if_pos d]
      show List.set [some (V.ref t), some (V.ref u), some (V.str bef), some (V.ref A1), some (V.ref B1), _, some (V.int ((60 : Int) + (i : Int) * -1)), none, none, none] 5 (some (V.int ((60 : Int) + (i : Int) * -1))) = _
      rw [ex]; rfl
    · have d : ¬ dfS (soL hs) (soL ms) (60 - i) = true := fun z => c (by
        have z := of_decide_eq_true z
        show (!decide (V.int _ = V.int _)) = true
        rw [decide_eq_false fun y => z (by have := V.int.inj y; omega)]; rfl)
      refine ⟨some (.int ((60 - i : Nat) : Int)), ?_, rfl⟩
      rw [step, if_neg d]
      show [some (V.ref t), some (V.ref u), some (V.str bef), some (V.ref A1), some (V.ref B1), _, some (V.int ((60 : Int) + (i : Int) * -1)), none, none, none] = _
      rw [ex]
  rintro σ H6 ⟨v6, rfl, rfl⟩
  rw [show ((60 : Int) - 0).toNat = 60 from rfl, show 61 - 60 = 1 from rfl]
  have rv := fun {H' : Hp} => rp_ls (H := H') (soL hs) (soL ms) 1 60
  generalize lsF (soL hs) (soL ms) 1 60 = v at eN fP fP2 rv
  -- equal
  refine ⟨_, rfl, t, hs, rfl, s5 _ _ ht, fun _ => fo, h60, fun H7 s7 => ⟨_, rfl, u, ms, rfl, (s5.trans s7) _ _ hu, fun _ => fm, m60, fun H8 s8 => ⟨rfl, ?_⟩⟩⟩
  have s08 := (s5.trans s7).trans s8
  have fQ : decide (V.int (cntL hs) = V.int (cntL ms)) = decide (cntL hs = cntL ms) := decide_eq_decide.mpr ⟨V.int.inj, fun h => by rw [h]⟩
  rw [fQ]
  generalize eE : decide (cntL hs = cntL ms) = be at fC
  generalize eA : decide (soL hs = soL ms) = ba at fA
  have fN : decide (v = V.non) = ba := by rw [← eA]; exact decide_eq_decide.mpr eN
  -- found
  refine ⟨_, rfl, _, rfl, t, u, hs, ms, rfl, s08 _ _ ht, s08 _ _ hu, fo, fm, h60, m60, fun H9 s9 => ⟨_, rfl, _, rfl, u, t, ms, hs, rfl, (s08.trans s9) _ _ hu, (s08.trans s9) _ _ ht, fm, fo, m60, h60, fun H10 s10 => ⟨by show 2 ≤ sizeLine; decide, fun L1 hL1 => ?_⟩⟩⟩
  have s11 := ((s08.trans s9).trans s10).new (o := .lst [V.bl (decide (soL hs = soL ms)), V.bl (decide (soL ms = soL hs))]) hL1
  have oL1 : upd H10 L1 (.lst [V.bl (decide (soL hs = soL ms)), V.bl (decide (soL ms = soL hs))]) L1 = some (.lst [.bl ba, .bl ba]) := by rw [upd_same, fA, eA]
  refine ⟨_, rfl, _, rfl, _, rfl, t, u, hs, ms, rfl, s11 _ _ ht, s11 _ _ hu, fo, fm, h60, m60, fun H12 s12 => ⟨_, rfl, _, rfl, u, t, ms, hs, rfl, (s11.trans s12) _ _ hu, (s11.trans s12) _ _ ht, fm, fo, m60, h60, fun H13 s13 => ⟨by show 2 ≤ sizeLine; decide, fun L2 hL2 => ?_⟩⟩⟩
  have s14 := ((s11.trans s12).trans s13).new (o := .lst [ptL (soL hs) (soL ms), ptL (soL ms) (soL hs)]) hL2
  have oL2 : upd H13 L2 (.lst [ptL (soL hs) (soL ms), ptL (soL ms) (soL hs)]) L2 = some (.lst [v, v]) := by rw [upd_same, fP, fP2]
  have oL1' := ((Same.refl H13).new (o := .lst [ptL (soL hs) (soL ms), ptL (soL ms) (soL hs)]) hL2) _ _ (s13 _ _ (s12 _ _ oL1))
  refine ⟨L1, L2, _, _, rfl, rfl, oL1', oL2, by show 2 + 2 ≤ sizeLine; decide, fun L3 hL3 => ?_⟩
  have s15 := s14.new (o := .lst ([V.bl ba, V.bl ba] ++ [v, v])) hL3
  have oL3 : upd (upd H13 L2 (.lst [ptL (soL hs) (soL ms), ptL (soL ms) (soL hs)])) L3 (.lst ([V.bl ba, V.bl ba] ++ [v, v])) L3 = some (.lst [.bl ba, .bl ba, v, v]) := upd_same
  refine ⟨_, rfl, _, rfl, _, rfl, t, u, hs, ms, rfl, s15 _ _ ht, s15 _ _ hu, fo, fm, h60, m60, fun H16 s16 => ⟨_, rfl, _, rfl, u, t, ms, hs, rfl, (s15.trans s16) _ _ hu, (s15.trans s16) _ _ ht, fm, fo, m60, h60, fun H17 s17 => ⟨by show 2 ≤ sizeLine; decide, fun L4 hL4 => ?_⟩⟩⟩
  have s18 := ((s15.trans s16).trans s17).new (o := .lst [V.bl (decide (cntL hs = cntL ms)), V.bl (decide (cntL ms = cntL hs))]) hL4
  have oL4 : upd H17 L4 (.lst [V.bl (decide (cntL hs = cntL ms)), V.bl (decide (cntL ms = cntL hs))]) L4 = some (.lst [.bl be, .bl be]) := by rw [upd_same, fC, eE]
  have oL3' := ((Same.refl H17).new (o := .lst [V.bl (decide (cntL hs = cntL ms)), V.bl (decide (cntL ms = cntL hs))]) hL4) _ _ (s17 _ _ (s16 _ _ oL3))
  refine ⟨L3, L4, _, _, rfl, rfl, oL3', oL4, by show 4 + 2 ≤ sizeLine; decide, fun L5 hL5 => ?_⟩
  have s19 := s18.new (o := .lst ([V.bl ba, V.bl ba, v, v] ++ [V.bl be, V.bl be])) hL5
  have oL5 : upd (upd H17 L4 (.lst [V.bl (decide (cntL hs = cntL ms)), V.bl (decide (cntL ms = cntL hs))])) L5 (.lst ([V.bl ba, V.bl ba, v, v] ++ [V.bl be, V.bl be])) L5 = some (.lst [.bl ba, .bl ba, v, v, .bl be, .bl be]) := upd_same
  generalize eG : upd (upd H17 L4 (.lst [V.bl (decide (cntL hs = cntL ms)), V.bl (decide (cntL ms = cntL hs))])) L5 (.lst ([V.bl ba, V.bl ba, v, v] ++ [V.bl be, V.bl be])) = G at s19 oL5
  -- due
  refine ⟨_, rfl, rfl, _, rfl, rfl, _, rfl, _, rfl, _, rfl, _, rfl, by show 6 ≤ sizeLine; decide, fun M hM => ?_⟩
  have s20 := s19
  have hM' : G M = none := hM
  have sM : Same G (upd G M (.lst [V.bl (decide (v = V.non)), V.bl (decide (v = V.non)), v, v, V.bl be, V.bl be])) := (Same.refl G).new hM'
  have oM : upd G M (.lst [V.bl (decide (v = V.non)), V.bl (decide (v = V.non)), v, v, V.bl be, V.bl be]) M = some (.lst [.bl ba, .bl ba, v, v, .bl be, .bl be]) := by rw [upd_same, fN]
  have oL5' := sM _ _ oL5
  have s21 := s19.trans sM
  generalize upd G M (.lst [V.bl (decide (v = V.non)), V.bl (decide (v = V.non)), v, v, V.bl be, V.bl be]) = J at sM oM oL5' s21 ⊢
  have rpd : ∀ {A : Addr}, J A = some (.lst [.bl ba, .bl ba, v, v, .bl be, .bl be]) → Rp false J (.ref A) (.list [.bool ba, .bool ba, vD v, vD v, .bool be, .bool be]) := fun e => .lst e (fun z => by cases z) (.cons (.bl _) (.cons (.bl _) (.cons rv (.cons rv (.cons (.bl _) (.cons (.bl _) .nil))))))
  refine ⟨_, rfl, _, rfl, .ref L5, .ref M, .list [.bool ba, .bool ba, vD v, vD v, .bool be, .bool be], rfl, rpd oL5', rpd oM, by
    rw [PyData.depth]
    simp only [PyData.depthAll, dep_vD, PyData.depth]; decide, by
    simp only [shortD, shortDs, short_vD]; rfl, fun H' s' => ?_⟩
  have s22 := s21.trans s'
  refine ⟨true, rfl, ?_⟩
  rw [if_pos rfl]
  refine ⟨_, rfl, _, rfl, by show 2 ≤ sizeLine; decide, fun X9 hX9 => ⟨false, _, _, rfl, rp (s22.new hX9) upd_same, sh, _, rfl, rfl, ?_⟩⟩
  rw [eb, decide_eq_true rfl]
  exact q _ (s22.new hX9)
end

end My

namespace My
open PySem PySem.Spec PyProof.Rows L2
/-! ### a drawn pair -/
theorem rch_app {hs ex : Hs} {v : Nat} (r : Rch hs v) : Rch (hs ++ ex) v := by
  induction r with
  | root h => exact .root (by rw [List.getElem?_append_left (List.getElem?_eq_some_iff.mp h).1]; exact h)
  | step h r ih => exact .step (by rw [List.getElem?_append_left (List.getElem?_eq_some_iff.mp h).1]; exact h) ih
theorem fo_more {hs : Hs} (fo : Fo hs) : Fo (hs ++ [none]) := by
  have last : (hs ++ [none])[hs.length]? = some none := by rw [List.getElem?_append_right (Nat.le_refl _), Nat.sub_self]; rfl
  refine ⟨by simp, fun v u e => ?_, fun v hv => ?_⟩
  · rw [List.length_append]
    by_cases c : v < hs.length
    · rw [List.getElem?_append_left c] at e
      have := fo.inb v u e
      show u < hs.length + 1; omega
    · have lt := (List.getElem?_eq_some_iff.mp e).1
      rw [List.length_append, List.length_singleton] at lt
      have ev : v = hs.length := by omega
      rw [ev, last] at e; cases e
  · rw [List.length_append, List.length_singleton] at hv
    by_cases c : v < hs.length
    · exact rch_app (fo.all v c)
    · have ev : v = hs.length := by omega
      rw [ev]; exact .root last
theorem fo_none1 : Fo [none] := ⟨by decide, fun v u e => by rcases v with _ | v <;> simp at e, fun v hv => by
  have e : v = 0 := by
    have h : v < 1 := hv
    omega
  rw [e]; exact .root rfl⟩
def spPair : Sp := fun vs H Q _ => ∃ (wl : Addr) (n : Nat) (m : Int), vs = [.ref wl, .int m] ∧ Well H wl n ∧ n < 2 ^ 49 ∧ 1 ≤ m ∧ m ≤ 60 ∧
  ∀ X t u hs ms H', Fo hs → Fo ms → hs.length ≤ 60 → ms.length ≤ 60 → Keep wl H H' → Well H' wl (n + 1000) → H' X = some (.tup [.ref t, .ref u]) → H' t = some (.tup (hs.map hv)) → H' u = some (.tup (ms.map hv)) → Q (.ref X) H'
section
variable {P : Program} {w : World} {K : PySem.W.Frag} {mg : Str → Option Value} {base : Heap}
abbrev st__law_pair : Stmt := topS 39
abbrev N__law_pair : List Str := ["well", "size", "plan", "way", "mate"]
theorem sc__law_pair : FnScope N__law_pair ["well", "size"] (defScope st__law_pair) := ⟨rfl, rfl, rfl, by decide +kernel, rfl, by decide +kernel, by decide +kernel⟩
theorem ok__law_pair (D : Df K mg "_law_pair" st__law_pair ["well", "size"]) (B : Bl mg) (K_law_draw : Kn P w K mg base CX0 1 "_law_draw" st__law_draw ["well", "most"] spDraw) (K_law_forest : Kn P w K mg base CX0 3 "_law_forest" st__law_forest ["well", "most"] spLForest)
    (K_law_crossed : Kn P w K mg base CX0 4 "_law_crossed" st__law_crossed ["well", "plan"] spCross) (K_law_hung : Kn P w K mg base CX0 2 "_law_hung" st__law_hung ["well", "plan"] spHung) (K_law_fresh : Kn P w K mg base CX0 2 "_law_fresh" st__law_fresh ["well", "plan"] spFresh) :
    Kn P w K mg base CX0 5 "_law_pair" st__law_pair ["well", "size"] spPair := by
  refine D.ok sc__law_pair (fun vs H Q E h => ?_) (fun f cdv A outer s H vs Q E hr h => ?_)
  · obtain ⟨wl, n, m, rfl, _⟩ := h; rfl
  obtain ⟨wl, n, m, rfl, hw, hn, m1, m60, q⟩ := h
  refine ⟨_, ((pss_cons (ps_set (i := 2) sc__law_pair.nd rfl (Or.inl rfl) (pe_callF K_law_forest (hr.mono (by decide)) pass0 (pa_cons (pv 0) (pa_cons (pv 1) pa_nil))))
      (pss_cons (ps_par (i := 3) (j := 4) (by rfl) sc__law_pair.nd rfl rfl (by decide) rfl rfl (pa_cons (pe_callF K_law_draw (hr.mono (by decide)) pass0 (pa_cons (pv 0) (pa_cons pe_int pa_nil))) (pa_cons (pv 2) pa_nil)) (by rfl))
      (C8.pss_cut (ps_if (PW.pt (pw_or (pt_cmpR op_eq (pv 3) pe_int (nomark _)) (pw_or1 (pt_cmpR op_eq (pv 3) pe_int (nomark _))))) (pss_one (ps_set (i := 4) sc__law_pair.nd rfl (Or.inl rfl) (pe_callF K_law_crossed (hr.mono (by decide)) pass0 (pa_cons (pv 0) (pa_cons (pv 2) pa_nil))))) pss_nil)
      (C8.pss_cut (ps_if (pt_cmpR op_eq (pv 3) pe_int (nomark _)) (pss_one (ps_set (i := 4) sc__law_pair.nd rfl (Or.inl rfl) (pe_callF K_law_hung (hr.mono (by decide)) pass0 (pa_cons (pv 0) (pa_cons (pv 2) pa_nil))))) pss_nil)
      (C8.pss_cut (ps_if (pt_cmpR op_eq (pv 3) pe_int (nomark _)) (pss_one (ps_set (i := 4) sc__law_pair.nd rfl (Or.inl rfl) (pe_callF K_law_forest (hr.mono (by decide)) pass0 (pa_cons (pv 0) (pa_cons (pv 1) pa_nil))))) pss_nil)
      (C8.pss_cut (ps_if (pt_cmpR op_eq (pv 3) pe_int (nomark _)) (pss_one (ps_set (i := 4) sc__law_pair.nd rfl (Or.inl rfl) (pe_ifExp (PW.pt (pw_and (pt_cmpR op_lt (pe_callB call_len (by rfl) B.len (by decide +kernel) (pa_cons (pv 2) pa_nil)) pe_int (nomark _)) (pw_and1 (pt_cmpR op_eq (pe_callF K_law_draw (hr.mono (by decide)) pass0 (pa_cons (pv 0) (pa_cons pe_int pa_nil))) pe_int (nomark _))))) (pe_op op_catA (pv 2) (pe_tup (pa_cons pe_non pa_nil))) (pe_tup (pa_cons pe_non pa_nil))))) pss_nil)
      (C8.pss_cut (ps_if (PW.pt (pw_or (pt_cmpR op_eq (pv 3) pe_int (nomark _)) (pw_or1 (pt_cmpR op_eq (pe_callF K_law_draw (hr.mono (by decide)) pass0 (pa_cons (pv 0) (pa_cons pe_int pa_nil))) pe_int (nomark _))))) (pss_one (ps_set (i := 4) sc__law_pair.nd rfl (Or.inl rfl) (pe_callF K_law_fresh (hr.mono (by decide)) pass0 (pa_cons (pv 0) (pa_cons (pv 4) pa_nil))))) pss_nil)
      (pss_one (ps_ret (pe_tup (pa_cons (pv 2) (pa_cons (pv 4) pa_nil))))))))))))), ?_⟩
  have p49 : (2 : Nat) ^ 49 = 562949953421312 := by decide
  have p50 : (2 : Nat) ^ 50 = 1125899906842624 := by decide
  have p60 : (2 : Nat) ^ 60 = 1152921504606846976 := by decide
  have p100 : (2 : Nat) ^ 100 = 1267650600228229401496703205376 := by decide +kernel
  refine ⟨_, rfl, _, rfl, wl, n, m, rfl, hw, by omega, m1, m60, fun t hs H1 fo hl k1 w1 ht0 ht1 => ?_⟩
  have l60 : hs.length ≤ 60 := by omega
  have tw : t ≠ wl := w1.neT2 ht1
  refine ⟨_, rfl, wl, _, 6, rfl, w1, by omega, by decide, by decide, fun way H2 v0 v6 k2 w2 => ⟨_, rfl, _, _, rfl, ?_⟩⟩
  have ht2 := k2 _ _ tw ht1
  have k02 := k1.trans k2
  generalize hI : (fun (σ : L2.St) (H' : Hp) (k : Nat) => ∃ u ms, σ = [some (V.ref wl), some (.int m), some (.ref t), some (.int way), some (.ref u)] ∧ Fo ms ∧ ms.length ≤ 60 ∧ Keep wl H2 H' ∧ Well H' wl (n + 401 + k) ∧ u ≠ wl ∧ H' u = some (.tup (ms.map hv))) = I
  have mkI : ∀ {H' : Hp} {u : Addr} {ms : Hs} {k : Nat}, Fo ms → ms.length ≤ 60 → Keep wl H2 H' → Well H' wl (n + 401 + k) → u ≠ wl → H' u = some (.tup (ms.map hv)) → I [some (V.ref wl), some (.int m), some (.ref t), some (.int way), some (.ref u)] H' k := fun a b c d e f => by rw [← hI]; exact ⟨_, _, rfl, a, b, c, d, e, f⟩
  have i0 : I [some (V.ref wl), some (.int m), some (.ref t), some (.int way), some (.ref t)] H2 0 := mkI fo l60 (Keep.refl wl H2) (w2.mono (by omega)) tw ht2
  -- way 1, 2
  refine ⟨fun σ' H' => I σ' H' 10, ?_, ?_⟩
  · have stay : I [some (V.ref wl), some (.int m), some (.ref t), some (.int way), some (.ref t)] H2 10 := mkI fo l60 (Keep.refl wl H2) (w2.mono (by omega)) tw ht2
    have go : tAsg (tCall spCross [] E0 (tCons (tVar 0) (tCons (tVar 2) tNil))) (gName 4) { nx := fun σ' H' => I σ' H' 10, rt := fun x H' => Q x H' } [some (V.ref wl), some (.int m), some (.ref t), some (.int way), some (.ref t)] H2 :=
      ⟨_, rfl, _, rfl, wl, t, _, hs, rfl, w2, by omega, ht2, fo, l60, fun u ms H' fm lm k w uw hu => mkI fm (by omega) k (w.mono (by omega)) uw hu⟩
    exact ⟨_, rfl, rfl, _, rfl, ite2 (fun _ => go) (fun _ => ⟨_, rfl, rfl, _, rfl, ite2 (fun _ => go) (fun _ => stay)⟩)⟩
  intro σ3 H3 i3
  rw [← hI] at i3
  obtain ⟨u, ms, rfl, fm, lm, k3, w3, uw, hu⟩ := i3
  have ht3 := k3 _ _ tw ht2
  -- way 3
  refine ⟨fun σ' H' => I σ' H' 20, ?_, ?_⟩
  · exact ⟨_, rfl, rfl, _, rfl, ite2 (fun _ => ⟨_, rfl, _, rfl, wl, t, _, hs, rfl, w3, by omega, ht3, fo, l60, fun u' ms' H' fm' lm' k' w' _ hu' => mkI fm' (by omega) (k3.trans k') (w'.mono (by omega)) (w'.neT2 hu') hu'⟩) (fun _ => mkI fm lm k3 (w3.mono (by omega)) uw hu)⟩
  intro σ4 H4 i4
  rw [← hI] at i4
  obtain ⟨u, ms, rfl, fm, lm, k4, w4, uw, hu⟩ := i4
  have ht4 := k4 _ _ tw ht2
  -- way 4
  refine ⟨fun σ' H' => I σ' H' 430, ?_, ?_⟩
  · exact ⟨_, rfl, rfl, _, rfl, ite2 (fun _ => ⟨_, rfl, _, rfl, wl, _, m, rfl, w4, by omega, m1, m60, fun u' ms' H' fm' lm' k' w' _ hu' => mkI fm' (by omega) (k4.trans k') (w'.mono (by omega)) (w'.neT2 hu') hu'⟩) (fun _ => mkI fm lm k4 (w4.mono (by omega)) uw hu)⟩
  intro σ5 H5 i5
  rw [← hI] at i5
  obtain ⟨u, ms, rfl, fm, lm, k5, w5, uw, hu⟩ := i5
  have ht5 := k5 _ _ tw ht2
  -- way 5
  refine ⟨fun σ' H' => I σ' H' 440, ?_, ?_⟩
  · have one : ∀ {H' : Hp}, Keep wl H2 H' → Well H' wl (n + 401 + 440) → tTup (tCons (tC V.non) tNil) [some (V.ref wl), some (.int m), some (.ref t), some (.int way), some (.ref u)] H' fun x H'' => I [some (V.ref wl), some (.int m), some (.ref t), some (.int way), some x] H'' 440 := fun {H'} k w =>
      ⟨by show 1 ≤ sizeLine; decide, fun X hX => mkI fo_none1 (by decide) (fun b o nb e => ((Same.refl H').new hX) _ _ (k b o nb e)) (w.same ((Same.refl H').new hX)) (w.ne hX) upd_same⟩
    refine ⟨_, rfl, rfl, _, rfl, ite2 (fun _ => ?_) (fun _ => mkI fm lm k5 (w5.mono (by omega)) uw hu)⟩
    refine ⟨_, rfl, _, _, rfl, .inr ⟨_, SqT.of ht5, rfl⟩, _, _, rfl, rfl, _, rfl, ite2 (fun c => ?_) (fun _ => one k5 (w5.mono (by omega)))⟩
    have c60 : hs.length < 60 := by
      have z := of_decide_eq_true c
      rw [List.length_map] at z; omega
    refine ⟨_, rfl, wl, _, 2, rfl, w5, by omega, by decide, by decide, fun d H6 _ _ k6 w6 => ⟨rfl, _, rfl, ite2 (fun _ => ?_) (fun _ => one (k5.trans k6) (w6.mono (by omega)))⟩⟩
    refine ⟨_, rfl, by show 1 ≤ sizeLine; decide, fun X hX => ?_⟩
    have s7 := (Same.refl H6).new (o := .tup [.non]) hX
    have oX : upd H6 X (.tup [.non]) X = some (.tup [.non]) := upd_same
    generalize upd H6 X (.tup [.non]) = H7 at s7 oX ⊢
    have ht7 := s7 _ _ (k6 _ _ tw ht5)
    refine ⟨t, X, _, _, rfl, rfl, SqT.of ht7, SqT.of oX, by rw [List.length_map]; exact Nat.le_of_lt (szl (by show hs.length + 1 ≤ _; omega)), fun e => absurd e (by simpa using fo.ne), fun _ e => absurd e (by simp), fun _ _ p hp => ?_⟩
    have w7 := (w6.same s7)
    exact mkI (fo_more fo) (by rw [List.length_append]; show hs.length + 1 ≤ 60; omega) (fun b o nb e => ((Same.refl H7).new hp) _ _ (s7 _ _ (k6 b o nb (k5 b o nb e)))) ((w7.same ((Same.refl H7).new hp)).mono (by omega)) (w7.ne hp) (by rw [upd_same, List.map_append]; rfl)
  intro σ6 H6 i6
  rw [← hI] at i6
  obtain ⟨u, ms, rfl, fm, lm, k6, w6, uw, hu⟩ := i6
  have ht6 := k6 _ _ tw ht2
  -- new names
  refine ⟨fun σ' H' => I σ' H' 520, ?_, ?_⟩
  · have go : ∀ {H' : Hp}, Keep wl H6 H' → Well H' wl (n + 401 + 441) → tAsg (tCall spFresh [] E0 (tCons (tVar 0) (tCons (tVar 4) tNil))) (gName 4) { nx := fun σ' H' => I σ' H' 520, rt := fun x H' => Q x H' } [some (V.ref wl), some (.int m), some (.ref t), some (.int way), some (.ref u)] H' := fun {H'} k w =>
      ⟨_, rfl, _, rfl, wl, u, _, ms, rfl, w, by omega, k _ _ uw hu, fm, lm, fun u' ms' H'' fm' lm' k' w' _ hu' => mkI fm' (by omega) ((k6.trans k).trans k') (w'.mono (by omega)) (w'.neT2 hu') hu'⟩
    exact ⟨_, rfl, rfl, _, rfl, ite2 (fun _ => go (Keep.refl wl H6) (w6.mono (by omega))) (fun _ => ⟨_, rfl, wl, _, 2, rfl, w6, by omega, by decide, by decide, fun d H7 _ _ k7 w7 => ⟨rfl, _, rfl, ite2 (fun _ => go k7 (w7.mono (by omega))) (fun _ => mkI fm lm (k6.trans k7) (w7.mono (by omega)) uw (k7 _ _ uw hu))⟩⟩)⟩
  intro σ7 H7 i7
  rw [← hI] at i7
  obtain ⟨u, ms, rfl, fm, lm, k7, w7, uw, hu⟩ := i7
  refine ⟨_, rfl, _, rfl, by show 2 ≤ sizeLine; decide, fun X hX => ?_⟩
  have s8 := (Same.refl H7).new (o := .tup [.ref t, .ref u]) hX
  exact q X t u hs ms _ fo fm l60 lm (fun b o nb e => s8 _ _ (k7 b o nb (k02 b o nb e))) ((w7.same s8).mono (by omega)) upd_same (s8 _ _ (k7 _ _ tw ht2)) (s8 _ _ hu)
end

end My

namespace My
open PySem PySem.Spec PyProof.Rows L2
/-! ### the law -/
def KeepN (wl : Addr) (H H' : Hp) : Prop := ∀ b o, b ≠ wl → H b = some o → (∀ ps, o ≠ .tbl ps) → H' b = some o
def rchB (hs : Hs) : Nat → Nat → Bool
  | 0, _ => false
  | k + 1, v => match hs[v]? with
    | some none => true
    | some (some u) => rchB hs k u
    | none => false
theorem rch_of {hs : Hs} : ∀ {k v : Nat}, rchB hs k v = true → Rch hs v
  | 0, v, h => by cases h
  | k + 1, v, h => by
    unfold rchB at h
    cases e : hs[v]? with
    | none => rw [e] at h; cases h
    | some o =>
      rw [e] at h
      cases o with
      | none => exact .root e
      | some u => exact .step e (rch_of (k := k) h)
def foB (hs : Hs) : Bool := (List.range hs.length).all (fun v => rchB hs hs.length v && match hs[v]? with
  | some (some u) => decide (u < hs.length)
  | _ => true)
theorem fo_of {hs : Hs} (h : foB hs = true) (ne : hs ≠ []) : Fo hs := by
  have one : ∀ v, v < hs.length → rchB hs hs.length v = true ∧ ∀ u : Nat, hs[v]? = some (some u) → u < hs.length := fun v hv => by
    have z := List.all_eq_true.mp h v (List.mem_range.mpr hv)
    rw [Bool.and_eq_true] at z
    refine ⟨z.1, fun u e => ?_⟩
    have y := z.2
    rw [e] at y
    exact of_decide_eq_true y
  exact ⟨ne, fun v u e => (one v (List.getElem?_eq_some_iff.mp e).1).2 u e, fun v hv => rch_of (one v hv).1⟩
def spPR (T : Addr) : Sp := fun vs H Q _ => ∃ (wl : Addr) (n : Nat) (m : Int), vs = [.ref wl, .int m] ∧ Well H wl n ∧ n < 2 ^ 49 ∧ 1 ≤ m ∧ m ≤ 60 ∧ NdefX.TabsN (TbG T) H ∧ ∀ H', KeepN wl H H' → Well H' wl (n + 1000) → NdefX.TabsN (TbG T) H' → Q (.bl true) H'
section
variable {P : Program} {w : World} {K : PySem.W.Frag} {mg : Str → Option Value} {base : Heap} {T : Addr}
abbrev st__law_pair_right : Stmt := topS 40
abbrev N__law_pair_right : List Str := ["well", "size", "plan", "mate"]
theorem sc__law_pair_right : FnScope N__law_pair_right ["well", "size"] (defScope st__law_pair_right) := ⟨rfl, rfl, rfl, by decide +kernel, rfl, by decide +kernel, by decide +kernel⟩
theorem ok__law_pair_right (D : Df K mg "_law_pair_right" st__law_pair_right ["well", "size"]) (B : Bl mg) (K_law_pair : Kn P w K mg base CX0 5 "_law_pair" st__law_pair ["well", "size"] spPair) (K_law_right : KnQ P w K mg base 10 "_law_right" st__law_right ["plan", "mate"] spRight26)
    (K_law_tally : Kn P w K mg base CX0 62 "_law_tally" st__law_tally ["plan"] (spTally T)) (Kare_alike : Kn P w K mg base (L2.CX P w) 9 "are_alike" st_are_alike ["forest", "other"] (spTwoB fun hs ms => .bl (decide (soL hs = soL ms)))) :
    KnQ P w K mg base 63 "_law_pair_right" st__law_pair_right ["well", "size"] (spPR T) := by
  refine D.okQ sc__law_pair_right (fun vs H Q E h => ?_) (fun f cdv A outer s H vs Q E hr hq h => ?_)
  · obtain ⟨wl, n, m, rfl, _⟩ := h; rfl
  obtain ⟨wl, n, m, rfl, hw, hn, m1, m60, hT, q⟩ := h
  refine ⟨_, ((pss_cons (ps_asg (pe_callF K_law_pair (hr.mono (by decide)) pass0 (pa_cons (pv 0) (pa_cons (pv 1) pa_nil))) (pg_tup rfl (pgs_cons (pg_name (i := 2) sc__law_pair_right.nd rfl (Or.inl rfl)) (pgs_cons (pg_name (i := 3) sc__law_pair_right.nd rfl (Or.inl rfl)) pgs_nil))))
      (pss_cons (ps_if (PW.pt (pw_or (pt_not (pt_val (pe_callQ (E := fun _ _ _ => False) K_law_right (hr.mono (by decide)) hq (pa_cons (pv 2) (pa_cons (pv 3) pa_nil))))) (pw_or1 (pt_not (pt_val (pe_callQ (E := fun _ _ _ => False) K_law_right (hr.mono (by decide)) hq (pa_cons (pv 3) (pa_cons (pv 2) pa_nil)))))))) (pss_one (ps_ret pe_bl)) pss_nil)
      (pss_cons (ps_if (PW.pt (pw_or (pt_cmpR op_gt (pe_callB call_len (by rfl) B.len (by decide +kernel) (pa_cons (pv 2) pa_nil)) pe_int (nomark _)) (pw_or1 (pt_cmpR op_ne (pe_callB call_len (by rfl) B.len (by decide +kernel) (pa_cons (pv 2) pa_nil)) (pe_callB call_len (by rfl) B.len (by decide +kernel) (pa_cons (pv 3) pa_nil)) (nomark _))))) (pss_one (ps_ret pe_bl)) pss_nil)
      (pss_one (ps_ret (pe_cmpR op_eq (pe_callF Kare_alike (hr.mono (by decide)) passL (pa_cons (pv 2) (pa_cons (pv 3) pa_nil))) (pe_cmpR (op_eqD hr.units) (pe_callF K_law_tally (hr.mono (by decide)) pass0 (pa_cons (pv 2) pa_nil)) (pe_callF K_law_tally (hr.mono (by decide)) pass0 (pa_cons (pv 3) pa_nil)) (nomark _)) (nomark _)))))))), ?_⟩
  refine ⟨_, rfl, _, rfl, wl, n, m, rfl, hw, hn, m1, m60, fun X t u hs ms H1 fo fm l60 k60 k1 w1 oX ht hu => ⟨X, _, rfl, SqT.of oX, rfl, _, _, rfl, _, _, rfl, rfl, ?_⟩⟩
  have t1 := tabsG_well hT hw k1
  refine ⟨_, rfl, _, rfl, t, u, hs, ms, rfl, ht, hu, fo, fm, l60, k60, fun H2 s2 => ⟨_, rfl, iteF ⟨_, rfl, _, rfl, u, t, ms, hs, rfl, s2 _ _ hu, s2 _ _ ht, fm, fo, k60, l60, fun H3 s3 => ⟨_, rfl, iteF ?_⟩⟩⟩⟩
  have s13 := s2.trans s3
  have ht3 := s13 _ _ ht
  have hu3 := s13 _ _ hu
  have t3 := tabsG_same t1 s13
  have fin : ∀ {H' : Hp}, LamX.ExtN H3 H' → NdefX.TabsN (TbG T) H' → Q (.bl true) H' := fun {H'} e t => q H' (fun b o nb z nt => e b o (s13 _ _ (k1 b o nb z)) nt) ((w1.same s13).extN e) t
  have done := fin (LamX.ExtN.refl H3) t3
  refine ⟨_, rfl, _, _, rfl, .inr ⟨_, SqT.of ht3, rfl⟩, _, _, rfl, rfl, _, rfl, ite2 (fun _ => done) (fun c => ⟨_, rfl, _, _, rfl, .inr ⟨_, SqT.of ht3, rfl⟩, _, rfl, _, _, rfl, .inr ⟨_, SqT.of hu3, rfl⟩, rfl, _, rfl, ite2 (fun _ => done) (fun c2 => ?_)⟩)⟩
  have n5 : hs.length ≤ 5 := by
    refine Classical.byContradiction fun z => c (decide_eq_true ?_)
    rw [List.length_map]; omega
  have el : ms.length = hs.length := by
    refine Classical.byContradiction fun z => c2 ?_
    show (!decide (V.int _ = V.int _)) = true
    rw [decide_eq_false fun y => z (by have := V.int.inj y; rw [List.length_map, List.length_map] at this; omega)]; rfl
  refine ⟨_, rfl, _, rfl, t, u, hs, ms, rfl, ht3, hu3, fo, fm, l60, k60, fun H4 s4 => ⟨_, rfl, t, hs, rfl, s4 _ _ ht3, fo, n5, tabsG_same t3 s4, fun r H5 e5 t5 o5 => ⟨_, rfl, u, ms, rfl, e5 _ _ (s4 _ _ hu3) (by intro ps z; cases z), fm, by omega, t5, fun r2 H6 e6 t6 o6 => ⟨_, _, .lst (SqL.of (e6 _ _ o5 (by intro ps z; cases z))) (dp_iv _), .lst (SqL.of o6) (dp_iv _), shaped_ints _, shaped_ints _, rfl, ?_⟩⟩⟩⟩
  rw [eqv_ints, show decide (tal11 (tyl hs) = tal11 (tyl ms)) = decide (soL hs = soL ms) from decide_eq_decide.mpr (tyl_iff fo fm n5 el), decide_eq_true rfl]
  exact fin (fun b o z nt => e6 b o (e5 b o (s4 _ _ z) nt) nt) t6
end

end My

namespace My
open PySem PySem.Spec PyProof.Rows L2
/-! ### the fixed pairs, and the law -/
theorem fixPair {F G : Hs} {a b : List Int} {v : V} {x y : Bool} (f : foB F = true) (g : foB G = true) (nf : F ≠ []) (ng : G ≠ []) (pa : a.Perm (szL F)) (sa : a.Pairwise (· ≤ ·)) (pb : b.Perm (szL G)) (sb : b.Pairwise (· ≤ ·)) (e1 : decide (a = b) = x) (e2 : ptL a b = v) (e3 : decide (cntL F = cntL G) = y) :
    Fo F ∧ Fo G ∧ decide (soL F = soL G) = x ∧ ptL (soL F) (soL G) = v ∧ decide (cntL F = cntL G) = y := ⟨fo_of f nf, fo_of g ng, by rw [← soL_of pa sa, ← soL_of pb sb]; exact e1, by rw [← soL_of pa sa, ← soL_of pb sb]; exact e2, e3⟩
theorem cmpA : Fo ([none, some 0, some 1, some 0, none, some 4, some 4] : Hs) ∧ Fo ([none, some 0, some 0, some 0, none, some 4, some 5] : Hs) ∧ decide (soL [none, some 0, some 1, some 0, none, some 4, some 4] = soL [none, some 0, some 0, some 0, none, some 4, some 5]) = true ∧ ptL (soL [none, some 0, some 1, some 0, none, some 4, some 4]) (soL [none, some 0, some 0, some 0, none, some 4, some 5]) = .non ∧ decide (cntL [none, some 0, some 1, some 0, none, some 4, some 4] = cntL [none, some 0, some 0, some 0, none, some 4, some 5]) = true := fixPair (F := [none, some 0, some 1, some 0, none, some 4, some 4]) (G := [none, some 0, some 0, some 0, none, some 4, some 5]) (a := [1, 1, 1, 1, 2, 3, 4]) (b := [1, 1, 1, 1, 2, 3, 4]) (v := .non) (x := true) (y := true) (by decide +kernel) (by decide +kernel) (by decide) (by decide) (by decide +kernel) (by decide +kernel) (by decide +kernel) (by decide +kernel) (by decide +kernel) (by decide +kernel) (by decide +kernel)
theorem cmpB : Fo ([none, some 0, some 0, some 0] : Hs) ∧ Fo ([none, some 0, none, some 2] : Hs) ∧ decide (soL [none, some 0, some 0, some 0] = soL [none, some 0, none, some 2]) = false ∧ ptL (soL [none, some 0, some 0, some 0]) (soL [none, some 0, none, some 2]) = .int 1 ∧ decide (cntL [none, some 0, some 0, some 0] = cntL [none, some 0, none, some 2]) = true := fixPair (F := [none, some 0, some 0, some 0]) (G := [none, some 0, none, some 2]) (a := [1, 1, 1, 4]) (b := [1, 1, 2, 2]) (v := .int 1) (x := false) (y := true) (by decide +kernel) (by decide +kernel) (by decide) (by decide) (by decide +kernel) (by decide +kernel) (by decide +kernel) (by decide +kernel) (by decide +kernel) (by decide +kernel) (by decide +kernel)
theorem cmpC : Fo ([none] : Hs) ∧ Fo ([none, some 0] : Hs) ∧ decide (soL [none] = soL [none, some 0]) = false ∧ ptL (soL [none]) (soL [none, some 0]) = .int 2 ∧ decide (cntL [none] = cntL [none, some 0]) = true := fixPair (F := [none]) (G := [none, some 0]) (a := [1]) (b := [1, 2]) (v := .int 2) (x := false) (y := true) (by decide +kernel) (by decide +kernel) (by decide) (by decide) (by decide +kernel) (by decide +kernel) (by decide +kernel) (by decide +kernel) (by decide +kernel) (by decide +kernel) (by decide +kernel)
section
variable {P : Program} {w : World} {K : PySem.W.Frag} {mg : Str → Option Value} {base : Heap} {T : Addr}
abbrev st_law : Stmt := topS 41
abbrev N_law : List Str := ["script", "at", "well", "size", "one", "two"]
theorem sc_law : FnScope N_law ["script"] (defScope st_law) := ⟨rfl, rfl, rfl, by decide +kernel, rfl, by decide +kernel, by decide +kernel⟩
theorem ok_law {fa : Addr} {fd : FuncData} (F : Fun K "law" "law" st_law fa fd) (B : Bl mg) (K_law_well : Kn P w K mg base CX0 1 "_law_well" st__law_well ["script", "at"] (spWell K)) (K_law_pair_right : KnQ P w K mg base 63 "_law_pair_right" st__law_pair_right ["well", "size"] (spPR T))
    (Kare_alike : Kn P w K mg base (L2.CX P w) 9 "are_alike" st_are_alike ["forest", "other"] (spTwoB fun hs ms => .bl (decide (soL hs = soL ms)))) (Kparting_size : Kn P w K mg base (L2.CX P w) 9 "parting_size" st_parting_size ["forest", "other"] (spTwoB fun hs ms => ptL (soL hs) (soL ms)))
    (Ksame_number : Kn P w K mg base (L2.CX P w) 9 "same_number" st_same_number ["forest", "other"] (spTwoB fun hs ms => .bl (decide (cntL hs = cntL ms)))) : Qui P w K mg base 64 fa fd ["script"] (spLawT K T) := by
  refine F.quiet sc_law (fun vs H Q E h => ?_) (fun cdv A outer s H vs Q E hr hq h => ?_)
  · obtain ⟨a, ns, rfl, _⟩ := h; rfl
  obtain ⟨a, ns, rfl, hS, hns, hT0, q⟩ := h
  refine ⟨_, ((pss_cons (ps_for PassesOwn.never rfl (pi_range1 (by rfl) B.range (pa_cons (pe_callB (call_max2 rfl) (by rfl) B.max (by decide +kernel) (pa_cons pe_int (pa_cons (pe_callB (call_min2 rfl) (by rfl) B.min (by decide +kernel) (pa_cons pe_int (pa_cons (pe_callB call_len (by rfl) B.len (by decide +kernel) (pa_cons (pv 0) pa_nil)) pa_nil))) pa_nil))) pa_nil)) (pg_name (i := 1) sc_law.nd rfl (Or.inl rfl)) (pss_cons (ps_set (i := 2) sc_law.nd rfl (Or.inl rfl) (pe_callF K_law_well (hr.mono (by decide)) pass0 (pa_cons (pv 0) (pa_cons (pv 1) pa_nil))))
      (pss_one (ps_for PassesOwn.never rfl (pi_tup (pe_tup (pa_cons pe_int (pa_cons pe_int (pa_cons pe_int (pa_cons pe_int (pa_cons pe_int (pa_cons pe_int pa_nil)))))))) (pg_name (i := 3) sc_law.nd rfl (Or.inl rfl)) (pss_one (ps_if (pt_not (pt_val (pe_callQ (E := fun _ _ _ => False) K_law_pair_right (hr.mono (by decide)) hq (pa_cons (pv 2) (pa_cons (pv 3) pa_nil))))) (pss_one (ps_ret pe_bl)) pss_nil))))))
      (pss_cons (ps_asg (pe_tup (pa_cons (pe_tup (pa_cons pe_non (pa_cons pe_int (pa_cons pe_int (pa_cons pe_int (pa_cons pe_non (pa_cons pe_int (pa_cons pe_int pa_nil)))))))) (pa_cons (pe_tup (pa_cons pe_non (pa_cons pe_int (pa_cons pe_int (pa_cons pe_int (pa_cons pe_non (pa_cons pe_int (pa_cons pe_int pa_nil)))))))) pa_nil))) (pg_tup rfl (pgs_cons (pg_name (i := 4) sc_law.nd rfl (Or.inl rfl)) (pgs_cons (pg_name (i := 5) sc_law.nd rfl (Or.inl rfl)) pgs_nil))))
      (pss_cons (ps_if (pt_cmpR (op_neD hr.units) (pe_lst (pa_cons (pe_callF Kare_alike (hr.mono (by decide)) passL (pa_cons (pv 4) (pa_cons (pv 5) pa_nil))) (pa_cons (pe_callF Kparting_size (hr.mono (by decide)) passL (pa_cons (pv 4) (pa_cons (pv 5) pa_nil))) (pa_cons (pe_callF Ksame_number (hr.mono (by decide)) passL (pa_cons (pv 4) (pa_cons (pv 5) pa_nil))) pa_nil)))) (pe_lst (pa_cons pe_bl (pa_cons pe_non (pa_cons pe_bl pa_nil)))) (nomark _)) (pss_one (ps_ret pe_bl)) pss_nil)
      (pss_cons (ps_asg (pe_tup (pa_cons (pe_tup (pa_cons pe_non (pa_cons pe_int (pa_cons pe_int (pa_cons pe_int pa_nil))))) (pa_cons (pe_tup (pa_cons pe_non (pa_cons pe_int (pa_cons pe_non (pa_cons pe_int pa_nil))))) pa_nil))) (pg_tup rfl (pgs_cons (pg_name (i := 4) sc_law.nd rfl (Or.inl rfl)) (pgs_cons (pg_name (i := 5) sc_law.nd rfl (Or.inl rfl)) pgs_nil))))
      (pss_cons (ps_if (pt_cmpR (op_neD hr.units) (pe_lst (pa_cons (pe_callF Kare_alike (hr.mono (by decide)) passL (pa_cons (pv 4) (pa_cons (pv 5) pa_nil))) (pa_cons (pe_callF Kparting_size (hr.mono (by decide)) passL (pa_cons (pv 4) (pa_cons (pv 5) pa_nil))) (pa_cons (pe_callF Ksame_number (hr.mono (by decide)) passL (pa_cons (pv 4) (pa_cons (pv 5) pa_nil))) pa_nil)))) (pe_lst (pa_cons pe_bl (pa_cons pe_int (pa_cons pe_bl pa_nil)))) (nomark _)) (pss_one (ps_ret pe_bl)) pss_nil)
      (pss_cons (ps_asg (pe_tup (pa_cons (pe_tup (pa_cons pe_non pa_nil)) (pa_cons (pe_tup (pa_cons pe_non (pa_cons pe_int pa_nil))) pa_nil))) (pg_tup rfl (pgs_cons (pg_name (i := 4) sc_law.nd rfl (Or.inl rfl)) (pgs_cons (pg_name (i := 5) sc_law.nd rfl (Or.inl rfl)) pgs_nil))))
      (pss_one (ps_ret (pe_cmpR (op_eqD hr.units) (pe_lst (pa_cons (pe_callF Kare_alike (hr.mono (by decide)) passL (pa_cons (pv 4) (pa_cons (pv 5) pa_nil))) (pa_cons (pe_callF Kparting_size (hr.mono (by decide)) passL (pa_cons (pv 4) (pa_cons (pv 5) pa_nil))) (pa_cons (pe_callF Ksame_number (hr.mono (by decide)) passL (pa_cons (pv 4) (pa_cons (pv 5) pa_nil))) pa_nil)))) (pe_lst (pa_cons pe_bl (pa_cons pe_int (pa_cons pe_bl pa_nil)))) (nomark _))))))))))), ?_⟩
  have p49 : (2 : Nat) ^ 49 = 562949953421312 := by decide
  have lns : (ns.map V.int).length = ns.length := List.length_map _
  have tab0 : NdefX.TabsN (TbG T) H := fun z hz => by
    rw [List.mem_singleton.mp hz]
    exact NdefX.TabN.nil hT0
  refine ⟨_, rfl, _, _, rfl, .inl ⟨_, hS, rfl⟩, _, _, rfl, _, _, rfl, _, rfl, by split <;> omega, by split <;> (try split) <;> omega, for_it walk_range0 (fun i σ H' => (∃ v1 v2 v3, σ = [some (.ref a), v1, v2, v3, none, none]) ∧ LamX.ExtN H H' ∧ NdefX.TabsN (TbG T) H')
    ⟨⟨none, none, none, rfl⟩, LamX.ExtN.refl H, tab0⟩ (fun _ _ _ _ _ => trivial) ?_ ?_⟩
  · rintro i x σ H1 H1' hi ⟨⟨v1, v2, v3, rfl⟩, s1, t1⟩ ⟨rfl, rfl⟩
    have hi64 : i < 64 := by split at hi <;> (try split at hi) <;> omega
    clear hi
    refine ⟨_, rfl, _, rfl, a, ns, i, rfl, seqN s1 hS, hi64, fun wl H2 s2 hwl w2 => ?_⟩
    have t2 := tabsG_same t1 s2
    refine ⟨by show 6 ≤ sizeLine; decide, fun X hX => ?_⟩
    have sX := (Same.refl H2).new (o := .tup [.int 5, .int 5, .int 8, .int 12, .int 12, .int 60]) hX
    have oX : upd H2 X (.tup [.int 5, .int 5, .int 8, .int 12, .int 12, .int 60]) X = some (.tup [.int 5, .int 5, .int 8, .int 12, .int 12, .int 60]) := upd_same
    generalize upd H2 X (.tup [.int 5, .int 5, .int 8, .int 12, .int 12, .int 60]) = H4 at sX oX ⊢
    have w4 := w2.same sX
    have XW : X ≠ wl := by
      obtain ⟨l, e⟩ := w4.here
      exact off_lst oX e (by intro z; cases z)
    refine ⟨X, rfl, ⟨_, SqT.of oX⟩, for_it (walk_tup (K := K) (xs := [.int 5, .int 5, .int 8, .int 12, .int 12, .int 60])) (fun j σ H' => (∃ v3, σ = [some (.ref a), some (.int (i : Int)), some (.ref wl), v3, none, none]) ∧ KeepN wl H4 H' ∧ NdefX.TabsN (TbG T) H' ∧ Well H' wl (1000 * j))
      ⟨⟨_, rfl⟩, fun b o _ e _ => e, tabsG_same t2 sX, w4⟩ (fun j σ H' _ z => SqT.of (z.2.1 _ _ XW oX (by intro ps z; cases z))) ?_ ?_⟩
    · rintro j x σ H5 H5' hj ⟨⟨v3, rfl⟩, k5, t5, w5⟩ ⟨rfl, e1⟩
      have hj3 : j < 6 := hj
      obtain ⟨m2, rfl, hx1, hx2⟩ : ∃ m2 : Int, x = .int m2 ∧ 1 ≤ m2 ∧ m2 ≤ 60 := by
        have mx := List.mem_of_getElem? e1
        simp only [List.mem_cons, List.not_mem_nil, or_false] at mx
        rcases mx with rfl | rfl | rfl | rfl | rfl | rfl <;> exact ⟨_, rfl, by decide, by decide⟩
      exact ⟨_, rfl, _, rfl, wl, _, m2, rfl, w5, by omega, hx1, hx2, t5, fun H6 k6 w6 t6 => ⟨_, rfl, iteF ⟨⟨_, rfl⟩, fun b o n e z => k6 b o n (k5 b o n e z) z, t6, w6.mono (by omega)⟩⟩⟩
    · rintro σ H5 ⟨⟨v3, rfl⟩, k5, t5, w5⟩
      exact ⟨⟨_, _, _, rfl⟩, fun b o e z => k5 b o (ne_of_none (s1 b o e z) hwl) (sX _ _ (s2 _ _ (s1 b o e z))) z, t5⟩
  rintro σ G0 ⟨⟨v1, v2, v3, rfl⟩, s3, t3⟩
  clear s3 t3 tab0 hT0
  -- pair A
  refine ⟨by show 7 ≤ sizeLine; decide, fun PA hPA => ⟨by show 7 ≤ sizeLine; decide, fun RA hRA => ⟨by show 2 ≤ sizeLine; decide, fun YA hYA => ?_⟩⟩⟩
  have oPA : upd G0 PA (.tup [.non, .int 0, .int 1, .int 0, .non, .int 4, .int 4]) PA = some (.tup (([none, some 0, some 1, some 0, none, some 4, some 4] : Hs).map hv)) := upd_same
  have oRA : upd (upd G0 PA (.tup [.non, .int 0, .int 1, .int 0, .non, .int 4, .int 4])) RA (.tup [.non, .int 0, .int 0, .int 0, .non, .int 4, .int 5]) RA = some (.tup (([none, some 0, some 0, some 0, none, some 4, some 5] : Hs).map hv)) := upd_same
  have oPA := ((Same.refl _).new (o := .tup [.non, .int 0, .int 0, .int 0, .non, .int 4, .int 5]) hRA) _ _ oPA
  generalize upd (upd G0 PA (.tup [.non, .int 0, .int 1, .int 0, .non, .int 4, .int 4])) RA (.tup [.non, .int 0, .int 0, .int 0, .non, .int 4, .int 5]) = IA at oPA oRA hYA ⊢
  have oYA : upd IA YA (.tup [.ref PA, .ref RA]) YA = some (.tup [.ref PA, .ref RA]) := upd_same
  have oPA := ((Same.refl IA).new (o := .tup [.ref PA, .ref RA]) hYA) _ _ oPA
  have oRA := ((Same.refl IA).new (o := .tup [.ref PA, .ref RA]) hYA) _ _ oRA
  generalize upd IA YA (.tup [.ref PA, .ref RA]) = JA at oPA oRA oYA ⊢
  refine ⟨YA, _, rfl, SqT.of oYA, rfl, _, _, rfl, _, _, rfl, rfl, ?_⟩
  obtain ⟨fA, gA, aA, pA, cA⟩ := cmpA
  refine ⟨_, rfl, _, rfl, PA, RA, _, _, rfl, oPA, oRA, fA, gA, by decide, by decide, fun X1 x1 => ⟨_, rfl, _, rfl, PA, RA, _, _, rfl, x1 _ _ oPA, x1 _ _ oRA, fA, gA, by decide, by decide, fun X2 x2 => ⟨_, rfl, _, rfl, PA, RA, _, _, rfl, (x1.trans x2) _ _ oPA, (x1.trans x2) _ _ oRA, fA, gA, by decide, by decide, fun X3 x3 => ?_⟩⟩⟩
  refine ⟨by show 3 ≤ sizeLine; decide, fun L hL => ⟨by show 3 ≤ sizeLine; decide, fun M hM => ?_⟩⟩
  refine ⟨.list [.bool true, .none, .bool true], .list [.bool true, .none, .bool true], .lst (SqL.of (xs := [.bl true, .non, .bl true]) (by rw [upd_ne (ne_of_none upd_same hM), upd_same]; show some (HO.lst [V.bl (decide (soL [none, some 0, some 1, some 0, none, some 4, some 4] = soL [none, some 0, some 0, some 0, none, some 4, some 5])), ptL (soL [none, some 0, some 1, some 0, none, some 4, some 4]) (soL [none, some 0, some 0, some 0, none, some 4, some 5]), V.bl (decide (cntL [none, some 0, some 1, some 0, none, some 4, some 4] = cntL [none, some 0, some 0, some 0, none, some 4, some 5]))]) = _; rw [aA, pA, cA])) (.cons (.bl _) (.cons .non (.cons (.bl _) .nil))), .lst (SqL.of (xs := [.bl true, .non, .bl true]) upd_same) (.cons (.bl _) (.cons .non (.cons (.bl _) .nil))), by decide +kernel, by decide +kernel, ?_⟩
  rw [show PyData.eqv (.list [.bool true, .none, .bool true]) (.list [.bool true, .none, .bool true]) = true by decide +kernel]
  refine ⟨_, rfl, iteF ?_⟩
  generalize upd (upd X3 L _) M _ = G1
  -- pair B
  refine ⟨by show 4 ≤ sizeLine; decide, fun PB hPB => ⟨by show 4 ≤ sizeLine; decide, fun RB hRB => ⟨by show 2 ≤ sizeLine; decide, fun YB hYB => ?_⟩⟩⟩
  have oPB : upd G1 PB (.tup [.non, .int 0, .int 0, .int 0]) PB = some (.tup (([none, some 0, some 0, some 0] : Hs).map hv)) := upd_same
  have oRB : upd (upd G1 PB (.tup [.non, .int 0, .int 0, .int 0])) RB (.tup [.non, .int 0, .non, .int 2]) RB = some (.tup (([none, some 0, none, some 2] : Hs).map hv)) := upd_same
  have oPB := ((Same.refl _).new (o := .tup [.non, .int 0, .non, .int 2]) hRB) _ _ oPB
  generalize upd (upd G1 PB (.tup [.non, .int 0, .int 0, .int 0])) RB (.tup [.non, .int 0, .non, .int 2]) = IB at oPB oRB hYB ⊢
  have oYB : upd IB YB (.tup [.ref PB, .ref RB]) YB = some (.tup [.ref PB, .ref RB]) := upd_same
  have oPB := ((Same.refl IB).new (o := .tup [.ref PB, .ref RB]) hYB) _ _ oPB
  have oRB := ((Same.refl IB).new (o := .tup [.ref PB, .ref RB]) hYB) _ _ oRB
  generalize upd IB YB (.tup [.ref PB, .ref RB]) = JB at oPB oRB oYB ⊢
  refine ⟨YB, _, rfl, SqT.of oYB, rfl, _, _, rfl, _, _, rfl, rfl, ?_⟩
  obtain ⟨fB, gB, aB, pB, cB⟩ := cmpB
  refine ⟨_, rfl, _, rfl, PB, RB, _, _, rfl, oPB, oRB, fB, gB, by decide, by decide, fun X1 x1 => ⟨_, rfl, _, rfl, PB, RB, _, _, rfl, x1 _ _ oPB, x1 _ _ oRB, fB, gB, by decide, by decide, fun X2 x2 => ⟨_, rfl, _, rfl, PB, RB, _, _, rfl, (x1.trans x2) _ _ oPB, (x1.trans x2) _ _ oRB, fB, gB, by decide, by decide, fun X3 x3 => ?_⟩⟩⟩
  refine ⟨by show 3 ≤ sizeLine; decide, fun L hL => ⟨by show 3 ≤ sizeLine; decide, fun M hM => ?_⟩⟩
  refine ⟨.list [.bool false, .int 1, .bool true], .list [.bool false, .int 1, .bool true], .lst (SqL.of (xs := [.bl false, .int 1, .bl true]) (by rw [upd_ne (ne_of_none upd_same hM), upd_same]; show some (HO.lst [V.bl (decide (soL [none, some 0, some 0, some 0] = soL [none, some 0, none, some 2])), ptL (soL [none, some 0, some 0, some 0]) (soL [none, some 0, none, some 2]), V.bl (decide (cntL [none, some 0, some 0, some 0] = cntL [none, some 0, none, some 2]))]) = _; rw [aB, pB, cB])) (.cons (.bl _) (.cons (.int _) (.cons (.bl _) .nil))), .lst (SqL.of (xs := [.bl false, .int 1, .bl true]) upd_same) (.cons (.bl _) (.cons (.int _) (.cons (.bl _) .nil))), by decide +kernel, by decide +kernel, ?_⟩
  rw [show PyData.eqv (.list [.bool false, .int 1, .bool true]) (.list [.bool false, .int 1, .bool true]) = true by decide +kernel]
  refine ⟨_, rfl, iteF ?_⟩
  generalize upd (upd X3 L _) M _ = G2
  -- pair C
  refine ⟨by show 1 ≤ sizeLine; decide, fun PC hPC => ⟨by show 2 ≤ sizeLine; decide, fun RC hRC => ⟨by show 2 ≤ sizeLine; decide, fun YC hYC => ?_⟩⟩⟩
  have oPC : upd G2 PC (.tup [.non]) PC = some (.tup (([none] : Hs).map hv)) := upd_same
  have oRC : upd (upd G2 PC (.tup [.non])) RC (.tup [.non, .int 0]) RC = some (.tup (([none, some 0] : Hs).map hv)) := upd_same
  have oPC := ((Same.refl _).new (o := .tup [.non, .int 0]) hRC) _ _ oPC
  generalize upd (upd G2 PC (.tup [.non])) RC (.tup [.non, .int 0]) = IC at oPC oRC hYC ⊢
  have oYC : upd IC YC (.tup [.ref PC, .ref RC]) YC = some (.tup [.ref PC, .ref RC]) := upd_same
  have oPC := ((Same.refl IC).new (o := .tup [.ref PC, .ref RC]) hYC) _ _ oPC
  have oRC := ((Same.refl IC).new (o := .tup [.ref PC, .ref RC]) hYC) _ _ oRC
  generalize upd IC YC (.tup [.ref PC, .ref RC]) = JC at oPC oRC oYC ⊢
  refine ⟨YC, _, rfl, SqT.of oYC, rfl, _, _, rfl, _, _, rfl, rfl, ?_⟩
  obtain ⟨fC, gC, aC, pC, cC⟩ := cmpC
  refine ⟨_, rfl, _, rfl, PC, RC, _, _, rfl, oPC, oRC, fC, gC, by decide, by decide, fun X1 x1 => ⟨_, rfl, _, rfl, PC, RC, _, _, rfl, x1 _ _ oPC, x1 _ _ oRC, fC, gC, by decide, by decide, fun X2 x2 => ⟨_, rfl, _, rfl, PC, RC, _, _, rfl, (x1.trans x2) _ _ oPC, (x1.trans x2) _ _ oRC, fC, gC, by decide, by decide, fun X3 x3 => ?_⟩⟩⟩
  refine ⟨by show 3 ≤ sizeLine; decide, fun L hL => ⟨by show 3 ≤ sizeLine; decide, fun M hM => ?_⟩⟩
  refine ⟨.list [.bool false, .int 2, .bool true], .list [.bool false, .int 2, .bool true], .lst (SqL.of (xs := [.bl false, .int 2, .bl true]) (by rw [upd_ne (ne_of_none upd_same hM), upd_same]; show some (HO.lst [V.bl (decide (soL [none] = soL [none, some 0])), ptL (soL [none]) (soL [none, some 0]), V.bl (decide (cntL [none] = cntL [none, some 0]))]) = _; rw [aC, pC, cC])) (.cons (.bl _) (.cons (.int _) (.cons (.bl _) .nil))), .lst (SqL.of (xs := [.bl false, .int 2, .bl true]) upd_same) (.cons (.bl _) (.cons (.int _) (.cons (.bl _) .nil))), by decide +kernel, by decide +kernel, ?_⟩
  rw [show PyData.eqv (.list [.bool false, .int 2, .bool true]) (.list [.bool false, .int 2, .bool true]) = true by decide +kernel]
  exact q _
end

end My

namespace My
open PySem PySem.Spec PyProof.Rows L2
theorem all_mk {l : PySem.W.OpenLaw} {w : World} {K : PySem.W.Frag} {h : Heap} {mg : Str → Option Value} {fa f0 f1 f2 f3 f4 f5 f6 f7 f8 f9 f10 f11 f12 f13 f14 f15 f16 f17 f18 f19 f20 f21 f22 f23 f24 f25 f26 f27 f28 f29 f30 f31 cT tT C0 : Addr} (X : K.In h) (G : h.Ns mainGlobals mg) (hfa : mg "law" = some (.ref fa))
    {od0 an0 od1 an1 od2 an2 od3 an3 od4 an4 od5 an5 od6 an6 od7 an7 od8 an8 od9 an9 od10 an10 od11 an11 od12 an12 od13 an13 od14 an14 od15 an15 od16 an16 od17 an17 od18 an18 od19 an19 od20 an20 od21 an21 od22 an22 od23 an23 od24 an24 od25 an25 od26 an26 od27 an27 od28 an28 od29 an29 od30 an30 od31 an31 : Option Addr} {sl0 sl1 sl2 sl3 sl4 sl5 sl6 sl7 sl8 sl9 sl10 sl11 sl12 sl13 sl14 sl15 sl16 sl17 sl18 sl19 sl20 sl21 sl22 sl23 sl24 sl25 sl26 sl27 sl28 sl29 sl30 sl31 : Array (Option Value)} {oc0 kV0 dc0 pm0 cd0 ct0 oc1 kV1 dc1 pm1 cd1 ct1 oc2 kV2 dc2 pm2 cd2 ct2 oc3 kV3 dc3 pm3 cd3 ct3 oc4 kV4 dc4 pm4 cd4 ct4 oc5 kV5 dc5 pm5 cd5 ct5 oc6 kV6 dc6 pm6 cd6 ct6 oc7 kV7 dc7 pm7 cd7 ct7 oc8 kV8 dc8 pm8 cd8 ct8 oc9 kV9 dc9 pm9 cd9 ct9 oc10 kV10 dc10 pm10 cd10 ct10 oc11 kV11 dc11 pm11 cd11 ct11 oc12 kV12 dc12 pm12 cd12 ct12 oc13 kV13 dc13 pm13 cd13 ct13 oc14 kV14 dc14 pm14 cd14 ct14 oc15 kV15 dc15 pm15 cd15 ct15 oc16 kV16 dc16 pm16 cd16 ct16 oc17 kV17 dc17 pm17 cd17 ct17 oc18 kV18 dc18 pm18 cd18 ct18 oc19 kV19 dc19 pm19 cd19 ct19 oc20 kV20 dc20 pm20 cd20 ct20 oc21 kV21 dc21 pm21 cd21 ct21 oc22 kV22 dc22 pm22 cd22 ct22 oc23 kV23 dc23 pm23 cd23 ct23 oc24 kV24 dc24 pm24 cd24 ct24 oc25 kV25 dc25 pm25 cd25 ct25 oc26 kV26 dc26 pm26 cd26 ct26 oc27 kV27 dc27 pm27 cd27 ct27 oc28 kV28 dc28 pm28 cd28 ct28 oc29 kV29 dc29 pm29 cd29 ct29 oc30 kV30 dc30 pm30 cd30 ct30 oc31 kV31 dc31 pm31 cd31 ct31 : Value}
    (a0 : PySem.W.nsIn K mainGlobals "is_integer" = some (some (.ref f0)))
    (l0 : K.lookup f0 = some ⟨oc0, od0, .func (PySem.W.fnOf "is_integer" "is_integer" (defArgs st_is_integer) (defBody st_is_integer) (defScope st_is_integer) .none kV0 dc0 pm0 an0 cd0 ct0), sl0⟩)
    (c0 : PySem.W.codeIn K cd0 "is_integer" = true)
    (k0 : PySem.W.keepIn K (.ref f0) = true)
    (a1 : PySem.W.nsIn K mainGlobals "is_between" = some (some (.ref f1)))
    (l1 : K.lookup f1 = some ⟨oc1, od1, .func (PySem.W.fnOf "is_between" "is_between" (defArgs st_is_between) (defBody st_is_between) (defScope st_is_between) .none kV1 dc1 pm1 an1 cd1 ct1), sl1⟩)
    (c1 : PySem.W.codeIn K cd1 "is_between" = true)
    (k1 : PySem.W.keepIn K (.ref f1) = true)
    (a2 : PySem.W.nsIn K mainGlobals "is_index" = some (some (.ref f2)))
    (l2 : K.lookup f2 = some ⟨oc2, od2, .func (PySem.W.fnOf "is_index" "is_index" (defArgs st_is_index) (defBody st_is_index) (defScope st_is_index) .none kV2 dc2 pm2 an2 cd2 ct2), sl2⟩)
    (c2 : PySem.W.codeIn K cd2 "is_index" = true)
    (k2 : PySem.W.keepIn K (.ref f2) = true)
    (a3 : PySem.W.nsIn K mainGlobals "is_forest" = some (some (.ref f3)))
    (l3 : K.lookup f3 = some ⟨oc3, od3, .func (PySem.W.fnOf "is_forest" "is_forest" (defArgs st_is_forest) (defBody st_is_forest) (defScope st_is_forest) .none kV3 dc3 pm3 an3 cd3 ct3), sl3⟩)
    (c3 : PySem.W.codeIn K cd3 "is_forest" = true)
    (k3 : PySem.W.keepIn K (.ref f3) = true)
    (a4 : PySem.W.nsIn K mainGlobals "check_forest" = some (some (.ref f4)))
    (l4 : K.lookup f4 = some ⟨oc4, od4, .func (PySem.W.fnOf "check_forest" "check_forest" (defArgs st_check_forest) (defBody st_check_forest) (defScope st_check_forest) .none kV4 dc4 pm4 an4 cd4 ct4), sl4⟩)
    (c4 : PySem.W.codeIn K cd4 "check_forest" = true)
    (k4 : PySem.W.keepIn K (.ref f4) = true)
    (a5 : PySem.W.nsIn K mainGlobals "sizes" = some (some (.ref f5)))
    (l5 : K.lookup f5 = some ⟨oc5, od5, .func (PySem.W.fnOf "sizes" "sizes" (defArgs st_sizes) (defBody st_sizes) (defScope st_sizes) .none kV5 dc5 pm5 an5 cd5 ct5), sl5⟩)
    (c5 : PySem.W.codeIn K cd5 "sizes" = true)
    (k5 : PySem.W.keepIn K (.ref f5) = true)
    (a6 : PySem.W.nsIn K mainGlobals "walk" = some (some (.ref f6)))
    (l6 : K.lookup f6 = some ⟨oc6, od6, .func (PySem.W.fnOf "walk" "walk" (defArgs st_walk) (defBody st_walk) (defScope st_walk) .none kV6 dc6 pm6 an6 cd6 ct6), sl6⟩)
    (c6 : PySem.W.codeIn K cd6 "walk" = true)
    (k6 : PySem.W.keepIn K (.ref f6) = true)
    (a7 : PySem.W.nsIn K mainGlobals "_without_holder" = some (some (.ref f7)))
    (l7 : K.lookup f7 = some ⟨oc7, od7, .func (PySem.W.fnOf "_without_holder" "_without_holder" (defArgs st__without_holder) (defBody st__without_holder) (defScope st__without_holder) .none kV7 dc7 pm7 an7 cd7 ct7), sl7⟩)
    (c7 : PySem.W.codeIn K cd7 "_without_holder" = true)
    (k7 : PySem.W.keepIn K (.ref f7) = true)
    (a8 : PySem.W.nsIn K mainGlobals "_held_lists" = some (some (.ref f8)))
    (l8 : K.lookup f8 = some ⟨oc8, od8, .func (PySem.W.fnOf "_held_lists" "_held_lists" (defArgs st__held_lists) (defBody st__held_lists) (defScope st__held_lists) .none kV8 dc8 pm8 an8 cd8 ct8), sl8⟩)
    (c8 : PySem.W.codeIn K cd8 "_held_lists" = true)
    (k8 : PySem.W.keepIn K (.ref f8) = true)
    (a9 : PySem.W.nsIn K mainGlobals "_walk_through" = some (some (.ref f9)))
    (l9 : K.lookup f9 = some ⟨oc9, od9, .func (PySem.W.fnOf "_walk_through" "_walk_through" (defArgs st__walk_through) (defBody st__walk_through) (defScope st__walk_through) .none kV9 dc9 pm9 an9 cd9 ct9), sl9⟩)
    (c9 : PySem.W.codeIn K cd9 "_walk_through" = true)
    (k9 : PySem.W.keepIn K (.ref f9) = true)
    (a10 : PySem.W.nsIn K mainGlobals "count_sequences" = some (some (.ref f10)))
    (l10 : K.lookup f10 = some ⟨oc10, od10, .func (PySem.W.fnOf "count_sequences" "count_sequences" (defArgs st_count_sequences) (defBody st_count_sequences) (defScope st_count_sequences) .none kV10 dc10 pm10 an10 cd10 ct10), sl10⟩)
    (c10 : PySem.W.codeIn K cd10 "count_sequences" = true)
    (k10 : PySem.W.keepIn K (.ref f10) = true)
    (a11 : PySem.W.nsIn K mainGlobals "ordered_sizes" = some (some (.ref f11)))
    (l11 : K.lookup f11 = some ⟨oc11, od11, .func (PySem.W.fnOf "ordered_sizes" "ordered_sizes" (defArgs st_ordered_sizes) (defBody st_ordered_sizes) (defScope st_ordered_sizes) .none kV11 dc11 pm11 an11 cd11 ct11), sl11⟩)
    (c11 : PySem.W.codeIn K cd11 "ordered_sizes" = true)
    (k11 : PySem.W.keepIn K (.ref f11) = true)
    (a12 : PySem.W.nsIn K mainGlobals "are_alike" = some (some (.ref f12)))
    (l12 : K.lookup f12 = some ⟨oc12, od12, .func (PySem.W.fnOf "are_alike" "are_alike" (defArgs st_are_alike) (defBody st_are_alike) (defScope st_are_alike) .none kV12 dc12 pm12 an12 cd12 ct12), sl12⟩)
    (c12 : PySem.W.codeIn K cd12 "are_alike" = true)
    (k12 : PySem.W.keepIn K (.ref f12) = true)
    (a13 : PySem.W.nsIn K mainGlobals "parting_size" = some (some (.ref f13)))
    (l13 : K.lookup f13 = some ⟨oc13, od13, .func (PySem.W.fnOf "parting_size" "parting_size" (defArgs st_parting_size) (defBody st_parting_size) (defScope st_parting_size) .none kV13 dc13 pm13 an13 cd13 ct13), sl13⟩)
    (c13 : PySem.W.codeIn K cd13 "parting_size" = true)
    (k13 : PySem.W.keepIn K (.ref f13) = true)
    (a14 : PySem.W.nsIn K mainGlobals "same_number" = some (some (.ref f14)))
    (l14 : K.lookup f14 = some ⟨oc14, od14, .func (PySem.W.fnOf "same_number" "same_number" (defArgs st_same_number) (defBody st_same_number) (defScope st_same_number) .none kV14 dc14 pm14 an14 cd14 ct14), sl14⟩)
    (c14 : PySem.W.codeIn K cd14 "same_number" = true)
    (k14 : PySem.W.keepIn K (.ref f14) = true)
    (a15 : PySem.W.nsIn K mainGlobals "_law_well" = some (some (.ref f15)))
    (l15 : K.lookup f15 = some ⟨oc15, od15, .func (PySem.W.fnOf "_law_well" "_law_well" (defArgs st__law_well) (defBody st__law_well) (defScope st__law_well) .none kV15 dc15 pm15 an15 cd15 ct15), sl15⟩)
    (c15 : PySem.W.codeIn K cd15 "_law_well" = true)
    (k15 : PySem.W.keepIn K (.ref f15) = true)
    (a16 : PySem.W.nsIn K mainGlobals "_law_draw" = some (some (.ref f16)))
    (l16 : K.lookup f16 = some ⟨oc16, od16, .func (PySem.W.fnOf "_law_draw" "_law_draw" (defArgs st__law_draw) (defBody st__law_draw) (defScope st__law_draw) .none kV16 dc16 pm16 an16 cd16 ct16), sl16⟩)
    (c16 : PySem.W.codeIn K cd16 "_law_draw" = true)
    (k16 : PySem.W.keepIn K (.ref f16) = true)
    (a17 : PySem.W.nsIn K mainGlobals "_law_same" = some (some (.ref f17)))
    (l17 : K.lookup f17 = some ⟨oc17, od17, .func (PySem.W.fnOf "_law_same" "_law_same" (defArgs st__law_same) (defBody st__law_same) (defScope st__law_same) .none kV17 dc17 pm17 an17 cd17 ct17), sl17⟩)
    (c17 : PySem.W.codeIn K cd17 "_law_same" = true)
    (k17 : PySem.W.keepIn K (.ref f17) = true)
    (a18 : PySem.W.nsIn K mainGlobals "_law_forest" = some (some (.ref f18)))
    (l18 : K.lookup f18 = some ⟨oc18, od18, .func (PySem.W.fnOf "_law_forest" "_law_forest" (defArgs st__law_forest) (defBody st__law_forest) (defScope st__law_forest) .none kV18 dc18 pm18 an18 cd18 ct18), sl18⟩)
    (c18 : PySem.W.codeIn K cd18 "_law_forest" = true)
    (k18 : PySem.W.keepIn K (.ref f18) = true)
    (a19 : PySem.W.nsIn K mainGlobals "_law_up" = some (some (.ref f19)))
    (l19 : K.lookup f19 = some ⟨oc19, od19, .func (PySem.W.fnOf "_law_up" "_law_up" (defArgs st__law_up) (defBody st__law_up) (defScope st__law_up) .none kV19 dc19 pm19 an19 cd19 ct19), sl19⟩)
    (c19 : PySem.W.codeIn K cd19 "_law_up" = true)
    (k19 : PySem.W.keepIn K (.ref f19) = true)
    (a20 : PySem.W.nsIn K mainGlobals "_law_weights" = some (some (.ref f20)))
    (l20 : K.lookup f20 = some ⟨oc20, od20, .func (PySem.W.fnOf "_law_weights" "_law_weights" (defArgs st__law_weights) (defBody st__law_weights) (defScope st__law_weights) .none kV20 dc20 pm20 an20 cd20 ct20), sl20⟩)
    (c20 : PySem.W.codeIn K cd20 "_law_weights" = true)
    (k20 : PySem.W.keepIn K (.ref f20) = true)
    (a21 : PySem.W.nsIn K mainGlobals "_law_rows" = some (some (.ref f21)))
    (l21 : K.lookup f21 = some ⟨oc21, od21, .func (PySem.W.fnOf "_law_rows" "_law_rows" (defArgs st__law_rows) (defBody st__law_rows) (defScope st__law_rows) .none kV21 dc21 pm21 an21 cd21 ct21), sl21⟩)
    (c21 : PySem.W.codeIn K cd21 "_law_rows" = true)
    (k21 : PySem.W.keepIn K (.ref f21) = true)
    (a22 : PySem.W.nsIn K mainGlobals "_law_many" = some (some (.ref f22)))
    (l22 : K.lookup f22 = some ⟨oc22, od22, .func (PySem.W.fnOf "_law_many" "_law_many" (defArgs st__law_many) (defBody st__law_many) (defScope st__law_many) .none kV22 dc22 pm22 an22 cd22 ct22), sl22⟩)
    (c22 : PySem.W.codeIn K cd22 "_law_many" = true)
    (k22 : PySem.W.keepIn K (.ref f22) = true)
    (a23 : PySem.W.nsIn K mainGlobals "_law_walk" = some (some (.ref f23)))
    (l23 : K.lookup f23 = some ⟨oc23, od23, .func (PySem.W.fnOf "_law_walk" "_law_walk" (defArgs st__law_walk) (defBody st__law_walk) (defScope st__law_walk) .none kV23 dc23 pm23 an23 cd23 ct23), sl23⟩)
    (c23 : PySem.W.codeIn K cd23 "_law_walk" = true)
    (k23 : PySem.W.keepIn K (.ref f23) = true)
    (a24 : PySem.W.nsIn K mainGlobals "_law_fresh" = some (some (.ref f24)))
    (l24 : K.lookup f24 = some ⟨oc24, od24, .func (PySem.W.fnOf "_law_fresh" "_law_fresh" (defArgs st__law_fresh) (defBody st__law_fresh) (defScope st__law_fresh) .none kV24 dc24 pm24 an24 cd24 ct24), sl24⟩)
    (c24 : PySem.W.codeIn K cd24 "_law_fresh" = true)
    (k24 : PySem.W.keepIn K (.ref f24) = true)
    (a25 : PySem.W.nsIn K mainGlobals "_law_crossed" = some (some (.ref f25)))
    (l25 : K.lookup f25 = some ⟨oc25, od25, .func (PySem.W.fnOf "_law_crossed" "_law_crossed" (defArgs st__law_crossed) (defBody st__law_crossed) (defScope st__law_crossed) .none kV25 dc25 pm25 an25 cd25 ct25), sl25⟩)
    (c25 : PySem.W.codeIn K cd25 "_law_crossed" = true)
    (k25 : PySem.W.keepIn K (.ref f25) = true)
    (a26 : PySem.W.nsIn K mainGlobals "_law_hung" = some (some (.ref f26)))
    (l26 : K.lookup f26 = some ⟨oc26, od26, .func (PySem.W.fnOf "_law_hung" "_law_hung" (defArgs st__law_hung) (defBody st__law_hung) (defScope st__law_hung) .none kV26 dc26 pm26 an26 cd26 ct26), sl26⟩)
    (c26 : PySem.W.codeIn K cd26 "_law_hung" = true)
    (k26 : PySem.W.keepIn K (.ref f26) = true)
    (a27 : PySem.W.nsIn K mainGlobals "_law_tally" = some (some (.ref f27)))
    (l27 : K.lookup f27 = some ⟨oc27, od27, .func (PySem.W.fnOf "_law_tally" "_law_tally" (defArgs st__law_tally) (defBody st__law_tally) (defScope st__law_tally) .none kV27 dc27 pm27 an27 cd27 ct27), sl27⟩)
    (c27 : PySem.W.codeIn K cd27 "_law_tally" = true)
    (k27 : PySem.W.keepIn K (.ref f27) = true)
    (a28 : PySem.W.nsIn K mainGlobals "_law_right" = some (some (.ref f28)))
    (l28 : K.lookup f28 = some ⟨oc28, od28, .func (PySem.W.fnOf "_law_right" "_law_right" (defArgs st__law_right) (defBody st__law_right) (defScope st__law_right) .none kV28 dc28 pm28 an28 cd28 ct28), sl28⟩)
    (c28 : PySem.W.codeIn K cd28 "_law_right" = true)
    (k28 : PySem.W.keepIn K (.ref f28) = true)
    (a29 : PySem.W.nsIn K mainGlobals "_law_pair" = some (some (.ref f29)))
    (l29 : K.lookup f29 = some ⟨oc29, od29, .func (PySem.W.fnOf "_law_pair" "_law_pair" (defArgs st__law_pair) (defBody st__law_pair) (defScope st__law_pair) .none kV29 dc29 pm29 an29 cd29 ct29), sl29⟩)
    (c29 : PySem.W.codeIn K cd29 "_law_pair" = true)
    (k29 : PySem.W.keepIn K (.ref f29) = true)
    (a30 : PySem.W.nsIn K mainGlobals "_law_pair_right" = some (some (.ref f30)))
    (l30 : K.lookup f30 = some ⟨oc30, od30, .func (PySem.W.fnOf "_law_pair_right" "_law_pair_right" (defArgs st__law_pair_right) (defBody st__law_pair_right) (defScope st__law_pair_right) .none kV30 dc30 pm30 an30 cd30 ct30), sl30⟩)
    (c30 : PySem.W.codeIn K cd30 "_law_pair_right" = true)
    (k30 : PySem.W.keepIn K (.ref f30) = true)
    (a31 : PySem.W.nsIn K mainGlobals "law" = some (some (.ref f31)))
    (l31 : K.lookup f31 = some ⟨oc31, od31, .func (PySem.W.fnOf "law" "law" (defArgs st_law) (defBody st_law) (defScope st_law) .none kV31 dc31 pm31 an31 cd31 ct31), sl31⟩)
    (c31 : PySem.W.codeIn K cd31 "law" = true)
    (k31 : PySem.W.keepIn K (.ref f31) = true)
    (z_isinstance : PySem.W.nsIn K mainGlobals "isinstance" = some none)
    (z_int : PySem.W.nsIn K mainGlobals "int" = some none)
    (z_bool : PySem.W.nsIn K mainGlobals "bool" = some none)
    (z_tuple : PySem.W.nsIn K mainGlobals "tuple" = some none)
    (z_len : PySem.W.nsIn K mainGlobals "len" = some none)
    (z_all : PySem.W.nsIn K mainGlobals "all" = some none)
    (z_enumerate : PySem.W.nsIn K mainGlobals "enumerate" = some none)
    (z_reversed : PySem.W.nsIn K mainGlobals "reversed" = some none)
    (z_sorted : PySem.W.nsIn K mainGlobals "sorted" = some none)
    (z_max : PySem.W.nsIn K mainGlobals "max" = some none)
    (z_min : PySem.W.nsIn K mainGlobals "min" = some none)
    (z_abs : PySem.W.nsIn K mainGlobals "abs" = some none)
    (z_range : PySem.W.nsIn K mainGlobals "range" = some none)
    (z_list : PySem.W.nsIn K mainGlobals "list" = some none)
    (z_repr : PySem.W.nsIn K mainGlobals "repr" = some none)
    (z_sum : PySem.W.nsIn K mainGlobals "sum" = some none)
    (z_any : PySem.W.nsIn K mainGlobals "any" = some none)
    (z_zip : PySem.W.nsIn K mainGlobals "zip" = some none)
    (z_str : PySem.W.nsIn K mainGlobals "str" = some none)
    (z_set : PySem.W.nsIn K mainGlobals "set" = some none)
    (z_dict : PySem.W.nsIn K mainGlobals "dict" = some none)
    (g_0 : PySem.W.nsIn K mainGlobals "InvalidForest" = some (some (.ref C0)))
    (x_0 : PySem.W.excIn K C0 [.type "ValueError", .type "Exception", .type "BaseException", .type "object"] "ValueError.__new__" = true)
    (k_0 : PySem.W.keepIn K (.ref C0) = true)
    (b_0 : PySem.W.subIn K (.ref C0) (.type "BaseException") = some true)
    (t_0 : PySem.W.typeIn K (.ref C0) = some (.type "type"))
    (ga_0 : PySem.W.findIn K (.ref C0) "__getattribute__" = some (some (.builtin "BaseException.__getattribute__")))
    (gt_0 : PySem.W.findIn K (.ref C0) "__getattr__" = some none)
    (hd_0 : PySem.W.hasDictIn K C0 = true)
    (hc_0 : PySem.W.findIn K (.ref C0) "__class__" = some (some (.builtin "object.__class__")))
    (hm_0 : PySem.W.mroIn K C0 (.type "object") = some true)
    (v_0 : PySem.W.kitOne K (.ref C0) (.type "ValueError") = some true)
    (y_0_0 : PySem.W.kitOne K (.ref C0) (.ref C0) = some true)
    (m_factorial : PySem.W.nsIn K mainGlobals "factorial" = some (some (.builtin "math.factorial")))
    (sn : PySem.W.specialIn K (.builtin "object.__class__") "__get__" = some (some (.builtin "getset_descriptor.__get__")))
    (st : PySem.W.takesIn K (.builtin "object.__class__") = some true)
    (tt : PySem.W.tabIn K "_law_walk" = some (cT, tT))
    (tn : K.lookup tT = none) :
    ∃ (fd : FuncData) (cO tO : Addr), PySem.W.tabIn K "_law_walk" = some (cO, tO) ∧ K.lookup tO = none ∧ (∀ (s : Shared) (v : Value), BindsTo s fd ⟨[v], []⟩ [("script", v)]) ∧ ∀ base : Heap, K.In base → base.Ns mainGlobals mg → LamX.TabB base mg cO tO → Qui l.prog w K mg base 64 fa fd ["script"] (spLawT K tO) := by
  have e := hfa.symm.trans (PySem.W.mg_of X G a31)
  cases e
  have D_is_integer : Df K mg "is_integer" st_is_integer ["value"] := Df.mk' l0 c0 k0 (PySem.W.mg_of X G a0) fun _ _ _ _ _ _ us hl => match us, hl with | [_], _ => rfl
  have D_is_between : Df K mg "is_between" st_is_between ["value", "least", "greatest"] := Df.mk' l1 c1 k1 (PySem.W.mg_of X G a1) fun _ _ _ _ _ _ us hl => match us, hl with | [_, _, _], _ => rfl
  have D_is_index : Df K mg "is_index" st_is_index ["value", "many"] := Df.mk' l2 c2 k2 (PySem.W.mg_of X G a2) fun _ _ _ _ _ _ us hl => match us, hl with | [_, _], _ => rfl
  have D_is_forest : Df K mg "is_forest" st_is_forest ["value"] := Df.mk' l3 c3 k3 (PySem.W.mg_of X G a3) fun _ _ _ _ _ _ us hl => match us, hl with | [_], _ => rfl
  have D_check_forest : Df K mg "check_forest" st_check_forest ["forest"] := Df.mk' l4 c4 k4 (PySem.W.mg_of X G a4) fun _ _ _ _ _ _ us hl => match us, hl with | [_], _ => rfl
  have D_sizes : Df K mg "sizes" st_sizes ["forest"] := Df.mk' l5 c5 k5 (PySem.W.mg_of X G a5) fun _ _ _ _ _ _ us hl => match us, hl with | [_], _ => rfl
  have D_walk : Df K mg "walk" st_walk ["forest"] := Df.mk' l6 c6 k6 (PySem.W.mg_of X G a6) fun _ _ _ _ _ _ us hl => match us, hl with | [_], _ => rfl
  have D__without_holder : Df K mg "_without_holder" st__without_holder ["forest"] := Df.mk' l7 c7 k7 (PySem.W.mg_of X G a7) fun _ _ _ _ _ _ us hl => match us, hl with | [_], _ => rfl
  have D__held_lists : Df K mg "_held_lists" st__held_lists ["forest"] := Df.mk' l8 c8 k8 (PySem.W.mg_of X G a8) fun _ _ _ _ _ _ us hl => match us, hl with | [_], _ => rfl
  have D__walk_through : Df K mg "_walk_through" st__walk_through ["held", "starts"] := Df.mk' l9 c9 k9 (PySem.W.mg_of X G a9) fun _ _ _ _ _ _ us hl => match us, hl with | [_, _], _ => rfl
  have D_count_sequences : Df K mg "count_sequences" st_count_sequences ["forest"] := Df.mk' l10 c10 k10 (PySem.W.mg_of X G a10) fun _ _ _ _ _ _ us hl => match us, hl with | [_], _ => rfl
  have D_ordered_sizes : Df K mg "ordered_sizes" st_ordered_sizes ["forest"] := Df.mk' l11 c11 k11 (PySem.W.mg_of X G a11) fun _ _ _ _ _ _ us hl => match us, hl with | [_], _ => rfl
  have D_are_alike : Df K mg "are_alike" st_are_alike ["forest", "other"] := Df.mk' l12 c12 k12 (PySem.W.mg_of X G a12) fun _ _ _ _ _ _ us hl => match us, hl with | [_, _], _ => rfl
  have D_parting_size : Df K mg "parting_size" st_parting_size ["forest", "other"] := Df.mk' l13 c13 k13 (PySem.W.mg_of X G a13) fun _ _ _ _ _ _ us hl => match us, hl with | [_, _], _ => rfl
  have D_same_number : Df K mg "same_number" st_same_number ["forest", "other"] := Df.mk' l14 c14 k14 (PySem.W.mg_of X G a14) fun _ _ _ _ _ _ us hl => match us, hl with | [_, _], _ => rfl
  have D__law_well : Df K mg "_law_well" st__law_well ["script", "at"] := Df.mk' l15 c15 k15 (PySem.W.mg_of X G a15) fun _ _ _ _ _ _ us hl => match us, hl with | [_, _], _ => rfl
  have D__law_draw : Df K mg "_law_draw" st__law_draw ["well", "most"] := Df.mk' l16 c16 k16 (PySem.W.mg_of X G a16) fun _ _ _ _ _ _ us hl => match us, hl with | [_, _], _ => rfl
  have D__law_same : Df K mg "_law_same" st__law_same ["found", "due"] := Df.mk' l17 c17 k17 (PySem.W.mg_of X G a17) fun _ _ _ _ _ _ us hl => match us, hl with | [_, _], _ => rfl
  have D__law_forest : Df K mg "_law_forest" st__law_forest ["well", "most"] := Df.mk' l18 c18 k18 (PySem.W.mg_of X G a18) fun _ _ _ _ _ _ us hl => match us, hl with | [_, _], _ => rfl
  have D__law_up : Df K mg "_law_up" st__law_up ["plan", "one"] := Df.mk' l19 c19 k19 (PySem.W.mg_of X G a19) fun _ _ _ _ _ _ us hl => match us, hl with | [_, _], _ => rfl
  have D__law_weights : Df K mg "_law_weights" st__law_weights ["plan"] := Df.mk' l20 c20 k20 (PySem.W.mg_of X G a20) fun _ _ _ _ _ _ us hl => match us, hl with | [_], _ => rfl
  have D__law_rows : Df K mg "_law_rows" st__law_rows ["plan"] := Df.mk' l21 c21 k21 (PySem.W.mg_of X G a21) fun _ _ _ _ _ _ us hl => match us, hl with | [_], _ => rfl
  have D__law_many : Df K mg "_law_many" st__law_many ["plan"] := Df.mk' l22 c22 k22 (PySem.W.mg_of X G a22) fun _ _ _ _ _ _ us hl => match us, hl with | [_], _ => rfl
  have D__law_walk : DfC K mg "_law_walk" st__law_walk ["plan"] cT := DfC.mk' l23 c23 k23 (PySem.W.mg_of X G a23) a23 tt fun _ _ _ _ _ _ us hl => match us, hl with | [_], _ => rfl
  have D__law_fresh : Df K mg "_law_fresh" st__law_fresh ["well", "plan"] := Df.mk' l24 c24 k24 (PySem.W.mg_of X G a24) fun _ _ _ _ _ _ us hl => match us, hl with | [_, _], _ => rfl
  have D__law_crossed : Df K mg "_law_crossed" st__law_crossed ["well", "plan"] := Df.mk' l25 c25 k25 (PySem.W.mg_of X G a25) fun _ _ _ _ _ _ us hl => match us, hl with | [_, _], _ => rfl
  have D__law_hung : Df K mg "_law_hung" st__law_hung ["well", "plan"] := Df.mk' l26 c26 k26 (PySem.W.mg_of X G a26) fun _ _ _ _ _ _ us hl => match us, hl with | [_, _], _ => rfl
  have D__law_tally : Df K mg "_law_tally" st__law_tally ["plan"] := Df.mk' l27 c27 k27 (PySem.W.mg_of X G a27) fun _ _ _ _ _ _ us hl => match us, hl with | [_], _ => rfl
  have D__law_right : Df K mg "_law_right" st__law_right ["plan", "mate"] := Df.mk' l28 c28 k28 (PySem.W.mg_of X G a28) fun _ _ _ _ _ _ us hl => match us, hl with | [_, _], _ => rfl
  have D__law_pair : Df K mg "_law_pair" st__law_pair ["well", "size"] := Df.mk' l29 c29 k29 (PySem.W.mg_of X G a29) fun _ _ _ _ _ _ us hl => match us, hl with | [_, _], _ => rfl
  have D__law_pair_right : Df K mg "_law_pair_right" st__law_pair_right ["well", "size"] := Df.mk' l30 c30 k30 (PySem.W.mg_of X G a30) fun _ _ _ _ _ _ us hl => match us, hl with | [_, _], _ => rfl
  have B : Bl mg := ⟨PySem.W.mg_none_of X G z_isinstance, PySem.W.mg_none_of X G z_int, PySem.W.mg_none_of X G z_bool, PySem.W.mg_none_of X G z_tuple, PySem.W.mg_none_of X G z_len, PySem.W.mg_none_of X G z_all, PySem.W.mg_none_of X G z_enumerate, PySem.W.mg_none_of X G z_reversed, PySem.W.mg_none_of X G z_sorted, PySem.W.mg_none_of X G z_max, PySem.W.mg_none_of X G z_min, PySem.W.mg_none_of X G z_abs, PySem.W.mg_none_of X G z_range, PySem.W.mg_none_of X G z_list, PySem.W.mg_none_of X G z_repr, PySem.W.mg_none_of X G z_sum, PySem.W.mg_none_of X G z_any, PySem.W.mg_none_of X G z_zip, PySem.W.mg_none_of X G z_str, PySem.W.mg_none_of X G z_set, PySem.W.mg_none_of X G z_dict⟩
  have BM : Bm mg := ⟨PySem.W.mg_of X G m_factorial⟩
  have E_InvalidForest : Ex1 K mg "InvalidForest" C0 := ⟨x_0, PySem.W.mg_of X G g_0, k_0, b_0, t_0⟩
  have X_InvalidForest : ExcC K C0 := ⟨ga_0, gt_0, b_0, hd_0, hc_0, sn, st, hm_0⟩
  refine ⟨PySem.W.fnOf "law" "law" (defArgs st_law) (defBody st_law) (defScope st_law) .none kV31 dc31 pm31 an31 cd31 ct31, cT, tT, tt, tn, fun s v => .of_eq rfl, fun base _ _ TB => ?_⟩
  have Kis_integer := ok_is_integer (P := l.prog) (w := w) (base := base) D_is_integer B
  have Kis_between := ok_is_between D_is_between B Kis_integer
  have Kis_index := ok_is_index D_is_index B Kis_between
  have Kwo := ok__without_holder (P := l.prog) (w := w) (base := base) D__without_holder B
  have Khl := ok__held_lists (P := l.prog) (w := w) (base := base) D__held_lists B
  have Kwt := ok__walk_through (P := l.prog) (w := w) (base := base) D__walk_through B
  have Kis_forest := ok_is_forest D_is_forest B Kis_index Kwo Khl Kwt
  have Kcf := ok_check_forest D_check_forest B E_InvalidForest Kis_forest
  have Kwalk := ok_walk D_walk B Kcf Kwo Khl Kwt
  have Ksizes := ok_sizes D_sizes B Kwalk
  have Kcnt := ok_count_sequences D_count_sequences B BM Ksizes
  have Ksorted := ok_ordered_sizes D_ordered_sizes B Ksizes
  have Kalike := ok_are_alike D_are_alike B Ksorted
  have Kpart := ok_parting_size D_parting_size B Ksorted
  have Ksamen := ok_same_number D_same_number B Kcnt
  have Kdraw := ok__law_draw (P := l.prog) (w := w) (base := base) D__law_draw B
  have Kwell := ok__law_well (P := l.prog) (w := w) (base := base) D__law_well B
  have Kforest := ok__law_forest D__law_forest B Kdraw
  have Ksame2 := ok__law_same (P := l.prog) (w := w) (base := base) D__law_same B 2
  have Kup := ok__law_up (P := l.prog) (w := w) (base := base) D__law_up B
  have Kweights := ok__law_weights0 D__law_weights B Kup
  have Kmany := ok__law_many D__law_many B Kweights
  have Klrows := ok__law_rowsN (P := l.prog) (w := w) (base := base) D__law_rows B
  have Klwalk := ok__law_walk (P := l.prog) (w := w) D__law_walk B TB
  have Kfresh := ok__law_fresh D__law_fresh B Kdraw
  have Kcross := ok__law_crossed D__law_crossed B Kdraw Kweights
  have Khung := ok__law_hung D__law_hung B Kdraw Kup
  have Ktally := ok__law_tally D__law_tally B Klwalk Klrows
  have Kright := ok__law_right D__law_right B Kweights Kmany Ksame2 Kalike Kpart Ksamen
  have Kpair := ok__law_pair D__law_pair B Kdraw Kforest Kcross Khung Kfresh
  have Kpr := ok__law_pair_right D__law_pair_right B Kpair Kright Ktally Kalike
  exact ok_law (fun_mk (st := st_law) l31 c31 k31) B Kwell Kpr Kalike Kpart Ksamen
theorem walkL {l : PySem.W.OpenLaw} {q : Program} {loose : List Str} {XP : (Str → Option Value) → Heap → Prop} {YP : World → Heap → Prop} {d : DefRec} {K : Params → PySem.W.Frag} (hn : l.most = some 63) (hdf : d.params.defaults = []) (found : ((recsOf q).any fun e => e.name == "_law_walk") = true) (hY : ∀ (w : World) (h : Heap), YP w h → (K w.params).In h)
    (F : ∀ (w : World) (mg : Str → Option Value) (fa : Addr) (h : Heap), (K w.params).In h → h.Ns mainGlobals mg → mg d.name = some (.ref fa) → ∃ (fd : FuncData) (cO tO : Addr), PySem.W.tabIn (K w.params) "_law_walk" = some (cO, tO) ∧ (K w.params).lookup tO = none ∧ (∀ (s : Shared) (v : Value), BindsTo s fd ⟨[v], []⟩ [("script", v)]) ∧ ∀ base : Heap, (K w.params).In base → base.Ns mainGlobals mg → LamX.TabB base mg cO tO → Qui l.prog w (K w.params) mg base 64 fa fd ["script"] (spLawT (K w.params) tO)) :
    PySem.W.WalkO q loose XP YP l.row.toRowW d [] (fun f vs => PySem.call f vs) :=
  L2.walk_ofQT (n := 63) (k := 64) (x := "script") (sp := fun w t => spLawT (K w.params) t) "_law_walk" hn (by decide) hdf ⟨rfl, by decide, by decide⟩ found hY F fun _ _ _ a ns hl hT hS => ⟨a, ns, rfl, hS, hl, hT, fun _ => rfl⟩
end My
open PySem PySem.W PyProof.Rows
set_option maxRecDepth 100000 in
set_option maxHeartbeats 0 in
theorem PySem.Challenge.cw_heldbehind_k26_sizes_compared_holds : PySem.Challenge.rw_heldbehind_k26_sizes_compared.Holds := by
  w_on; o_law; k_head; (case hw => w_witness2)
  k_fill
  refine My.walkL (l := PySem.Challenge.rw_heldbehind_k26_sizes_compared) rfl rfl ?found (fun w h Y => PySem.W.km_in_of Y) ?F
  case found => rfl
  case F =>
    intro w mg fa h KX G hmg
    refine' My.all_mk KX G hmg ?a0 ?l0 ?c0 ?k0 ?a1 ?l1 ?c1 ?k1 ?a2 ?l2 ?c2 ?k2 ?a3 ?l3 ?c3 ?k3 ?a4 ?l4 ?c4 ?k4 ?a5 ?l5 ?c5 ?k5 ?a6 ?l6 ?c6 ?k6 ?a7 ?l7 ?c7 ?k7 ?a8 ?l8 ?c8 ?k8 ?a9 ?l9 ?c9 ?k9 ?a10 ?l10 ?c10 ?k10 ?a11 ?l11 ?c11 ?k11 ?a12 ?l12 ?c12 ?k12 ?a13 ?l13 ?c13 ?k13 ?a14 ?l14 ?c14 ?k14 ?a15 ?l15 ?c15 ?k15 ?a16 ?l16 ?c16 ?k16 ?a17 ?l17 ?c17 ?k17 ?a18 ?l18 ?c18 ?k18 ?a19 ?l19 ?c19 ?k19 ?a20 ?l20 ?c20 ?k20 ?a21 ?l21 ?c21 ?k21 ?a22 ?l22 ?c22 ?k22 ?a23 ?l23 ?c23 ?k23 ?a24 ?l24 ?c24 ?k24 ?a25 ?l25 ?c25 ?k25 ?a26 ?l26 ?c26 ?k26 ?a27 ?l27 ?c27 ?k27 ?a28 ?l28 ?c28 ?k28 ?a29 ?l29 ?c29 ?k29 ?a30 ?l30 ?c30 ?k30 ?a31 ?l31 ?c31 ?k31 ?z_isinstance ?z_int ?z_bool ?z_tuple ?z_len ?z_all ?z_enumerate ?z_reversed ?z_sorted ?z_max ?z_min ?z_abs ?z_range ?z_list ?z_repr ?z_sum ?z_any ?z_zip ?z_str ?z_set ?z_dict ?g_0 ?x_0 ?k_0 ?b_0 ?t_0 ?ga_0 ?gt_0 ?hd_0 ?hc_0 ?hm_0 ?v_0 ?y_0_0 ?m_factorial ?sn ?st ?tt ?tn
    (case a0 => first | k_is | rfl)
    (case a1 => first | k_is | rfl)
    (case a2 => first | k_is | rfl)
    (case a3 => first | k_is | rfl)
    (case a4 => first | k_is | rfl)
    (case a5 => first | k_is | rfl)
    (case a6 => first | k_is | rfl)
    (case a7 => first | k_is | rfl)
    (case a8 => first | k_is | rfl)
    (case a9 => first | k_is | rfl)
    (case a10 => first | k_is | rfl)
    (case a11 => first | k_is | rfl)
    (case a12 => first | k_is | rfl)
    (case a13 => first | k_is | rfl)
    (case a14 => first | k_is | rfl)
    (case a15 => first | k_is | rfl)
    (case a16 => first | k_is | rfl)
    (case a17 => first | k_is | rfl)
    (case a18 => first | k_is | rfl)
    (case a19 => first | k_is | rfl)
    (case a20 => first | k_is | rfl)
    (case a21 => first | k_is | rfl)
    (case a22 => first | k_is | rfl)
    (case a23 => first | k_is | rfl)
    (case a24 => first | k_is | rfl)
    (case a25 => first | k_is | rfl)
    (case a26 => first | k_is | rfl)
    (case a27 => first | k_is | rfl)
    (case a28 => first | k_is | rfl)
    (case a29 => first | k_is | rfl)
    (case a30 => first | k_is | rfl)
    (case a31 => first | k_is | rfl)
    (case g_0 => first | k_is | rfl)
    (case l0 => first | k_is | rfl)
    (case c0 => first | k_is | rfl)
    (case k0 => first | k_is | rfl)
    (case l1 => first | k_is | rfl)
    (case c1 => first | k_is | rfl)
    (case k1 => first | k_is | rfl)
    (case l2 => first | k_is | rfl)
    (case c2 => first | k_is | rfl)
    (case k2 => first | k_is | rfl)
    (case l3 => first | k_is | rfl)
    (case c3 => first | k_is | rfl)
    (case k3 => first | k_is | rfl)
    (case l4 => first | k_is | rfl)
    (case c4 => first | k_is | rfl)
    (case k4 => first | k_is | rfl)
    (case l5 => first | k_is | rfl)
    (case c5 => first | k_is | rfl)
    (case k5 => first | k_is | rfl)
    (case l6 => first | k_is | rfl)
    (case c6 => first | k_is | rfl)
    (case k6 => first | k_is | rfl)
    (case l7 => first | k_is | rfl)
    (case c7 => first | k_is | rfl)
    (case k7 => first | k_is | rfl)
    (case l8 => first | k_is | rfl)
    (case c8 => first | k_is | rfl)
    (case k8 => first | k_is | rfl)
    (case l9 => first | k_is | rfl)
    (case c9 => first | k_is | rfl)
    (case k9 => first | k_is | rfl)
    (case l10 => first | k_is | rfl)
    (case c10 => first | k_is | rfl)
    (case k10 => first | k_is | rfl)
    (case l11 => first | k_is | rfl)
    (case c11 => first | k_is | rfl)
    (case k11 => first | k_is | rfl)
    (case l12 => first | k_is | rfl)
    (case c12 => first | k_is | rfl)
    (case k12 => first | k_is | rfl)
    (case l13 => first | k_is | rfl)
    (case c13 => first | k_is | rfl)
    (case k13 => first | k_is | rfl)
    (case l14 => first | k_is | rfl)
    (case c14 => first | k_is | rfl)
    (case k14 => first | k_is | rfl)
    (case l15 => first | k_is | rfl)
    (case c15 => first | k_is | rfl)
    (case k15 => first | k_is | rfl)
    (case l16 => first | k_is | rfl)
    (case c16 => first | k_is | rfl)
    (case k16 => first | k_is | rfl)
    (case l17 => first | k_is | rfl)
    (case c17 => first | k_is | rfl)
    (case k17 => first | k_is | rfl)
    (case l18 => first | k_is | rfl)
    (case c18 => first | k_is | rfl)
    (case k18 => first | k_is | rfl)
    (case l19 => first | k_is | rfl)
    (case c19 => first | k_is | rfl)
    (case k19 => first | k_is | rfl)
    (case l20 => first | k_is | rfl)
    (case c20 => first | k_is | rfl)
    (case k20 => first | k_is | rfl)
    (case l21 => first | k_is | rfl)
    (case c21 => first | k_is | rfl)
    (case k21 => first | k_is | rfl)
    (case l22 => first | k_is | rfl)
    (case c22 => first | k_is | rfl)
    (case k22 => first | k_is | rfl)
    (case l23 => first | k_is | rfl)
    (case c23 => first | k_is | rfl)
    (case k23 => first | k_is | rfl)
    (case l24 => first | k_is | rfl)
    (case c24 => first | k_is | rfl)
    (case k24 => first | k_is | rfl)
    (case l25 => first | k_is | rfl)
    (case c25 => first | k_is | rfl)
    (case k25 => first | k_is | rfl)
    (case l26 => first | k_is | rfl)
    (case c26 => first | k_is | rfl)
    (case k26 => first | k_is | rfl)
    (case l27 => first | k_is | rfl)
    (case c27 => first | k_is | rfl)
    (case k27 => first | k_is | rfl)
    (case l28 => first | k_is | rfl)
    (case c28 => first | k_is | rfl)
    (case k28 => first | k_is | rfl)
    (case l29 => first | k_is | rfl)
    (case c29 => first | k_is | rfl)
    (case k29 => first | k_is | rfl)
    (case l30 => first | k_is | rfl)
    (case c30 => first | k_is | rfl)
    (case k30 => first | k_is | rfl)
    (case l31 => first | k_is | rfl)
    (case c31 => first | k_is | rfl)
    (case k31 => first | k_is | rfl)
    (case z_isinstance => first | k_is | rfl)
    (case z_int => first | k_is | rfl)
    (case z_bool => first | k_is | rfl)
    (case z_tuple => first | k_is | rfl)
    (case z_len => first | k_is | rfl)
    (case z_all => first | k_is | rfl)
    (case z_enumerate => first | k_is | rfl)
    (case z_reversed => first | k_is | rfl)
    (case z_sorted => first | k_is | rfl)
    (case z_max => first | k_is | rfl)
    (case z_min => first | k_is | rfl)
    (case z_abs => first | k_is | rfl)
    (case z_range => first | k_is | rfl)
    (case z_list => first | k_is | rfl)
    (case z_repr => first | k_is | rfl)
    (case z_sum => first | k_is | rfl)
    (case z_any => first | k_is | rfl)
    (case z_zip => first | k_is | rfl)
    (case z_str => first | k_is | rfl)
    (case z_set => first | k_is | rfl)
    (case z_dict => first | k_is | rfl)
    (case x_0 => first | k_exc | rfl)
    (case k_0 => first | k_is | rfl)
    (case b_0 => first | k_is | rfl)
    (case t_0 => first | k_is | rfl)
    (case ga_0 => first | k_is | rfl)
    (case gt_0 => first | k_is | rfl)
    (case hd_0 => first | k_is | rfl)
    (case hc_0 => first | k_is | rfl)
    (case hm_0 => first | k_is | rfl)
    (case v_0 => first | k_is | rfl)
    (case y_0_0 => first | k_is | rfl)
    (case m_factorial => first | k_is | rfl)
    (case sn => first | k_is | rfl)
    (case st => first | k_is | rfl)
    (case tt => first | k_is | rfl)
    (case tn => first | k_is | rfl)
