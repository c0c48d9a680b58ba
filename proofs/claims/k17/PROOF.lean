import PyProof.Rows.All
import Wide.All
import OpenK.AllK
import Wide.FinOn
import KE.GoesMore
import KE.GoesEnum
import HandS.Base
import HandS.Call
import HandS.List
import HandS.Comp
import HandS.Dict
import HandS.Iter
import HandS.Walk
import HandS.Exc
import HandS.ExcOwn
import Flt.Len
import HandS.ForMost
import HandS.ForExc
import HandS.Wide
import HandS.IsInst
import HandS.ExcIs
import HandS.Conv
import HandS.TupAny
import HandS.SetFor
import HandS.Style
import HandS.CallSlots
import HandS.Codes
import PyProof.ReprBulk
import PyProof.ReprRoads
import HandS.Gcd
import HandS.Zip
import HandS.TupMul
import KE.KMathGC
import HandS.SortInts
import HandS.DictComp
import KE.KDictCopyH
import HandS.TryOnly
import HandS.NoneIn
import PySem.Challenge.RW_heldbehind_k17_sequences_with_stages_by
set_option Elab.async false
set_option linter.all false
set_option maxRecDepth 100000
set_option maxHeartbeats 4000000
/-! Z0: rules of my own beside the hand layer: enumerate over a tuple, powers of great ints, an own error without arguments, list.count of flat items. -/
namespace L2
open PySem PySem.Spec PyProof.Rows
/-! ### enumerate(tuple) -/
theorem zen_new (t : Addr) (items : Array Value) :
    Meets (Builtin.«enumerate.__new__» ⟨[.type "enumerate", .ref t], []⟩) (fun _ R s => s.heap.IsTuple t items ∧
      R (.ok (.ret (.ref (s.heap.push { cls := .type "tuple_iterator", data := .fields #[.ref t, .int 0 0] }).objs.size)))
        { s with heap := (s.heap.push { cls := .type "tuple_iterator", data := .fields #[.ref t, .int 0 0] }).push { cls := .type "enumerate", data := .fields #[.none, .bool false, .ref s.heap.objs.size, rawInt 0, .none, .none] } }) :=
  .of_wp fun prog w A R s hs => by
    obtain ⟨hp, g, d, tk, os⟩ := s; obtain ⟨ht, hs⟩ := hs
    have hsb := sub_enumerate
    have q1 : ∀ {A' : Around} {E : Value → Shared → Prop} {Q : Value → Shared → Prop}, Q (.ref hp.objs.size) ⟨hp.push { cls := .type "tuple_iterator", data := .fields #[.ref t, .int 0 0] }, g, d, tk, os⟩ → wpAny (model prog w) A' (pyIter (.ref t)) Q E ⟨hp, g, d, tk, os⟩ :=
      fun q => wpAny_pyIter_tuple (s := ⟨hp, g, d, tk, os⟩) ht q
    wp_walk using q1
    refine wpAny_stack_any fun st => wpAny_pure ?_
    split
    · rename_i c _ _ _ _ _
      cases hce : (c == Value.type "enumerate")
      · wp_walk using q1
        exact ⟨_, rfl, hs⟩
      · wp_walk using q1
        exact ⟨_, rfl, hs⟩
    · wp_walk using q1
      exact ⟨_, rfl, hs⟩
section
variable {prog : Program} {w : World} {A : Around} {E : Value → Shared → Prop} {s : Shared}
theorem zen_call {t : Addr} {items : Array Value} {Q : Value → Shared → Prop} (ht : s.heap.IsTuple t items)
    (h : ∀ h', IsEnum h' (s.heap.objs.size + 1) s.heap.objs.size 0 .none → h'.IsTupleIter s.heap.objs.size t 0 →
      (∀ b o, s.heap.get? b = some o → h'.get? b = some o) → Q (.ref (s.heap.objs.size + 1)) { s with heap := h' }) :
    wpAny (model prog w) A (call (.type "enumerate") [.ref t]) Q E s := by
  refine callType_new F.called_enumerate (by decide) (F.typeCall_enumerate_1 _) (F.newCall_enumerate_1 _) (fun obj => F.args_object_init_2 obj _) F.entry_enumerate_new (zen_new t items) ⟨ht, ?_⟩
  have hz : (s.heap.push { cls := .type "tuple_iterator", data := .fields #[.ref t, .int 0 0] }).objs.size = s.heap.objs.size + 1 := Heap.size_push ..
  show _ ∧ _
  rw [hz]
  have he := Heap.get?_push_size (s.heap.push { cls := .type "tuple_iterator", data := .fields #[.ref t, .int 0 0] }) (o := { cls := .type "enumerate", data := .fields #[.none, .bool false, .ref s.heap.objs.size, rawInt 0, .none, .none] }) rfl
  rw [hz] at he
  refine ⟨⟨_, he, rfl⟩, h _ he ⟨_, Heap.get?_push_of_some _ (Heap.get?_push_size _ rfl), rfl, rfl⟩ fun b o e => Heap.get?_push_of_some _ (Heap.get?_push_of_some _ e)⟩
end
/-- the tuple at a as it stands at each turn, each item in a new pair -/
def IteT (K : PySem.W.Frag) (a : Addr) : It :=
  ⟨fun i H => ∃ (xs : List V) (x : V), SqT K H a xs ∧ xs[i]? = some x, fun i H v H' => ∃ T x, v = .ref T ∧ H T = none ∧ H' = upd H T (.tup [.int (i : Nat), x]) ∧ ∀ ys, SqT K H a ys → ys[i]? = some x, fun i H => ∃ xs : List V, SqT K H a xs ∧ xs.length = i⟩
theorem zen_turn {P : Program} {w : World} {K : PySem.W.Frag} {elts : List Expr} {kk : Nat} {tpos : Pos} (a e it : Addr) :
    Turn P w K (.Tuple elts kk tpos) (IteT K a) [e, it] e (fun i h => (∃ old, IsEnum h e it ((i : Nat) : Int) old) ∧ h.IsTupleIter it a i ∧ e ≠ it) where
  mem := by simp
  obj := fun i h st b hb => by
    obtain ⟨⟨old, he⟩, ⟨o, ho, hc, hd⟩, _⟩ := st
    have e' : b = e ∨ b = it := by simpa using hb
    rcases e' with z | z
    · exact ⟨_, by rw [z]; exact he, fun v q => by cases q⟩
    · exact ⟨o, by rw [z]; exact ho, fun v q => by rw [hd] at q; cases q⟩
  keep := fun i h h' st k => let ⟨⟨old, he⟩, hi, hne⟩ := st; ⟨⟨old, k e (by simp) _ he⟩, hi.at fun o q => k it (by simp) o q, hne⟩
  item := by
    intro X hP hw hK hc i pins s σ H E I hf st hg
    subst hP hw hK
    obtain ⟨⟨old, he⟩, hit, hne⟩ := st
    obtain ⟨xs, x, hq, hx⟩ := hg
    obtain ⟨its, rv, p, hz⟩ := I.tuple hq
    obtain ⟨u, hu, ru⟩ := rv.get hx
    have hel : e < s.heap.objs.size := Heap.lt_size he
    have hil : it < s.heap.objs.size := by obtain ⟨_, q, _⟩ := hit; exact Heap.lt_size q
    have hai : a ≠ it := by
      intro z
      obtain ⟨o1, q1, c1, _⟩ := p
      obtain ⟨o2, q2, c2, _⟩ := hit
      rw [z, q2] at q1
      cases q1
      rw [c2] at c1
      exact absurd c1 (by decide)
    have hae : a ≠ e := by
      intro z
      obtain ⟨o1, q1, c1, _⟩ := p
      rw [z] at q1
      have q3 := he.symm.trans q1
      cases q3
      have c2 : ("enumerate" : String) = "tuple" := Value.type.inj c1
      exact absurd c2 (by decide)
    have hlt : i < its.toArray.size := by
      have := (List.getElem?_eq_some_iff.mp hu).1
      simpa using this
    have D := Draws.tuple (prog := X.prog) (w := X.w) (A := X.A.in1) (I.ok.hd hc) it a hai its.toArray
    refine wpAny_pyNext_enum_itemD D he ⟨hit, p⟩ hlt hne (by simp [hne, Ne.symm hae]) fun y h' tk hy ho hst hT hsz hk => ?_
    have ey : y = u := by
      have q4 : its[i]? = some y := by simpa using hy
      rw [hu] at q4
      exact (Option.some.inj q4).symm
    subst ey
    refine ⟨_, rfl, wpAny_letOwnedTupleGo_enum (s := { s with heap := h', toks := tk + 1 }) ho fun h'' he' sb => ?_⟩
    have hT2 : h''.get? s.heap.objs.size = some { cls := .type "tuple", data := .seq #[.int i tk, y] } := (sb.2 _ (Nat.ne_of_gt hel)).trans hT
    have new : ObjOk X.prog X.w (upd H s.heap.objs.size (.tup [.int (i : Nat), x])) h'' s.heap.objs.size (.tup [.int (i : Nat), x]) :=
      ⟨by show 2 ≤ sizeLine; decide, [.int i tk, y], .cons ⟨_, rfl⟩ (.cons ru .nil), ⟨_, hT2, rfl, _, rfl⟩⟩
    have I1 : Inv X pins σ (upd H s.heap.objs.size (.tup [.int (i : Nat), x])) { s with heap := h'', toks := tk + 1 } :=
      I.turnedNew (ch := [e, it]) (fun b ob hb q => (sb.2 b (fun z => hb (by simp [z]))).trans (hk b ob (fun z => hb (by simp [z])) (fun z => hb (by simp [z])) q)) hf (Nat.le_refl _) new
    refine ⟨.ref s.heap.objs.size, _, I1, rfl, ⟨_, x, rfl, I.hok.fresh (Nat.le_refl _), rfl, fun ys hy => by rw [I.tuple_inj hy hq]; exact hx⟩, ⟨⟨y, ?_⟩, hst.1.at fun o q => (sb.2 it (Ne.symm hne)).trans q, hne⟩, fun b hb => ?_⟩
    · have e1 : ((i + 1 : Nat) : Int) = (i : Int) + 1 := by omega
      rw [e1]; exact he'
    · have hb' : b < s.heap.objs.size := by
        rcases (by simpa using hb : b = e ∨ b = it) with z | z
        · rw [z]; exact hel
        · rw [z]; exact hil
      rw [upd_ne (Nat.ne_of_lt hb')]; exact (hf b hb).1
  done := by
    intro X hP hw hK hc i pins s σ H E I hf st hg
    subst hP hw hK
    obtain ⟨⟨old, he⟩, hit, hne⟩ := st
    obtain ⟨xs, hq, hx⟩ := hg
    obtain ⟨its, rv, p, hz⟩ := I.tuple hq
    obtain ⟨f0, f1, f2, f3, f4, f5⟩ := hf it (by simp)
    have hl := rv.length
    have hai : a ≠ it := by
      intro z
      obtain ⟨o1, q1, c1, _⟩ := p
      obtain ⟨o2, q2, c2, _⟩ := hit
      rw [z, q2] at q1; cases q1
      rw [c2] at c1
      exact absurd c1 (by decide)
    have hn : its.toArray.size = i := by simp only [List.size_toArray]; omega
    have D := Draws.tuple (prog := X.prog) (w := X.w) (A := X.A.in1) (I.ok.hd hc) it a hai its.toArray
    rw [hn] at D
    exact wpAny_pyNext_enum_endD D he ⟨hit, p⟩ fun h' eb => ⟨rfl, I.turned (t' := s.toks) (fun b o hb q => eb b o hb q) f0 f1 f3 f4 f5⟩
  self := fun A i s Q E st h => let ⟨⟨_, he⟩, _⟩ := st; wpAny_pyIter_enum he h
def iEnumT (K : PySem.W.Frag) (ta : TA) : TI := fun σ H R => ta σ H fun vs H1 => ∃ a xs, vs = [.ref a] ∧ SqT K H1 a xs ∧ R (IteT K a) H1
theorem pi_enumT {X : Cx} {e : Expr} {ta : TA} {p pos tpos : Pos} {elts : List Expr} {kk : Nat} (hg : Gl X "enumerate") (hm : X.mg "enumerate" = none) (ha : PA X [e] ta) (hs : starEach [e] X.env = [(false, eval e X.env)] := by rfl) :
    PI X (.Tuple elts kk tpos) (.Call (.Name "enumerate" p) [e] [] pos) (iEnumT X.K ta) := by
  refine ⟨fun pins s σ H R I h => Call_ (ld_blt I hg hm boot_enumerate (PyProof.Rows.callWith_type1 (thn (ha.run pos pins s σ H _ I h) fun us s1 ⟨vs, H1, I1, r1, q1⟩ => ?_) hs rfl))⟩
  obtain ⟨a, xs, ex, hq, q⟩ := q1
  subst ex
  cases r1 with
  | cons r rr =>
    cases rr; cases r
    obtain ⟨its, rv, p', hz⟩ := I1.tuple hq
    refine zen_call p' fun h' he hit hk => wpAny_pyIter_enum he ?_
    have I2 : Inv X pins σ H1 { s1 with heap := h' } := I1.kept (t' := s1.toks) hk
    refine ⟨s1.heap.objs.size + 1, [s1.heap.objs.size + 1, s1.heap.objs.size], _, _, H1, rfl, I2, zen_turn a (s1.heap.objs.size + 1) s1.heap.objs.size, ⟨⟨.none, he⟩, hit, Nat.succ_ne_self _⟩, fun b hb => ?_, q⟩
    have hle : s1.heap.objs.size ≤ b := by
      rcases (by simpa using hb : b = s1.heap.objs.size + 1 ∨ b = s1.heap.objs.size) with z | z
      · rw [z]; exact Nat.le_add_right _ _
      · rw [z]; exact Nat.le_refl _
    exact I1.fpOk hle (I1.hok.fresh hle)
theorem walk_enumT {K : PySem.W.Frag} {a : Addr} {xs : List V} : Walk (IteT K a) xs.length (fun H => SqT K H a xs) (YPair (fun i => some (.int (i : Nat))) (fun i => xs[i]?)) := by
  refine ⟨fun i _ hi q => ⟨xs, xs[i], q, by simp [hi]⟩, fun _ q => ⟨xs, q, rfl⟩, fun i H v H' _ q ⟨T, x, h1, h2, h3, h4⟩ => ⟨T, .int (i : Nat), x, h1, h2, h3, rfl, h4 xs q⟩⟩
/-! ### powers -/
def CPowW (i j : Int) : Prop := 0 ≤ j ∧ (Builtin.Int.intBits i : Int) * j ≤ 2 ^ 27
theorem op_powW {X : Cx} : OpR X (binaryOp .Pow) (rI CPowW fun i j => .int (i ^ j.toNat)) := opI fun _ _ _ _ _ _ _ hc q => pow_int hc.1 hc.2 q
theorem cpow3 {i : Int} {b : Nat} (h : i.natAbs < 2 ^ b) (hb : 0 < b) (h9 : b ≤ 9000) : CPowW i 3 := by
  refine ⟨by decide, ?_⟩
  have z : Builtin.Int.intBits i ≤ b := by
    unfold Builtin.Int.intBits
    have y := PySem.Flt.log2_lt_of hb h
    split <;> omega
  have e : (2 : Int) ^ 27 = 134217728 := by decide
  rw [e]; omega
/-! ### an own error without arguments -/
theorem pmk_own0 {X : Cx} {C : Addr} {bmB : List Value} {B newId initId : String} {x : Str} {p pos : Pos} (F : ExcBaseFacts B newId initId bmB) (q : PySem.W.excIn X.K C bmB newId = true) (gC : X.mg x = some (.ref C)) (kC : PySem.W.keepIn X.K (.ref C) = true) (r : Raises X (.ref C)) (hg : Gl X x)
    (hdb : (x == ("__debug__" : Str)) = false := by decide) : PMk X (.Call (.Name x p) [] [] pos) (fun _ H Q => Q (.ref C) none H) := by
  intro pins s σ H Q I h
  refine wpAny_Call_Name_kw (ld_glob I hg gC ?_ hdb)
  refine PySem.W.callWith_K0 I.kIn kC ?_
  obtain ⟨bm, N, nm, qn, bs, hdct, sn, sub, ab, col, dd, k0, k1, k2, k3, k5, mN, hC, hN, hni, T⟩ := exc_obj I.kIn q
  exact wpAny_call_exc_subT F T hC hN hni (fun h' e hm => mk_of I hm r h (I.hok.gone hm.new)) (Nat.zero_le _)
/-! ### list.count of flat items -/
def cntV (y : V) (xs : List V) : Nat := xs.countP fun z => eqV z y
theorem count_eqU {x : V} : ∀ {xs : List V} {us : List Value}, Vals xs us → xs.all flatV = true → us.countP (eqU x) = cntV x xs
  | _, _, .nil, _ => rfl
  | y :: xs, u :: us, .cons r t, f => by
    rw [List.all_cons, Bool.and_eq_true] at f
    unfold cntV
    rw [List.countP_cons, List.countP_cons, eqU_of r f.1, count_eqU t f.2]; rfl
def rCntV (K : PySem.W.Frag) : V → List V → Hp → VK → Prop := fun x xs H Q => ∃ (a : Addr) (ys : List V) (y : V), x = .ref a ∧ xs = [y] ∧ SqL K H a ys ∧ flatV y = true ∧ ys.all flatV = true ∧ Q (.int (cntV y ys : Nat)) H
theorem mt_lcountV {X : Cx} : MtR X "list.count" (rCntV X.K) := by
  intro pins s σ H x xs v us Q I rx rxs h
  obtain ⟨a, ys, y, rfl, rfl, hs, fy, fys, q⟩ := h
  cases rx
  obtain ⟨u, rfl, ru⟩ := rxs.one
  obtain ⟨its, rv, ⟨⟨cls, dd, data, sl⟩, n, ho, hc, hdn, hd⟩, hlen⟩ := I.list hs
  simp only at hc hd
  subst hc hd
  refine call_meets PySem.F.slot_list_count ⟨_, ho, rfl⟩ PySem.F.entry_list_count (PySem.F.args_list_count_2 _ _) (SeqAt.list_countAt a its.toArray n dd sl u (eqU y)) ⟨ho, fun z hz => mem_eqAt ru fy rv fys z (by simpa using hz), ?_⟩
  exact ⟨.int (cntV y ys : Nat), H, I.tok _, ⟨s.toks, by rw [← count_eqU rv fys]⟩, q⟩
end L2

namespace L2
open PySem PySem.Spec PyProof.Rows
/-! ### a def of the text with its name, and one that keeps its promise -/
structure Df (K : PySem.W.Frag) (mg : Str → Option Value) (x : Str) (st : Stmt) (ps : List Str) : Prop where
  ex : ∃ (f : Addr) (fd : FuncData), Fun K x x st f fd ∧ mg x = some (.ref f) ∧ Binds K fd ps [] ∧
    ∃ (kV doc pm : Value) (an : Option Addr) (cdv ct : Value), fd = PySem.W.fnOf x x (defArgs st) (defBody st) (defScope st) .none kV doc pm an cdv ct
structure Kn (P : Program) (w : World) (K : PySem.W.Frag) (mg : Str → Option Value) (base : Heap) (CX : CXT) (k : Nat) (x : Str) (st : Stmt) (ps : List Str) (sp : Sp) : Prop where
  ex : ∃ (f : Addr) (fd : FuncData), FnOk P w K mg base CX k f fd ps sp ∧ mg x = some (.ref f) ∧ PySem.W.keepIn K (.ref f) = true ∧ Binds K fd ps [] ∧
    ∃ (kV doc pm : Value) (an : Option Addr) (cdv ct : Value), fd = PySem.W.fnOf x x (defArgs st) (defBody st) (defScope st) .none kV doc pm an cdv ct
section
variable {P : Program} {w : World} {K : PySem.W.Frag} {mg : Str → Option Value} {base : Heap} {x : Str} {st : Stmt} {ps N : List Str} {k : Nat} {sp : Sp}
theorem Df.mk' {f : Addr} {oc : Value} {od an : Option Addr} {osl : Array (Option Value)} {kV doc pm cdv ct : Value} (l : K.lookup f = some ⟨oc, od, .func (PySem.W.fnOf x x (defArgs st) (defBody st) (defScope st) .none kV doc pm an cdv ct), osl⟩)
    (c : PySem.W.codeIn K cdv x = true) (kp : PySem.W.keepIn K (.ref f) = true) (g : mg x = some (.ref f))
    (h : ∀ (kV doc pm : Value) (an : Option Addr) (cdv ct : Value) (us : List Value), us.length = ps.length → bindArgs (PySem.W.fnOf x x (defArgs st) (defBody st) (defScope st) .none kV doc pm an cdv ct) ⟨us, []⟩ = pure (ps.zip us)) : Df K mg x st ps :=
  ⟨f, _, fun_mk l c kp, g, (fun_mk l c kp).binds h, _, _, _, _, _, _, rfl⟩
theorem Df.ok (D : Df K mg x st ps) (S : FnScope N ps (defScope st)) (len : ∀ vs H Q E, sp vs H Q E → vs.length = ps.length)
    (hb : ∀ (f : Addr) (cdv : Value) (A : Around) (outer : List Env) (s : Shared) (H : Hp) (vs : List V) (Q : VK) (E : XK), Room k (A.deeper (envOfC x (defScope st) s.heap.objs.size f cdv)) → sp vs H Q E →
      ∃ t, PSs (cxOf CX0 P w K mg base N x (defScope st) f cdv A outer s H E).nox (defBody st) t ∧ t { nx := fun _ H' => Q .non H', rt := Q } (start N vs) H) : Kn P w K mg base CX0 (k + 1) x st ps sp := by
  obtain ⟨f, fd, F, g, b, e⟩ := D.ex
  exact ⟨f, fd, F.ok S len fun cdv A outer s H vs Q E hr h => hb f cdv A outer s H vs Q E hr h, g, F.kp, b, e⟩
theorem Df.okX (D : Df K mg x st ps) (S : FnScope N ps (defScope st)) (len : ∀ vs H Q E, sp vs H Q E → vs.length = ps.length)
    (hb : ∀ (f : Addr) (cdv : Value) (A : Around) (outer : List Env) (s : Shared) (H : Hp) (vs : List V) (Q : VK) (E : XK), Room k (A.deeper (envOfC x (defScope st) s.heap.objs.size f cdv)) → sp vs H Q E →
      ∃ t, PSs (cxOf (L2.CX P w) P w K mg base N x (defScope st) f cdv A outer s H E) (defBody st) t ∧ t { nx := fun _ H' => Q .non H', rt := Q } (start N vs) H) : Kn P w K mg base (L2.CX P w) (k + 1) x st ps sp := by
  obtain ⟨f, fd, F, g, b, e⟩ := D.ex
  exact ⟨f, fd, F.okX S len fun cdv A outer s H vs Q E hr h => hb f cdv A outer s H vs Q E hr h, g, F.kp, b, e⟩
end
section
variable {X : Cx} {CX : CXT} {k : Nat} {x : Str} {st : Stmt} {ps ks : List Str} {sp : Sp} {E : XK} {p pos : Pos} {e : Expr} {es : List Expr} {kws : List Keyword} {t tk : TA}
theorem pe_callF (h : Kn X.prog X.w X.K X.mg X.base CX k x st ps sp) (hr : Room k X.A) (hx : Passes CX X E) (ha : PA X (e :: es) t) (hg : Gl X x := by rfl)
    (hdb : (x == ("__debug__" : Str)) = false := by decide) (he : starEach (e :: es) X.env = (false, eval e X.env) :: starEach es X.env := by rfl) (hpl : (backTo pos (starEach es X.env)).any (·.1) = false := by rfl) :
    PE X (.Call (.Name x p) (e :: es) [] pos) (tCall sp [] E t) := by
  obtain ⟨f, fd, F, g, kp, b, _⟩ := h.ex
  exact pe_call F hr hg g kp b .nil hx ha hdb he hpl
theorem pe_callF0 (h : Kn X.prog X.w X.K X.mg X.base CX k x st ps sp) (hr : Room k X.A) (hx : Passes CX X E) (hg : Gl X x := by rfl) (hdb : (x == ("__debug__" : Str)) = false := by decide) : PE X (.Call (.Name x p) [] [] pos) (tCall sp [] E tNil) := by
  obtain ⟨f, fd, F, g, kp, b, _⟩ := h.ex
  exact pe_call0 F hr hg g kp b .nil hx hdb
theorem pe_callFS {E : St → XK} (h : Kn X.prog X.w X.K X.mg X.base CX k x st ps sp) (hr : Room k X.A) (hx : ∀ σ, PassesAt CX X σ (E σ)) (ha : PA X (e :: es) t) (hg : Gl X x := by rfl)
    (hdb : (x == ("__debug__" : Str)) = false := by decide) (he : starEach (e :: es) X.env = (false, eval e X.env) :: starEach es X.env := by rfl) (hpl : (backTo pos (starEach es X.env)).any (·.1) = false := by rfl) :
    PE X (.Call (.Name x p) (e :: es) [] pos) (tCallS sp E t) := by
  obtain ⟨f, fd, F, g, kp, b, _⟩ := h.ex
  exact pe_callS F hr hg g kp b hx ha hdb he hpl
/-- how keywords bind, whatever the def's loose parts are -/
def KwB (x : Str) (st : Stmt) (ps ks : List Str) (g : List Value → List Value → List Value) (gV : List V → List V → List V) : Prop :=
  (∀ (kV doc pm : Value) (an : Option Addr) (cdv ct : Value) (us ws : List Value), (g us ws).length = ps.length →
    bindArgs (PySem.W.fnOf x x (defArgs st) (defBody st) (defScope st) .none kV doc pm an cdv ct) ⟨us, ks.zip ws⟩ = pure (ps.zip (g us ws))) ∧
  ∀ {vs : List V} {us : List Value} {zs : List V} {ws : List Value}, Vals vs us → Vals zs ws → Vals (gV vs zs) (g us ws)
variable {g : List Value → List Value → List Value} {gV : List V → List V → List V}
theorem pe_callFK (h : Kn X.prog X.w X.K X.mg X.base CX k x st ps sp) (hr : Room k X.A) (hb : KwB x st ps ks g gV) (hx : Passes CX X E) (ha : PA X (e :: es) t) (hkw : PK X kws tk) (hg : Gl X x := by rfl)
    (hall : (backToKw pos (keywordEach kws X.env)).all (·.1.isSome) = true := by rfl) (hks : (backToKw pos (keywordEach kws X.env)).filterMap (·.1) = ks := by rfl)
    (hdb : (x == ("__debug__" : Str)) = false := by decide) (he : starEach (e :: es) X.env = (false, eval e X.env) :: starEach es X.env := by rfl)
    (hpl : ((backTo pos (starEach (e :: es) X.env)).any (·.1) || (backToKw pos (keywordEach kws X.env)).any (·.1.isNone)) = false := by rfl) :
    PE X (.Call (.Name x p) (e :: es) kws pos) (tCallK sp gV E t tk) := by
  obtain ⟨f, fd, F, gm, kp, b, kV, doc, pm, an, cdv, ct, rfl⟩ := h.ex
  exact pe_callK F hr hg gm kp ⟨fun s us ws _ hl => .of_eq (hb.1 kV doc pm an cdv ct us ws hl), hb.2⟩ hx ha hkw hall hks hdb he hpl
/-- f(k = v, ..), no positional -/
theorem pe_callFK0 (h : Kn X.prog X.w X.K X.mg X.base CX k x st ps sp) (hr : Room k X.A) (hb : KwB x st ps ks g gV) (hx : Passes CX X E) (hkw : PK X kws tk) (hg : Gl X x := by rfl)
    (hall : (backToKw pos (keywordEach kws X.env)).all (·.1.isSome) = true := by rfl) (hks : (backToKw pos (keywordEach kws X.env)).filterMap (·.1) = ks := by rfl)
    (hdb : (x == ("__debug__" : Str)) = false := by decide)
    (hpl : ((backTo pos (starEach [] X.env)).any (·.1) || (backToKw pos (keywordEach kws X.env)).any (·.1.isNone)) = false := by rfl) :
    PE X (.Call (.Name x p) [] kws pos) (tCallK sp gV E tNil tk) := by
  obtain ⟨f, fd, F, gm, kp, b, kV, doc, pm, an, cdv, ct, rfl⟩ := h.ex
  have hbb : KBinds X.K (PySem.W.fnOf x x (defArgs st) (defBody st) (defScope st) .none kV doc pm an cdv ct) ps ks g gV := ⟨fun s us ws _ hl => .of_eq (hb.1 kV doc pm an cdv ct us ws hl), hb.2⟩
  refine ⟨fun pins s σ H Q I hq => wpAny_Call_Name_kw (ld_glob I hg gm ?_ hdb)⟩
  refine PySem.W.callWith_KW0 (h₀ := X.base) I.ok.mod.kin kp hall (thn (hkw.run pos pins s σ H _ I hq) fun ws s2 ⟨zs, H2, I2, rz, q2⟩ => ⟨I2.kIn, ?_⟩) hpl
  rw [hks]
  exact run_fnk F hr hbb hx I2 .nil rz q2
end
/-! ### rules whose reading names K outright (for a comprehension's block) -/
def rLenK (K : PySem.W.Frag) : List V → Hp → VK → Prop := fun xs H Q => ∃ x n, xs = [x] ∧ LenV K x H n ∧ Q (.int n) H
theorem call_lenK {X : Cx} (K : PySem.W.Frag) (e : X.K = K := by rfl) : CallR X (.builtin "len") (rLenK K) := by subst e; exact call_len
theorem call_isiK1 {X : Cx} (K : PySem.W.Frag) (e : X.K = K := by rfl) : CallR X (.builtin "isinstance") (rIsi K) := by subst e; exact call_isi
theorem ix_listK {X : Cx} (K : PySem.W.Frag) (e : X.K = K := by rfl) : IxR X (rIxL K) := by subst e; exact ix_list
theorem ix_tupK {X : Cx} (K : PySem.W.Frag) (e : X.K = K := by rfl) : IxR X (rIxT K) := by subst e; exact ix_tup
theorem op_in_seqK {X : Cx} (K : PySem.W.Frag) (e : X.K = K := by rfl) : OpR X (compareOp .In) (rIn K false) := by subst e; exact op_in_seq
theorem op_notIn_seqK {X : Cx} (K : PySem.W.Frag) (e : X.K = K := by rfl) : OpR X (compareOp .NotIn) (rIn K true) := by subst e; exact op_notIn_seq
theorem op_eqDK {X : Cx} (K : PySem.W.Frag) (hu : X.A.units + 64 < cLine) (e : X.K = K := by rfl) : OpR X (compareOp .Eq) (rEqD K) := by subst e; exact op_eqD hu
theorem op_neDK {X : Cx} (K : PySem.W.Frag) (hu : X.A.units + 64 < cLine) (e : X.K = K := by rfl) : OpR X (compareOp .NotEq) (rNeD K) := by subst e; exact op_neD hu
/-! ### heaps -/
theorem Same.upd {H H' : Hp} {p : Addr} {o : HO} (s : Same H H') (h : H p = none) : Same H (upd H' p o) := fun b u e => by
  rw [upd_ne (ne_of_none e h)]; exact s b u e
theorem Same.new {H H' : Hp} {p : Addr} {o : HO} (s : Same H H') (h : H' p = none) : Same H (L2.upd H' p o) := s.upd (s.free h)
theorem Same.tseq {K : PySem.W.Frag} {H H' : Hp} {a : Addr} {xs : List V} (e : Same H H') (h : SqT K H a xs) : SqT K H' a xs := by
  rcases h with (h | ⟨o, h⟩) | h
  · exact .inl (.inl (e _ _ h))
  · exact .inl (.inr ⟨o, e _ _ h⟩)
  · exact .inr h
/-- all but what stands at a is as it was -/
def Keep (a : Addr) (H H' : Hp) : Prop := ∀ b o, b ≠ a → H b = some o → H' b = some o
theorem Keep.refl (a : Addr) (H : Hp) : Keep a H H := fun _ _ _ h => h
theorem Keep.trans {a : Addr} {H H1 H2 : Hp} (x : Keep a H H1) (y : Keep a H1 H2) : Keep a H H2 := fun b o hb h => y b o hb (x b o hb h)
theorem Same.keep {a : Addr} {H H' : Hp} (s : Same H H') : Keep a H H' := fun b o _ h => s b o h
theorem Keep.upd (a : Addr) (H : Hp) (o : HO) : Keep a H (upd H a o) := fun b u hb h => by rw [upd_ne hb]; exact h
theorem Keep.new {a p : Addr} {H H' : Hp} {o : HO} (x : Keep a H H') (h : H' p = none) : Keep a H (L2.upd H' p o) := fun b u hb e => by
  have q := x b u hb e
  rw [upd_ne (ne_of_none q h)]; exact q
end L2

/-! Z2: promises of defs that are called where no repr is under way; repr; a tuple held against (). -/
namespace L2
open PySem PySem.Spec PyProof.Rows
/-! ### promises that hold where no repr is under way -/
structure Qui (P : Program) (w : World) (K : PySem.W.Frag) (mg : Str → Option Value) (base : Heap) (k : Nat) (f : Addr) (fd : FuncData) (ps : List Str) (sp : Sp) : Prop where
  many : ∀ vs H Q E, sp vs H Q E → vs.length = ps.length
  go : ∀ (A : Around) (outer : List Env) (s : Shared) (H : Hp) (args : Args) (us : List Value) (vs : List V) (Q : VK) (E : XK), Room k A → A.guards = some [] → Env0 P w K mg base A outer s H → BindsTo s fd args (ps.zip us) →
    Vals vs us → sp vs H Q E → codeAny (model P w) A (.call (.ref f) args) (CR CX0 outer P w H s Q E) s
structure KnQ (P : Program) (w : World) (K : PySem.W.Frag) (mg : Str → Option Value) (base : Heap) (k : Nat) (x : Str) (st : Stmt) (ps : List Str) (sp : Sp) : Prop where
  ex : ∃ (f : Addr) (fd : FuncData), Qui P w K mg base k f fd ps sp ∧ mg x = some (.ref f) ∧ PySem.W.keepIn K (.ref f) = true ∧ Binds K fd ps []
theorem fin_flow {X : Cx} {outer : List Env} {P : Program} {w : World} {H : Hp} {s s' : Shared} {Q : VK} {E : XK} {fl : Flow} (hp : X.prog = P) (hw : X.w = w) (h0 : X.s_0 = s) (hH : X.H_0 = H) (hf : X.fs = frs outer) (he : X.ex = []) :
    SP X [] { nx := fun _ H' => Q .non H', rt := Q } fl s' → CR CX0 outer P w H s Q E (.ok (.ret (match fl with | .ret v => v | _ => .none))) s' := by
  intro h
  subst hp hw h0 hH
  have last : ∀ {σ : St} {H' : Hp} {v : V} {u : Value}, Inv X [] σ H' s' → RelV v u → Q v H' → CE outer X.prog X.w X.H_0 X.s_0 Q u s' := by
    intro σ H' v u I r q
    have b := I.base
    rw [hf, he] at b
    exact ⟨v, H', I.os, I.bare, b, I.hok, r, q⟩
  match fl, h with
  | .ret u, ⟨_, _, _, I, r, q⟩ => exact last I r q
  | .next, ⟨_, _, I, q⟩ => exact last (v := .non) (u := .none) I rfl q
  | .brk, ⟨_, _, _, q⟩ => exact q.elim
  | .cont, ⟨_, _, _, q⟩ => exact q.elim
section
variable {P : Program} {w : World} {K : PySem.W.Frag} {mg : Str → Option Value} {base : Heap} {x : Str} {st : Stmt} {ps N : List Str} {k : Nat} {sp : Sp}
theorem Fun.quiet {f : Addr} {fd : FuncData} (F : Fun K x x st f fd) (S : FnScope N ps (defScope st)) (many : ∀ vs H Q E, sp vs H Q E → vs.length = ps.length)
    (hb : ∀ (cdv : Value) (A : Around) (outer : List Env) (s : Shared) (H : Hp) (vs : List V) (Q : VK) (E : XK), Room k (A.deeper (envOfC x (defScope st) s.heap.objs.size f cdv)) → A.guards = some [] → sp vs H Q E →
      ∃ t, PSs (cxOf CX0 P w K mg base N x (defScope st) f cdv A outer s H E).nox (defBody st) t ∧ t { nx := fun _ H' => Q .non H', rt := Q } (start N vs) H) : Qui P w K mg base (k + 1) f fd ps sp := by
  refine ⟨many, ?_⟩
  obtain ⟨oc, od, kV, doc, pm, an, cdv, ct, osl, rfl, found, code⟩ := F.ex
  intro A outer s H args us vs Q E room quiet here binds vals promise
  have old : ∀ b o, base.get? b = some o → s.heap.get? b = some o := fun b o e => (here.bs b o e).1
  have kin := here.mod.kin.keeps old
  refine codeAny_call_function room.depth (kin _ _ found) rfl S.co S.gen rfl (PySem.W.codeRec_of kin code) (binds _ _ _ _ (wpAny_newFunctionEnv_cells S.kind ?_ ?_))
  · rintro ⟨n, v⟩ hy
    exact (S.par n (List.of_mem_zip hy).1).imp id fun z => ⟨z, PySem.W.cellsFrom_some _ _ _ (.inl z)⟩
  · rintro _ rfl s1 called
    obtain ⟨t, ht, h0⟩ := hb cdv A outer s H vs Q E (room.deeper _) quiet promise
    have I := inv_start (CX := CX0) (E := E) S room.hd here (many _ _ _ _ promise) vals called
    refine ⟨(here.mod.nolimit.keeps old).keeps called.toInCall.keep, codeAny_func ?_⟩
    exact wpAny_mono (ht.nox.run [] s1 _ H _ I h0) (fun _ _ h => fin_flow (X := cxOf CX0 P w K mg base N x (defScope st) f cdv A outer s H E) (outer := outer) (E := E) rfl rfl rfl rfl rfl rfl h) fun _ _ h => h
theorem Df.okQ (D : Df K mg x st ps) (S : FnScope N ps (defScope st)) (many : ∀ vs H Q E, sp vs H Q E → vs.length = ps.length)
    (hb : ∀ (f : Addr) (cdv : Value) (A : Around) (outer : List Env) (s : Shared) (H : Hp) (vs : List V) (Q : VK) (E : XK), Room k (A.deeper (envOfC x (defScope st) s.heap.objs.size f cdv)) → A.guards = some [] → sp vs H Q E →
      ∃ t, PSs (cxOf CX0 P w K mg base N x (defScope st) f cdv A outer s H E).nox (defBody st) t ∧ t { nx := fun _ H' => Q .non H', rt := Q } (start N vs) H) : KnQ P w K mg base (k + 1) x st ps sp := by
  obtain ⟨f, fd, F, g, b, e⟩ := D.ex
  exact ⟨f, fd, F.quiet S many fun cdv A outer s H vs Q E => hb f cdv A outer s H vs Q E, g, F.kp, b⟩
end
section
variable {X : Cx} {k : Nat} {x : Str} {st : Stmt} {ps : List Str} {sp : Sp} {E : XK} {p pos : Pos} {e : Expr} {es : List Expr} {t : TA}
theorem pe_callQ (h : KnQ X.prog X.w X.K X.mg X.base k x st ps sp) (hr : Room k X.A) (hq : X.A.guards = some []) (ha : PA X (e :: es) t) (hg : Gl X x := by rfl)
    (hdb : (x == ("__debug__" : Str)) = false := by decide) (he : starEach (e :: es) X.env = (false, eval e X.env) :: starEach es X.env := by rfl) (hpl : (backTo pos (starEach es X.env)).any (·.1) = false := by rfl) :
    PE X (.Call (.Name x p) (e :: es) [] pos) (tCall sp [] E t) := by
  obtain ⟨f, fd, F, gm, kp, b⟩ := h.ex
  constructor
  intro pins s σ H Q I h
  refine wpAny_Call_Name_kw (ld_glob I hg gm (PySem.W.callWith_K (h₀ := X.base) I.ok.mod.kin kp (thn (ha.run pos pins s σ H _ I h) ?_) he hpl) hdb)
  rintro us s1 ⟨vs, H1, J, r, q⟩
  rw [List.append_nil] at q
  refine ⟨J.kIn, wpAny_call (codeAny_mono (F.go X.A X.stack s1 H1 ⟨us, []⟩ us vs Q E hr hq J.env0 ?_ r q) ?_)⟩
  · have z := b s1 us J.kIn (by rw [List.append_nil, ← r.length]; exact F.many _ _ _ _ q)
    rw [List.append_nil] at z; exact z
  · rintro (e | fl) s' z
    · exact z.elim
    · match fl, z with
      | .ret u, z => exact J.after z
      | .next, z => exact z.elim
      | .brk, z => exact z.elim
      | .cont, z => exact z.elim
end
/-! ### a law whose def is such a one -/
/-- the heap in which just the script may be tracked -/
theorem script_hp {P : Program} {w : World} {K : PySem.W.Frag} {s : Shared} {a : Addr} {vs : List Value} {ns : List Int} (kin : K.In s.heap) (ha : s.heap.get? a = some { cls := .type "list", data := .seq vs.toArray }) (hi : IntsAre vs ns) (hl : ns.length ≤ sizeLine) :
    ∃ H : Hp, Only H ∧ SqL K H a (ns.map V.int) ∧ HOk P w H s.heap ∧ (∀ b o, H b = some o → b = a ∧ K.lookup a = none ∧ o = .frz { cls := .type "list", data := .seq vs.toArray } (.lst (ns.map V.int))) := by
  have r := vals_ints hi
  rcases hk : K.lookup a with _ | o
  · have off : ∀ b o, (if b = a then some (HO.frz { cls := .type "list", data := .seq vs.toArray } (.lst (ns.map V.int))) else none) = some o → b = a ∧ o = .frz { cls := .type "list", data := .seq vs.toArray } (.lst (ns.map V.int)) := fun b o z => by
      split at z
      · exact ⟨by assumption, (Option.some.inj z).symm⟩
      · cases z
    refine ⟨fun b => if b = a then some (.frz { cls := .type "list", data := .seq vs.toArray } (.lst (ns.map V.int))) else none, fun b => ?_, .inl (.inr ⟨_, if_pos rfl⟩), fun b o z => ?_, fun b o z => ⟨(off b o z).1, rfl, (off b o z).2⟩⟩
    · by_cases c : b = a
      · exact .inr ⟨_, _, if_pos c⟩
      · exact .inl (if_neg c)
    · obtain ⟨rfl, rfl⟩ := off b o z
      exact ⟨ha, by rw [List.length_map]; exact hl, vs, _, r, ha⟩
  · have z := ha.symm.trans (kin a o hk)
    cases z
    exact ⟨fun _ => none, fun _ => .inl rfl, .inr ⟨_, vs.toArray, _, hk, rfl, rfl, rfl, by rw [List.size_toArray, hi.length]; exact hl, by simpa using r⟩, fun _ _ z => (by cases z), fun _ _ z => (by cases z)⟩
theorem law_callQ {P : Program} {w : World} {K : PySem.W.Frag} {mg mb : Str → Option Value} {k : Nat} {fa a : Addr} {fd : FuncData} {x : Str} {sp : Sp} {s : Shared} {vs : List Value} {ns : List Int}
    (kin : K.In s.heap) (glob : s.heap.Ns mainGlobals mg) (blt : s.heap.Ns builtinsNs mb) (boot : ∀ x : Str, x ≠ "__name__" → mb x = bootBuiltins x) (lim : s.heap.NoLimit) (gens : s.gens = #[])
    (ha : s.heap.get? a = some { cls := .type "list", data := .seq vs.toArray }) (hi : IntsAre vs ns) (hl : ns.length ≤ sizeLine) (hr : Room k callerA)
    (F : ∀ base : Heap, K.In base → base.Ns mainGlobals mg → Qui P w K mg base k fa fd [x] sp) (bind : ∀ (s : Shared) (u : Value), BindsTo s fd ⟨[u], []⟩ [(x, u)])
    (hsp : ∀ H : Hp, Only H → SqL K H a (ns.map V.int) → sp [.ref a] H (fun v _ => v = .bl true) fun _ _ _ => False) :
    codeAny (model P w) callerA (.call (.ref fa) ⟨[.ref a], []⟩) (fun r s' => r = .ok (.ret (.bool true)) ∧ OldK s.heap s'.heap ∧ s'.os = s.os ∧ AllBare s'.gens) s := by
  obtain ⟨H, only, script, held, alone⟩ := script_hp (P := P) (w := w) kin ha hi hl
  -- what is not the script's object lies in the base
  have low : ∀ {b : Addr} {o : Obj}, s.heap.get? b = some o → (∀ xs n, o.data ≠ .seq xs n ∨ K.lookup b ≠ none) → (hidT s.heap H).get? b = some o := fun {b o} e d => by
    refine hidT_get e ?_
    rcases z : H b with _ | u
    · rfl
    · obtain ⟨rfl, n, _⟩ := alone b u z
      rw [ha] at e
      cases e
      rcases d vs.toArray 0 with y | y
      · exact absurd rfl y
      · exact absurd n y
  have spaces : ∀ {b : Addr} {m : Str → Option Value}, s.heap.Ns b m → (hidT s.heap H).Ns b m := fun ⟨o, es, ep, e, d, z⟩ => ⟨o, es, ep, low e fun xs n => .inl (by rw [d]; intro q; cases q), d, z⟩
  have kinB : K.In (hidT s.heap H) := fun b o e => low (kin b o e) fun xs n => .inr (by intro q; rw [e] at q; cases q)
  have room : Env0 P w K mg (hidT s.heap H) callerA [] s H :=
    ⟨rfl, ⟨kinB, spaces glob, ⟨mb, spaces blt, boot⟩, lim.imp fun mc z => ⟨spaces z.1, z.2⟩⟩, fun _ _ => of_hidT, Nat.le_of_eq (hidT_size _ _), trivial, fun b z => absurd (show b ∈ ([] : List Addr) from z) List.not_mem_nil, held, .of_eq gens⟩
  refine codeAny_mono ((F _ kinB (spaces glob)).go callerA [] s H ⟨[.ref a], []⟩ [.ref a] [.ref a] _ _ hr rfl room (bind s (.ref a)) (.cons rfl .nil) (hsp H only script)) ?_
  rintro (e | fl) s' z
  · exact z.elim
  match fl, z with
  | .next, z => exact z.elim
  | .brk, z => exact z.elim
  | .cont, z => exact z.elim
  | .ret u, ⟨v, H', os, bare, un, held', r, q⟩ =>
    cases (show v = V.bl true from q)
    cases (show u = Value.bool true from r)
    refine ⟨rfl, OldK.of_keep fun b o e => ?_, os, bare⟩
    rcases y : H b with _ | u
    · exact un.keep b o e y (fun z => absurd (show b ∈ ([] : List Addr) from z) List.not_mem_nil) (fun z => absurd (show b ∈ ([] : List Addr) from z) List.not_mem_nil)
    · obtain ⟨rfl, _, rfl⟩ := alone b u y
      have h1 := (held b _ y).1
      have h2 := (held' b _ (un.frzs b _ _ y)).1
      rw [e] at h1
      cases h1
      exact h2
theorem walk_ofQ {l : PySem.W.OpenLaw} {n k : Nat} {q : Program} {loose : List Str} {XP : (Str → Option Value) → Heap → Prop} {YP : World → Heap → Prop} {d : DefRec} {K : Params → PySem.W.Frag} {sp : World → Sp} {x : Str}
    (hn : l.most = some n) (hn2 : n ≤ sizeLine) (hdf : d.params.defaults = []) (hr : Room k callerA) (kin : ∀ (w : World) (h : Heap), YP w h → (K w.params).In h)
    (F : ∀ (w : World) (mg : Str → Option Value) (fa : Addr) (h : Heap), (K w.params).In h → h.Ns mainGlobals mg → mg d.name = some (.ref fa) →
      ∃ fd : FuncData, (∀ (s : Shared) (u : Value), BindsTo s fd ⟨[u], []⟩ [(x, u)]) ∧ ∀ base : Heap, (K w.params).In base → base.Ns mainGlobals mg → Qui l.prog w (K w.params) mg base k fa fd [x] (sp w))
    (hsp : ∀ (w : World) (H : Hp) (a : Addr) (ns : List Int), ns.length ≤ n → Only H → SqL (K w.params) H a (ns.map V.int) → sp w [.ref a] H (fun v _ => v = .bl true) fun _ _ _ => False) :
    PySem.W.WalkO q loose XP YP l.row.toRowW d [] (fun f vs => PySem.call f vs) := by
  refine Att.attach_call hn hdf ?_
  intro w _ s₁ mg mb fa o pm cd doc a vs ns G Y _ _ _ named script whole many bare
  obtain ⟨fd, binds, holds⟩ := F w mg fa _ (kin w _ Y) G.T.g named
  exact law_callQ (kin w _ Y) G.T.g G.T.b G.T.builtins G.T.nolimit bare script whole (Nat.le_trans many hn2) hr holds binds fun H only z => hsp w H a ns many only z
/-! ### repr -/
mutual
/-- what a value reads as; with dicts (all empty) no list may be the interpreter's own -/
inductive Rp (z : Bool) (H : Hp) : V → PyData → Prop
  | non : Rp z H .non .none
  | bl (b : Bool) : Rp z H (.bl b) (.bool b)
  | int (i : Int) : Rp z H (.int i) (.int i)
  | str (x : Str) : Rp z H (.str x) (.str x)
  | lst {a : Addr} {xs : List V} {ds : List PyData} (h : H a = some (.lst xs)) (n : z = true → a ≠ sysModules) (r : Rps z H xs ds) : Rp z H (.ref a) (.list ds)
  | tup {a : Addr} {xs : List V} {ds : List PyData} (h : H a = some (.tup xs)) (r : Rps z H xs ds) : Rp z H (.ref a) (.tuple ds)
  | dct {a : Addr} (y : z = true) (h : H a = some (.dK [])) : Rp z H (.ref a) (.dict [])
inductive Rps (z : Bool) (H : Hp) : List V → List PyData → Prop
  | nil : Rps z H [] []
  | cons {x : V} {xs : List V} {d : PyData} {ds : List PyData} (h : Rp z H x d) (r : Rps z H xs ds) : Rps z H (x :: xs) (d :: ds)
end
section
variable {X : Cx} {pins : List (Addr × Obj)} {σ : St} {H : Hp} {s : Shared} {z : Bool}
mutual
theorem Rp.reads (I : Inv X pins σ H s) : ∀ (d : PyData) (v : V) (u : Value), Rp z H v d → RelV v u → ∃ as, Reads s.heap u d as ∧ (z = true → sysModules ∉ as) ∧ (z = false → d.hasDict = false)
  | .none, _, _, h, r => by
    cases h; cases r
    exact ⟨_, Reads.none, fun _ => List.not_mem_nil, fun _ => rfl⟩
  | .bool b, _, _, h, r => by
    cases h; cases r
    exact ⟨_, Reads.bool b, fun _ => List.not_mem_nil, fun _ => rfl⟩
  | .int i, _, _, h, r => by
    cases h
    obtain ⟨t, rfl⟩ := r
    exact ⟨_, Reads.int i t, fun _ => List.not_mem_nil, fun _ => rfl⟩
  | .str x, _, _, h, r => by
    cases h
    obtain ⟨t, rfl⟩ := r
    exact ⟨_, Reads.str x t, fun _ => List.not_mem_nil, fun _ => rfl⟩
  | .list ds, _, _, h, r => by
    cases h with
    | lst hs n ha =>
      cases r
      obtain ⟨its, rv, ⟨o, m, ho, hc, _, hd⟩, _⟩ := I.list (SqL.of hs)
      obtain ⟨as, hr, h1, h2⟩ := Rps.reads I ds _ its ha rv
      refine ⟨_, Reads.list ho hc hd hr, fun y q => ?_, fun y => ?_⟩
      · rcases List.mem_cons.mp q with q | q
        · exact n y q.symm
        · exact h1 y q
      · rw [PyData.hasDict]; exact h2 y
  | .tuple ds, _, _, h, r => by
    cases h with
    | tup hs ha =>
      cases r
      obtain ⟨its, rv, ⟨o, ho, hc, m, hd⟩, _⟩ := I.tuple (SqT.of hs)
      obtain ⟨as, hr, h1, h2⟩ := Rps.reads I ds _ its ha rv
      exact ⟨_, Reads.tuple ho hc hd hr, h1, fun y => by rw [PyData.hasDict]; exact h2 y⟩
  | .dict kvs, _, _, h, r => by
    cases h with
    | dct y hs =>
      cases r
      obtain ⟨_, hd, vs, kv, o, es, ep, ho, hx, hdt, _, hp, _⟩ := dk_of I.hok hs
      cases kv
      have e0 : es.toList = [] := List.eq_nil_of_length_eq_zero hp.length
      refine ⟨_, Reads.dict (kvs := []) ho hx.1 hdt (by rw [e0]; exact .nil) (by rw [e0]; exact .nil), fun _ q => ?_, fun q => by rw [y] at q; cases q⟩
      rcases List.mem_cons.mp q with q | q
      · exact absurd q.symm (beq_eq_false_iff_ne.mp hd)
      · exact absurd q List.not_mem_nil
theorem Rps.reads (I : Inv X pins σ H s) : ∀ (ds : List PyData) (vs : List V) (us : List Value), Rps z H vs ds → Vals vs us → ∃ as, ReadsAll s.heap us ds as ∧ (z = true → sysModules ∉ as) ∧ (z = false → PyData.hasDictAll ds = false)
  | [], _, _, h, r => by
    cases h; cases r
    exact ⟨_, ReadsAll.nil, fun _ => List.not_mem_nil, fun _ => rfl⟩
  | d :: ds, _, _, h, r => by
    cases h with
    | cons g1 g2 =>
      cases r with
      | cons r1 r2 =>
        obtain ⟨as, q1, a1, a2⟩ := Rp.reads I d _ _ g1 r1
        obtain ⟨bs, q2, b1, b2⟩ := Rps.reads I ds _ _ g2 r2
        refine ⟨_, ReadsAll.cons q1 q2, fun y q => ?_, fun y => ?_⟩
        · rcases List.mem_append.mp q with q | q
          · exact a1 y q
          · exact b1 y q
        · rw [PyData.hasDictAll, a2 y, b2 y]; rfl
end
end
/-- texts that can be told -/
structure Shows (d : PyData) : Prop where
  ok : d.showable = true
  fit : d.shown.length ≤ sizeLine
  deep : d.depth ≤ 60
def rRepr : List V → Hp → VK → Prop := fun xs H Q => ∃ (z : Bool) (x : V) (d : PyData), xs = [x] ∧ Rp z H x d ∧ Shows d ∧ Q (.str d.shown) H
theorem call_repr {X : Cx} {k : Nat} (hr : Room k X.A) (hq : X.A.guards = some []) : CallR X (.builtin "repr") rRepr := by
  intro pins s σ H xs us Q I r h
  obtain ⟨z, x, d, rfl, hp, hs, q⟩ := h
  obtain ⟨u, rfl, rx⟩ := r.one
  have un : X.A.units + (d.depth + 1) < cLine := by
    have h1 := hr.un
    have h2 := hs.deep
    omega
  have refs : ∀ (a : Addr), x = .ref a → wpAny (model X.prog X.w) X.A (call (.builtin "repr") [u]) (EP X pins σ Q) X.xe s := fun a ex => by
    subst ex
    cases rx
    obtain ⟨as, hr, n1, n2⟩ := Rp.reads I d _ _ hp rfl
    refine repr_of_reads' hr hs.ok (fun y => n1 ?_) hq un (fun _ _ e => e) (fun h' t tk keep => ⟨.str d.shown, H, I.kept keep, ⟨t, rfl⟩, q⟩) hs.fit
    rcases z with _ | _
    · rw [n2 rfl] at y; cases y
    · rfl
  cases hp with
  | non => cases rx; exact PySem.P.repr_of_none ⟨.str _, H, I.tok _, ⟨_, rfl⟩, q⟩
  | bl b => cases rx; exact PySem.P.repr_of_bool ⟨.str _, H, I.tok _, ⟨_, rfl⟩, q⟩
  | int i =>
    obtain ⟨t, rfl⟩ := rx
    exact PySem.P.repr_of_int (of_decide_eq_true hs.ok) ⟨.str _, H, I.tok _, ⟨_, rfl⟩, q⟩
  | str y =>
    obtain ⟨t, rfl⟩ := rx
    exact PySem.P.repr_of_str ⟨.str _, H, I.tok _, ⟨_, rfl⟩, q⟩ hs.fit
  | lst _ _ _ => exact refs _ rfl
  | tup _ _ => exact refs _ rfl
  | dct _ _ => exact refs _ rfl
/-! ### == and != of a tuple and () -/
def rEqNil (K : PySem.W.Frag) (ne : Bool) : R2 := fun x y H Q => ∃ a b xs, x = .ref a ∧ y = .ref b ∧ SqT K H a xs ∧ SqT K H b [] ∧ Q (.bl (xor ne (decide (xs = [])))) H
theorem op_eqNil {X : Cx} (hu : X.A.units < cLine) : OpR X (compareOp .Eq) (rEqNil X.K false) := by
  intro pins s σ H x y v u Q I rx ry h
  obtain ⟨a, b, xs, rfl, rfl, ha, hb, q⟩ := h
  cases rx; cases ry
  obtain ⟨its, r, ⟨o, ho, hc, n, hd⟩, _⟩ := I.tuple ha
  obtain ⟨jts, r2, ⟨o2, ho2, hc2, n2, hd2⟩, _⟩ := I.tuple hb
  cases r2
  refine SeqAt.eq_tupleAt (e := fun _ => true) ⟨o, ho, hc, n, hd⟩ ⟨o2, ho2, hc2, n2, hd2⟩ hu (fun j h1 h2 => absurd h2 (Nat.not_lt_zero j)) ?_
  refine ⟨.bl _, H, I, rfl, ?_⟩
  have e : ((List.range (min its.toArray.size ([] : List Value).toArray.size)).all (fun _ => true) && its.toArray.size == ([] : List Value).toArray.size) = (xor false (decide (xs = []))) := by
    cases r with
    | nil => rfl
    | cons _ _ => simp
  rw [e]; exact q
theorem op_neNil {X : Cx} (hu : X.A.units < cLine) : OpR X (compareOp .NotEq) (rEqNil X.K true) := by
  intro pins s σ H x y v u Q I rx ry h
  obtain ⟨a, b, xs, rfl, rfl, ha, hb, q⟩ := h
  cases rx; cases ry
  obtain ⟨its, r, ⟨o, ho, hc, n, hd⟩, _⟩ := I.tuple ha
  obtain ⟨jts, r2, ⟨o2, ho2, hc2, n2, hd2⟩, _⟩ := I.tuple hb
  cases r2
  refine SeqAt.RcNeAt.tuples (e := fun _ => true) ⟨o, ho, hc, n, hd⟩ ⟨o2, ho2, hc2, n2, hd2⟩ hu (fun j h1 h2 => absurd h2 (Nat.not_lt_zero j)) _ _ _ _ ?_
  refine ⟨.bl _, H, I, rfl, ?_⟩
  have e : (!((List.range (min its.toArray.size ([] : List Value).toArray.size)).all (fun _ => true) && its.toArray.size == ([] : List Value).toArray.size)) = (xor true (decide (xs = []))) := by
    cases r with
    | nil => rfl
    | cons _ _ => simp
  rw [e]; exact q
/-- a display of a list, its place told to be none of the interpreter's own -/
def tLstN (t : TA) : TE := fun σ H Q => t σ H fun xs H1 => xs.length ≤ sizeLine ∧ ∀ l, H1 l = none → l ≠ sysModules → Q (.ref l) (upd H1 l (.lst xs))
theorem pe_lstN {X : Cx} {es : List Expr} {pos : Pos} {t : TA} (h : PA X es t) : PE X (.List es pos) (tLstN t) := by
  constructor
  intro pins s σ H Q I hq
  refine wpAny_List_spliced (thn (h.run pos pins s σ H _ I hq) ?_)
  rintro us s1 ⟨xs, H1, J, r, z, q⟩
  refine ⟨r.length ▸ z, .ref s1.heap.objs.size, _, J.laid (o := .lst xs) (t' := s1.toks) (fun _ _ => Heap.get?_push_of_some _) (Nat.le_refl _) ⟨z, us, 0, r, Heap.get?_push_size _ rfl⟩, rfl, q _ (J.hok.fresh (Nat.le_refl _)) (Nat.ne_of_gt J.big)⟩
theorem lt64 {k : Nat} {A : Around} (hr : Room k A) : A.units < cLine := by
  have h := hr.un
  omega
end L2

/-! Z3: math.factorial. -/
namespace L2
open PySem PySem.Spec PyProof.Rows
def fct : Nat → Nat
  | 0 => 1
  | n + 1 => fct n * (n + 1)
theorem fct_same : ∀ n : Nat, Builtin.Math.factorialNat n = fct n
  | 0 => rfl
  | n + 1 => by rw [PySem.W.mc_fac_succ, fct_same n, fct]
theorem cr_factorial {X : Cx} : CallR X (.builtin "math.factorial") (fun vs H Q => ∃ a : Nat, vs = [.int (a : Int)] ∧ a ≤ 20000 ∧ Q (.int ((fct a : Nat) : Int)) H) := by
  intro pins s σ H vs us Q I r h
  obtain ⟨a, rfl, h2, q⟩ := h
  obtain ⟨u, rfl, t, rfl⟩ := r.one
  refine PySem.W.mc_factorial (by omega) (by omega) fun _ => ?_
  rw [Int.toNat_natCast, fct_same]
  exact ⟨.int _, H, I.tok _, ⟨_, rfl⟩, q⟩
theorem fct_pos : ∀ n : Nat, 1 ≤ fct n
  | 0 => Nat.le_refl 1
  | n + 1 => by rw [fct]; exact Nat.mul_pos (fct_pos n) (Nat.succ_pos n)
theorem fct_mono {m n : Nat} (h : m ≤ n) : fct m ≤ fct n := by
  induction h with
  | refl => exact Nat.le_refl _
  | step _ ih => rw [fct]; exact Nat.le_trans ih (Nat.le_mul_of_pos_right _ (Nat.succ_pos _))
theorem fct_small {n : Nat} (h : n ≤ 60) : fct n < 2 ^ 300 := Nat.lt_of_le_of_lt (fct_mono h) (by decide +kernel)
end L2

/-! Z4: list(enumerate(a list)): a new list of new pairs. -/
namespace PySem.F
theorem en_len : typeLookup (.type "enumerate") "__len__" = pure none := by rw [typeLookup_type, builtinLookup_eq_fast]; kernel_rfl
theorem en_hint : typeLookup (.type "enumerate") "__length_hint__" = pure none := by rw [typeLookup_type, builtinLookup_eq_fast]; kernel_rfl
end PySem.F
namespace L2
open PySem PySem.Spec PyProof.Rows
open Sem (wp)
/-- an enumerate object, whatever pair it may have handed out -/
abbrev EnO (h : Heap) (e it : Addr) (g : Value) (b : Bool) (i : Int) (z : Value) : Prop :=
  h.get? e = some ({ cls := .type "enumerate", dict := none, data := .fields #[g, .bool b, .ref it, rawInt i, .none, z], slots := #[] } : Obj)
/-- it is new, or its pair is still there -/
def EnG (h : Heap) (e it : Addr) (g : Value) (b : Bool) : Prop := (g = .none ∧ b = false) ∨ ∃ (a : Addr) (o : Obj), g = rawInt a ∧ h.get? a = some o ∧ a ≠ e ∧ a ≠ it ∧ o.cls = .type "tuple"
structure EnSt (e it l : Addr) (items : Array Value) (i : Nat) (h : Heap) : Prop where
  en : ∃ g b z, EnO h e it g b ((i : Nat) : Int) z ∧ EnG h e it g b
  sit : h.IsListIter it l i
  sli : h.IsList l items
  ne : e ≠ it
theorem EnSt.put {e it l S : Addr} {items : Array Value} {i : Nat} {h h' : Heap} {oS : Obj} (s : EnSt e it l items i h) (hS : h.get? S = some oS) (cS : oS.cls = .type "list") (nl : l ≠ S) (k : ∀ b o, b ≠ S → h.get? b = some o → h'.get? b = some o) : EnSt e it l items i h' := by
  obtain ⟨⟨g, b, z, he, hg⟩, hi, hl, ne⟩ := s
  have other : ∀ {a : Addr} {o : Obj} {c : String}, h.get? a = some o → o.cls = .type c → c ≠ "list" → a ≠ S := fun {a o c} x y n q => by
    rw [q, hS] at x
    cases x
    exact n (Value.type.inj (y.symm.trans cS))
  obtain ⟨o2, ho2, hc2, _⟩ := id hi
  have n1 : e ≠ S := other he rfl (by decide)
  have n2 : it ≠ S := other ho2 hc2 (by decide)
  refine ⟨⟨g, b, z, k _ _ n1 he, ?_⟩, hi.at fun o x => k _ _ n2 x, hl.at fun o x => k _ _ nl x, ne⟩
  rcases hg with hg | ⟨a, o, h1, h2, h3, h4, h5⟩
  · exact .inl hg
  · exact .inr ⟨a, o, h1, k _ _ (other h2 h5 (by decide)) h2, h3, h4, h5⟩
section
variable {prog : Program} {w : World} {A : Around} {E : Value → Shared → Prop} {s : Shared}
theorem alive_wp {M : Model} {a : Addr} {Q : Option Obj → Shared → Prop} (h : Q (s.heap.get? a) s) : wpAny M A (Sem.loadIfAlive a .pure) Q E s := fun _ _ _ => h
/-- the next pair -/
theorem en_step {e it l : Addr} {i : Nat} {items : Array Value} {x : Value} {Q : Value → Shared → Prop} (st : EnSt e it l items i s.heap) (hx : items[i]? = some x)
    (hQ : ∀ h', EnSt e it l items (i + 1) h' → h'.get? s.heap.objs.size = some { cls := .type "tuple", data := .seq #[.int i s.toks, x] } → h'.objs.size = s.heap.objs.size + 1 →
      (∀ b o, b ≠ e → b ≠ it → s.heap.get? b = some o → h'.get? b = some o) → Q (.ref s.heap.objs.size) { s with heap := h', toks := s.toks + 1 }) :
    wpAny (model prog w) A (Builtin.«enumerate.__next__» ⟨[.ref e], []⟩) (fun fin s' => ∃ v, fin = .done (.ret v) ∧ Q v s') E s := by
  obtain ⟨hp, g0, d, tk, os⟩ := s
  obtain ⟨⟨g, b, z, he, hg⟩, hit, hl, hne⟩ := st
  replace he : EnO hp e it g b ((i : Nat) : Int) z := he
  show wpAny (model prog w) A (field (.ref e) 2 >>= _) _ E _
  refine wpAny_bind (wpAny_field he rfl (i := 2) (x := .ref it) rfl ?_)
  refine wpAny_bind (wpAny_nextOf_list_item hit hl hx fun h1 hit1 sb1 => ?_)
  replace sb1 : Heap.SameBut it hp h1 := sb1
  have e1 : EnO h1 e it g b ((i : Nat) : Int) z := (sb1.2 e hne).trans he
  show wpAny (model prog w) A (field (.ref e) 3 >>= _) _ E ⟨h1, g0, d, tk, os⟩
  refine wpAny_bind (wpAny_field e1 rfl (i := 3) (x := rawInt i) rfl ?_)
  show wpAny (model prog w) A (field (.ref e) 4 >>= _) _ E ⟨h1, g0, d, tk, os⟩
  refine wpAny_bind (wpAny_field e1 rfl (i := 4) (x := .none) rfl ?_)
  show wpAny (model prog w) A (mkInt i >>= _) _ E ⟨h1, g0, d, tk, os⟩
  refine wpAny_bind (wpAny_mkInt ?_)
  show wpAny (model prog w) A (setField (.ref e) 3 (rawInt ((i : Int) + 1)) >>= _) _ E ⟨h1, g0, d, tk + 1, os⟩
  refine wpAny_bind (wpAny_setField_rec e1 (by simp) fun h2 e2 sb2 => ?_)
  replace sb2 : Heap.SameBut e h1 h2 := sb2
  replace e2 : EnO h2 e it g b ((i : Int) + 1) z := e2
  show wpAny (model prog w) A (setField (.ref e) 4 .none >>= _) _ E ⟨h2, g0, d, tk + 1, os⟩
  refine wpAny_bind (wpAny_setField_rec e2 (by simp) fun h3 e3 sb3 => ?_)
  replace sb3 : Heap.SameBut e h2 h3 := sb3
  replace e3 : EnO h3 e it g b ((i : Int) + 1) z := e3
  show wpAny (model prog w) A (newTuple [.int i tk, x] >>= _) _ E ⟨h3, g0, d, tk + 1, os⟩
  refine wpAny_bind (wpAny_newTuple ?_)
  have e4 : EnO (h3.push { cls := .type "tuple", data := .seq #[.int i tk, x] }) e it g b ((i : Int) + 1) z := Heap.get?_push_of_some _ e3
  have sz3 : h3.objs.size = hp.objs.size := by rw [sb3.1, sb2.1, sb1.1]
  have lt_e : e < hp.objs.size := Heap.lt_size he
  have t4 : (h3.push { cls := .type "tuple", data := .seq #[.int i tk, x] }).get? hp.objs.size = some { cls := .type "tuple", data := .seq #[.int i tk, x] } := by rw [← sz3]; exact Heap.get?_push_size _ rfl
  have sz4 : (h3.push { cls := .type "tuple", data := .seq #[.int i tk, x] }).objs.size = hp.objs.size + 1 := by rw [Heap.size_push, sz3]
  have k4 : ∀ b o, b ≠ e → b ≠ it → hp.get? b = some o → (h3.push { cls := .type "tuple", data := .seq #[.int i tk, x] }).get? b = some o := fun b o n1 n2 y =>
    Heap.get?_push_of_some _ (sb3.extBut b o n1 (sb2.extBut b o n1 (sb1.extBut b o n2 y)))
  have it4 : (h3.push { cls := .type "tuple", data := .seq #[.int i tk, x] }).IsListIter it l (i + 1) := by
    obtain ⟨o, ho, r⟩ := (hit1.extBut sb2.extBut (Ne.symm hne)).extBut sb3.extBut (Ne.symm hne)
    exact ⟨o, Heap.get?_push_of_some _ ho, r⟩
  have nle : l ≠ e := fun q => by
    obtain ⟨o, ho, hc, _⟩ := id hl
    rw [q] at ho
    have y := he.symm.trans ho
    cases y
    have c2 : ("enumerate" : String) = "list" := Value.type.inj hc
    exact absurd c2 (by decide)
  have nli : l ≠ it := fun q => by
    obtain ⟨o, ho, hc, _⟩ := id hl
    obtain ⟨o2, ho2, hc2, _⟩ := id hit
    rw [q, ho2] at ho
    cases ho
    have c2 : ("list_iterator" : String) = "list" := Value.type.inj (hc2.symm.trans hc)
    exact absurd c2 (by decide)
  have l4 : (h3.push { cls := .type "tuple", data := .seq #[.int i tk, x] }).IsList l items := hl.at fun o y => k4 l o nle nli y
  rw [sz3]
  generalize h3.push { cls := .type "tuple", data := .seq #[.int i tk, x] } = h4 at e4 t4 sz4 k4 it4 l4 ⊢
  clear e3 sb3 e2 sb2 e1 sb1 hit1 sz3
  have tie : ((i + 1 : Nat) : Int) = (i : Int) + 1 := by omega
  show wpAny (model prog w) A (Builtin.SmallTypes.ownedTupleIsFree (.ref e) >>= _) _ E ⟨h4, g0, d, tk + 1, os⟩
  refine wpAny_bind ?_
  unfold Builtin.SmallTypes.ownedTupleIsFree
  rcases hg with ⟨rfl, rfl⟩ | ⟨a, o, rfl, ha, na1, na2, na3⟩
  · refine wpAny_bind (wpAny_field e4 rfl (i := 0) (x := .none) rfl (wpAny_pure ?_))
    simp only [if_true]
    refine wpAny_bind (wpAny_rule (wpAny_bind (wpAny_field e4 rfl (i := 5) (x := z) rfl ?_)))
    refine wpAny_bind (wpAny_setField_rec e4 (by simp) fun h5 e5 sb5 => ?_)
    replace sb5 : Heap.SameBut e h4 h5 := sb5
    replace e5 : EnO h5 e it .none false ((i : Int) + 1) x := e5
    show wpAny (model prog w) A (Builtin.SmallTypes.ownedTupleHandOut (.ref e) (.ref hp.objs.size) >>= _) _ E ⟨h5, g0, d, tk + 1, os⟩
    refine wpAny_bind ?_
    unfold Builtin.SmallTypes.ownedTupleHandOut
    refine wpAny_bind (wpAny_setField_rec e5 (by simp) fun h6 e6 sb6 => ?_)
    replace sb6 : Heap.SameBut e h5 h6 := sb6
    replace e6 : EnO h6 e it (rawInt hp.objs.size) false ((i : Int) + 1) x := e6
    refine wpAny_setField_rec e6 (by simp) fun h7 e7 sb7 => ?_
    replace sb7 : Heap.SameBut e h6 h7 := sb7
    replace e7 : EnO h7 e it (rawInt hp.objs.size) false ((i : Int) + 1) x := e7
    have kk : ∀ b o, b ≠ e → h4.get? b = some o → h7.get? b = some o := fun b o n y => sb7.extBut b o n (sb6.extBut b o n (sb5.extBut b o n y))
    have t7 := kk _ _ (Nat.ne_of_gt lt_e) t4
    refine wpAny_bind (wpAny_letGo (wpAny_pure ⟨_, rfl, hQ h7 ⟨⟨_, _, _, by rw [tie]; exact e7, .inr ⟨_, _, rfl, t7, Nat.ne_of_gt lt_e, ?_, rfl⟩⟩, it4.at fun o y => kk _ _ (Ne.symm hne) y, l4.at fun o y => kk _ _ nle y, hne⟩ t7 (by rw [sb7.1, sb6.1, sb5.1, sz4]) fun b o n1 n2 y => kk b o n1 (k4 b o n1 n2 y)⟩))
    obtain ⟨o2, ho2, _⟩ := hit
    exact Nat.ne_of_gt (Heap.lt_size ho2)
  · have a4 := k4 a o na1 na2 ha
    refine wpAny_bind (wpAny_field e4 rfl (i := 0) (x := rawInt a) rfl ?_)
    show wpAny (model prog w) A (Sem.loadIfAlive a .pure >>= _) _ E ⟨h4, g0, d, tk + 1, os⟩
    refine wpAny_bind (alive_wp ?_)
    show wpAny (model prog w) A (if (h4.get? a).isNone = true then _ else _) _ E ⟨h4, g0, d, tk + 1, os⟩
    rw [a4]
    show wpAny (model prog w) A (field (.ref e) 1 >>= _) _ E ⟨h4, g0, d, tk + 1, os⟩
    refine wpAny_bind (wpAny_field e4 rfl (i := 1) (x := .bool b) rfl ?_)
    have fin : ∀ (h5 : Heap) (b' : Bool), EnO h5 e it (rawInt a) b' ((i : Int) + 1) z → (∀ b o, b ≠ e → h4.get? b = some o → h5.get? b = some o) → h5.objs.size = h4.objs.size → Q (.ref hp.objs.size) ⟨h5, g0, d, tk + 1, os⟩ := fun h5 b' e5 kk sz5 =>
      hQ h5 ⟨⟨_, _, _, by rw [tie]; exact e5, .inr ⟨a, o, rfl, kk _ _ na1 a4, na1, na2, na3⟩⟩, it4.at fun o y => kk _ _ (Ne.symm hne) y, l4.at fun o y => kk _ _ nle y, hne⟩ (kk _ _ (Nat.ne_of_gt lt_e) t4) (sz5.trans sz4) fun b o n1 n2 y => kk b o n1 (k4 b o n1 n2 y)
    cases b with
    | true => exact wpAny_pure (wpAny_pure ⟨_, rfl, fin h4 true e4 (fun _ _ _ y => y) rfl⟩)
    | false =>
      show wpAny (model prog w) A (setField (.ref e) 1 (.bool true) >>= _) _ E ⟨h4, g0, d, tk + 1, os⟩
      refine wpAny_bind (wpAny_setField_rec e4 (by simp) fun h5 e5 sb5 => ?_)
      exact wpAny_pure (wpAny_pure ⟨_, rfl, fin h5 true e5 (fun b o n y => sb5.extBut b o n y) sb5.1⟩)
theorem en_next {e it l : Addr} {i : Nat} {items : Array Value} {x : Value} {Q : Option Value → Shared → Prop} (st : EnSt e it l items i s.heap) (hx : items[i]? = some x)
    (hQ : ∀ h', EnSt e it l items (i + 1) h' → h'.get? s.heap.objs.size = some { cls := .type "tuple", data := .seq #[.int i s.toks, x] } → h'.objs.size = s.heap.objs.size + 1 →
      (∀ b o, b ≠ e → b ≠ it → s.heap.get? b = some o → h'.get? b = some o) → Q (some (.ref s.heap.objs.size)) { s with heap := h', toks := s.toks + 1 }) :
    wpAny (model prog w) A (pyNext (.ref e)) Q E s := by
  obtain ⟨g, b, z, he, _⟩ := st.en
  have ty : s.TypeIs (.ref e) "enumerate" := ⟨_, he, rfl⟩
  unfold pyNext
  exact wpAny_bind (wpAny_attempt (wpAny_callSpecial?_slot (name := Str.ofString "__next__") ty F.slot_enumerate_next (wpAny_call_entry F.slot_enumerate_next ty F.entry_enumerate_next (en_step st hx fun h' a b c d => wpAny_pure (hQ h' a b c d)) (F.args_enumerate_next_1 _))))
theorem en_end {e it l : Addr} {items : Array Value} {Q : Option Value → Shared → Prop} (hh : A.handled = none) (st : EnSt e it l items items.size s.heap) (hQ : ∀ h', Heap.ExtBut it s.heap h' → Q none { s with heap := h' }) : wpAny (model prog w) A (pyNext (.ref e)) Q E s := by
  obtain ⟨⟨g, b, z, he, _⟩, hit, hl, _⟩ := st
  have ty : s.TypeIs (.ref e) "enumerate" := ⟨_, he, rfl⟩
  unfold pyNext
  refine wpAny_bind (wpAny_attempt (wpAny_callSpecial?_slot (name := Str.ofString "__next__") ty F.slot_enumerate_next (wpAny_call_entry F.slot_enumerate_next ty F.entry_enumerate_next ?_ (F.args_enumerate_next_1 _))))
  show wpAny _ _ (field (.ref e) 2 >>= _) _ _ s
  refine wpAny_bind (wpAny_field he rfl (i := 2) (x := .ref it) rfl ?_)
  refine wpAny_bind (wpAny_nextOf_list_end hh hit hl (by simp) fun h' y he' hy => ?_)
  obtain ⟨o, ho, hc⟩ := hy
  exact wpAny_bind (wpAny_isInstance (T := "StopIteration") (b := true) ⟨o, ho, hc⟩ isSubtype_stop (wpAny_pure (hQ _ he')))
/-- the pairs gathered so far -/
structure AccEn (items acc : Array Value) (i : Nat) (h : Heap) (n0 : Nat) : Prop where
  sz : acc.size = i
  at_ : ∀ j : Nat, j < i → ∃ (p : Addr) (tk : Nat) (x : Value), acc[j]? = some (.ref p) ∧ items[j]? = some x ∧ n0 ≤ p ∧ h.get? p = some { cls := .type "tuple", data := .seq #[.int j tk, x] }
theorem AccEn.to {items acc : Array Value} {i n0 : Nat} {h h' : Heap} (a : AccEn items acc i h n0) (k : ∀ b o, n0 ≤ b → h.get? b = some o → h'.get? b = some o) : AccEn items acc i h' n0 := ⟨a.sz, fun j hj => by
  obtain ⟨p, tk, x, h1, h2, h3, h4⟩ := a.at_ j hj
  exact ⟨p, tk, x, h1, h2, h3, k _ _ h3 h4⟩⟩
theorem AccEn.push {items acc : Array Value} {i n0 : Nat} {h : Heap} {p : Addr} {tk : Nat} {x : Value} (a : AccEn items acc i h n0) (hx : items[i]? = some x) (hp : n0 ≤ p) (ht : h.get? p = some { cls := .type "tuple", data := .seq #[.int i tk, x] }) : AccEn items (acc.push (.ref p)) (i + 1) h n0 := ⟨by rw [Array.size_push, a.sz], fun j hj => by
  by_cases c : j < i
  · obtain ⟨p', tk', x', h1, h2, h3, h4⟩ := a.at_ j c
    exact ⟨p', tk', x', by rw [Array.getElem?_push_lt (by rw [a.sz]; exact c), ← Array.getElem?_eq_getElem]; exact h1, h2, h3, h4⟩
  · have e : j = i := by omega
    subst e
    exact ⟨p, tk, x, by rw [← a.sz, Array.getElem?_push_size], hx, hp, ht⟩⟩
theorem en_loop {e it l S : Addr} {items : Array Value} {R : Result → Shared → Prop} {n0 : Nat} (hh : A.handled = none) (hn : items.size ≤ sizeLine) (res : Value) (hSl : S < n0) (hel : e < n0) (hil : it < n0) (nS : S ≠ e ∧ S ≠ it ∧ l ≠ S) :
    ∀ (k i : Nat) (s : Shared) (acc : Array Value) (c : Nat), items.size - i = k → i ≤ items.size → EnSt e it l items i s.heap → n0 ≤ s.heap.objs.size → s.heap.get? S = some { cls := .type "list", dict := none, data := .seq acc c, slots := #[] } → AccEn items acc i s.heap n0 →
    (∀ h' tk acc' c', (∀ b o, b ≠ e → b ≠ it → b ≠ S → s.heap.get? b = some o → h'.get? b = some o) → h'.get? S = some { cls := .type "list", dict := none, data := .seq acc' c', slots := #[] } → AccEn items acc' items.size h' n0 → R (.ok (.ret res)) { s with heap := h', toks := tk }) →
    codeAny (model prog w) A (.builtin "list.extend.loop" ⟨[.ref S, .ref e, res], []⟩) R s := by
  intro k
  induction k with
  | zero =>
    intro i s acc c hk hi st hz hS ha hR
    have ei : i = items.size := by omega
    subst ei
    refine codeAny_builtin F.entry_extend_loop ?_
    rw [Around.under_plainId F.plain_extend_loop _]
    show wpAny _ A.in1 (pyNext (.ref e) >>= _) _ _ s
    refine wpAny_bind (en_end hh st fun h' x => wpAny_pure ?_)
    exact hR h' s.toks acc c (fun b o _ n2 _ y => x b o n2 y) (x _ _ nS.2.1 hS) (ha.to fun b o n y => x b o (Nat.ne_of_gt (Nat.lt_of_lt_of_le hil n)) y)
  | succ k ih =>
    intro i s acc c hk hi st hz hS ha hR
    have lt : i < items.size := by omega
    refine codeAny_builtin F.entry_extend_loop ?_
    rw [Around.under_plainId F.plain_extend_loop _]
    show wpAny _ A.in1 (pyNext (.ref e) >>= _) _ _ s
    obtain ⟨x, hx⟩ : ∃ x, items[i]? = some x := ⟨items[i], by simp [lt]⟩
    refine wpAny_bind (en_next st hx fun h1 st1 t1 sz1 k1 => ?_)
    have hS1 := k1 S _ nS.1 nS.2.1 hS
    show wpAny _ A.in1 (updateSeq S (·.push (.ref s.heap.objs.size)) >>= _) _ _ _
    refine wpAny_bind ?_
    refine wpAny_updateSeq hS1 rfl (wpAny_pure ⟨plainId_quiet F.plain_extend_loop _, ih (i + 1) _ (acc.push (.ref s.heap.objs.size)) _ (by omega) lt ?_ ?_ (Heap.get?_update_self _ hS1 rfl) ?_ fun h' tk acc' c' kk hS' ha' => ?_⟩) (by rw [ha.sz]; omega) (by show (acc.push (.ref s.heap.objs.size)).size ≤ sizeLine + 1; rw [Array.size_push, ha.sz]; omega)
    · exact st1.put hS1 rfl nS.2.2 fun b o n y => (Heap.get?_update_other _ _ (Ne.symm n)).trans y
    · show n0 ≤ (h1.update S _).objs.size
      rw [Heap.size_update, sz1]; omega
    · refine ((ha.to fun b o n y => ?_).push hx hz t1).to fun b o n y => (Heap.get?_update_other _ _ (Nat.ne_of_lt (Nat.lt_of_lt_of_le hSl n))).trans y
      exact k1 b o (Nat.ne_of_gt (Nat.lt_of_lt_of_le hel n)) (Nat.ne_of_gt (Nat.lt_of_lt_of_le hil n)) y
    · exact hR h' tk acc' c' (fun b o n1 n2 n3 y => kk b o n1 n2 n3 ((Heap.get?_update_other _ _ (Ne.symm n3)).trans (k1 b o n1 n2 y))) hS' ha'
theorem en_extend {e it l S : Addr} {items : Array Value} {R : Result → Shared → Prop} (hh : A.handled = none) (hn : items.size ≤ sizeLine) (res : Value) (c : Nat) (he : IsEnum s.heap e it 0 .none) (st : EnSt e it l items 0 s.heap) (hS : s.heap.get? S = some { cls := .type "list", data := .seq #[] c }) (nl : l ≠ S)
    (hR : ∀ h' tk acc' c', (∀ b o, b ≠ e → b ≠ it → b ≠ S → s.heap.get? b = some o → h'.get? b = some o) → h'.get? S = some { cls := .type "list", dict := none, data := .seq acc' c', slots := #[] } → AccEn items acc' items.size h' s.heap.objs.size → R (.ok (.ret res)) { s with heap := h', toks := tk }) :
    wpAny (model prog w) A.in1 (Builtin.List.listExtendWith (.ref S) (.ref e) res) (fun fin s' => match fin with | .done f => R (.ok f) s' | .again c' => c'.quiet = true ∧ codeAny (model prog w) A c' R s') (fun e s' => R (.error e) s') s := by
  have ty : s.TypeIs (.ref e) "enumerate" := ⟨_, he, rfl⟩
  obtain ⟨oi, hoi, hci, _⟩ := id st.sit
  have nS : S ≠ e ∧ S ≠ it ∧ l ≠ S := by
    refine ⟨fun q => ?_, fun q => ?_, nl⟩
    · have y := he.symm.trans (q ▸ hS)
      exact absurd (Value.type.inj (congrArg Obj.cls (Option.some.inj y))) (by decide)
    · rw [q, hoi] at hS
      cases hS
      have c2 : ("list" : String) = "list_iterator" := Value.type.inj hci
      exact absurd c2 (by decide)
  unfold Builtin.List.listExtendWith
  refine wpAny_bind (wpAny_typeOf ty ?_)
  have d1 : Builtin.List.listSameRef (.ref S) (.ref e) = false := by simp [Builtin.List.listSameRef, nS.1]
  have d2 : (Value.type "enumerate" == Value.type "list") = false := by decide
  have d3 : (Value.type "enumerate" == Value.type "tuple") = false := by decide
  simp only [d1, d2, d3, Bool.or_false, Bool.false_eq_true, if_false]
  refine wpAny_bind (wpAny_pyIter_enum he (wpAny_bind (wpAny_holding ?_)))
  unfold Builtin.List.listLengthHint
  refine wpAny_bind (wpAny_specialOf ty F.en_len ?_)
  show wpAny _ A.in1 (specialOf (Value.ref e) (Str.ofString "__length_hint__") >>= _) _ _ s
  refine wpAny_bind (wpAny_specialOf ty F.en_hint (wpAny_pure ?_))
  show wpAny _ A.in1 (rule "list.extend.makes-room" >>= fun _ => Builtin.List.listTouch (.ref S) >>= fun _ => again (.builtin "list.extend.loop" ⟨[.ref S, .ref e, res], []⟩)) _ _ s
  refine wpAny_bind (wpAny_rule (wpAny_bind ?_))
  show wpAny _ A.in1 (updateSeq S (·.push .none) >>= fun _ => updateSeq S (·.pop)) _ _ s
  refine wpAny_bind (wpAny_updateSeq hS rfl ?_)
  have h2 := Heap.get?_update_self (Obj.mapSeq (·.push Value.none)) hS rfl
  refine wpAny_updateSeq (hz := by seq_fits) h2 rfl ?_
  have h3 := Heap.get?_update_self (Obj.mapSeq (·.pop)) h2 rfl
  have ot : ∀ b o, b ≠ S → s.heap.get? b = some o → ((s.heap.update S (Obj.mapSeq (·.push Value.none))).update S (Obj.mapSeq (·.pop))).get? b = some o := fun b o n y =>
    (Heap.get?_update_other _ _ (Ne.symm n)).trans ((Heap.get?_update_other _ _ (Ne.symm n)).trans y)
  have hz : ((s.heap.update S (Obj.mapSeq (·.push Value.none))).update S (Obj.mapSeq (·.pop))).objs.size = s.heap.objs.size := by rw [Heap.size_update, Heap.size_update]
  refine wpAny_pure ⟨plainId_quiet F.plain_extend_loop _, en_loop (n0 := s.heap.objs.size) hh hn res (Heap.lt_size hS) (Heap.lt_size he) (Heap.lt_size hoi) nS items.size 0 _ #[] _ rfl (Nat.zero_le _) (st.put hS rfl nl ot) (Nat.le_of_eq hz.symm) h3 ⟨rfl, fun j hj => absurd hj (Nat.not_lt_zero j)⟩ fun h' tk acc' c' kk hS' ha => ?_⟩
  exact hR h' tk acc' c' (fun b o n1 n2 n3 y => kk b o n1 n2 n3 (ot b o n3 y)) hS' ha
theorem en_init {e it l S : Addr} {items : Array Value} {R : Result → Shared → Prop} (hh : A.handled = none) (hn : items.size ≤ sizeLine) (he : IsEnum s.heap e it 0 .none) (st : EnSt e it l items 0 s.heap) (hS : s.heap.get? S = some { cls := .type "list", data := .seq #[] }) (nl : l ≠ S)
    (hR : ∀ h' tk acc' c', (∀ b o, b ≠ e → b ≠ it → b ≠ S → s.heap.get? b = some o → h'.get? b = some o) → h'.get? S = some { cls := .type "list", dict := none, data := .seq acc' c', slots := #[] } → AccEn items acc' items.size h' s.heap.objs.size → R (.ok (.ret .none)) { s with heap := h', toks := tk }) :
    wpAny (model prog w) A.in1 (Builtin.«list.__init__» ⟨[.ref S, .ref e], []⟩) (fun fin s' => match fin with | .done f => R (.ok f) s' | .again c' => c'.quiet = true ∧ codeAny (model prog w) A c' R s') (fun e s' => R (.error e) s') s := by
  show wpAny _ A.in1 (do let old ← Builtin.List.listItems (.ref S); Builtin.List.listUpdate (.ref S) (fun _ => #[]); letGo old.toList.reverse; Builtin.List.listExtendWith (.ref S) (.ref e) .none) _ _ s
  refine wpAny_bind ?_
  unfold Builtin.List.listItems
  refine wpAny_bind (wpAny_seqItems hS rfl (wpAny_pure ?_))
  show wpAny _ A.in1 (updateSeq S (fun _ => #[]) >>= fun _ => letGo (#[] : Array Value).toList.reverse >>= fun _ => Builtin.List.listExtendWith (.ref S) (.ref e) .none) _ _ s
  refine wpAny_bind (wpAny_updateSeq hS rfl (wpAny_bind (wpAny_letGo ?_)))
  have h2 := Heap.get?_update_self (Obj.mapSeq (fun _ => (#[] : Array Value))) hS rfl
  have ot : ∀ b o, b ≠ S → s.heap.get? b = some o → (s.heap.update S (Obj.mapSeq (fun _ => (#[] : Array Value)))).get? b = some o := fun b o n y => (Heap.get?_update_other _ _ (Ne.symm n)).trans y
  have st2 := st.put hS rfl nl ot
  have ne : e ≠ S := fun q => by
    have y := he.symm.trans (q ▸ hS)
    exact absurd (Value.type.inj (congrArg Obj.cls (Option.some.inj y))) (by decide)
  refine en_extend hh hn .none _ (ot e _ ne he) st2 h2 nl fun h' tk acc' c' kk hS' ha => hR h' tk acc' c' (fun b o n1 n2 n3 y => kk b o n1 n2 n3 (ot b o n3 y)) hS' ?_
  have ez : (s.heap.update S (Obj.mapSeq fun _ => (#[] : Array Value))).objs.size = s.heap.objs.size := Heap.size_update ..
  have ha2 : AccEn items acc' items.size h' (s.heap.update S (Obj.mapSeq fun _ => (#[] : Array Value))).objs.size := ha
  rw [ez] at ha2; exact ha2
theorem call_listEn {e it l : Addr} {items : Array Value} {Q : Value → Shared → Prop} (hh : A.handled = none) (hn : items.size ≤ sizeLine) (he : IsEnum s.heap e it 0 .none) (st : EnSt e it l items 0 s.heap)
    (hQ : ∀ h' tk acc' c', (∀ b o, b ≠ e → b ≠ it → s.heap.get? b = some o → h'.get? b = some o) → h'.get? s.heap.objs.size = some { cls := .type "list", dict := none, data := .seq acc' c', slots := #[] } → AccEn items acc' items.size h' (s.heap.objs.size + 1) → Q (.ref s.heap.objs.size) { s with heap := h', toks := tk }) :
    wpAny (model prog w) A (call (.type "list") [.ref e]) Q E s := by
  refine callType_codes (Q₁ := fun obj s1 => obj = .ref s.heap.objs.size ∧ s1 = { s with heap := s.heap.push { cls := .type "list", data := .seq #[] } }) F.called_list (F.typeCall_list_1 _) F.entry_list_init (code_list_new _ ⟨rfl, rfl⟩) fun obj s1 h1 => ?_
  obtain ⟨rfl, rfl⟩ := h1
  have hS : (s.heap.push { cls := .type "list", data := .seq #[] }).get? s.heap.objs.size = some { cls := .type "list", data := .seq #[] } := Heap.get?_push_size _ rfl
  have hk : ∀ b o, s.heap.get? b = some o → (s.heap.push { cls := .type "list", data := .seq #[] }).get? b = some o := fun b o y => Heap.get?_push_of_some _ y
  have st2 : EnSt e it l items 0 (s.heap.push { cls := .type "list", data := .seq #[] }) := by
    obtain ⟨⟨g, b, z, h1, hg⟩, hi, hl, ne⟩ := st
    refine ⟨⟨g, b, z, hk _ _ h1, ?_⟩, hi.at fun o y => hk _ _ y, hl.at fun o y => hk _ _ y, ne⟩
    rcases hg with hg | ⟨a, o, x1, x2, x3, x4, x5⟩
    · exact .inl hg
    · exact .inr ⟨a, o, x1, hk _ _ x2, x3, x4, x5⟩
  have nl : l ≠ s.heap.objs.size := by
    obtain ⟨o, ho, _⟩ := st.sli
    exact Nat.ne_of_lt (Heap.lt_size ho)
  refine ⟨⟨_, hS, rfl⟩, F.args_list_init_2 _ _, en_init (A := A.in1) hh hn (hk _ _ he) st2 hS nl fun h' tk acc' c' kk hS' ha => ⟨rfl, ?_⟩⟩
  have ez : (s.heap.push { cls := .type "list", data := .seq #[] }).objs.size = s.heap.objs.size + 1 := Heap.size_push ..
  have ha2 : AccEn items acc' items.size h' (s.heap.push { cls := .type "list", data := .seq #[] }).objs.size := ha
  rw [ez] at ha2
  exact hQ h' tk acc' c' (fun b o n1 n2 y => kk b o n1 n2 (Nat.ne_of_lt (Heap.lt_size y)) (hk _ _ y)) hS' ha2
end
/-! ### several new objects at once -/
section
variable {P : Program} {w : World} {fs ex : List Addr} {H H' : Hp} {h h' : Heap}
structure Many (H H' : Hp) (h : Heap) : Prop where
  old : ∀ b, b < h.objs.size → H' b = H b
theorem Many.ext (m : Many H H' h) (x : HOk P w H h) : Same H H' := fun b o e => by rw [m.old b (x.lt e)]; exact e
theorem Many.hok (m : Many H H' h) (x : HOk P w H h) (k : ∀ b u, h.get? b = some u → h'.get? b = some u) (new : ∀ b o, h.objs.size ≤ b → H' b = some o → ObjOk P w H' h' b o) : HOk P w H' h' := fun b u e => by
  by_cases c : b < h.objs.size
  · rw [m.old b c] at e
    exact (x b u e).stay (fun c v _ q => k c v q) (fun c q => m.ext x _ _ q) fun c xs q => m.ext x _ _ q
  · exact new b u (Nat.le_of_not_lt c) e
theorem Many.un (m : Many H H' h) (x : HOk P w H h) (k : ∀ b u, h.get? b = some u → h'.get? b = some u) : Un fs ex H H' h h' where
  keep := fun b u q _ _ _ => k b u q
  slot := fun b u q _ _ _ => ⟨u.slots, k b u q⟩
  free := fun b u q n _ => by rw [m.old b (Heap.lt_size q)]; exact n
  there := fun b u q _ => ⟨u, k b u q⟩
  tups := fun b xs q => m.ext x _ _ q
  frzs := fun b u xs q => m.ext x _ _ q
  tbls := fun b ps q => ⟨#[], by rw [m.ext x _ _ q]; simp⟩
end
open Classical in
/-- the heap with a new list at D of new pairs at ts -/
noncomputable def enH (H : Hp) (n : Nat) (D : Addr) (ts : List Addr) (f : Nat → V) : Hp := fun b =>
  if b < n then H b else if b = D then some (.lst (ts.map V.ref)) else if q : ∃ j : Nat, ts[j]? = some b then some (.tup [.int ((Classical.choose q : Nat) : Int), f (Classical.choose q)]) else none
theorem enrefs_of : ∀ vs : List Value, (∀ v ∈ vs, ∃ p, v = .ref p) → ∃ ts : List Addr, vs = ts.map Value.ref
  | [], _ => ⟨[], rfl⟩
  | v :: vs, h => by
    obtain ⟨p, rfl⟩ := h v List.mem_cons_self
    obtain ⟨ts, e⟩ := enrefs_of vs fun u hu => h u (List.mem_cons_of_mem _ hu)
    exact ⟨p :: ts, by rw [e]; rfl⟩
theorem envals_refs : ∀ ts : List Addr, Vals (ts.map V.ref) (ts.map Value.ref)
  | [] => .nil
  | p :: ts => .cons rfl (envals_refs ts)
theorem enH_at {H : Hp} {n : Nat} {D : Addr} {ts : List Addr} {f : Nat → V} {j : Nat} {b : Addr} (e : ts[j]? = some b) (hb : n ≤ b) (hD : b ≠ D) (one : ∀ i, ts[i]? = some b → i = j) : enH H n D ts f b = some (.tup [.int ((j : Nat) : Int), f j]) := by
  unfold enH
  rw [if_neg (Nat.not_lt.mpr hb), if_neg hD, dif_pos ⟨j, e⟩]
  have z := one _ (Classical.choose_spec (⟨j, e⟩ : ∃ j : Nat, ts[j]? = some b))
  rw [z]
def tLstEn (K : PySem.W.Frag) (ta : TA) : TE := fun σ H Q => ta σ H fun vs H1 => ∃ a xs, vs = [.ref a] ∧ SqL K H1 a xs ∧ ∀ (D : Addr) (ts : List Addr) (H' : Hp), Same H1 H' → H1 D = none → H' D = some (.lst (ts.map V.ref)) → ts.length = xs.length →
  (∀ (i : Nat) (p : Addr) (x : V), ts[i]? = some p → xs[i]? = some x → H' p = some (.tup [.int ((i : Nat) : Int), x])) → Q (.ref D) H'
theorem pe_listEn {X : Cx} {e : Expr} {ta : TA} {p p2 pos pos2 : Pos} (hc : X.calm = true) (hg : Gl X "list") (hm : X.mg "list" = none) (hg2 : Gl X "enumerate") (hm2 : X.mg "enumerate" = none) (ha : PA X [e] ta) (hs : starEach [e] X.env = [(false, eval e X.env)] := by rfl)
    (na : starEach [.Call (.Name "enumerate" p2) [e] [] pos2] X.env = (false, eval (.Call (.Name "enumerate" p2) [e] [] pos2) X.env) :: starEach [] X.env := by rfl) : PE X (.Call (.Name "list" p) [.Call (.Name "enumerate" p2) [e] [] pos2] [] pos) (tLstEn X.K ta) := by
  refine ⟨fun pins s σ H Q I h => ?_⟩
  refine Call_ (ld_blt I hg hm boot_list (PyProof.Rows.callWith_type1 (args_cons ?_ na) na))
  refine Call_ (ld_blt I hg2 hm2 boot_enumerate (PyProof.Rows.callWith_type1 (thn (ha.run pos2 pins s σ H _ I h) fun us s1 ⟨vs, H1, I1, r1, q1⟩ => ?_) hs rfl))
  obtain ⟨a, xs, ex, hq, q⟩ := q1
  subst ex
  cases r1 with
  | cons r rr =>
    cases rr
    cases r
    obtain ⟨its, rv, p', hz⟩ := I1.list hq
    refine call_enumerate_list p'.isList fun h1 he hit hsz hk => args_nil ?_
    have hl1 : h1.IsList a its.toArray := p'.isList.at fun o y => hk _ _ y
    have st : EnSt (s1.heap.objs.size + 1) s1.heap.objs.size a its.toArray 0 h1 := ⟨⟨_, _, _, he, .inl ⟨rfl, rfl⟩⟩, hit, hl1, Nat.succ_ne_self _⟩
    refine call_listEn (s := { s1 with heap := h1 }) (I1.ok.hd hc) (by rw [List.size_toArray, ← rv.length]; exact hz) he st fun h' tk acc' c' kk hD ha' => ?_
    have lx := rv.length
    have n1 : h1.objs.size = s1.heap.objs.size + 1 + 1 := by rw [hsz]
    obtain ⟨ts, ets⟩ := enrefs_of acc'.toList fun v hv => by
      obtain ⟨j, hj⟩ := List.getElem?_of_mem hv
      have lt := (List.getElem?_eq_some_iff.mp hj).1
      rw [Array.length_toList, ha'.sz] at lt
      obtain ⟨p, tk, x, y1, _⟩ := ha'.at_ j lt
      rw [Array.getElem?_toList, y1] at hj
      exact ⟨p, (Option.some.inj hj).symm⟩
    have lts : ts.length = its.length := by
      have z := congrArg List.length ets
      rw [Array.length_toList, ha'.sz, List.length_map, List.size_toArray] at z
      exact z.symm
    -- what stands at each pair's address
    have at_ : ∀ (j : Nat) (b : Addr), ts[j]? = some b → ∃ (tk : Nat) (x : Value), its[j]? = some x ∧ h1.objs.size + 1 ≤ b ∧ h'.get? b = some { cls := .type "tuple", data := .seq #[.int j tk, x] } := fun j b e => by
      have lt := (List.getElem?_eq_some_iff.mp e).1
      obtain ⟨p, tk, x, y1, y2, y3, y4⟩ := ha'.at_ j (by rw [List.size_toArray]; omega)
      have z : acc'.toList[j]? = some (.ref b) := by rw [ets, List.getElem?_map, e]; rfl
      rw [Array.getElem?_toList, y1] at z
      cases z
      exact ⟨tk, x, by simpa using y2, y3, y4⟩
    have one : ∀ (i j : Nat) (b : Addr), ts[i]? = some b → ts[j]? = some b → i = j := fun i j b e1 e2 => by
      obtain ⟨_, _, _, _, g1⟩ := at_ i b e1
      obtain ⟨_, _, _, _, g2⟩ := at_ j b e2
      rw [g1] at g2
      injection g2 with g2
      injection g2 with _ _ g2
      injection g2 with g2
      have g3 := congrArg (fun a => a[0]?) g2
      simp at g3
      omega
    have old : ∀ b u, s1.heap.get? b = some u → h'.get? b = some u := fun b u y => kk b u (Nat.ne_of_lt (Nat.lt_succ_of_lt (Heap.lt_size y))) (Nat.ne_of_lt (Heap.lt_size y)) (hk _ _ y)
    have m : Many H1 (enH H1 s1.heap.objs.size h1.objs.size ts fun j => xs.getD j .non) s1.heap := ⟨fun b hb => if_pos hb⟩
    have nD : ∀ (j : Nat) (b : Addr), ts[j]? = some b → b ≠ h1.objs.size ∧ s1.heap.objs.size ≤ b := fun j b e => by
      obtain ⟨_, _, _, g, _⟩ := at_ j b e
      exact ⟨Nat.ne_of_gt g, Nat.le_trans (by omega) (Nat.le_of_succ_le g)⟩
    have pair : ∀ (j : Nat) (b : Addr) (x : V), ts[j]? = some b → xs[j]? = some x → enH H1 s1.heap.objs.size h1.objs.size ts (fun j => xs.getD j .non) b = some (.tup [.int ((j : Nat) : Int), x]) := fun j b x e ex => by
      have z := enH_at (H := H1) (D := h1.objs.size) (f := fun j => xs.getD j .non) e (nD j b e).2 (nD j b e).1 fun i e1 => one i j b e1 e
      have y : xs.getD j .non = x := by rw [List.getD_eq_getElem?_getD, ex]; rfl
      rw [z, y]
    have dl : enH H1 s1.heap.objs.size h1.objs.size ts (fun j => xs.getD j .non) h1.objs.size = some (.lst (ts.map V.ref)) := by
      have n2 : ¬ (h1.objs.size : Nat) < s1.heap.objs.size := by omega
      unfold enH
      rw [if_neg n2, if_pos rfl]
    have hok := m.hok (h' := h') I1.hok old fun b o hb e => by
      unfold enH at e
      rw [if_neg (Nat.not_lt.mpr hb)] at e
      by_cases c : b = h1.objs.size
      · rw [if_pos c] at e
        cases e
        subst c
        refine ⟨by rw [List.length_map, lts, ← lx]; exact hz, acc'.toList, c', by rw [ets]; exact envals_refs ts, ?_⟩
        rw [Array.toArray_toList]; exact hD
      · rw [if_neg c] at e
        by_cases q : ∃ j : Nat, ts[j]? = some b
        · rw [dif_pos q] at e
          cases e
          have sp := Classical.choose_spec q
          obtain ⟨tk, x, g1, _, g2⟩ := at_ _ b sp
          have lt := (List.getElem?_eq_some_iff.mp sp).1
          obtain ⟨v, hv⟩ : ∃ v, xs[Classical.choose q]? = some v := ⟨_, List.getElem?_eq_getElem (by omega)⟩
          obtain ⟨u, hu, ru⟩ := rv.get hv
          rw [g1] at hu
          cases hu
          have y : xs.getD (Classical.choose q) .non = v := by rw [List.getD_eq_getElem?_getD, hv]; rfl
          dsimp only
          rw [y]
          exact ⟨by show 2 ≤ sizeLine; decide, [.int _ tk, x], .cons ⟨_, rfl⟩ (.cons ru .nil), ⟨_, g2, rfl, _, rfl⟩⟩
        · rw [dif_neg q] at e; cases e
    refine ⟨.ref h1.objs.size, _, I1.un (t' := tk) (m.un I1.hok old) hok, rfl, q _ ts _ (m.ext I1.hok) (I1.hok.fresh (by omega)) dl (lts.trans lx.symm) pair⟩
end L2

/-! Z5: sorted(a tuple of whole numbers), list.extend(a tuple). -/
namespace L2
open PySem PySem.Spec PyProof.Rows SrtO
section
variable {prog : Program} {w : World} {A : Around} {E : Value → Shared → Prop} {s : Shared}
/-- what is gathered from a tuple -/
theorem gather_tup {t : Addr} {vs : List Value} {G : List Value → Shared → Prop} (ht : IsTup s.heap t vs.toArray) (hz : vs.length ≤ sizeLine)
    (hG : G vs { s with heap := (s.heap.push (seqObj "list" #[] 0)).update s.heap.objs.size (Obj.mapSeq (· ++ vs.toArray)) }) : wpAny (model prog w) A (collect (.ref t)) G E s := by
  obtain ⟨o, ho, hc, n, hd⟩ := ht
  have op : (s.heap.push (seqObj "list" #[] 0)).get? t = some o := Heap.get?_push_of_some _ ho
  have on : (s.heap.push (seqObj "list" #[] 0)).get? s.heap.objs.size = some (seqObj "list" #[] 0) := Heap.get?_push_size _ rfl
  have ze : (#[] ++ vs.toArray : Array Value).size ≤ sizeLine + 1 := by rw [Array.size_append, List.size_toArray]; exact Nat.le_succ_of_le (by simpa using hz)
  unfold collect
  refine wpAny_bind (wpAny_runValue (codeAny_builtin entry_proto_collect' (wpAny_bind (wpAny_newList (wpAny_pure ⟨Code.quiet_builtin _ (by decide +kernel), codeAny_builtin entry_list_iadd' ?_⟩)))))
  show wpAny _ _ (Builtin.List.listExtendWith (.ref s.heap.objs.size) (.ref t) (.ref s.heap.objs.size)) _ _ ⟨s.heap.push (seqObj "list" #[] 0), _, _, _, _⟩
  unfold Builtin.List.listExtendWith
  refine wpAny_bind (wpAny_typeOf (T := "tuple") ⟨o, op, hc⟩ ?_)
  have et : (Value.type "tuple" == Value.type "tuple") = true := rfl
  rw [if_pos (by rw [et]; simp)]
  refine wpAny_bind (listItems_at op hd (wpAny_bind (listItems_at (xs := #[]) (n := 0) on rfl ?_)))
  rw [if_neg (by simp)]
  refine wpAny_bind (listUpdate_at (xs := #[]) (n := 0) on rfl (wpAny_pure ?_) (Nat.zero_le _) ze)
  show wpAny _ _ (load s.heap.objs.size >>= _) _ _ ⟨(s.heap.push (seqObj "list" #[] 0)).update s.heap.objs.size (Obj.mapSeq (· ++ vs.toArray)), _, _, _, _⟩
  refine wpAny_bind (wpAny_load (get?_update_seq on _) ?_)
  show wpAny _ _ (pure (#[] ++ vs.toArray : Array Value).toList) _ _ _
  have ev : (#[] ++ vs.toArray : Array Value).toList = vs := by simp
  rw [ev]
  exact wpAny_pure hG
/-- sorted(a tuple) -/
theorem sorted_tup {t : Addr} {vs : List Value} {lt : Value → Value → Bool} {G : Value → Shared → Prop} (O : Swo lt) (ht : IsTup s.heap t vs.toArray) (hz : vs.length ≤ sizeLine)
    (hS : 2 ≤ vs.length → ∀ (g : Heap) (a : Addr), SortableO prog w A.in1.in1 { s with heap := g } a vs lt)
    (hG : ∀ out : List Value, Srtd lt out → Stb lt out vs → G (.ref (s.heap.objs.size + 1)) { s with heap := sortedAll s.heap vs out.toArray }) : wpAny (model prog w) A (call (.builtin "sorted") [.ref t]) G E s := by
  refine Calls.call_function_entry kind_sorted plain_sorted entry_sorted (args_sorted1 _) ?_
  unfold Builtin.«sorted»
  refine wpAny_bind (m := checkCount "sorted" 1 1 _) (wpAny_pure (wpAny_bind (gather_tup ht hz (wpAny_bind (wpAny_newList ?_ hz)))))
  have sz : ((s.heap.push (seqObj "list" #[] 0)).update s.heap.objs.size (Obj.mapSeq (· ++ vs.toArray))).objs.size = s.heap.objs.size + 1 := by rw [Heap.size_update, size_push']
  have at1 : (((s.heap.push (seqObj "list" #[] 0)).update s.heap.objs.size (Obj.mapSeq (· ++ vs.toArray))).push (seqObj "list" vs.toArray 0)).get? (s.heap.objs.size + 1) = some (seqObj "list" vs.toArray 0) := sz ▸ Heap.get?_push_size _ rfl
  show wpAny _ _ _ _ _ ⟨((s.heap.push (seqObj "list" #[] 0)).update s.heap.objs.size (Obj.mapSeq (· ++ vs.toArray))).push (seqObj "list" vs.toArray 0), _, _, _, _⟩
  rw [sz]
  refine wpAny_bind (wpAny_holding (wpAny_call_entry slot_list_sort ⟨_, at1, rfl⟩ entry_list_sort (list_sort_ord O at1 hz (fun h2 => hS h2 _ _) fun out k1 k2 => ⟨_, rfl, wpAny_pure ⟨_, rfl, hG out k1 k2⟩⟩) (args_list_sort _)))
end
/-- sorted(t), t a tuple of whole numbers -/
def rSortedTup (K : PySem.W.Frag) : List V → Hp → VK → Prop := fun vs H Q => ∃ (a : Addr) (ns : List Int), vs = [V.ref a] ∧ SqT K H a (ns.map V.int) ∧
  ∀ (ms : List Int) (p : Addr), ms.Perm ns → ms.Pairwise (· ≤ ·) → H p = none → Q (.ref p) (upd H p (.lst (ms.map V.int)))
/-- xs.extend(t), t a tuple -/
def rExtendT (K : PySem.W.Frag) : V → List V → Hp → VK → Prop := fun x vs H Q => ∃ l b xs zs, x = .ref l ∧ vs = [.ref b] ∧ H l = some (.lst xs) ∧ SqT K H b zs ∧ xs.length + zs.length ≤ sizeLine ∧ Q .non (upd H l (.lst (xs ++ zs)))
section
variable {X : Cx}
theorem cr_sortedTup : CallR X (.builtin "sorted") (rSortedTup X.K) := by
  intro pins s σ H vs us Q I r h
  obtain ⟨a, ns, rfl, hs, q⟩ := h
  obtain ⟨its, rv, pl, hz⟩ := I.tuple hs
  rw [Vals.ref1 r]
  have hi := rv.ints
  rw [rv.length] at hz
  refine sorted_tup swo_int pl hz (fun h2 g a' => ints_sortable hi h2) fun out k1 k2 => ?_
  obtain ⟨j1, j2, j3⟩ := ints_out hi k1 k2
  obtain ⟨e, he⟩ := sortedAll_at s.heap its out.toArray
  have hl : ((out.map iv).map V.int).length ≤ sizeLine := by
    have z := j2.length_eq
    have y := rv.length
    rw [List.length_map] at y ⊢
    omega
  exact ⟨.ref _, _, I.laid (t' := s.toks) (o := .lst ((out.map iv).map V.int)) (fun _ _ => sortedAll_old) (Nat.le_succ _) ⟨hl, out, e, vals_of_ints j1, he⟩, rfl, q _ _ j2 j3 (I.hok.fresh (Nat.le_succ _))⟩
theorem mt_extendT : MtM X "list.extend" (rExtendT X.K) := by
  intro pins s σ H x vs v us Q I rx rv h
  obtain ⟨l, b, xs, zs, rfl, rfl, hH, hB, hz, q⟩ := h
  cases rx
  obtain ⟨u, rfl, ru⟩ := rv.one
  cases ru
  obtain ⟨z, its, n, r, hl, e⟩ := I.lstM hH
  obtain ⟨its2, r2, pl, z2⟩ := I.tuple hB
  obtain ⟨o, ho, hc, n2, hd⟩ := pl
  have l2 := r2.length
  have zs2 : its.toArray.size + its2.toArray.size ≤ sizeLine := by rw [List.size_toArray, List.size_toArray]; omega
  refine wpAny_call_entry F.slot_list_extend ⟨_, e, rfl⟩ F.entry_list_extend ?_ (F.args_list_extend_2 _ _)
  show wpAny _ _ (Builtin.List.listExtendWith (.ref l) (.ref b) .none) _ _ s
  unfold Builtin.List.listExtendWith
  refine wpAny_bind (wpAny_typeOf (T := "tuple") ⟨o, ho, hc⟩ ?_)
  have et : (Value.type "tuple" == Value.type "tuple") = true := rfl
  rw [if_pos (by rw [et]; simp)]
  refine wpAny_bind (listItems_at ho hd (wpAny_bind (listItems_at e rfl ?_)))
  rw [if_neg (by rw [notLongL zs2, Bool.and_false]; exact Bool.false_ne_true)]
  refine wpAny_bind (listUpdate_at e rfl (wpAny_pure ?_) (by omega) (by rw [Array.size_append]; omega))
  refine ⟨_, rfl, .non, _, I.lset (its' := its ++ its2) hH e (by simp) (r.append r2) ?_, rfl, q⟩
  rw [List.length_append]
  omega
end
theorem pi_tupK {X : Cx} (K : PySem.W.Frag) {tg l : Expr} {tl : TE} (hl : PE X l tl) (e : X.K = K := by rfl) : PI X tg l (iTup K tl) := by subst e; exact pi_tup hl
theorem pi_listK {X : Cx} (K : PySem.W.Frag) {tg l : Expr} {tl : TE} (hl : PE X l tl) (e : X.K = K := by rfl) : PI X tg l (iList K tl) := by subst e; exact pi_list hl
end L2

/-! Z6: d.get(y), y None or a whole number or a text, over a dict whose keys are numbers and texts. -/
namespace L2
open PySem PySem.Spec PyProof.Rows
section
variable {X : Cx}
theorem leaf_keys {P : Program} {w : World} {es : Array DictEntry} (h : KeysOf (mixKind P w) es) : KeysOf (leafKind P w) es := fun e he => by
  obtain ⟨k, k1, k2⟩ := h e he
  rcases keyIs_shape k1 with ⟨i, t, rfl, ek⟩ | ⟨x, t, rfl, ek⟩
  · refine ⟨.num i, ?_, k2⟩
    rw [ek]
    exact decide_eq_true rfl
  · refine ⟨.text x, ?_, k2⟩
    rw [ek]
    exact keyIs_str x t
theorem no_none {P : Program} {w : World} {es : Array DictEntry} (h : KeysOf (mixKind P w) es) : findBy (leafKind P w).is es .none = none := by
  unfold findBy
  have z : es.find? (fun e => (leafKind P w).is .none e.key) = none := by
    rw [Array.find?_eq_none]
    intro e he
    obtain ⟨k, k1, _⟩ := h e he
    rcases keyIs_shape k1 with ⟨i, t, _, ek⟩ | ⟨x, t, _, ek⟩
    · rw [ek]; exact Bool.false_ne_true
    · rw [ek]; exact Bool.false_ne_true
  rw [z]; rfl
theorem get_non {pins : List (Addr × Obj)} {σ : St} {H : Hp} {s : Shared} {A : Around} {E : Value → Shared → Prop} {a : Addr} {kvs : List (Key × V)} {Q : Value → Shared → Prop} (I : Inv X pins σ H s) (e : Rd H a (.dK kvs)) (h : ∀ s', Inv X pins σ H s' → Q .none s') :
    wpAny (model X.prog X.w) A (call (.builtin "dict.get") [.ref a, .none]) Q E s := by
  obtain ⟨z, hd, vs, rel, dd⟩ := dk_rd I.hok e
  obtain ⟨o, es, ep, h1, h2, h3, h4, _⟩ := id dd
  have m : s.heap.MapOf (leafKind X.prog X.w) a (findBy (leafKind X.prog X.w).is es) := ⟨o, es, ep, h1, h2, h3, leaf_keys h4, fun _ => rfl⟩
  refine call_meetsIn PySem.F.slot_dict_get dd.typeIs PySem.F.entry_dict_get (PySem.F.args_dict_get_2 _ _) (meets_dict_get (leafKind X.prog X.w) (k := .none) (key := .none) a rfl hd) ⟨_, m, ?_⟩
  rw [no_none h4]
  exact h _ (I.tok _)
/-- d.get(y): a number's or a text's place, or None -/
def tDGetO (td ty : TE) : TE := fun σ H Q => td σ H fun x H1 => ∃ a, x = .ref a ∧ IsD H1 a ∧ ty σ H1 fun y H2 => (y = .non ∧ (∃ kvs, H2 a = some (.dK kvs)) ∧ Q .non H2) ∨ ∃ o, DGet H2 a y o ∧ Q (o.getD .non) H2
theorem pe_dgetO {o e : Expr} {apos cpos : Pos} {td ty : TE} (hu : X.A.units + 1 < cLine) (ho : PE X o td) (he : PE X e ty) (m : M1 X o "get" apos e cpos) : PE X (.Call (.Attribute o "get" apos) [e] [] cpos) (tDGetO td ty) := by
  refine ⟨fun pins s σ H Q I h => ?_⟩
  refine wpAny_Call_method m.base m.few m.line PySem.F.plainAttrs_dict PySem.F.slot_dict_get PySem.F.type_dict_get (thn (ho.run pins s σ H _ I h) fun u s1 ⟨x, H1, I1, rx, a, ex, d, q1⟩ => ?_)
  subst ex
  cases (show u = Value.ref a from rx)
  obtain ⟨g1, g2, _⟩ := isD_at I1 d
  refine ⟨g1, g2, ?_⟩
  rw [m.trees]
  refine Calls.callWith_builtin rfl (Calls.evalArgs_plain (Calls.spliced_cons (thn (he.run pins s1 σ H1 _ I1 q1) fun iv s2 ⟨y, H2, I2, ry, alt⟩ => Calls.spliced_nil ?_)))
  rcases alt with ⟨rfl, ⟨kvs, ek⟩, q2⟩ | ⟨ov, g, q2⟩
  · cases (show iv = Value.none from ry)
    exact get_non I2 (.inl ek) fun s3 I3 => ⟨.non, H2, I3, rfl, q2⟩
  · exact d_get1 hu I2 g ry fun w' s3 I3 rw' => ⟨_, H2, I3, rw', q2⟩
/-- a walk that one of two rules tells -/
theorem pi_or {tg it : Expr} {a b : TI} (h : PI X tg it a) (h2 : PI X tg it b) : PI X tg it (fun σ H R => a σ H R ∨ b σ H R) := ⟨fun pins s σ H R I q => q.elim (h.run pins s σ H R I) (h2.run pins s σ H R I)⟩
/-- a value that one of two rules tells -/
theorem pe_or2 {e : Expr} {a b : TE} (h : PE X e a) (h2 : PE X e b) : PE X e (fun σ H Q => a σ H Q ∨ b σ H Q) := ⟨fun pins s σ H Q I q => q.elim (h.run pins s σ H Q I) (h2.run pins s σ H Q I)⟩
end
end L2

/-! Z7: {k: v for a in xs for b in ys}: two for, one test at most of each. -/
namespace L2
open PySem PySem.Spec PyProof.Rows
/-- what holds in the block of a comprehension, whatever it stands on -/
abbrev InBlk (X : Cx) (scope : Scope) (F : Cx → Prop) : Prop := ∀ (s : Shared) (H : Hp) (C : Addr) (cl : List (Str × Addr)) (fp : List Addr), F (X.blk s H scope (compEnvC scope cl C X.env) fp)
def tDc2 (wA : TI) (gA : TG) (qA : TT) (wB : TI) (gB : TG) (qB : TT) (tk tv : TE) (us ub : List Nat) : TE := fun σ H Q => wA σ H fun JA G => ∀ D, G D = none → ∃ W : Nat → Nat → Hp → Prop, (∃ m, W 0 m (upd G D (.dK []))) ∧ ∀ i m H, W i m H →
  (JA.stop i H ∧ Q (.ref D) H) ∨ (JA.go i H ∧ ∃ Nx : Hp → Prop, (∀ H', Nx H' → ∃ n, n < m ∧ W (i + 1) n H') ∧ ∀ x H', JA.yld i H x H' → gA x (wipe σ us) H' fun σ2 H2 => wipe σ2 us = wipe σ us ∧ qA σ2 H2 fun b H3 =>
    if b = true then wB σ2 H3 fun JB H4 => ∃ V : Nat → Nat → Hp → Prop, (∃ m, V 0 m H4) ∧ ∀ j k H, V j k H → (JB.stop j H ∧ Nx H) ∨ (JB.go j H ∧ ∃ Ny : Hp → Prop, (∀ H', Ny H' → ∃ n, n < k ∧ V (j + 1) n H') ∧
      ∀ x H', JB.yld j H x H' → gB x (wipe σ2 ub) H' fun σ3 H5 => wipe σ3 ub = wipe σ2 ub ∧ qB σ3 H5 fun b H6 =>
        if b = true then tk σ3 H6 fun y H7 => tv σ3 H7 fun z H8 => ∃ kvs k, y = kV k ∧ H8 D = some (.dK kvs) ∧ kvs.length < sizeLine ∧ Ny (upd H8 D (.dK (putK kvs k z))) else Ny H6)
    else Nx H3)
/-- the second for's start -/
theorem dc_start1 {prog : Program} {w : World} {A : Around} {R : Result → Shared → Prop} {s : Shared} {kx vx tA iA tB iB : Expr} {fA fB : List Expr} {scope : Scope} {pos : Pos} {it acc : Value} {env : Env} (h0 : codeAny (model prog w) A (.compLoop (.DictComp kx vx [⟨tA, iA, fA, 0⟩, ⟨tB, iB, fB, 0⟩] scope pos) 1 it acc env) R s)
    (h : wpAny (model prog w) A (pyIter it) (fun j s' => codeAny (model prog w) A (.compLoop (.DictComp kx vx [⟨tA, iA, fA, 0⟩, ⟨tB, iB, fB, 0⟩] scope pos) 1 j acc env) R s') (notedBy (model prog w) A env fun x s' => R (.error x) s') s) :
    codeAny (model prog w) A (.compStart (.DictComp kx vx [⟨tA, iA, fA, 0⟩, ⟨tB, iB, fB, 0⟩] scope pos) 1 it acc env) R s := by
  refine codeAny_of_tree ?_
  show wpAny _ _ ((compStart (.DictComp kx vx [⟨tA, iA, fA, 0⟩, ⟨tB, iB, fB, 0⟩] scope pos) 1 it acc env).onRaise fun x => do noteFrame x env; standAt theWindowsPlace) _ _ s
  refine wpAny_notedAt ?_
  unfold compStart
  show wpAny _ _ (ask >>= _) _ _ s
  refine wpAny_bind (wpAny_askSetting (wpAny_ite ?_))
  have late : wpAny (model prog w) A (pyIter it) (fun j s' => codeAny (model prog w) A (.compLoop (.DictComp kx vx [⟨tA, iA, fA, 0⟩, ⟨tB, iB, fB, 0⟩] scope pos) 1 j acc env) R s') (notedBy (model prog w) A env fun x s' => R (.error x) s') s := h
  split
  · first | exact wpAny_bind (wpAny_pure (wpAny_pure ⟨rfl, h0⟩)) | exact wpAny_pure ⟨rfl, h0⟩
  · first
      | exact wpAny_bind (wpAny_rule (wpAny_bind (wpAny_standAt (wpAny_bind (wpAny_mono late (fun _ _ q => wpAny_pure ⟨rfl, q⟩) fun _ _ q => q)))))
      | (refine wpAny_bind (wpAny_rule ?_); show wpAny _ _ (standAt iB.pos >>= _) _ _ s; exact wpAny_bind (wpAny_standAt (wpAny_bind (wpAny_mono late (fun _ _ q => wpAny_pure ⟨rfl, q⟩) fun _ _ q => q))))
section
variable {X : Cx}
theorem pe_dc2 {kx vx tA iA tB iB : Expr} {fA fB : List Expr} {scope : Scope} {own : List (Str × Nat)} {ub : List Nat} {pos : Pos} {wA wB : TI} {gA gB : TG} {qA qB : TT} {tk tv : TE} (hc : X.calm = true) (nd : X.N.Nodup) (pA : PI X tA iA wA) (ok : BlkOk X.N X.env.scope scope own) (sub : ∀ i ∈ ub, i ∈ own.map (·.2))
    (aG : InBlk X scope fun Y => PG Y tA gA) (aT : InBlk X scope fun Y => PTs Y fA qA) (bI : InBlk X scope fun Y => PI Y tB iB wB) (bG : InBlk X scope fun Y => PG Y tB gB) (bT : InBlk X scope fun Y => PTs Y fB qB) (bK : InBlk X scope fun Y => PE Y kx tk) (bV : InBlk X scope fun Y => PE Y vx tv)
    (cA : ∀ x, foldedSetIterable iA X.env x = pure x := by intro _; rfl) (cB : ∀ env x, foldedSetIterable iB env x = pure x := by intro _ _; rfl) : PE X (.DictComp kx vx [⟨tA, iA, fA, 0⟩, ⟨tB, iB, fB, 0⟩] scope pos) (tDc2 wA gA qA wB gB qB tk tv (own.map (·.2)) ub) := by
  refine ⟨fun pins s σ H Q I h => ?_⟩
  rw [arm_eval_DictComp]
  have cap : ∀ y ∈ scope.names, y.2 = .free → ∃ c, X.env.cells.lookup y.1 = some c := fun y hy e => (ok.free y hy e).elim (fun k => I.ok.has _ (.inl k)) fun k => I.ok.has _ (.inr k)
  refine wpAny_comprehension_free (use := none) rfl cA (closure_ok cap) ok.kind (fun y hy e => by rw [ok.uniq y hy, e]) (thn (pA.run pins s σ H _ I h) fun xv s1 hx => thn hx fun itv s2 got => ?_)
  obtain ⟨ia, fa, na, JA, G2, rfl, I2, TA, sa2, fr2, body⟩ := got
  refine wpAny_newObj_type (newEnv_comp ?_)
  generalize eD : s2.heap.objs.size = D
  obtain ⟨W, ⟨m0, w0⟩, turn⟩ := body D (I2.hok.fresh (Nat.le_of_eq eD))
  generalize es3 : ({ s2 with heap := s2.heap.push { cls := .type "dict", data := .dict #[] } } : Shared) = s3
  have I3 : Inv X pins σ (upd G2 D (.dK [])) s3 := by
    subst es3
    exact I2.laid (t' := s2.toks) (fun _ _ e => Heap.get?_push_of_some _ e) (Nat.le_of_eq eD) (by rw [← eD]; exact dk_empty s2.heap I2.big)
  have h3 : s3.heap = s2.heap.push { cls := .type "dict", data := .dict #[] } := es3 ▸ rfl
  have fr3 : ∀ b ∈ fa, FpOk X pins (upd G2 D (.dK [])) b ∧ b < s3.heap.objs.size := fun b hb => by
    obtain ⟨_, e, _⟩ := TA.obj _ _ sa2 b hb
    have lt : b < s2.heap.objs.size := Heap.lt_size e
    have ne : b ≠ D := by rw [← eD]; exact Nat.ne_of_lt lt
    exact ⟨⟨(upd_ne ne).trans (fr2 b hb).1, (fr2 b hb).2⟩, by rw [h3, Heap.size_push]; exact Nat.lt_succ_of_lt lt⟩
  have sa3 : na 0 s3.heap := TA.keep _ _ _ sa2 fun b _ o e => h3 ▸ Heap.get?_push_of_some _ e
  have I4 := block_start I3 ok nd fr3
  generalize ecl : cellsFrom (s3.heap.objs.size + 1) scope.names (cloFrom X.env.cells scope.names []) = cl at I4
  have xG := aG s3 (upd G2 D (.dK [])) s3.heap.objs.size cl fa
  have xT := aT s3 (upd G2 D (.dK [])) s3.heap.objs.size cl fa
  have yI := bI s3 (upd G2 D (.dK [])) s3.heap.objs.size cl fa
  have yG := bG s3 (upd G2 D (.dK [])) s3.heap.objs.size cl fa
  have yT := bT s3 (upd G2 D (.dK [])) s3.heap.objs.size cl fa
  have yK := bK s3 (upd G2 D (.dK [])) s3.heap.objs.size cl fa
  have yV := bV s3 (upd G2 D (.dK [])) s3.heap.objs.size cl fa
  show codeAny _ _ (.compStart (.DictComp kx vx [⟨tA, iA, fA, 0⟩, ⟨tB, iB, fB, 0⟩] scope pos) 0 (.ref ia) (.ref D) (compEnvC scope cl s3.heap.objs.size X.env)) (compPost (model X.prog X.w) X.A X.xe none (EP X pins σ Q) (.ref D) s3.heap.objs.size) ⟨pushCells (s3.heap.push { cls := .type "dict", data := .dict #[] }) scope.names, s3.gens, s3.drawn, s3.toks, s3.os⟩
  have nofa : ∀ b ∈ fa, (upd G2 D (.dK [])) b = none := fun b hb => (fr3 b hb).1.1
  generalize ece : compEnvC scope cl s3.heap.objs.size X.env = ce at I4 xG xT yI yG yT yK yV ⊢
  have cloc : ce.locals = s3.heap.objs.size := ece ▸ rfl
  generalize eG3 : upd G2 D (.dK []) = G3 at I3 I4 xG xT yI yG yT yK yV w0 nofa fr3
  generalize es4 : (⟨pushCells (s3.heap.push { cls := .type "dict", data := .dict #[] }) scope.names, s3.gens, s3.drawn, s3.toks, s3.os⟩ : Shared) = s4 at I4 ⊢
  have sa4 : na 0 s4.heap := TA.keep _ _ _ sa3 fun b _ o e => es4 ▸ pushCells_keeps _ _ _ _ (Heap.get?_push_of_some _ e)
  have held : ∀ {σ' : L2.St} {H' : Hp} {s' : Shared}, Inv (X.blk s3 G3 scope ce fa) [] σ' H' s' → (∀ b ∈ fa, H' b = none) → ∀ b ∈ fa, FpOk (X.blk s3 G3 scope ce fa) [] H' b := fun I' hn b hb =>
    ⟨hn b hb, (I'.ok.exf b hb).1, I'.ok.exfs b hb, .inl hb, fun x c e => (I'.ok.exf b hb).2 x c e, fun p (hp : p ∈ ([] : List (Addr × Obj)) ++ []) => by simp at hp⟩
  have loop : codeAny (model X.prog X.w) X.A (.compLoop (.DictComp kx vx [⟨tA, iA, fA, 0⟩, ⟨tB, iB, fB, 0⟩] scope pos) 0 (.ref ia) (.ref D) ce) (compPost (model X.prog X.w) X.A X.xe none (EP X pins σ Q) (.ref D) s3.heap.objs.size) s4 := by
    refine codeAny_loop rfl (fun n s' => ∃ i H', Inv (X.blk s3 G3 scope ce fa) [] (wipe σ (own.map (·.2))) H' s' ∧ na i s'.heap ∧ (∀ b ∈ fa, H' b = none) ∧ W i n H') (fun n s5 ⟨i, H5, I5, sa5, no5, w5⟩ => ?_) m0 ⟨0, G3, I4, sa4, nofa, w0⟩
    show wpAny _ X.A ((compTurn (.DictComp kx vx [⟨tA, iA, fA, 0⟩, ⟨tB, iB, fB, 0⟩] scope pos) 0 (.ref ia) (.ref D) ce).onRaise fun x => do noteFrame x ce; theTreesLotGoes x) _ _ s5
    refine wpAny_noted ?_
    show wpAny _ _ (standAt iA.pos >>= _) _ _ _
    refine wpAny_bind (wpAny_standAt ?_)
    show wpAny _ _ (pyNext (.ref ia) >>= _) _ _ _
    rcases turn i n H5 w5 with ⟨stop, fin⟩ | ⟨go, Nx, down, step⟩
    · refine wpAny_bind (thnF (TA.done (X.blk s3 G3 scope ce fa) rfl rfl rfl hc i [] s5 _ H5 (fun _ _ => False) I5 (held I5 no5) sa5 stop) fun r s6 ⟨er, I6⟩ => ?_)
      subst er
      refine wpAny_pure ?_
      -- back in the def
      have I7 : Inv X pins σ H5 s6 := I3.call' (ch := fa) I6.os I6.base I6.hok I6.bare fun b hb => by
        obtain ⟨_, p1, _, p3, p4, p5⟩ := (fr3 b hb).1
        exact ⟨p3, p1, p4, p5⟩
      have free : H5 s3.heap.objs.size = none := cloc ▸ (show H5 ce.locals = none from I6.free)
      obtain ⟨m, (ns : s6.heap.Ns ce.locals m), _⟩ := I6.loc
      rw [cloc] at ns
      obtain ⟨f0, f1, f2, f3, f4, f5⟩ := I3.fpOk (Nat.le_refl _) free
      exact ⟨m, ns, fun _ sb => ⟨.ref D, H5, I7.turned (t' := s6.toks) (fun b o hb e => (sb.2 b hb).trans e) f0 f1 f3 f4 f5, rfl, fin⟩⟩
    · refine wpAny_bind (thnF (TA.item (X.blk s3 G3 scope ce fa) rfl rfl rfl hc i [] s5 _ H5 (fun _ _ => False) I5 (held I5 no5) sa5 go) fun r s6 ⟨u, er, g6⟩ => ?_)
      subst er
      show wpAny _ _ (letOwnedTupleGo tA (.ref ia) u >>= _) _ _ _
      refine wpAny_bind (thnF g6 fun _ s7 ⟨x, H7, I7, r7, y7, sa7, no7⟩ => ?_)
      refine wpAny_bind (thnF (xG.run _ s7 _ H7 x u _ (I7.pinned (held I7 no7) (TA.obj _ _ sa7)) r7 (step x H7 y7)) fun _ s8 ⟨σ8, H8, I8, hw8, q8⟩ => ?_)
      refine wpAny_bind (thnF (xT.run _ s8 σ8 H8 _ I8 q8) fun b s9 ⟨H9, I9, q9⟩ => ?_)
      -- the turn's end
      have back : ∀ {σ9 : L2.St} {s' : Shared} {H' : Hp}, Inv (X.blk s3 G3 scope ce fa) ([] ++ pinsAt fa s7.heap) σ9 H' s' → (wipe σ (own.map (·.2))).length = σ9.length → (∀ (j : Nat) v, (wipe σ (own.map (·.2)))[j]? = some (some v) → σ9[j]? = some (some v)) → Nx H' →
          ∃ m, m < n ∧ ∃ i H', Inv (X.blk s3 G3 scope ce fa) [] (wipe σ (own.map (·.2))) H' s' ∧ na i s'.heap ∧ (∀ b ∈ fa, H' b = none) ∧ W i m H' := fun {σ9 s' H'} I' hl hk nx => by
        obtain ⟨m', lt, w'⟩ := down H' nx
        have stay : ∀ b ∈ fa, ∀ o, s7.heap.get? b = some o → s'.heap.get? b = some o ∧ H' b = none := fun b hb o e => by
          have z := I'.pin (b, o) (List.mem_append_right _ (List.mem_append_right _ (mem_pinsAt hb e)))
          exact ⟨z.1, z.2.1⟩
        exact ⟨m', lt, i + 1, H', (I'.unpinned (pins := [])).weak hl hk, TA.keep _ _ _ sa7 fun b hb o e => (stay b hb o e).1, fun b hb => (TA.obj _ _ sa7 b hb).elim fun o z => (stay b hb o z.1).2, w'⟩
      have len8 : (wipe σ (own.map (·.2))).length = σ8.length := by rw [← hw8, wipe_length]
      have hk8 : ∀ (j : Nat) v, (wipe σ (own.map (·.2)))[j]? = some (some v) → σ8[j]? = some (some v) ∧ ¬ j ∈ own.map (·.2) := fun j v e => wipe_some (hw8 ▸ e)
      cases b with
      | false =>
        simp only [Bool.false_eq_true, if_false] at q9 ⊢
        exact wpAny_pure ⟨rfl, back I9 len8 (fun j v e => (hk8 j v e).1) q9⟩
      | true =>
        simp only [if_true] at q9 ⊢
        refine wpAny_bind (thnF (yI.run _ s9 σ8 H9 _ I9 q9) fun xv1 s10 hx1 => ?_)
        refine wpAny_bind (wpAny_standAt (wpAny_bind (wpAny_of_eq (cB ce xv1) (wpAny_bind (wpAny_holding (thnF hx1 fun itv1 s11 got1 => ?_))))))
        obtain ⟨ib, fb, nb, JB, H11, rfl, I11, TB, sb11, fr11, Vw, ⟨m1, v1⟩, turnB⟩ := got1
        have heldB : ∀ {H' : Hp}, (∀ b ∈ fb, H' b = none) → ∀ b ∈ fb, FpOk (X.blk s3 G3 scope ce fa) ([] ++ pinsAt fa s7.heap) H' b := fun hn b hb => ⟨hn b hb, (fr11 b hb).2⟩
        have hk9 : ∀ (j : Nat) v, (wipe σ (own.map (·.2)))[j]? = some (some v) → (wipe σ8 ub)[j]? = some (some v) := fun j v e => by
          rw [wipe_out fun z => (hk8 j v e).2 (sub j z)]
          exact (hk8 j v e).1
        -- the second for's own loop
        have inner : codeAny (model X.prog X.w) X.A (.compLoop (.DictComp kx vx [⟨tA, iA, fA, 0⟩, ⟨tB, iB, fB, 0⟩] scope pos) 1 (.ref ib) (.ref D) ce)
            (fun r s' => match r with
              | .ok _ => ∃ m, m < n ∧ ∃ i H', Inv (X.blk s3 G3 scope ce fa) [] (wipe σ (own.map (·.2))) H' s' ∧ na i s'.heap ∧ (∀ b ∈ fa, H' b = none) ∧ W i m H'
              | .error _ => False) s11 := by
          refine codeAny_loop rfl (fun k s' => ∃ j H', Inv (X.blk s3 G3 scope ce fa) ([] ++ pinsAt fa s7.heap) (wipe σ8 ub) H' s' ∧ nb j s'.heap ∧ (∀ b ∈ fb, H' b = none) ∧ Vw j k H') (fun k s12 ⟨j, H12, I12, sb12, no12, v12⟩ => ?_) m1 ⟨0, H11, I11.weak (wipe_length _ _) (fun j v e => (wipe_some e).1), sb11, fun b hb => (fr11 b hb).1, v1⟩
          show wpAny _ X.A ((compTurn (.DictComp kx vx [⟨tA, iA, fA, 0⟩, ⟨tB, iB, fB, 0⟩] scope pos) 1 (.ref ib) (.ref D) ce).onRaise fun x => do noteFrame x ce; theTreesLotGoes x) _ _ s12
          refine wpAny_noted ?_
          show wpAny _ _ (standAt iB.pos >>= _) _ _ _
          refine wpAny_bind (wpAny_standAt ?_)
          show wpAny _ _ (pyNext (.ref ib) >>= _) _ _ _
          rcases turnB j k H12 v12 with ⟨stop1, nx1⟩ | ⟨go1, Ny, down1, step1⟩
          · refine wpAny_bind (thnF (TB.done (X.blk s3 G3 scope ce fa) rfl rfl rfl hc j _ s12 (wipe σ8 ub) H12 (fun _ _ => False) I12 (heldB no12) sb12 stop1) fun r s13 ⟨er, I13⟩ => ?_)
            subst er
            exact wpAny_pure (back I13 (len8.trans (wipe_length σ8 ub).symm) hk9 nx1)
          · refine wpAny_bind (thnF (TB.item (X.blk s3 G3 scope ce fa) rfl rfl rfl hc j _ s12 (wipe σ8 ub) H12 (fun _ _ => False) I12 (heldB no12) sb12 go1) fun r s13 ⟨u1, er, g13⟩ => ?_)
            subst er
            show wpAny _ _ (letOwnedTupleGo tB (.ref ib) u1 >>= _) _ _ _
            refine wpAny_bind (thnF g13 fun _ s14 ⟨x1, H14, I14, r14, y14, sb14, no14⟩ => ?_)
            refine wpAny_bind (thnF (yG.run _ s14 (wipe σ8 ub) H14 x1 u1 _ (I14.pinned (heldB no14) (TB.obj _ _ sb14)) r14 (step1 x1 H14 y14)) fun _ s15 ⟨σ15, H15, I15, hw15, q15⟩ => ?_)
            refine wpAny_bind (thnF (yT.run _ s15 σ15 H15 _ I15 q15) fun b1 s16 ⟨H16, I16, q16⟩ => ?_)
            have back1 : ∀ {s' : Shared} {H' : Hp}, Inv (X.blk s3 G3 scope ce fa) (([] ++ pinsAt fa s7.heap) ++ pinsAt fb s14.heap) σ15 H' s' → Ny H' →
                ∃ m, m < k ∧ ∃ j H', Inv (X.blk s3 G3 scope ce fa) ([] ++ pinsAt fa s7.heap) (wipe σ8 ub) H' s' ∧ nb j s'.heap ∧ (∀ b ∈ fb, H' b = none) ∧ Vw j m H' := fun {s' H'} I' ny => by
              obtain ⟨m', lt, w'⟩ := down1 H' ny
              have stay : ∀ b ∈ fb, ∀ o, s14.heap.get? b = some o → s'.heap.get? b = some o ∧ H' b = none := fun b hb o e => by
                have z := I'.pin (b, o) (List.mem_append_right _ (List.mem_append_right _ (mem_pinsAt hb e)))
                exact ⟨z.1, z.2.1⟩
              exact ⟨m', lt, j + 1, H', I'.unpinned.weak (by rw [← hw15, wipe_length]) (fun j v e => (wipe_some (hw15 ▸ e)).1), TB.keep _ _ _ sb14 fun b hb o e => (stay b hb o e).1, fun b hb => (TB.obj _ _ sb14 b hb).elim fun o z => (stay b hb o z.1).2, w'⟩
            cases b1 with
            | false =>
              simp only [Bool.false_eq_true, if_false] at q16 ⊢
              exact wpAny_pure ⟨rfl, back1 I16 q16⟩
            | true =>
              simp only [if_true] at q16 ⊢
              refine wpAny_bind (wpAny_bind (thnF (yK.run _ s16 σ15 H16 _ I16 q16) fun kv s17 ⟨yk, H17, I17, r17, q17⟩ => ?_))
              refine wpAny_bind (wpAny_holding (thnF (yV.run _ s17 σ15 H17 _ I17 q17) fun vv s18 ⟨yv, H18, I18, r18, kvs, kk, ek, d18, lt18, ny⟩ => ?_))
              subst ek
              exact wpAny_bind (wpAny_standAt (wpAny_holding (d_dictSet (X := (X.blk s3 G3 scope ce fa)) I18 d18 lt18 r17 r18 fun s19 I19 => wpAny_pure ⟨rfl, back1 I19 ny⟩)))
        refine wpAny_bind (wpAny_runOwn ?_)
        rw [Around.mark_none]
        refine codeAny_mono (dc_start1 inner (TB.self X.A 0 _ _ _ sb11 inner)) fun r s' hr => ?_
        cases r with
        | ok _ => first | exact wpAny_pure ⟨rfl, hr⟩ | exact wpAny_bind (wpAny_pure (wpAny_pure ⟨rfl, hr⟩))
        | error _ => exact hr.elim
  exact codeAny_compStart_dict loop (TA.self X.A 0 _ _ _ sa4 loop)
end
end L2

namespace L2
open PySem PySem.Spec PyProof.Rows
section
variable {X : Cx} {CX : CXT} {k : Nat} {f : Addr} {fd : FuncData} {x : Str} {st : Stmt} {ps ks : List Str} {sp : Sp} {E : St → XK} {p pos : Pos} {kws : List Keyword} {tk : TA}
variable {g : List Value → List Value → List Value} {gV : List V → List V → List V}
/-- a call with keywords whose way out may look at the slots -/
theorem run_fnkS {pins : List (Addr × Obj)} {σ : St} {H : Hp} {s : Shared} {Q : VK} {us ws : List Value} {vs zs : List V} (F : FnOk X.prog X.w X.K X.mg X.base CX k f fd ps sp) (hr : Room k X.A) (hb : KBinds X.K fd ps ks g gV) (hx : PassesAt CX X σ (E σ))
    (I : Inv X pins σ H s) (r : Vals vs us) (rz : Vals zs ws) (h : sp (gV vs zs) H Q (E σ)) : wpAny (model X.prog X.w) X.A (call (.ref f) us (ks.zip ws)) (EP X pins σ Q) X.xe s := by
  have r2 := hb.rel r rz
  have hl : (g us ws).length = ps.length := by rw [← r2.length]; exact F.len _ _ _ _ h
  refine wpAny_call (codeAny_mono (F.run X.A X.stack s H ⟨us, ks.zip ws⟩ (g us ws) (gV vs zs) Q (E σ) hr I.env0 (hb.to s us ws I.kIn hl) r2 h) fun r s' hq => ?_)
  cases r with
  | error e => exact hx pins H s e s' I hq
  | ok fl =>
    cases fl with
    | ret u => exact I.after hq
    | next => exact False.elim hq
    | brk => exact False.elim hq
    | cont => exact False.elim hq
def tCallKS (sp : Sp) (gV : List V → List V → List V) (E : St → XK) (tk : TA) : TE := fun σ H Q => tk σ H fun zs H2 => sp (gV [] zs) H2 Q (E σ)
theorem pe_callFKS0 (h : Kn X.prog X.w X.K X.mg X.base CX k x st ps sp) (hr : Room k X.A) (hb : KwB x st ps ks g gV) (hx : ∀ σ, PassesAt CX X σ (E σ)) (hkw : PK X kws tk) (hg : Gl X x := by rfl)
    (hall : (backToKw pos (keywordEach kws X.env)).all (·.1.isSome) = true := by rfl) (hks : (backToKw pos (keywordEach kws X.env)).filterMap (·.1) = ks := by rfl)
    (hdb : (x == ("__debug__" : Str)) = false := by decide)
    (hpl : ((backTo pos (starEach [] X.env)).any (·.1) || (backToKw pos (keywordEach kws X.env)).any (·.1.isNone)) = false := by rfl) :
    PE X (.Call (.Name x p) [] kws pos) (tCallKS sp gV E tk) := by
  obtain ⟨f, fd, F, gm, kp, b, kV, doc, pm, an, cdv, ct, rfl⟩ := h.ex
  have hbb : KBinds X.K (PySem.W.fnOf x x (defArgs st) (defBody st) (defScope st) .none kV doc pm an cdv ct) ps ks g gV := ⟨fun s us ws _ hl => .of_eq (hb.1 kV doc pm an cdv ct us ws hl), hb.2⟩
  refine ⟨fun pins s σ H Q I hq => wpAny_Call_Name_kw (ld_glob I hg gm ?_ hdb)⟩
  refine PySem.W.callWith_KW0 (h₀ := X.base) I.ok.mod.kin kp hall (thn (hkw.run pos pins s σ H _ I hq) fun ws s2 ⟨zs, H2, I2, rz, q2⟩ => ⟨I2.kIn, ?_⟩) hpl
  rw [hks]
  exact run_fnkS F hr hbb (hx σ) I2 .nil rz q2
end
end L2

/-! Z9: an own class's methods and its making as promises that carry their places; divmod of great ints. -/
namespace L2
open PySem PySem.Spec PyProof.Rows
structure DfM (K : PySem.W.Frag) (C : Addr) (m q : Str) (st : Stmt) (ps : List Str) : Prop where
  ex : ∃ (f : Addr) (fd : FuncData), Fun K m q st f fd ∧ Meth K C m f ∧ Binds K fd ps []
structure KM (P : Program) (w : World) (K : PySem.W.Frag) (mg : Str → Option Value) (base : Heap) (CX : CXT) (k : Nat) (C : Addr) (m : Str) (ps : List Str) (sp : Sp) : Prop where
  ex : ∃ (f : Addr) (fd : FuncData), FnOk P w K mg base CX k f fd ps sp ∧ Meth K C m f ∧ Binds K fd ps []
structure DfI (K : PySem.W.Frag) (C : Addr) (q : Str) (st : Stmt) (ps : List Str) : Prop where
  ex : ∃ (f : Addr) (fd : FuncData), Fun K "__init__" q st f fd ∧ Mk K C f ∧ Binds K fd ps []
structure KMk (P : Program) (w : World) (K : PySem.W.Frag) (mg : Str → Option Value) (base : Heap) (CX : CXT) (k : Nat) (C : Addr) (ps : List Str) (sp : Sp) : Prop where
  ex : ∃ (f : Addr) (fd : FuncData), FnOk P w K mg base CX k f fd ps sp ∧ Mk K C f ∧ Binds K fd ps []
section
variable {P : Program} {w : World} {K : PySem.W.Frag} {mg : Str → Option Value} {base : Heap} {m q : Str} {st : Stmt} {ps N : List Str} {k : Nat} {sp : Sp} {C : Addr}
theorem DfM.ok (D : DfM K C m q st ps) (S : FnScope N ps (defScope st)) (many : ∀ vs H Q E, sp vs H Q E → vs.length = ps.length)
    (hb : ∀ (f : Addr) (cdv : Value) (A : Around) (outer : List Env) (s : Shared) (H : Hp) (vs : List V) (Q : VK) (E : XK), Room k (A.deeper (envOfC q (defScope st) s.heap.objs.size f cdv)) → sp vs H Q E →
      ∃ t, PSs (cxOf CX0 P w K mg base N q (defScope st) f cdv A outer s H E).nox (defBody st) t ∧ t { nx := fun _ H' => Q .non H', rt := Q } (start N vs) H) : KM P w K mg base CX0 (k + 1) C m ps sp := by
  obtain ⟨f, fd, F, M, b⟩ := D.ex
  exact ⟨f, fd, F.ok S many fun cdv A outer s H vs Q E => hb f cdv A outer s H vs Q E, M, b⟩
theorem DfI.ok (D : DfI K C q st ps) (S : FnScope N ps (defScope st)) (many : ∀ vs H Q E, sp vs H Q E → vs.length = ps.length)
    (hb : ∀ (f : Addr) (cdv : Value) (A : Around) (outer : List Env) (s : Shared) (H : Hp) (vs : List V) (Q : VK) (E : XK), Room k (A.deeper (envOfC q (defScope st) s.heap.objs.size f cdv)) → sp vs H Q E →
      ∃ t, PSs (cxOf CX0 P w K mg base N q (defScope st) f cdv A outer s H E).nox (defBody st) t ∧ t { nx := fun _ H' => Q .non H', rt := Q } (start N vs) H) : KMk P w K mg base CX0 (k + 1) C ps sp := by
  obtain ⟨f, fd, F, M, b⟩ := D.ex
  exact ⟨f, fd, F.ok S many fun cdv A outer s H vs Q E => hb f cdv A outer s H vs Q E, M, b⟩
end
section
variable {X : Cx} {CX : CXT} {k : Nat} {C : Addr} {m x : Str} {ps : List Str} {sp : Sp} {E : XK} {pos apos p : Pos} {o e : Expr} {es : List Expr} {ta : TE} {t : TA}
theorem pe_methK {pl : Sem Bool} (h : KM X.prog X.w X.K X.mg X.base CX k C m ps sp) (c : Cls X.K C) (hr : Room k X.A) (hx : Passes CX X E) (ho : PE X o ta) (ha : PA X (e :: es) t)
    (hst : starEach (e :: es) X.env = (false, eval e X.env) :: starEach es X.env := by rfl) (hpl : (backTo pos (starEach es X.env)).any (·.1) = false := by rfl)
    (ht : eval (.Call (.Attribute o m apos) (e :: es) [] pos) X.env = (do
      let ov ← eval o X.env
      standAt apos.atName
      let (f, first) ← holding [ov] (getMethod ov m pl)
      callWith pos f first (backTo pos (starEach (e :: es) X.env)) (backToKw pos (keywordEach [] X.env))) := by rfl) : PE X (.Call (.Attribute o m apos) (e :: es) [] pos) (tMeth C m sp [] E ta t) := by
  obtain ⟨f, fd, F, M, b⟩ := h.ex
  exact pe_meth (pl := pl) ho c M F hr b .nil hx ha hst hpl ht
theorem pe_methK0 {pl : Sem Bool} (h : KM X.prog X.w X.K X.mg X.base CX k C m ps sp) (c : Cls X.K C) (hr : Room k X.A) (hx : Passes CX X E) (ho : PE X o ta)
    (ht : eval (.Call (.Attribute o m apos) [] [] pos) X.env = (do
      let ov ← eval o X.env
      standAt apos.atName
      let (f, first) ← holding [ov] (getMethod ov m pl)
      callWith pos f first (backTo pos (starEach [] X.env)) (backToKw pos (keywordEach [] X.env))) := by rfl) : PE X (.Call (.Attribute o m apos) [] [] pos) (tMeth C m sp [] E ta tNil) := by
  obtain ⟨f, fd, F, M, b⟩ := h.ex
  exact pe_meth0 (pl := pl) ho c M F hr b .nil hx ht
theorem pe_makeK (h : KMk X.prog X.w X.K X.mg X.base CX k C ps sp) (hr : Room (k + 1) X.A) (hm : X.mg x = some (.ref C)) (hx : Passes CX X E) (ha : PA X (e :: es) t) (hg : Gl X x := by rfl)
    (hdb : (x == ("__debug__" : Str)) = false := by decide) (he : starEach (e :: es) X.env = (false, eval e X.env) :: starEach es X.env := by rfl) (hpl : (backTo pos (starEach es X.env)).any (·.1) = false := by rfl) :
    PE X (.Call (.Name x p) (e :: es) [] pos) (tMake C sp [] E t) := by
  obtain ⟨f, fd, F, M, b⟩ := h.ex
  exact pe_make M F hr hg hm b .nil hx ha hdb he hpl
def rListOf (K : PySem.W.Frag) : List V → Hp → VK → Prop := fun xs H Q => ∃ p ys, xs = [.ref p] ∧ (SqL K H p ys ∨ SqT K H p ys) ∧ ∀ l, H l = none → Q (.ref l) (upd H l (.lst ys))
theorem call_list_ofK (K : PySem.W.Frag) (e : X.K = K := by rfl) : CallR X (.type "list") (rListOf K) := by subst e; exact call_list_of
/-- divmod of ints of many digits: a new tuple -/
theorem call_divmodW : CallR X (.builtin "divmod") (fun xs H Q => ∃ i j, xs = [.int i, .int j] ∧ CDivW i j ∧ ∀ p, H p = none → Q (.ref p) (upd H p (.tup [.int (i / j), .int (i % j)]))) := by
  intro pins s σ H xs us Q I r h
  obtain ⟨i, j, rfl, hc, q⟩ := h
  obtain ⟨u, w', rfl, ⟨t, rfl⟩, ⟨t', rfl⟩⟩ := vals2 r
  have h1 : (0 : Int) < j := hc.1
  refine divmod_int (by omega) ?_ (.inl (PyProof.noPylong_of_log2 hc.2))
  rw [Int.fdiv_eq_ediv_of_nonneg i (by omega), Int.fmod_eq_emod_of_nonneg i (by omega)]
  have hn : H s.heap.objs.size = none := I.hok.fresh (Nat.le_refl _)
  refine ⟨.ref s.heap.objs.size, _, ?_, rfl, q _ hn⟩
  refine I.laid (fun b o e => Heap.get?_push_of_some _ e) (Nat.le_refl _) ⟨by simp only [List.length_cons, List.length_nil]; rw [sizeLine_eq]; decide, [.int (i / j) s.toks, .int (i % j) (s.toks + 1)], .cons ⟨_, rfl⟩ (.cons ⟨_, rfl⟩ .nil), ?_⟩
  exact ⟨_, Heap.get?_push_size s.heap rfl, rfl, 0, rfl⟩
end
end L2

namespace My
open PySem PySem.Spec PyProof.Rows L2
/-! ### the row's text, the built-ins, the errors' classes -/
abbrev topS (i : Nat) : Stmt := PySem.Challenge.pw_heldbehind_k17_sequences_with_stages_by.main.body.getD i (.Pass ⟨0, 0, 0, 0⟩)
structure Bl (mg : Str → Option Value) : Prop where
  isinstance : mg "isinstance" = none
  int : mg "int" = none
  bool : mg "bool" = none
  tuple : mg "tuple" = none
  len : mg "len" = none
  all : mg "all" = none
  enumerate : mg "enumerate" = none
  reversed : mg "reversed" = none
  sorted : mg "sorted" = none
  max : mg "max" = none
  min : mg "min" = none
  abs : mg "abs" = none
  range : mg "range" = none
  list : mg "list" = none
  repr : mg "repr" = none
  sum : mg "sum" = none
  any : mg "any" = none
  zip : mg "zip" = none
  str : mg "str" = none
  set : mg "set" = none
  dict : mg "dict" = none
structure Ex1 (K : PySem.W.Frag) (mg : Str → Option Value) (nm : Str) (C : Addr) : Prop where
  x : PySem.W.excIn K C [.type "ValueError", .type "Exception", .type "BaseException", .type "object"] "ValueError.__new__" = true
  g : mg nm = some (.ref C)
  k : PySem.W.keepIn K (.ref C) = true
  b : PySem.W.subIn K (.ref C) (.type "BaseException") = some true
  t : PySem.W.typeIn K (.ref C) = some (.type "type")
theorem passX {X : Cx} {E : XK} (tk : Takes X (fun cls d _ H => E cls d H)) : Passes (L2.CX X.prog X.w) X E := passes_call tk (fun _ _ _ _ h => h)
/-! ### what a value is -/
def tupAt (H : Hp) : V → Option (List V)
  | .ref a => match H a with
    | some (.tup xs) => some xs
    | _ => none
  | _ => none
def isInt : V → Bool
  | .int _ => true
  | _ => false
def isBl : V → Bool
  | .bl _ => true
  | _ => false
def isIdx (n : Int) : V → Bool
  | .int i => decide (0 ≤ i) && decide (i < n)
  | _ => false
inductive Vd (H : Hp) : V → Prop where
  | non : Vd H .non
  | bl (b : Bool) : Vd H (.bl b)
  | int (i : Int) : Vd H (.int i)
  | str (z : Str) : Vd H (.str z)
  | lst {a : Addr} {xs : List V} (h : H a = some (.lst xs)) : Vd H (.ref a)
  | tup {a : Addr} {xs : List V} (h : H a = some (.tup xs)) : Vd H (.ref a)
  | dK {a : Addr} {kvs : List (Key × V)} (h : H a = some (.dK kvs)) : Vd H (.ref a)
theorem Vd.same {H H' : Hp} {x : V} (v : Vd H x) (s : Same H H') : Vd H' x := by
  cases v with
  | non => exact .non
  | bl b => exact .bl b
  | int i => exact .int i
  | str z => exact .str z
  | lst h => exact .lst (s _ _ h)
  | tup h => exact .tup (s _ _ h)
  | dK h => exact .dK (s _ _ h)
theorem tupAt_tup {H : Hp} {a : Addr} {xs : List V} (h : H a = some (.tup xs)) : tupAt H (.ref a) = some xs := by simp only [tupAt, h]
theorem tupAt_lst {H : Hp} {a : Addr} {xs : List V} (h : H a = some (.lst xs)) : tupAt H (.ref a) = none := by simp only [tupAt, h]
theorem tupAt_dK {H : Hp} {a : Addr} {xs : List (Key × V)} (h : H a = some (.dK xs)) : tupAt H (.ref a) = none := by simp only [tupAt, h]
theorem Vd.ty {K : PySem.W.Frag} {H : Hp} {x : V} (v : Vd H x) : ∃ t : String, TyX K H x (.type t) ∧ kitB t "int" = some (isInt x || isBl x) ∧ kitB t "bool" = some (isBl x) ∧ kitB t "tuple" = some (tupAt H x).isSome := by
  cases v with
  | non => exact ⟨_, .base .non, (by decide +kernel : kitB "NoneType" "int" = some false), (by decide +kernel : kitB "NoneType" "bool" = some false), (by decide +kernel : kitB "NoneType" "tuple" = some false)⟩
  | bl b => exact ⟨_, .base (.bl b), (by decide +kernel : kitB "bool" "int" = some true), (by decide +kernel : kitB "bool" "bool" = some true), (by decide +kernel : kitB "bool" "tuple" = some false)⟩
  | int i => exact ⟨_, .base (.int i), (by decide +kernel : kitB "int" "int" = some true), (by decide +kernel : kitB "int" "bool" = some false), (by decide +kernel : kitB "int" "tuple" = some false)⟩
  | str z => exact ⟨_, .base (.str z), (by decide +kernel : kitB "str" "int" = some false), (by decide +kernel : kitB "str" "bool" = some false), (by decide +kernel : kitB "str" "tuple" = some false)⟩
  | lst h => exact ⟨_, .base (.lst h), (by decide +kernel : kitB "list" "int" = some false), (by decide +kernel : kitB "list" "bool" = some false), by rw [tupAt_lst h]; exact (by decide +kernel : kitB "list" "tuple" = some false)⟩
  | tup h => exact ⟨_, .base (.tup h), (by decide +kernel : kitB "tuple" "int" = some false), (by decide +kernel : kitB "tuple" "bool" = some false), by rw [tupAt_tup h]; exact (by decide +kernel : kitB "tuple" "tuple" = some true)⟩
  | dK h => exact ⟨_, .base (.dK h), (by decide +kernel : kitB "dict" "int" = some false), (by decide +kernel : kitB "dict" "bool" = some false), by rw [tupAt_dK h]; exact (by decide +kernel : kitB "dict" "tuple" = some false)⟩
/-! ### heldbehind.integers -/
def spIsInteger : Sp := fun vs H Q _ => ∃ x : V, vs = [x] ∧ Vd H x ∧ Q (.bl (isInt x)) H
def isBtw (n m : Int) : V → Bool
  | .int i => decide (n ≤ i) && decide (i ≤ m)
  | _ => false
theorem isBtw_idx (n : Int) (x : V) : isBtw 0 (n - 1) x = isIdx n x := by
  cases x with
  | int i =>
    show (decide (0 ≤ i) && decide (i ≤ n - 1)) = (decide (0 ≤ i) && decide (i < n))
    rw [show decide (i ≤ n - 1) = decide (i < n) from decide_eq_decide.mpr (by omega)]
  | _ => rfl
def spIsBetween : Sp := fun vs H Q _ => ∃ (x : V) (n m : Int), vs = [x, .int n, .int m] ∧ Vd H x ∧ Q (.bl (isBtw n m x)) H
def spIsIndex : Sp := fun vs H Q _ => ∃ (x : V) (n : Int), vs = [x, .int n] ∧ Vd H x ∧ Q (.bl (isIdx n x)) H
section
variable {P : Program} {w : World} {K : PySem.W.Frag} {mg : Str → Option Value} {base : Heap}
abbrev st_is_integer : Stmt := topS 8
abbrev N_is_integer : List Str := ["value"]
theorem sc_is_integer : FnScope N_is_integer ["value"] (defScope st_is_integer) := ⟨rfl, rfl, rfl, by decide +kernel, rfl, by decide +kernel, by decide +kernel⟩
theorem ok_is_integer (D : Df K mg "is_integer" st_is_integer ["value"]) (B : Bl mg) : Kn P w K mg base CX0 1 "is_integer" st_is_integer ["value"] spIsInteger := by
  refine D.ok sc_is_integer (fun vs H Q E h => ?_) (fun f cdv A outer s H vs Q E hr h => ?_)
  · obtain ⟨x, rfl, _⟩ := h; rfl
  obtain ⟨x, rfl, v, q⟩ := h
  refine ⟨_, ((pss_one (ps_ret (pe_and (pe_callB call_isi (by rfl) B.isinstance (by decide +kernel) (pa_cons (pv 0) (pa_cons (pe_bltn (v := .ty "int") (u := .type "int") (by rfl) B.int (by decide +kernel) rfl) pa_nil))) (pe_one (pe_not (pe_callB call_isi (by rfl) B.isinstance (by decide +kernel) (pa_cons (pv 0) (pa_cons (pe_bltn (v := .ty "bool") (u := .type "bool") (by rfl) B.bool (by decide +kernel) rfl) pa_nil))))))))), ?_⟩
  obtain ⟨t, ty, k1, k2, _⟩ := v.ty (K := K)
  refine ⟨_, rfl, _, _, _, _, _, rfl, .ty _, ty, kit_ty k1, _, rfl, ?_⟩
  cases e1 : isInt x with
  | true =>
    have e2 : isBl x = false := by cases x <;> first | rfl | cases e1
    rw [e2] at k2 ⊢
    refine iteT ⟨_, rfl, _, _, _, _, _, rfl, .ty _, ty, kit_ty k2, _, rfl, ?_⟩
    rw [e1] at q; exact q
  | false =>
    rw [e1] at q
    cases e2 : isBl x with
    | false => exact iteF q
    | true =>
      rw [e2] at k2
      exact iteT ⟨_, rfl, _, _, _, _, _, rfl, .ty _, ty, kit_ty k2, _, rfl, q⟩
abbrev st_is_between : Stmt := topS 9
abbrev N_is_between : List Str := ["value", "least", "greatest"]
theorem sc_is_between : FnScope N_is_between ["value", "least", "greatest"] (defScope st_is_between) := ⟨rfl, rfl, rfl, by decide +kernel, rfl, by decide +kernel, by decide +kernel⟩
theorem ok_is_between (D : Df K mg "is_between" st_is_between ["value", "least", "greatest"]) (B : Bl mg) (Kis_integer : Kn P w K mg base CX0 1 "is_integer" st_is_integer ["value"] spIsInteger) :
    Kn P w K mg base CX0 2 "is_between" st_is_between ["value", "least", "greatest"] spIsBetween := by
  refine D.ok sc_is_between (fun vs H Q E h => ?_) (fun f cdv A outer s H vs Q E hr h => ?_)
  · obtain ⟨x, n, m, rfl, _⟩ := h; rfl
  obtain ⟨x, n, m, rfl, v, q⟩ := h
  refine ⟨_, ((pss_one (ps_ret (pe_and (pe_callF Kis_integer (hr.mono (by decide)) pass0 (pa_cons (pv 0) pa_nil)) (pe_one (pe_chain op_le op_le (pv 1) (pv 0) (pv 2))))))), ?_⟩
  refine ⟨_, rfl, _, rfl, v, _, rfl, ?_⟩
  cases x with
  | int i =>
    refine iteT ⟨_, rfl, _, rfl, _, _, rfl, rfl, _, rfl, ?_⟩
    have q' : Q (.bl (decide (n ≤ i) && decide (i ≤ m))) H := q
    refine ite2 (fun c => ?_) (fun c => ?_)
    · rw [c, Bool.true_and] at q'
      exact ⟨_, rfl, _, _, rfl, rfl, q'⟩
    · rw [Bool.eq_false_iff.mpr c, Bool.false_and] at q'
      exact q'
  | _ => exact iteF q
abbrev st_is_index : Stmt := topS 10
abbrev N_is_index : List Str := ["value", "many"]
theorem sc_is_index : FnScope N_is_index ["value", "many"] (defScope st_is_index) := ⟨rfl, rfl, rfl, by decide +kernel, rfl, by decide +kernel, by decide +kernel⟩
theorem ok_is_index (D : Df K mg "is_index" st_is_index ["value", "many"]) (B : Bl mg) (Kis_between : Kn P w K mg base CX0 2 "is_between" st_is_between ["value", "least", "greatest"] spIsBetween) :
    Kn P w K mg base CX0 3 "is_index" st_is_index ["value", "many"] spIsIndex := by
  refine D.ok sc_is_index (fun vs H Q E h => ?_) (fun f cdv A outer s H vs Q E hr h => ?_)
  · obtain ⟨x, n, rfl, _⟩ := h; rfl
  obtain ⟨x, n, rfl, v, q⟩ := h
  refine ⟨_, ((pss_one (ps_ret (pe_callF Kis_between (hr.mono (by decide)) pass0 (pa_cons (pv 0) (pa_cons pe_int (pa_cons (pe_op op_sub (pv 1) pe_int) pa_nil))))))), ?_⟩
  refine ⟨_, rfl, _, rfl, _, _, rfl, rfl, x, 0, n - 1, rfl, v, ?_⟩
  rw [isBtw_idx]
  exact q
end

end My

namespace My
open PySem PySem.Spec PyProof.Rows L2
/-! ### forests as lists of holders -/
def hv : Option Nat → V
  | none => .non
  | some u => .int (u : Int)
abbrev Hs := List (Option Nat)
def nv (l : List Nat) : List V := l.map fun v : Nat => V.int (v : Int)
def kidsTo (hs : Hs) (u i : Nat) : List Nat := (List.range i).filter fun v => decide (hs[v]? = some (some u))
def rootsTo (hs : Hs) (i : Nat) : List Nat := (List.range i).filter fun v => decide (hs[v]? = some none)
def kids (hs : Hs) (u : Nat) : List Nat := kidsTo hs u hs.length
def roots (hs : Hs) : List Nat := rootsTo hs hs.length
theorem kidsTo_succ (hs : Hs) (u i : Nat) : kidsTo hs u (i + 1) = kidsTo hs u i ++ (if hs[i]? = some (some u) then [i] else []) := by
  unfold kidsTo
  rw [List.range_succ, List.filter_append]
  by_cases h : hs[i]? = some (some u) <;> simp [h]
theorem rootsTo_succ (hs : Hs) (i : Nat) : rootsTo hs (i + 1) = rootsTo hs i ++ (if hs[i]? = some none then [i] else []) := by
  unfold rootsTo
  rw [List.range_succ, List.filter_append]
  by_cases h : hs[i]? = some none <;> simp [h]
theorem mem_kids {hs : Hs} {u v : Nat} : v ∈ kids hs u ↔ hs[v]? = some (some u) := by
  unfold kids kidsTo
  rw [List.mem_filter, List.mem_range, decide_eq_true_eq]
  exact ⟨fun h => h.2, fun h => ⟨(List.getElem?_eq_some_iff.mp h).1, h⟩⟩
theorem mem_roots {hs : Hs} {v : Nat} : v ∈ roots hs ↔ hs[v]? = some none := by
  unfold roots rootsTo
  rw [List.mem_filter, List.mem_range, decide_eq_true_eq]
  exact ⟨fun h => h.2, fun h => ⟨(List.getElem?_eq_some_iff.mp h).1, h⟩⟩
theorem nodup_kids (hs : Hs) (u : Nat) : (kids hs u).Nodup := List.nodup_range.filter _
theorem nodup_roots (hs : Hs) : (roots hs).Nodup := List.nodup_range.filter _
theorem kidsTo_len (hs : Hs) (u i : Nat) : (kidsTo hs u i).length ≤ i := by
  have h := List.length_filter_le (fun v => decide (hs[v]? = some (some u))) (List.range i)
  rw [List.length_range] at h; exact h
theorem rootsTo_len (hs : Hs) (i : Nat) : (rootsTo hs i).length ≤ i := by
  have h := List.length_filter_le (fun v => decide (hs[v]? = some none)) (List.range i)
  rw [List.length_range] at h; exact h
theorem nv_append (a b : List Nat) : nv (a ++ b) = nv a ++ nv b := List.map_append
theorem nv_length (a : List Nat) : (nv a).length = a.length := List.length_map _
theorem nv_get {a : List Nat} {i v : Nat} (h : a[i]? = some v) : (nv a)[i]? = some (.int (v : Int)) := by
  unfold nv; rw [List.getElem?_map, h]; rfl
theorem hv_get {hs : Hs} {i : Nat} {x : V} (h : (hs.map hv)[i]? = some x) : ∃ o, hs[i]? = some o ∧ x = hv o := by
  rw [List.getElem?_map] at h
  cases e : hs[i]? with
  | none => rw [e] at h; cases h
  | some o => rw [e] at h; exact ⟨o, rfl, (Option.some.inj h).symm⟩
theorem hv_at {hs : Hs} {i : Nat} {o : Option Nat} (h : hs[i]? = some o) : (hs.map hv)[i]? = some (hv o) := by rw [List.getElem?_map, h]; rfl
theorem szl {n : Nat} (h : n ≤ 1000) : n < sizeLine := small1000 h
/-! ### heldbehind.forests: the private lists -/
def spWithout (K : PySem.W.Frag) : Sp := fun vs H Q _ => ∃ (a : Addr) (hs : Hs), vs = [.ref a] ∧ SqT K H a (hs.map hv) ∧ hs.length ≤ 1000 ∧
  ∀ p H', Same H H' → H p = none → H' p = some (.lst (nv (roots hs))) → Q (.ref p) H'
section
variable {P : Program} {w : World} {K : PySem.W.Frag} {mg : Str → Option Value} {base : Heap}
abbrev st__without_holder : Stmt := topS 19
abbrev N__without_holder : List Str := ["forest", "thing", "holder"]
theorem sc__without_holder : FnScope N__without_holder ["forest"] (defScope st__without_holder) := ⟨rfl, rfl, rfl, by decide +kernel, rfl, by decide +kernel, by decide +kernel⟩
theorem ok__without_holder (D : Df K mg "_without_holder" st__without_holder ["forest"]) (B : Bl mg) : Kn P w K mg base CX0 1 "_without_holder" st__without_holder ["forest"] (spWithout K) := by
  refine D.ok sc__without_holder (fun vs H Q E h => ?_) (fun f cdv A outer s H vs Q E hr h => ?_)
  · obtain ⟨a, hs, rfl, _⟩ := h; rfl
  obtain ⟨a, hs, rfl, hS, hn, q⟩ := h
  refine ⟨_, ((pss_one (ps_ret (pe_lc (own := [("thing", 1), ("holder", 2)]) (g := gTup K 2 (gCons (gName 1) (gCons (gName 2) gNil))) rfl sc__without_holder.nd (pi_enumT (by rfl) B.enumerate (pa_cons (pv 0) pa_nil)) (blkOk_by (N := N__without_holder) (sc := defScope st__without_holder) (own := [("thing", 1), ("holder", 2)]) (by decide +kernel)) (fun _ _ _ _ _ => by (refine pg_tup (n := 2) ?hc ?h ?hn ?hst; (case hc => rfl); (case hn => rfl); (case hst => rfl); case h => (refine pgs_cons ?g1 ?g2; (case g1 => exact (pg_name (i := 1) sc__without_holder.nd rfl (Or.inl rfl))); case g2 => (refine pgs_cons ?g1 ?g2; (case g1 => exact (pg_name (i := 2) sc__without_holder.nd rfl (Or.inl rfl))); case g2 => (exact pgs_nil))))) (fun _ _ _ _ _ => by exact (pts_one (pt_cmpR op_isN (pv 2) pe_non (nomark _)))) (fun _ _ _ _ _ => by exact (pv 1)))))), ?_⟩
  refine ⟨_, rfl, a, _, rfl, hS, fun D hD => lc_it (walk_enumT (xs := hs.map hv)) (fun i H' => Same H H' ∧ H' D = some (.lst (nv (rootsTo hs i)))) ⟨(Same.refl H).new hD, upd_same⟩ (fun i H' _ p => p.1.tseq hS) ?_ ?_⟩
  · rintro i x H1 H2 hi ⟨s1, hD1⟩ ⟨T, x1, x2, rfl, hT, rfl, e1, e2⟩
    have e1' := Option.some.inj e1; subst e1'
    obtain ⟨o, ho, rfl⟩ := hv_get e2
    have hDT : D ≠ T := ne_of_none hD1 hT
    refine ⟨T, _, rfl, SqT.of upd_same, rfl, _, _, rfl, _, _, rfl, rfl, rfl, _, rfl, rfl, _, rfl, ?_⟩
    have s2 : Same H (upd H1 T (.tup [.int (i : Int), hv o])) := s1.new hT
    have hi' : (rootsTo hs i).length ≤ i := rootsTo_len hs i
    have hil : i < hs.length := (List.getElem?_eq_some_iff.mp ho).1
    have hD2 : upd H1 T (.tup [.int (i : Int), hv o]) D = some (.lst (nv (rootsTo hs i))) := by rw [upd_ne hDT]; exact hD1
    refine ite2 (fun c => ?_) (fun c => ?_)
    · have eo : o = none := by
        cases o with
        | none => rfl
        | some u => exact absurd (of_decide_eq_true c) (by intro z; cases z)
      refine ⟨_, rfl, _, hD2, by rw [nv_length]; exact szl (by omega), s2.upd hD, ?_⟩
      rw [upd_same, rootsTo_succ, ho, eo, if_pos rfl, nv_append]; rfl
    · have eo : ¬ some o = some none := by intro z; cases z; exact c rfl
      refine ⟨s2, ?_⟩
      rw [hD2, rootsTo_succ, ho, if_neg eo, List.append_nil]
  · rintro H1 ⟨s1, hD1⟩
    refine q D H1 s1 hD ?_
    rw [hD1, List.length_map]; rfl
end

end My

namespace My
open PySem PySem.Spec PyProof.Rows L2
def InB (hs : Hs) : Prop := ∀ v u : Nat, hs[v]? = some (some u) → u < hs.length
structure HeldTo (H : Hp) (p : Addr) (as : List Addr) (hs : Hs) (i : Nat) : Prop where
  lst : H p = some (.lst (as.map V.ref))
  len : as.length = hs.length
  nd : as.Nodup
  at_ : ∀ (j : Nat) (c : Addr), as[j]? = some c → H c = some (.lst (nv (kidsTo hs j i)))
abbrev HeldAt (H : Hp) (p : Addr) (as : List Addr) (hs : Hs) : Prop := HeldTo H p as hs hs.length
theorem HeldTo.same {H H' : Hp} {p : Addr} {as : List Addr} {hs : Hs} {i : Nat} (h : HeldTo H p as hs i) (s : Same H H') : HeldTo H' p as hs i :=
  ⟨s _ _ h.lst, h.len, h.nd, fun j c e => s _ _ (h.at_ j c e)⟩
theorem nodup_at {as : List Addr} (nd : as.Nodup) {i j : Nat} {c : Addr} (h1 : as[i]? = some c) (h2 : as[j]? = some c) : i = j := by
  obtain ⟨l1, e1⟩ := List.getElem?_eq_some_iff.mp h1
  obtain ⟨l2, e2⟩ := List.getElem?_eq_some_iff.mp h2
  exact (List.getElem_inj nd).mp (e1.trans e2.symm)
/-- nothing is held by a thing beyond the turns: the turn of a thing without a holder -/
theorem HeldTo.skip {H : Hp} {p : Addr} {as : List Addr} {hs : Hs} {i : Nat} (h : HeldTo H p as hs i) (e : hs[i]? = some none) : HeldTo H p as hs (i + 1) :=
  ⟨h.lst, h.len, h.nd, fun j c q => by
    have z : ¬ hs[i]? = some (some j) := by rw [e]; intro w; cases w
    rw [kidsTo_succ, if_neg z, List.append_nil]; exact h.at_ j c q⟩
theorem HeldTo.put {H : Hp} {p c : Addr} {as : List Addr} {hs : Hs} {i u : Nat} (h : HeldTo H p as hs i) (e : hs[i]? = some (some u)) (hc : as[u]? = some c) :
    HeldTo (upd H c (.lst (nv (kidsTo hs u i) ++ [.int (i : Int)]))) p as hs (i + 1) := by
  have hcl := h.at_ u c hc
  have hpc : p ≠ c := by
    intro z
    have q := h.lst
    rw [z, hcl] at q
    have q2 := HO.lst.inj (Option.some.inj q)
    have hl : as ≠ [] := by intro w; rw [w] at hc; cases hc
    cases as with
    | nil => exact hl rfl
    | cons a0 r =>
      cases hk : kidsTo hs u i with
      | nil => rw [hk] at q2; cases q2
      | cons k0 kr => rw [hk] at q2; cases q2
  refine ⟨by rw [upd_ne hpc]; exact h.lst, h.len, h.nd, fun j c' q => ?_⟩
  by_cases hj : j = u
  · subst hj
    have ec : c' = c := Option.some.inj (q.symm.trans hc)
    subst ec
    rw [upd_same, kidsTo_succ, if_pos e, nv_append]; rfl
  · have ec : c' ≠ c := fun z => hj (nodup_at h.nd q (by rw [z]; exact hc))
    have z : ¬ hs[i]? = some (some j) := by rw [e]; intro w; cases w; exact hj rfl
    rw [upd_ne ec, kidsTo_succ, if_neg z, List.append_nil]; exact h.at_ j c' q
def spHeld (K : PySem.W.Frag) : Sp := fun vs H Q _ => ∃ (a : Addr) (hs : Hs), vs = [.ref a] ∧ SqT K H a (hs.map hv) ∧ hs.length ≤ 1000 ∧ InB hs ∧
  ∀ p as H', Same H H' → H p = none → (∀ c ∈ as, H c = none) → HeldAt H' p as hs → Q (.ref p) H'
section
variable {P : Program} {w : World} {K : PySem.W.Frag} {mg : Str → Option Value} {base : Heap}
abbrev st__held_lists : Stmt := topS 20
abbrev N__held_lists : List Str := ["forest", "held", "thing", "holder", "_"]
theorem sc__held_lists : FnScope N__held_lists ["forest"] (defScope st__held_lists) := ⟨rfl, rfl, rfl, by decide +kernel, rfl, by decide +kernel, by decide +kernel⟩
theorem ok__held_lists (D : Df K mg "_held_lists" st__held_lists ["forest"]) (B : Bl mg) : Kn P w K mg base CX0 1 "_held_lists" st__held_lists ["forest"] (spHeld K) := by
  refine D.ok sc__held_lists (fun vs H Q E h => ?_) (fun f cdv A outer s H vs Q E hr h => ?_)
  · obtain ⟨a, hs, rfl, _⟩ := h; rfl
  obtain ⟨a, hs, rfl, hS, hn, hin, q⟩ := h
  refine ⟨_, ((pss_cons (ps_setLc (i := 1) (own := [("_", 4)]) (g := gName 4) rfl sc__held_lists.nd rfl rfl (sw_true rfl rfl rfl (by decide +kernel)) (pi_tup (pv 0)) (blkOk_by (N := N__held_lists) (sc := defScope st__held_lists) (own := [("_", 4)]) (by decide +kernel)) (fun _ _ _ _ _ => by (exact (pg_name (i := 4) sc__held_lists.nd rfl (Or.inl rfl)))) (fun _ _ _ _ _ => by exact pts_nil) (fun _ _ _ _ _ => by exact (pe_lst pa_nil)))
      (pss_cons (ps_for PassesOwn.never rfl (pi_enumT (by rfl) B.enumerate (pa_cons (pv 0) pa_nil)) (pg_tup rfl (pgs_cons (pg_name (i := 2) sc__held_lists.nd rfl (Or.inl rfl)) (pgs_cons (pg_name (i := 3) sc__held_lists.nd rfl (Or.inl rfl)) pgs_nil))) (pss_one (ps_if (pt_cmpR op_notN (pv 3) pe_non (nomark _)) (pss_one (ps_expr (pe_bm PySem.F.plainAttrs_list PySem.F.slot_list_append PySem.F.type_list_append mt_append (pe_ix ix_list (pv 1) (pv 3) (fun _ _ => rfl)) (pa_cons (pv 2) pa_nil)))) pss_nil)))
      (pss_one (ps_ret (pv 1)))))), ?_⟩
  refine ⟨_, rfl, a, rfl, ⟨_, hS⟩, fun D hD => lc_it (walk_tup (xs := hs.map hv)) (fun i H' => Same H H' ∧ ∃ as : List Addr, as.length = i ∧ as.Nodup ∧ H' D = some (.lst (as.map V.ref)) ∧ ∀ c ∈ as, H' c = some (.lst []) ∧ H c = none ∧ c ≠ D)
    ⟨(Same.refl H).new hD, [], rfl, List.nodup_nil, upd_same, fun c hc => by cases hc⟩ (fun i H' _ p => p.1.tseq hS) ?_ ?_⟩
  · rintro i x H1 H2 hi ⟨s1, as, hlen, nd, hD1, hcs⟩ ⟨rfl, e1⟩
    rw [List.length_map] at hi
    refine ⟨rfl, ⟨by show 0 ≤ sizeLine; decide, fun p hp => ?_⟩⟩
    have hDp : D ≠ p := ne_of_none hD1 hp
    have hpn : H p = none := s1.free hp
    refine ⟨_, by rw [upd_ne hDp]; exact hD1, by rw [List.length_map]; exact szl (by omega), (s1.upd hpn).upd hD, as ++ [p], ?_, ?_, ?_, ?_⟩
    · rw [List.length_append, hlen]; rfl
    · refine List.nodup_append.mpr ⟨nd, by simp, fun x hx y hy => ?_⟩
      have ey : y = p := by simpa using hy
      rw [ey]
      exact ne_of_none (hcs x hx).1 hp
    · rw [upd_same, List.map_append]; rfl
    · intro c hc
      rcases List.mem_append.mp hc with hc | hc
      · obtain ⟨c1, c2, c3⟩ := hcs c hc
        exact ⟨by rw [upd_ne c3, upd_ne (ne_of_none c1 hp)]; exact c1, c2, c3⟩
      · have ec : c = p := by simpa using hc
        rw [ec]
        exact ⟨by rw [upd_ne hDp.symm, upd_same], hpn, hDp.symm⟩
  · rintro H1 ⟨s1, as, hlen, nd, hD1, hcs⟩
    rw [List.length_map] at hlen
    have h0 : HeldTo H1 D as hs 0 := ⟨hD1, hlen, nd, fun j c e => (hcs c (List.mem_of_getElem? e)).1⟩
    refine ⟨_, rfl, a, _, rfl, s1.tseq hS, for_it (walk_enumT (xs := hs.map hv)) (fun i σ H' => ∃ v2 v3, σ = [some (.ref a), some (.ref D), v2, v3, none] ∧ Same H H' ∧ HeldTo H' D as hs i)
      ⟨none, none, rfl, s1, h0⟩ (fun i σ H' _ p => by obtain ⟨_, _, _, p, _⟩ := p; exact p.tseq hS) ?_ ?_⟩
    · rintro i x σ H2 H3 hi ⟨v2, v3, rfl, s2, hh⟩ ⟨T, x1, x2, rfl, hT, rfl, e1, e2⟩
      have e1' := Option.some.inj e1; subst e1'
      obtain ⟨o, ho, rfl⟩ := hv_get e2
      have s3 : Same H2 (upd H2 T (.tup [.int (i : Int), hv o])) := (Same.refl _).new hT
      have hh3 := hh.same s3
      refine ⟨T, _, rfl, SqT.of upd_same, rfl, _, _, rfl, _, _, rfl, rfl, _, rfl, rfl, _, rfl, ?_⟩
      cases o with
      | none => exact iteF ⟨_, _, rfl, s2.trans s3, hh3.skip ho⟩
      | some u =>
        have hu := hin i u ho
        have hil : i < hs.length := (List.getElem?_eq_some_iff.mp ho).1
        obtain ⟨c, hc⟩ : ∃ c, as[u]? = some c := ⟨as[u]'(by rw [hlen]; exact hu), List.getElem?_eq_getElem _⟩
        have hc2 : (as.map V.ref)[u]? = some (.ref c) := by rw [List.getElem?_map, hc]; rfl
        have hcl := hh3.at_ u c hc
        have hk := kidsTo_len hs u i
        refine iteT ⟨_, rfl, _, rfl, D, _, _, _, rfl, rfl, SqL.of hh3.lst, atI_nat hc2, .inl ⟨rfl, _, SqL.of hcl⟩, _, rfl, c, _, _, rfl, rfl, hcl, by rw [nv_length]; exact szl (by omega), ?_⟩
        exact ⟨_, _, rfl, (s2.trans s3).upd (hcs c (List.mem_of_getElem? hc)).2.1, hh3.put ho hc⟩
    · rintro σ H2 ⟨v2, v3, rfl, s2, hh⟩
      rw [List.length_map] at hh
      exact ⟨_, rfl, q D as H2 s2 hD (fun c hc => (hcs c hc).2.1) hh⟩
end

end My

namespace My
open PySem PySem.Spec PyProof.Rows L2
theorem nodup_len : ∀ (n : Nat) (l : List Nat), l.Nodup → (∀ v ∈ l, v < n) → l.length ≤ n
  | 0, l, _, h => by
    cases l with
    | nil => exact Nat.le_refl _
    | cons a r => exact absurd (h a List.mem_cons_self) (Nat.not_lt_zero _)
  | n + 1, l, nd, h => by
    by_cases hm : n ∈ l
    · have h1 : (l.erase n).Nodup := nd.erase n
      have h2 : ∀ v ∈ l.erase n, v < n := fun v hv => by
        have h3 := h v (List.mem_of_mem_erase hv)
        have h4 : v ≠ n := fun e => by
          rw [e] at hv
          exact (List.Nodup.not_mem_erase nd) hv
        omega
      have ih := nodup_len n _ h1 h2
      have hl := List.length_erase_of_mem hm
      have hp := List.length_pos_of_mem hm
      omega
    · have ih := nodup_len n l nd fun v hv => by
        have h3 := h v hv
        have h4 : v ≠ n := fun e => hm (e ▸ hv)
        omega
      omega
/-- how far a walk has come: found, and what is waiting (its last one next) -/
structure WT (hs : Hs) (st : List Nat) (Rn : Nat → Prop) (found wait : List Nat) : Prop where
  nd : (found ++ wait).Nodup
  ok : ∀ v ∈ found ++ wait, v < hs.length ∧ Rn v ∧ (v ∈ st ∨ ∃ u ∈ found, hs[v]? = some (some u))
  sm : ∀ v ∈ st, v ∈ found ++ wait
  cl : ∀ v u : Nat, hs[v]? = some (some u) → u ∈ found → v ∈ found ++ wait
  od : ∀ i v : Nat, found[i]? = some v → v ∈ st ∨ ∃ j u : Nat, j < i ∧ found[j]? = some u ∧ hs[v]? = some (some u)
  pr : ∀ pre : Nat → List Nat, (∀ v, Rn v → pre v = v :: (kids hs v).flatMap pre) → found ++ wait.reverse.flatMap pre = st.flatMap pre
structure Starts (hs : Hs) (st : List Nat) (Rn : Nat → Prop) : Prop where
  nd : st.Nodup
  ok : ∀ s ∈ st, s < hs.length ∧ Rn s
  down : ∀ v u : Nat, hs[v]? = some (some u) → Rn u → Rn v
  no : ∀ s ∈ st, ∀ u : Nat, hs[s]? = some (some u) → ¬ Rn u
theorem WT.start {hs : Hs} {st : List Nat} {Rn : Nat → Prop} (S : Starts hs st Rn) : WT hs st Rn [] st.reverse where
  nd := by rw [List.nil_append]; exact (List.reverse_perm st).nodup_iff.mpr S.nd
  ok := fun v hv => by
    rw [List.nil_append, List.mem_reverse] at hv
    exact ⟨(S.ok v hv).1, (S.ok v hv).2, .inl hv⟩
  sm := fun v hv => by rw [List.nil_append, List.mem_reverse]; exact hv
  cl := fun v u _ hu => by cases hu
  od := fun i v e => by cases e
  pr := fun pre _ => by rw [List.nil_append, List.reverse_reverse]
theorem WT.step {hs : Hs} {st : List Nat} {Rn : Nat → Prop} {found w : List Nat} {t : Nat} (S : Starts hs st Rn) (h : WT hs st Rn found (w ++ [t])) : WT hs st Rn (found ++ [t]) (w ++ (kids hs t).reverse) := by
  have ht : t ∈ found ++ (w ++ [t]) := by simp
  have htf : t ∉ found := fun z => by
    have q := h.nd
    rw [List.nodup_append] at q
    exact q.2.2 t z t (by simp) rfl
  have hRt := (h.ok t ht).2.1
  have hno : ∀ v ∈ found ++ (w ++ [t]), hs[v]? ≠ some (some t) := fun v hv e => by
    rcases (h.ok v hv).2.2 with z | ⟨u, hu, z⟩
    · exact S.no v z t e hRt
    · rw [e] at z
      cases z
      exact htf hu
  have mem : ∀ v, v ∈ (found ++ [t]) ++ (w ++ (kids hs t).reverse) ↔ v ∈ found ++ (w ++ [t]) ∨ v ∈ kids hs t := fun v => by
    simp only [List.mem_append, List.mem_singleton, List.mem_reverse]
    constructor
    · rintro ((a | a) | (a | a))
      · exact .inl (.inl a)
      · exact .inl (.inr (.inr a))
      · exact .inl (.inr (.inl a))
      · exact .inr a
    · rintro ((a | (a | a)) | a)
      · exact .inl (.inl a)
      · exact .inr (.inl a)
      · exact .inl (.inr a)
      · exact .inr (.inr a)
  refine ⟨?_, fun v hv => ?_, fun v hv => (mem v).mpr (.inl (h.sm v hv)), fun v u e hu => ?_, fun i v e => ?_, fun pre hp => ?_⟩
  · have p : ((found ++ [t]) ++ (w ++ (kids hs t).reverse)).Perm ((found ++ (w ++ [t])) ++ kids hs t) := by
      have p1 : ((found ++ [t]) ++ w).Perm (found ++ (w ++ [t])) := by
        rw [List.append_assoc]
        exact List.Perm.append_left found List.perm_append_comm
      rw [← List.append_assoc]
      exact p1.append (List.reverse_perm _)
    refine p.nodup_iff.mpr (List.nodup_append.mpr ⟨h.nd, nodup_kids hs t, fun x hx y hy e => ?_⟩)
    subst e
    exact hno x hx (mem_kids.mp hy)
  · rcases (mem v).mp hv with z | z
    · obtain ⟨a, b, c⟩ := h.ok v z
      refine ⟨a, b, ?_⟩
      rcases c with c | ⟨u, hu, e⟩
      · exact .inl c
      · exact .inr ⟨u, List.mem_append_left _ hu, e⟩
    · have e := mem_kids.mp z
      exact ⟨(List.getElem?_eq_some_iff.mp e).1, S.down v t e hRt, .inr ⟨t, by simp, e⟩⟩
  · rcases List.mem_append.mp hu with z | z
    · exact (mem v).mpr (.inl (h.cl v u e z))
    · have eu : u = t := by simpa using z
      rw [eu] at e
      exact (mem v).mpr (.inr (mem_kids.mpr e))
  · by_cases hi : i < found.length
    · rw [List.getElem?_append_left hi] at e
      rcases h.od i v e with z | ⟨j, u, hj, e1, e2⟩
      · exact .inl z
      · exact .inr ⟨j, u, hj, by rw [List.getElem?_append_left (by omega)]; exact e1, e2⟩
    · have hi2 : found.length ≤ i := by omega
      rw [List.getElem?_append_right hi2] at e
      have hz : i - found.length = 0 := by
        cases hk : i - found.length with
        | zero => rfl
        | succ k => rw [hk] at e; cases e
      rw [hz] at e
      have ev : t = v := Option.some.inj e
      subst ev
      rcases (h.ok t ht).2.2 with z | ⟨u, hu, e2⟩
      · exact .inl z
      · obtain ⟨j, ej⟩ := List.getElem?_of_mem hu
        have hj := (List.getElem?_eq_some_iff.mp ej).1
        exact .inr ⟨j, u, by omega, by rw [List.getElem?_append_left hj]; exact ej, e2⟩
  · have q := h.pr pre hp
    rw [← q, List.reverse_append, List.reverse_append, List.reverse_reverse]
    show _ = found ++ (t :: w.reverse).flatMap pre
    rw [List.flatMap_cons, hp t hRt, List.flatMap_append]
    simp
theorem WT.room {hs : Hs} {st : List Nat} {Rn : Nat → Prop} {found w : List Nat} {t : Nat} (h : WT hs st Rn found (w ++ [t])) : found.length < hs.length ∧ (w.length + 1) ≤ hs.length := by
  have q := nodup_len hs.length _ h.nd fun v hv => (h.ok v hv).1
  rw [List.length_append, List.length_append] at q
  have e : [t].length = 1 := rfl
  omega
theorem WT.lens {hs : Hs} {st : List Nat} {Rn : Nat → Prop} {found wait : List Nat} (h : WT hs st Rn found wait) : found.length + wait.length ≤ hs.length := by
  have q := nodup_len hs.length _ h.nd fun v hv => (h.ok v hv).1
  rw [List.length_append] at q
  exact q
def spWalkT (K : PySem.W.Frag) : Sp := fun vs H Q _ => ∃ (p q : Addr) (as : List Addr) (hs : Hs) (st : List Nat) (Rn : Nat → Prop), vs = [.ref p, .ref q] ∧ HeldAt H p as hs ∧ SqL K H q (nv st) ∧ hs.length ≤ 1000 ∧ Starts hs st Rn ∧
  ∀ r l H', Same H H' → H r = none → H' r = some (.lst (nv l)) → WT hs st Rn l [] → Q (.ref r) H'
theorem snoc_of {α : Type} {l : List α} (h : 0 < l.length) : ∃ w t, l = w ++ [t] := by
  have hne : l ≠ [] := by
    intro e; subst e; exact absurd h (Nat.lt_irrefl 0)
  refine ⟨l.dropLast, l.getLast hne, ?_⟩
  exact (List.dropLast_concat_getLast _).symm
section
variable {P : Program} {w : World} {K : PySem.W.Frag} {mg : Str → Option Value} {base : Heap}
abbrev st__walk_through : Stmt := topS 21
abbrev N__walk_through : List Str := ["held", "starts", "found", "waiting", "thing"]
theorem sc__walk_through : FnScope N__walk_through ["held", "starts"] (defScope st__walk_through) := ⟨rfl, rfl, rfl, by decide +kernel, rfl, by decide +kernel, by decide +kernel⟩
theorem ok__walk_through (D : Df K mg "_walk_through" st__walk_through ["held", "starts"]) (B : Bl mg) : Kn P w K mg base CX0 1 "_walk_through" st__walk_through ["held", "starts"] (spWalkT K) := by
  refine D.ok sc__walk_through (fun vs H Q E h => ?_) (fun f cdv A outer s H vs Q E hr h => ?_)
  · obtain ⟨p, q, as, hs, st, Rn, rfl, _⟩ := h; rfl
  obtain ⟨p, q, as, hs, st, Rn, rfl, hA, hq, hn, S, k⟩ := h
  refine ⟨_, ((pss_cons (ps_set (i := 2) sc__walk_through.nd rfl (Or.inl rfl) (pe_lst pa_nil))
      (pss_cons (ps_set (i := 3) sc__walk_through.nd rfl (Or.inl rfl) (pe_revL (pv 1)))
      (pss_cons (ps_while PassesOwn.never (pt_cmpR op_gt (pe_callB call_len (by rfl) B.len (by decide +kernel) (pa_cons (pv 3) pa_nil)) pe_int (nomark _)) (pss_cons (ps_set (i := 4) sc__walk_through.nd rfl (Or.inl rfl) (pe_bm0 PySem.F.plainAttrs_list PySem.F.slot_list_pop PySem.F.type_list_pop mt_pop (pv 3)))
      (pss_cons (ps_expr (pe_bm PySem.F.plainAttrs_list PySem.F.slot_list_append PySem.F.type_list_append mt_append (pv 2) (pa_cons (pv 4) pa_nil)))
      (pss_one (ps_expr (pe_bm PySem.F.plainAttrs_list PySem.F.slot_list_extend PySem.F.type_list_extend mt_extend (pv 3) (pa_cons (pe_revL (pe_ix ix_list (pv 0) (pv 4) (fun _ _ => rfl))) pa_nil)))))))
      (pss_one (ps_ret (pv 2))))))), ?_⟩
  refine ⟨by show 0 ≤ sizeLine; decide, fun F hF => ?_⟩
  have s1 : Same H (upd H F (.lst [])) := (Same.refl H).new hF
  refine ⟨_, rfl, q, _, rfl, s1.seq hq, fun W hW => ?_⟩
  have hFW : F ≠ W := ne_of_none upd_same hW
  have hWn : H W = none := s1.free hW
  refine ⟨fun m σ H' => ∃ found wait v4, σ = [some (.ref p), some (.ref q), some (.ref F), some (.ref W), v4] ∧ Same H H' ∧ H' F = some (.lst (nv found)) ∧ H' W = some (.lst (nv wait)) ∧ WT hs st Rn found wait ∧ m = hs.length - found.length,
    ⟨_, [], st.reverse, none, rfl, s1.upd hWn, by rw [upd_ne hFW, upd_same]; rfl, ?_, WT.start S, rfl⟩, ?_⟩
  · rw [upd_same]
    unfold nv
    rw [List.map_reverse]
  · rintro m σ H' ⟨found, wait, v4, rfl, s2, hF2, hW2, hwt, rfl⟩
    refine ⟨_, rfl, _, _, rfl, .inl ⟨_, SqL.of hW2, rfl⟩, _, _, rfl, rfl, _, rfl, ?_⟩
    refine ite2 (fun c => ?_) (fun c => ?_)
    · have hpos : 0 < wait.length := by
        have c' := of_decide_eq_true c
        rw [nv_length] at c'
        omega
      obtain ⟨w', t, rfl⟩ := snoc_of hpos
      have hroom := hwt.room
      have hlens := (hwt.step S).lens
      rw [List.length_append, List.length_append, List.length_reverse] at hlens
      have h1 : [t].length = 1 := rfl
      refine ⟨fun σ' H' => ∃ m', m' < hs.length - found.length ∧ ∃ found wait v4, σ' = [some (.ref p), some (.ref q), some (.ref F), some (.ref W), v4] ∧ Same H H' ∧ H' F = some (.lst (nv found)) ∧ H' W = some (.lst (nv wait)) ∧ WT hs st Rn found wait ∧ m' = hs.length - found.length, fun _ _ h => h, ?_⟩
      -- thing = waiting.pop()
      refine ⟨_, rfl, .inl ⟨rfl, _, SqL.of hW2⟩, W, _, .int (t : Int), rfl, rfl, hW2, ?_, ?_⟩
      · rw [nv_append, List.length_append]
        show (nv w' ++ [V.int (t : Int)])[(nv w').length + 1 - 1]? = _
        simp
      have hW3 : upd H' W (.lst (nv (w' ++ [t])).dropLast) W = some (.lst (nv w')) := by
        rw [upd_same, nv_append]
        show some (HO.lst (nv w' ++ [V.int (t : Int)]).dropLast) = _
        rw [List.dropLast_concat]
      have hF3 : upd H' W (.lst (nv (w' ++ [t])).dropLast) F = some (.lst (nv found)) := by rw [upd_ne hFW]; exact hF2
      have s3 : Same H (upd H' W (.lst (nv (w' ++ [t])).dropLast)) := s2.upd hWn
      generalize upd H' W (.lst (nv (w' ++ [t])).dropLast) = H3 at hW3 hF3 s3 ⊢
      -- found.append(thing)
      refine ⟨_, rfl, .inl ⟨rfl, _, SqL.of hF3⟩, _, rfl, F, _, _, rfl, rfl, hF3, by rw [nv_length]; exact szl (by omega), ?_⟩
      have hF4 : upd H3 F (.lst (nv found ++ [V.int (t : Int)])) F = some (.lst (nv (found ++ [t]))) := by rw [upd_same, nv_append]; rfl
      have hW4 : upd H3 F (.lst (nv found ++ [V.int (t : Int)])) W = some (.lst (nv w')) := by rw [upd_ne hFW.symm]; exact hW3
      have s4 : Same H (upd H3 F (.lst (nv found ++ [V.int (t : Int)]))) := s3.upd hF
      generalize upd H3 F (.lst (nv found ++ [V.int (t : Int)])) = H4 at hF4 hW4 s4 ⊢
      -- waiting.extend(held[thing][::-1])
      have hA4 := hA.same s4
      have htl : t < hs.length := (hwt.ok t (by simp)).1
      obtain ⟨c2, hc2⟩ : ∃ c2, as[t]? = some c2 := ⟨as[t]'(by rw [hA.len]; exact htl), List.getElem?_eq_getElem _⟩
      have hc3 : (as.map V.ref)[t]? = some (.ref c2) := by rw [List.getElem?_map, hc2]; rfl
      refine ⟨_, rfl, .inl ⟨rfl, _, SqL.of hW4⟩, _, rfl, _, rfl, p, _, _, _, rfl, rfl, SqL.of hA4.lst, atI_nat hc3, c2, _, rfl, SqL.of (hA4.at_ t c2 hc2), fun R hR => ?_⟩
      have hWR : W ≠ R := ne_of_none hW4 hR
      have hFR : F ≠ R := ne_of_none hF4 hR
      refine ⟨W, R, _, _, rfl, rfl, by rw [upd_ne hWR]; exact hW4, upd_same, ?_, ?_⟩
      · rw [List.length_reverse, nv_length, nv_length]
        exact Nat.le_of_lt (szl (by show w'.length + (kids hs t).length ≤ 1000; omega))
      · refine ⟨_, ?_, found ++ [t], w' ++ (kids hs t).reverse, _, rfl, (s4.upd (s4.free hR)).upd hWn, by rw [upd_ne hFW, upd_ne hFR]; exact hF4, ?_, hwt.step S, rfl⟩
        · rw [List.length_append, h1]; omega
        · rw [upd_same, nv_append]
          congr 2
          unfold nv
          rw [List.map_reverse]; rfl
    · have hz : wait = [] := by
        cases wait with
        | nil => rfl
        | cons a r =>
          refine absurd (decide_eq_true ?_) c
          rw [nv_length, List.length_cons]; omega
      subst hz
      exact ⟨_, rfl, k F found H' s2 hF hF2 hwt⟩
end

end My

namespace My
open PySem PySem.Spec PyProof.Rows L2
inductive Rch (hs : Hs) : Nat → Prop where
  | root {v : Nat} (h : hs[v]? = some none) : Rch hs v
  | step {v u : Nat} (h : hs[v]? = some (some u)) (r : Rch hs u) : Rch hs v
/-- a forest as a list of holders -/
structure Fo (hs : Hs) : Prop where
  ne : hs ≠ []
  inb : InB hs
  all : ∀ v : Nat, v < hs.length → Rch hs v
theorem starts_roots (hs : Hs) : Starts hs (roots hs) (Rch hs) where
  nd := nodup_roots hs
  ok := fun s h => ⟨(List.getElem?_eq_some_iff.mp (mem_roots.mp h)).1, .root (mem_roots.mp h)⟩
  down := fun _ _ e r => .step e r
  no := fun s h u e => by rw [mem_roots.mp h] at e; cases e
theorem WT.all_found {hs : Hs} {l : List Nat} {Rn : Nat → Prop} (h : WT hs (roots hs) Rn l []) {v : Nat} (r : Rch hs v) : v ∈ l := by
  have z : ∀ w, w ∈ l ++ [] → w ∈ l := fun w q => by rw [List.append_nil] at q; exact q
  induction r with
  | root e => exact z _ (h.sm _ (mem_roots.mpr e))
  | step e _ ih => exact z _ (h.cl _ _ e ih)
theorem mem_of_full : ∀ (n : Nat) (l : List Nat), l.Nodup → (∀ v ∈ l, v < n) → l.length = n → ∀ v, v < n → v ∈ l := fun n l nd h e v hv => by
  refine Classical.byContradiction fun hm => ?_
  have q := nodup_len n (v :: l) (List.nodup_cons.mpr ⟨hm, nd⟩) fun w hw => by
    rcases List.mem_cons.mp hw with rfl | hw
    · exact hv
    · exact h w hw
  rw [List.length_cons] at q
  omega
theorem nodup_sub : ∀ (a l : List Nat), a.Nodup → (∀ v ∈ a, v ∈ l) → a.length ≤ l.length
  | [], l, _, _ => Nat.zero_le _
  | x :: r, l, nd, h => by
    have hx := h x List.mem_cons_self
    have ih := nodup_sub r (l.erase x) (List.nodup_cons.mp nd).2 fun v hv => by
      have hne : v ≠ x := fun e => (List.nodup_cons.mp nd).1 (e ▸ hv)
      exact (List.mem_erase_of_ne hne).mpr (h v (List.mem_cons_of_mem _ hv))
    have hl := List.length_erase_of_mem hx
    have hp := List.length_pos_of_mem hx
    rw [List.length_cons]
    omega
def holdOk (n : Int) : V → Bool
  | .non => true
  | x => isIdx n x
def toHold : V → Option Nat
  | .int i => some i.toNat
  | _ => none
theorem holds_of {n : Nat} : ∀ (xs : List V), (xs.all fun y => holdOk (n : Int) y) = true → xs = (xs.map toHold).map hv ∧ ∀ v u : Nat, (xs.map toHold)[v]? = some (some u) → u < n
  | [], _ => ⟨rfl, fun v u h => by simp at h⟩
  | x :: xs, h => by
    rw [List.all_cons, Bool.and_eq_true] at h
    obtain ⟨e, z⟩ := holds_of xs h.2
    have hx : x = hv (toHold x) ∧ ∀ u, toHold x = some u → u < n := by
      cases x with
      | non => exact ⟨rfl, fun u w => by cases w⟩
      | int i =>
        have c : (decide (0 ≤ i) && decide (i < (n : Int))) = true := h.1
        rw [Bool.and_eq_true, decide_eq_true_eq, decide_eq_true_eq] at c
        refine ⟨?_, fun u w => ?_⟩
        · show V.int i = V.int ((i.toNat : Nat) : Int)
          congr 1; omega
        · have w' := Option.some.inj w
          omega
      | _ => exact absurd (show false = true from h.1) Bool.false_ne_true
    refine ⟨?_, fun v u w => ?_⟩
    · rw [List.map_cons, List.map_cons, ← e, ← hx.1]
    · cases v with
      | zero => exact hx.2 u (Option.some.inj w)
      | succ v => exact z v u w
theorem holdOk_hv {hs : Hs} (h : InB hs) : ((hs.map hv).all fun y => holdOk (hs.length : Int) y) = true := by
  rw [List.all_eq_true]
  intro y hy
  obtain ⟨o, ho, rfl⟩ := List.mem_map.mp hy
  cases o with
  | none => rfl
  | some u =>
    obtain ⟨v, hv'⟩ := List.getElem?_of_mem ho
    have q := h v u hv'
    show (decide (0 ≤ (u : Int)) && decide ((u : Int) < (hs.length : Int))) = true
    rw [Bool.and_eq_true, decide_eq_true_eq, decide_eq_true_eq]
    omega
theorem hv_inj : ∀ {a b : Hs}, a.map hv = b.map hv → a = b
  | [], [], _ => rfl
  | [], _ :: _, h => by cases h
  | _ :: _, [], h => by cases h
  | x :: a, y :: b, h => by
    rw [List.map_cons, List.map_cons] at h
    injection h with h1 h2
    have e := hv_inj h2
    have e1 : x = y := by
      cases x with
      | none => cases y with
        | none => rfl
        | some u => cases h1
      | some v => cases y with
        | none => cases h1
        | some u =>
          have q := V.int.inj h1
          congr 1; omega
    rw [e, e1]
def IsF (H : Hp) (x : V) : Prop := ∃ hs : Hs, tupAt H x = some (hs.map hv) ∧ Fo hs
/-- what is_forest may be asked: a value whose tuple's items are told too -/
structure Askd (H : Hp) (x : V) : Prop where
  vd : Vd H x
  items : ∀ xs, tupAt H x = some xs → xs.length ≤ 1000 ∧ ∀ y ∈ xs, Vd H y
theorem tupAt_ref {H : Hp} {x : V} {xs : List V} (h : tupAt H x = some xs) : ∃ a, x = .ref a ∧ H a = some (.tup xs) := by
  cases x with
  | ref a =>
    refine ⟨a, rfl, ?_⟩
    cases e : H a with
    | none => simp only [tupAt, e] at h; cases h
    | some o =>
      cases o with
      | tup ys => simp only [tupAt, e] at h; rw [Option.some.inj h]
      | _ => simp only [tupAt, e] at h; cases h
  | _ => cases h
def spIsForest : Sp := fun vs H Q _ => ∃ x : V, vs = [x] ∧ Askd H x ∧ ∀ b H', Same H H' → (b = true ↔ IsF H x) → Q (.bl b) H'
section
variable {P : Program} {w : World} {K : PySem.W.Frag} {mg : Str → Option Value} {base : Heap}
abbrev st_is_forest : Stmt := topS 14
abbrev N_is_forest : List Str := ["value", "holder"]
theorem sc_is_forest : FnScope N_is_forest ["value"] (defScope st_is_forest) := ⟨rfl, rfl, rfl, by decide +kernel, rfl, by decide +kernel, by decide +kernel⟩
theorem ok_is_forest (D : Df K mg "is_forest" st_is_forest ["value"]) (B : Bl mg) (Kis_index : Kn P w K mg base CX0 3 "is_index" st_is_index ["value", "many"] spIsIndex)
    (K_without_holder : Kn P w K mg base CX0 1 "_without_holder" st__without_holder ["forest"] (spWithout K)) (K_held_lists : Kn P w K mg base CX0 1 "_held_lists" st__held_lists ["forest"] (spHeld K))
    (K_walk_through : Kn P w K mg base CX0 1 "_walk_through" st__walk_through ["held", "starts"] (spWalkT K)) : Kn P w K mg base CX0 4 "is_forest" st_is_forest ["value"] spIsForest := by
  refine D.ok sc_is_forest (fun vs H Q E h => ?_) (fun f cdv A outer s H vs Q E hr h => ?_)
  · obtain ⟨x, rfl, _⟩ := h; rfl
  obtain ⟨x, rfl, ask, q⟩ := h
  refine ⟨_, ((pss_cons (ps_if (PW.pt (pw_or (pt_not (pt_val (pe_callB call_isi (by rfl) B.isinstance (by decide +kernel) (pa_cons (pv 0) (pa_cons (pe_bltn (v := .ty "tuple") (u := .type "tuple") (by rfl) B.tuple (by decide +kernel) rfl) pa_nil))))) (pw_or1 (pt_cmpR op_eq (pe_callB call_len (by rfl) B.len (by decide +kernel) (pa_cons (pv 0) pa_nil)) pe_int (nomark _))))) (pss_one (ps_ret pe_bl)) pss_nil)
      (pss_cons (ps_if (pt_not (pt_val (pe_callB (cr_all rfl) (by rfl) B.all (by decide +kernel) (pa_cons (pe_lc (own := [("holder", 1)]) (g := gName 1) rfl sc_is_forest.nd (pi_tup (pv 0)) (blkOk_by (N := N_is_forest) (sc := defScope st_is_forest) (own := [("holder", 1)]) (by decide +kernel)) (fun _ _ _ _ _ => by (exact (pg_name (i := 1) sc_is_forest.nd rfl (Or.inl rfl)))) (fun _ _ _ _ _ => by exact pts_nil) (fun _ _ _ _ _ => by exact (pe_or (pe_cmpR op_isN (pv 1) pe_non (nomark _)) (pe_one (pe_callF Kis_index (hr.mono (by decide)) pass0 (pa_cons (pv 1) (pa_cons (pe_callB (call_lenK K) (by rfl) B.len (by decide +kernel) (pa_cons (pv 0) pa_nil)) pa_nil))))))) pa_nil)))) (pss_one (ps_ret pe_bl)) pss_nil)
      (pss_one (ps_ret (pe_cmpR op_eq (pe_callB call_len (by rfl) B.len (by decide +kernel) (pa_cons (pe_callF K_walk_through (hr.mono (by decide)) pass0 (pa_cons (pe_callF K_held_lists (hr.mono (by decide)) pass0 (pa_cons (pv 0) pa_nil)) (pa_cons (pe_callF K_without_holder (hr.mono (by decide)) pass0 (pa_cons (pv 0) pa_nil)) pa_nil))) pa_nil)) (pe_callB call_len (by rfl) B.len (by decide +kernel) (pa_cons (pv 0) pa_nil)) (nomark _))))))), ?_⟩
  obtain ⟨t, ty, _, _, k3⟩ := ask.vd.ty (K := K)
  refine ⟨_, rfl, _, _, _, _, _, rfl, .ty _, ty, kit_ty k3, _, rfl, ?_⟩
  have no : (¬ IsF H x) → ∀ H', Same H H' → Q (.bl false) H' := fun hn H' s' => q false H' s' ⟨fun z => absurd z Bool.false_ne_true, fun z => absurd z hn⟩
  cases e : tupAt H x with
  | none =>
    refine iteT (iteT ?_)
    exact no (fun ⟨hs, z, _⟩ => by rw [e] at z; cases z) H (Same.refl H)
  | some xs =>
    obtain ⟨a, rfl, ha⟩ := tupAt_ref e
    obtain ⟨hlen, hvd⟩ := ask.items xs e
    refine iteF ⟨_, rfl, _, _, rfl, .inr ⟨_, SqT.of ha, rfl⟩, rfl, _, rfl, ?_⟩
    refine ite2 (fun c => ?_) (fun c => ?_)
    · refine no (fun ⟨hs, z, fo⟩ => ?_) H (Same.refl H)
      rw [e] at z
      have z' := Option.some.inj z
      have c' := of_decide_eq_true c
      have c2 := V.int.inj c'
      rw [z', List.length_map] at c2
      exact fo.ne (List.eq_nil_of_length_eq_zero (by omega))
    · -- all([..])
      refine ⟨_, rfl, a, rfl, ⟨_, SqT.of ha⟩, fun L hL => lc_it (walk_tup (xs := xs)) (fun i H' => Same H H' ∧ H' L = some (.lst ((xs.take i).map fun y => V.bl (holdOk (xs.length : Int) y))))
        ⟨(Same.refl H).new hL, upd_same⟩ (fun i H' _ p => p.1.tseq (SqT.of ha)) ?_ ?_⟩
      · rintro i y H1 H2 hi ⟨s1, hL1⟩ ⟨rfl, e1⟩
        have hvy := (hvd y (List.mem_of_getElem? e1)).same s1
        have fin : ∃ acc, H2 L = some (.lst acc) ∧ acc.length < sizeLine ∧ (Same H (upd H2 L (.lst (acc ++ [V.bl (holdOk (xs.length : Int) y)]))) ∧ upd H2 L (.lst (acc ++ [V.bl (holdOk (xs.length : Int) y)])) L = some (.lst ((xs.take (i + 1)).map fun y => V.bl (holdOk (xs.length : Int) y)))) := by
          refine ⟨_, hL1, ?_, s1.upd hL, ?_⟩
          · rw [List.length_map, List.length_take]; exact szl (by omega)
          · rw [upd_same, List.take_add_one, e1]
            show _ = some (HO.lst (((xs.take i) ++ [y]).map _))
            rw [List.map_append]; rfl
        refine ⟨rfl, _, rfl, rfl, _, rfl, ?_⟩
        cases y with
        | non => exact iteT fin
        | _ =>
          refine iteF ⟨_, rfl, _, rfl, _, _, rfl, .inr ⟨_, s1.tseq (SqT.of ha), rfl⟩, _, _, rfl, hvy, ?_⟩
          exact fin
      · rintro H1 ⟨s1, hL1⟩
        rw [List.take_length] at hL1
        refine ⟨L, (xs.map fun y => holdOk (xs.length : Int) y), rfl, SqL.of (by rw [hL1, List.map_map]; rfl), _, rfl, ?_⟩
        have eall : (xs.map fun y => holdOk (xs.length : Int) y).all id = xs.all fun y => holdOk (xs.length : Int) y := by rw [List.all_map]; rfl
        rw [eall]
        cases ea : xs.all fun y => holdOk (xs.length : Int) y with
        | false =>
          refine iteT (no (fun ⟨hs, z, fo⟩ => ?_) H1 s1)
          rw [e] at z
          have z' := Option.some.inj z
          have w := holdOk_hv fo.inb
          rw [z', List.length_map, w] at ea
          cases ea
        | true =>
          refine iteF ?_
          obtain ⟨ex, hb⟩ := holds_of xs ea
          have hlh : (xs.map toHold).length = xs.length := List.length_map _
          rw [← hlh] at hb
          have hS1 : SqT K H1 a ((xs.map toHold).map hv) := by rw [← ex]; exact s1.tseq (SqT.of ha)
          generalize hhs : xs.map toHold = hs at ex hb hlh hS1
          have e' : tupAt H (.ref a) = some (hs.map hv) := by rw [e, ex]
          -- len(_walk_through(..)) == len(value)
          refine ⟨_, rfl, a, hs, rfl, hS1, by omega, hb, fun p as H2 s2 hp hpc hA => ?_⟩
          refine ⟨_, rfl, a, hs, rfl, s2.tseq hS1, by omega, fun p2 H3 s3 hp2 hr2 => ?_⟩
          refine ⟨p, p2, as, hs, roots hs, Rch hs, rfl, hA.same s3, SqL.of hr2, by omega, starts_roots hs, fun r l H4 s4 hr4 hl4 hwt => ?_⟩
          refine ⟨_, _, rfl, .inl ⟨_, SqL.of hl4, rfl⟩, _, rfl, _, _, rfl, .inr ⟨_, s4.tseq (s3.tseq (s2.tseq hS1)), rfl⟩, rfl, ?_⟩
          refine q _ _ (((s1.trans s2).trans s3).trans s4) ⟨fun z => ?_, fun z => ?_⟩
          · have z2 := V.int.inj (of_decide_eq_true z)
            rw [nv_length, List.length_map] at z2
            have c3 : ¬ V.int (xs.length : Int) = V.int 0 := fun w => c (decide_eq_true w)
            refine ⟨hs, e', ?_, hb, fun v hv' => ?_⟩
            · intro w
              rw [w] at hlh
              exact c3 (by rw [← hlh]; rfl)
            · have hl2 : l.length = hs.length := by omega
              have nd2 := hwt.nd
              rw [List.append_nil] at nd2
              have hlt : ∀ w ∈ l, w < hs.length := fun w hw => (hwt.ok w (by rw [List.append_nil]; exact hw)).1
              have hm := mem_of_full hs.length l nd2 hlt hl2 v hv'
              exact (hwt.ok v (by rw [List.append_nil]; exact hm)).2.1
          · obtain ⟨hs', z1, fo⟩ := z
            rw [e'] at z1
            have eh := hv_inj (Option.some.inj z1)
            subst eh
            refine decide_eq_true ?_
            rw [nv_length, List.length_map]
            have h1 := hwt.lens
            rw [List.length_nil] at h1
            have h2 : hs.length ≤ l.length := by
              have q2 := nodup_sub (List.range hs.length) l List.nodup_range fun v hv' => hwt.all_found (fo.all v (List.mem_range.mp hv'))
              rw [List.length_range] at q2; exact q2
            have h3 : l.length = hs.length := by omega
            rw [h3]
end

end My

namespace My
open PySem PySem.Spec PyProof.Rows L2
/-! ### the law's well of numbers -/
structure Well (H : Hp) (wl : Addr) (n : Nat) : Prop where
  ex : ∃ a b c : Int, H wl = some (.lst [.int a, .int b, .int c]) ∧ 0 ≤ a ∧ 0 ≤ b ∧ b.natAbs < 2 ^ 200 ∧ 0 ≤ c ∧ c ≤ (n : Int)
theorem Well.mono {H : Hp} {wl : Addr} {n m : Nat} (h : Well H wl n) (l : n ≤ m) : Well H wl m := by
  obtain ⟨a, b, c, e, h1, h2, h3, h4, h5⟩ := h.ex
  exact ⟨a, b, c, e, h1, h2, h3, h4, by omega⟩
theorem Well.same {H H' : Hp} {wl : Addr} {n : Nat} (h : Well H wl n) (s : Same H H') : Well H' wl n := by
  obtain ⟨a, b, c, e, r⟩ := h.ex
  exact ⟨a, b, c, s _ _ e, r⟩
theorem Well.here {H : Hp} {wl : Addr} {n : Nat} (h : Well H wl n) : ∃ l, H wl = some (.lst l) := by
  obtain ⟨a, b, c, e, r⟩ := h.ex
  exact ⟨_, e⟩
def spWell (K : PySem.W.Frag) : Sp := fun vs H Q _ => ∃ (a : Addr) (ns : List Int) (i : Nat), vs = [.ref a, .int (i : Int)] ∧ SqL K H a (ns.map V.int) ∧ i < 64 ∧ ∀ p H', Same H H' → H p = none → Well H' p 0 → Q (.ref p) H'
def spDraw : Sp := fun vs H Q _ => ∃ (wl : Addr) (n : Nat) (m : Int), vs = [.ref wl, .int m] ∧ Well H wl n ∧ n < 2 ^ 60 ∧ 1 ≤ m ∧ m.natAbs < 2 ^ 100 ∧ ∀ d H', 0 ≤ d → d < m → Keep wl H H' → Well H' wl (n + 1) → Q (.int d) H'
theorem mul_small {i j : Int} (h : -(2 ^ 64) < i ∧ i < 2 ^ 64) : CMul i j := .inl h
theorem mod_abs {x m : Int} {b : Nat} (h0 : 0 < m) (h : m.natAbs < 2 ^ b) : (x % m).natAbs < 2 ^ b := by
  have h1 := Int.emod_nonneg x (show m ≠ 0 by omega)
  have h2 := Int.emod_lt_of_pos x h0
  omega
theorem cpow10 {k : Int} (h0 : 0 ≤ k) (h : k ≤ 1000) : CPowW 10 k := by
  refine ⟨h0, ?_⟩
  have e : (Builtin.Int.intBits 10 : Int) = 4 := by decide
  have e2 : (2 : Int) ^ 27 = 134217728 := by decide
  rw [e, e2]; omega
section
variable {P : Program} {w : World} {K : PySem.W.Frag} {mg : Str → Option Value} {base : Heap}
abbrev st__law_draw : Stmt := topS 43
abbrev N__law_draw : List Str := ["well", "most", "digit", "blend"]
theorem sc__law_draw : FnScope N__law_draw ["well", "most"] (defScope st__law_draw) := ⟨rfl, rfl, rfl, by decide +kernel, rfl, by decide +kernel, by decide +kernel⟩
theorem ok__law_draw (D : Df K mg "_law_draw" st__law_draw ["well", "most"]) (B : Bl mg) : Kn P w K mg base CX0 1 "_law_draw" st__law_draw ["well", "most"] spDraw := by
  refine D.ok sc__law_draw (fun vs H Q E h => ?_) (fun f cdv A outer s H vs Q E hr h => ?_)
  · obtain ⟨wl, n, m, rfl, _⟩ := h; rfl
  obtain ⟨wl, n, m, rfl, hw, hn, h1, hm, q⟩ := h
  refine ⟨_, ((pss_cons (ps_if (pt_cmpR op_gt (pe_ix ix_list (pv 0) pe_int (fun _ _ => rfl)) pe_int (nomark _)) (pss_cons (ps_set (i := 2) sc__law_draw.nd rfl (Or.inl rfl) (pe_op op_mod (pe_callTy call_int1 (by rfl) B.int (by decide +kernel) (pa_cons (pe_ix ix_list (pv 0) pe_int (fun _ _ => rfl)) pa_nil)) (pv 1)))
      (pss_cons (ps_asg (pe_op op_fdivW (pe_ix ix_list (pv 0) pe_int (fun _ _ => rfl)) (pv 1)) (pg_sub (pv 0) pe_int set_list))
      (pss_one (ps_ret (pv 2))))) pss_nil)
      (pss_cons (ps_asg (pe_op op_add (pe_ix ix_list (pv 0) pe_int (fun _ _ => rfl)) pe_int) (pg_sub (pv 0) pe_int set_list))
      (pss_cons (ps_set (i := 3) sc__law_draw.nd rfl (Or.inl rfl) (pe_op op_mod (pe_op op_powW (pe_callTy call_int1 (by rfl) B.int (by decide +kernel) (pa_cons (pe_op op_add (pe_ix ix_list (pv 0) pe_int (fun _ _ => rfl)) (pe_op op_mul pe_int (pe_ix ix_list (pv 0) pe_int (fun _ _ => rfl)))) pa_nil)) pe_int) (pe_op op_add (pe_op op_powW pe_int pe_int) pe_int)))
      (pss_cons (ps_set (i := 3) sc__law_draw.nd rfl (Or.inl rfl) (pe_op op_mod (pe_op op_powW (pe_callTy call_int1 (by rfl) B.int (by decide +kernel) (pa_cons (pe_op op_add (pv 3) (pe_op op_mul pe_int (pe_ix ix_list (pv 0) pe_int (fun _ _ => rfl)))) pa_nil)) pe_int) (pe_op op_add (pe_op op_powW pe_int pe_int) pe_int)))
      (pss_one (ps_ret (pe_op op_mod (pe_callTy call_int1 (by rfl) B.int (by decide +kernel) (pa_cons (pe_op op_fdivW (pv 3) pe_int) pa_nil)) (pv 1))))))))), ?_⟩
  obtain ⟨a, b, c, e, ha, hb, hb2, hc, hc2⟩ := hw.ex
  have g0 : ∀ {H' : Hp} {x y z : V}, H' wl = some (.lst [x, y, z]) → SqL K H' wl [x, y, z] := fun h => SqL.of h
  -- if well[0] > 0
  refine ⟨_, rfl, wl, _, _, _, rfl, rfl, g0 e, rfl, _, _, rfl, rfl, _, rfl, ?_⟩
  refine ite2 (fun c1 => ?_) (fun c1 => ?_)
  · -- digit = int(well[0]) % most; well[0] = well[0] // most; return digit
    refine ⟨_, rfl, wl, _, _, _, rfl, rfl, g0 e, rfl, .inl ⟨_, rfl, _, rfl, _, _, rfl, rfl, by show (0 : Int) < m; omega, ?_⟩⟩
    refine ⟨_, rfl, wl, _, _, _, rfl, rfl, g0 e, rfl, _, rfl, _, _, rfl, rfl, wide_div (by omega) hm (by decide) (by decide), ?_⟩
    refine ⟨_, rfl, wl, _, _, 0, rfl, rfl, e, rfl, ?_⟩
    refine ⟨_, rfl, q _ _ (Int.emod_nonneg a (by omega)) (Int.emod_lt_of_pos a (by omega)) (Keep.upd _ _ _) ⟨a / m, b, c, upd_same, Int.ediv_nonneg ha (by omega), hb, hb2, hc, by omega⟩⟩
  · -- well[2] = well[2] + 1
    refine ⟨_, rfl, wl, _, _, _, rfl, rfl, g0 e, rfl, _, _, rfl, rfl, ?_⟩
    refine ⟨_, rfl, wl, _, _, 2, rfl, rfl, e, rfl, ?_⟩
    have e2 : upd H wl (.lst (([V.int a, V.int b, V.int c]).set 2 (V.int (c + 1)))) wl = some (.lst [V.int a, V.int b, V.int (c + 1)]) := upd_same
    have k2 : Keep wl H (upd H wl (.lst (([V.int a, V.int b, V.int c]).set 2 (V.int (c + 1))))) := Keep.upd _ _ _
    have w2 : Well (upd H wl (.lst (([V.int a, V.int b, V.int c]).set 2 (V.int (c + 1))))) wl (n + 1) := ⟨a, b, c + 1, e2, ha, hb, hb2, by omega, by omega⟩
    generalize upd H wl (.lst (([V.int a, V.int b, V.int c]).set 2 (V.int (c + 1)))) = H2 at e2 k2 w2 ⊢
    have p60 : (2 : Nat) ^ 60 = 1152921504606846976 := by decide
    have p64 : (2 : Int) ^ 64 = 18446744073709551616 := by decide
    have p200 : (2 : Nat) ^ 200 = 1606938044258990275541962092341162602522202993782792835301376 := by decide +kernel
    have p201 : (2 : Nat) ^ 201 = 3213876088517980551083924184682325205044405987565585670602752 := by decide +kernel
    have b1 : (b + 715827883 * (c + 1)).natAbs < 2 ^ 201 := by omega
    have m1 : (10 : Int) ^ (41 : Int).toNat + 109 = 100000000000000000000000000000000000000109 := by decide +kernel
    have m2 : (10 : Int) ^ (39 : Int).toNat + 3 = 1000000000000000000000000000000000000003 := by decide +kernel
    -- blend = int(well[1] + 715827883 * well[2]) ** 3 % (10 ** 41 + 109)
    refine ⟨_, rfl, wl, _, _, _, rfl, rfl, g0 e2, rfl, _, rfl, wl, _, _, _, rfl, rfl, g0 e2, rfl, _, _, rfl, rfl, mul_small ⟨by rw [p64]; decide, by rw [p64]; decide⟩, _, _, rfl, rfl, .inl ⟨_, rfl, _, _, rfl, rfl, cpow3 b1 (by decide) (by decide),
      _, _, rfl, rfl, cpow10 (by decide) (by decide), _, _, rfl, rfl, _, _, rfl, rfl, by rw [m1]; show (0 : Int) < 100000000000000000000000000000000000000109; decide, ?_⟩⟩
    rw [m1]
    have b2 : ∀ x : Int, 0 ≤ x → x < 100000000000000000000000000000000000000109 → (x + 198491317 * (c + 1)).natAbs < 2 ^ 201 := fun x h h' => by omega
    have b3 : ∀ z : Int, (z % 100000000000000000000000000000000000000109 + 198491317 * (c + 1)).natAbs < 2 ^ 201 := fun z => b2 _ (Int.emod_nonneg _ (by decide)) (Int.emod_lt_of_pos _ (by decide))
    -- blend = int(blend + 198491317 * well[2]) ** 3 % (10 ** 39 + 3)
    refine ⟨_, rfl, _, rfl, wl, _, _, _, rfl, rfl, g0 e2, rfl, _, _, rfl, rfl, mul_small ⟨by rw [p64]; decide, by rw [p64]; decide⟩, _, _, rfl, rfl, .inl ⟨_, rfl, _, _, rfl, rfl, cpow3 (b3 _) (by decide) (by decide),
      _, _, rfl, rfl, cpow10 (by decide) (by decide), _, _, rfl, rfl, _, _, rfl, rfl, by rw [m2]; show (0 : Int) < 1000000000000000000000000000000000000003; decide, ?_⟩⟩
    rw [m2]
    -- return int(blend // 1048576) % most
    refine ⟨_, rfl, _, _, rfl, rfl, ⟨by decide, by decide +kernel⟩, .inl ⟨_, rfl, _, rfl, _, _, rfl, rfl, by omega, ?_⟩⟩
    exact q _ _ (Int.emod_nonneg _ (by omega)) (Int.emod_lt_of_pos _ (by omega)) k2 w2
abbrev st__law_well : Stmt := topS 42
abbrev N__law_well : List Str := ["script", "at", "cell"]
theorem sc__law_well : FnScope N__law_well ["script", "at"] (defScope st__law_well) := ⟨rfl, rfl, rfl, by decide +kernel, rfl, by decide +kernel, by decide +kernel⟩
theorem ok__law_well (D : Df K mg "_law_well" st__law_well ["script", "at"]) (B : Bl mg) : Kn P w K mg base CX0 1 "_law_well" st__law_well ["script", "at"] (spWell K) := by
  refine D.ok sc__law_well (fun vs H Q E h => ?_) (fun f cdv A outer s H vs Q E hr h => ?_)
  · obtain ⟨a, ns, i, rfl, _⟩ := h; rfl
  obtain ⟨a, ns, i, rfl, hS, hi, q⟩ := h
  refine ⟨_, ((pss_cons (ps_set (i := 2) sc__law_well.nd rfl (Or.inl rfl) (pe_ifExp (pt_cmpR op_lt (pv 1) (pe_callB call_len (by rfl) B.len (by decide +kernel) (pa_cons (pv 0) pa_nil)) (nomark _)) (pe_ix ix_list (pv 0) (pv 1) (fun _ _ => rfl)) pe_int))
      (pss_one (ps_ret (pe_lst (pa_cons (pe_callB (call_max2 rfl) (by rfl) B.max (by decide +kernel) (pa_cons pe_int (pa_cons (pe_op op_sub (pe_callB call_abs (by rfl) B.abs (by decide +kernel) (pa_cons (pv 2) pa_nil)) (pe_op op_powW pe_int pe_int)) pa_nil))) (pa_cons (pe_op op_add (pe_op op_add (pe_op op_mul (pe_op op_mod (pe_callTy call_int1 (by rfl) B.int (by decide +kernel) (pa_cons (pv 2) pa_nil)) (pe_op op_add (pe_op op_powW pe_int pe_int) pe_int)) pe_int) (pe_op op_mul pe_int (pv 1))) pe_int) (pa_cons pe_int pa_nil)))))))), ?_⟩
  have p64 : (2 : Int) ^ 64 = 18446744073709551616 := by decide
  have m1 : (10 : Int) ^ (37 : Int).toNat + 141 = 10000000000000000000000000000000000141 := by decide +kernel
  have p200 : (2 : Nat) ^ 200 = 1606938044258990275541962092341162602522202993782792835301376 := by decide +kernel
  -- what follows once the cell is known
  have rest : ∀ cell : Int, (tRet (tLst (tCons (tCB (fun xs H Q => ∃ i j, xs = [V.int i, V.int j] ∧ Q (.int (if j > i then j else i)) H) (tCons (tC (.int 0)) (tCons (tOp (rI0 fun i j => .int (i - j)) (tCB (fun xs H Q => ∃ i, xs = [V.int i] ∧ Q (.int (if i < 0 then -i else i)) H) (tCons (tVar 2) tNil)) (tOp (rI CPowW fun i j => .int (i ^ j.toNat)) (tC (.int 10)) (tC (.int 18)))) tNil)))
      (tCons (tOp (rI0 fun i j => .int (i + j)) (tOp (rI0 fun i j => .int (i + j)) (tOp (rI CMul fun i j => .int (i * j)) (tOp (rI (fun _ j => 0 < j) fun i j => .int (i % j)) (tCB (fun xs H Q => (∃ i, xs = [V.int i] ∧ Q (.int i) H) ∨ ∃ k, xs = [V.bl k] ∧ Q (.int (if k then 1 else 0)) H) (tCons (tVar 2) tNil)) (tOp (rI0 fun i j => .int (i + j)) (tOp (rI CPowW fun i j => .int (i ^ j.toNat)) (tC (.int 10)) (tC (.int 37))) (tC (.int 141)))) (tC (.int 101))) (tOp (rI CMul fun i j => .int (i * j)) (tC (.int 67)) (tVar 1))) (tC (.int 41)))
        (tCons (tC (.int 0)) tNil))))) { nx := fun _ H' => Q .non H', rt := Q } [some (.ref a), some (.int (i : Int)), some (.int cell)] H := fun cell => by
    refine ⟨_, rfl, _, rfl, _, _, rfl, rfl, cpow10 (by decide) (by decide), _, _, rfl, rfl, _, _, rfl, ?_⟩
    refine ⟨_, rfl, .inl ⟨_, rfl, _, _, rfl, rfl, cpow10 (by decide) (by decide), _, _, rfl, rfl, _, _, rfl, rfl, by rw [m1]; show (0 : Int) < 10000000000000000000000000000000000141; decide, _, _, rfl, rfl, .inr ⟨by decide, by decide⟩, _, rfl, _, _, rfl, rfl, .inl ⟨by decide, by decide⟩, _, _, rfl, rfl, _, _, rfl, rfl, by show 3 ≤ sizeLine; decide, fun p hp => ?_⟩⟩
    rw [m1]
    have x0 : 0 ≤ cell % 10000000000000000000000000000000000141 := Int.emod_nonneg _ (by decide)
    have x1 : cell % 10000000000000000000000000000000000141 < 10000000000000000000000000000000000141 := Int.emod_lt_of_pos _ (by decide)
    refine q p _ ((Same.refl H).new hp) hp ⟨_, _, 0, upd_same, ?_, ?_, ?_, Int.le_refl _, Int.le_refl _⟩
    · split <;> omega
    · omega
    · omega
  refine ⟨_, rfl, _, rfl, _, _, rfl, .inl ⟨_, hS, rfl⟩, _, _, rfl, rfl, _, rfl, ?_⟩
  refine ite2 (fun c1 => ?_) (fun c1 => ?_)
  · have hl : i < (ns.map V.int).length := by
      have c2 := of_decide_eq_true c1
      omega
    have hl2 : i < ns.length := by rw [List.length_map] at hl; exact hl
    refine ⟨_, rfl, _, rfl, a, _, _, _, rfl, rfl, hS, atI_nat (v := V.int ns[i]) (by rw [List.getElem?_map, List.getElem?_eq_getElem hl2]; rfl), ?_⟩
    exact rest _
  · exact rest 0
end

end My

namespace My
open PySem PySem.Spec PyProof.Rows L2
/-! ### a drawn forest: the mathematics -/
theorem walk_range0 {n : Nat} : Walk (Itr 0 n) n (fun _ => True) (YFn fun i => .int (i : Int)) :=
  (walk_range (lo := 0)).mono (fun _ h => h) fun i H x H' _ _ y => ⟨y.1, by rw [y.2]; show V.int (0 + (i : Int)) = V.int (i : Int); rw [Int.zero_add]⟩
def LtF (l : Hs) : Prop := ∀ j u : Nat, l[j]? = some (some u) → u < j
theorem LtF.snoc {l : Hs} {o : Option Nat} (h : LtF l) (ho : ∀ u, o = some u → u < l.length) : LtF (l ++ [o]) := fun j u e => by
  by_cases hj : j < l.length
  · rw [List.getElem?_append_left hj] at e; exact h j u e
  · have hj2 : l.length ≤ j := by omega
    rw [List.getElem?_append_right hj2] at e
    by_cases hz : j - l.length = 0
    · rw [hz] at e
      have q := ho u (Option.some.inj e)
      omega
    · obtain ⟨k, hk⟩ := Nat.exists_eq_succ_of_ne_zero hz
      rw [hk] at e; cases e
theorem fo_plain {l : Hs} (hne : l ≠ []) (h : LtF l) : Fo l := by
  refine ⟨hne, fun v u e => ?_, fun v hv => ?_⟩
  · have h1 := h v u e
    have h2 := (List.getElem?_eq_some_iff.mp e).1
    omega
  · induction v using Nat.strongRecOn with
    | _ v ih =>
      cases e : l[v]? with
      | none => rw [List.getElem?_eq_none_iff] at e; omega
      | some o =>
        cases o with
        | none => exact .root e
        | some u =>
          have q := h v u e
          exact .step e (ih u q (by omega))
def ren (nm : List Nat) : Option Nat → Option Nat
  | none => none
  | some u => some (nm.getD u 0)
theorem fo_turned {l T : Hs} {nm : List Nat} (hne : l ≠ []) (h : LtF l) (hp : nm.Perm (List.range l.length)) (hT : T.length = l.length)
    (hr : ∀ (j v : Nat) (o : Option Nat), nm[j]? = some v → l[j]? = some o → T[v]? = some (ren nm o)) : Fo T := by
  have hlen : nm.length = l.length := by rw [hp.length_eq, List.length_range]
  have hat : ∀ j : Nat, j < l.length → ∃ v o, nm[j]? = some v ∧ l[j]? = some o ∧ v < l.length := fun j hj => by
    have h1 : j < nm.length := by omega
    refine ⟨nm[j], l[j], List.getElem?_eq_getElem h1, List.getElem?_eq_getElem hj, ?_⟩
    have q := hp.mem_iff.mp (List.getElem_mem h1)
    exact List.mem_range.mp q
  have back : ∀ v : Nat, v < l.length → ∃ j : Nat, nm[j]? = some v := fun v hv => by
    have q := hp.mem_iff.mpr (List.mem_range.mpr hv)
    exact List.getElem?_of_mem q
  have jl : ∀ {j v : Nat}, nm[j]? = some v → j < l.length := fun {j v} e => by
    have q := (List.getElem?_eq_some_iff.mp e).1
    omega
  have rc : ∀ j v : Nat, nm[j]? = some v → Rch T v := fun j => by
    induction j using Nat.strongRecOn with
    | _ j ih =>
      intro v e
      obtain ⟨v', o, e1, e2, e3⟩ := hat j (jl e)
      have ev : v' = v := Option.some.inj (e1.symm.trans e)
      subst ev
      have q := hr j v' o e e2
      cases o with
      | none => exact .root q
      | some u =>
        have hu := h j u e2
        obtain ⟨vu, ou, f1, f2, f3⟩ := hat u (Nat.lt_trans hu (jl e))
        have g : nm.getD u 0 = vu := by rw [List.getD_eq_getElem?_getD, f1]; rfl
        refine .step (u := vu) ?_ (ih u hu vu f1)
        rw [q]; show some (some (nm.getD u 0)) = _; rw [g]
  refine ⟨fun z => hne (List.eq_nil_of_length_eq_zero (by rw [z] at hT; exact hT.symm)), fun v u e => ?_, fun v hv => ?_⟩
  · have hv := (List.getElem?_eq_some_iff.mp e).1
    rw [hT] at hv
    obtain ⟨j, ej⟩ := back v hv
    obtain ⟨v', o, e1, e2, e3⟩ := hat j (jl ej)
    have q := hr j v o ej e2
    rw [q] at e
    cases o with
    | none => cases e
    | some w =>
      have hw := h j w e2
      obtain ⟨vu, ou, f1, f2, f3⟩ := hat w (Nat.lt_trans hw (jl ej))
      have g : nm.getD w 0 = vu := by rw [List.getD_eq_getElem?_getD, f1]; rfl
      have e4 : nm.getD w 0 = u := Option.some.inj (Option.some.inj e)
      rw [hT]; omega
  · rw [hT] at hv
    obtain ⟨j, ej⟩ := back v hv
    exact rc j v ej
theorem nv_erase : ∀ (l : List Nat) (k : Nat), nv (l.eraseIdx k) = (nv l).eraseIdx k
  | [], k => by simp [nv]
  | a :: r, 0 => rfl
  | a :: r, k + 1 => by
    have ih := nv_erase r k
    show V.int (a : Int) :: nv (r.eraseIdx k) = V.int (a : Int) :: (nv r).eraseIdx k
    rw [ih]
theorem nv_range (n : Nat) : rgV 0 (n : Int) = nv (List.range n) := by
  unfold rgV nv
  have e : ((n : Int) - 0).toNat = n := by omega
  rw [e]
  refine List.map_congr_left fun i _ => ?_
  show V.int (0 + (i : Int)) = V.int (i : Int)
  rw [Int.zero_add]
theorem ixN_nat {n j : Nat} (h : j < n) : ixN n (j : Int) = some j := by
  unfold ixN
  rw [if_pos (by omega), if_pos (by omega)]
  congr 1
theorem seq_nat {n j : Nat} (h : j < n) : seqIndex? (j : Int) n = some j := (ixN_seq (ixN_nat h)).1
theorem rep_non : ∀ k : Nat, (List.replicate k [V.non]).flatten = (List.replicate k (none : Option Nat)).map hv
  | 0 => rfl
  | k + 1 => by
    rw [List.replicate_succ, List.flatten_cons, rep_non k, List.replicate_succ, List.map_cons]; rfl
theorem erase_perm : ∀ (l : List Nat) (j : Nat) (h : j < l.length), (l[j] :: l.eraseIdx j).Perm l
  | a :: r, 0, _ => List.Perm.refl _
  | a :: r, j + 1, h => by
    have hj : j < r.length := by rw [List.length_cons] at h; omega
    have ih := erase_perm r j hj
    exact (List.Perm.swap a (r[j]'hj) (r.eraseIdx j)).trans (List.Perm.cons a ih)
/-- one of a few, by a drawn number -/
theorem pick {xs : List V} {d : Int} (h0 : 0 ≤ d) (h1 : d < (xs.length : Int)) : ∃ v, v ∈ xs ∧ atI xs d = some v := by
  have hl : d.toNat < xs.length := by omega
  refine ⟨xs[d.toNat], List.getElem_mem hl, ?_⟩
  have e : d = ((d.toNat : Nat) : Int) := by omega
  have q := atI_nat (List.getElem?_eq_getElem hl)
  rw [← e] at q; exact q
def OkV (k : Nat) (v : V) : Prop := ∃ o : Option Nat, v = hv o ∧ ∀ u, o = some u → u < k
theorem OkV.non (k : Nat) : OkV k .non := ⟨none, rfl, fun _ h => by cases h⟩
theorem OkV.int {k : Nat} {i : Int} (h0 : 0 ≤ i) (h1 : i < (k : Int)) : OkV k (.int i) := by
  refine ⟨some i.toNat, ?_, fun u h => ?_⟩
  · show V.int i = V.int ((i.toNat : Nat) : Int)
    congr 1; omega
  · have e := Option.some.inj h
    omega
/-- slots of the drawing def -/
abbrev slF (wl F : Addr) (m sz way : Int) (v5 v6 v7 v8 v9 : Option V) : L2.St := [some (.ref wl), some (.int m), some (.int sz), some (.int way), some (.ref F), v5, v6, v7, v8, v9]
def spLForest : Sp := fun vs H Q _ => ∃ (wl : Addr) (n : Nat) (m : Int), vs = [.ref wl, .int m] ∧ Well H wl n ∧ n < 2 ^ 50 ∧ 1 ≤ m ∧ m ≤ 60 ∧
  ∀ t hs H', Fo hs → (hs.length : Int) ≤ m → Keep wl H H' → Well H' wl (n + 400) → H t = none → H' t = some (.tup (hs.map hv)) → Q (.ref t) H'
section
variable {P : Program} {w : World} {K : PySem.W.Frag} {mg : Str → Option Value} {base : Heap}
abbrev st__law_forest : Stmt := topS 45
abbrev N__law_forest : List Str := ["well", "most", "size", "way", "found", "k", "some", "names", "left", "turned_here"]
theorem sc__law_forest : FnScope N__law_forest ["well", "most"] (defScope st__law_forest) := ⟨rfl, rfl, rfl, by decide +kernel, rfl, by decide +kernel, by decide +kernel⟩
theorem ok__law_forest (D : Df K mg "_law_forest" st__law_forest ["well", "most"]) (B : Bl mg) (K_law_draw : Kn P w K mg base CX0 1 "_law_draw" st__law_draw ["well", "most"] spDraw) :
    Kn P w K mg base CX0 3 "_law_forest" st__law_forest ["well", "most"] spLForest := by
  refine D.ok sc__law_forest (fun vs H Q E h => ?_) (fun f cdv A outer s H vs Q E hr h => ?_)
  · obtain ⟨wl, n, m, rfl, _⟩ := h; rfl
  obtain ⟨wl, n, m, rfl, hw, hn, hm1, hm2, q⟩ := h
  refine ⟨_, ((pss_cons (ps_set (i := 2) sc__law_forest.nd rfl (Or.inl rfl) (pe_op op_add pe_int (pe_callF K_law_draw (hr.mono (by decide)) pass0 (pa_cons (pv 0) (pa_cons (pv 1) pa_nil)))))
      (pss_cons (ps_set (i := 3) sc__law_forest.nd rfl (Or.inl rfl) (pe_callF K_law_draw (hr.mono (by decide)) pass0 (pa_cons (pv 0) (pa_cons pe_int pa_nil))))
      (pss_cons (ps_set (i := 4) sc__law_forest.nd rfl (Or.inl rfl) (pe_lst pa_nil))
      (pss_cons (ps_for PassesOwn.never rfl (pi_range1 (by rfl) B.range (pa_cons (pv 2) pa_nil)) (pg_name (i := 5) sc__law_forest.nd rfl (Or.inl rfl)) (C8.pss_cut (ps_set (i := 6) sc__law_forest.nd rfl (Or.inl rfl) (pe_ifExp (pt_cmpR op_gt (pv 5) pe_int (nomark _)) (pe_ix ix_list (pe_lst (pa_cons pe_non (pa_cons (pe_op op_sub (pv 5) pe_int) (pa_cons (pe_callF K_law_draw (hr.mono (by decide)) pass0 (pa_cons (pv 0) (pa_cons (pe_callB (call_max2 rfl) (by rfl) B.max (by decide +kernel) (pa_cons pe_int (pa_cons (pv 5) pa_nil))) pa_nil))) pa_nil)))) (pe_callF K_law_draw (hr.mono (by decide)) pass0 (pa_cons (pv 0) (pa_cons pe_int pa_nil))) (fun _ _ => rfl)) pe_non))
      (C8.pss_cut (ps_if (PW.pt (pw_and (pt_cmpR op_gt (pv 5) pe_int (nomark _)) (pw_and1 (pt_cmpR op_eq (pv 3) pe_int (nomark _))))) (pss_one (ps_set (i := 6) sc__law_forest.nd rfl (Or.inl rfl) (pe_ix ix_list (pe_lst (pa_cons (pe_op op_sub (pv 5) pe_int) (pa_cons (pe_callB (call_max2 rfl) (by rfl) B.max (by decide +kernel) (pa_cons pe_int (pa_cons (pe_op op_sub (pv 5) pe_int) pa_nil))) pa_nil))) (pe_callF K_law_draw (hr.mono (by decide)) pass0 (pa_cons (pv 0) (pa_cons pe_int pa_nil))) (fun _ _ => rfl)))) pss_nil)
      (C8.pss_cut (ps_if (PW.pt (pw_and (pt_cmpR op_gt (pv 5) pe_int (nomark _)) (pw_and1 (pt_cmpR op_eq (pv 3) pe_int (nomark _))))) (pss_one (ps_set (i := 6) sc__law_forest.nd rfl (Or.inl rfl) (pe_ix ix_list (pe_lst (pa_cons pe_int (pa_cons pe_int (pa_cons pe_non (pa_cons (pe_callF K_law_draw (hr.mono (by decide)) pass0 (pa_cons (pv 0) (pa_cons (pv 5) pa_nil))) pa_nil))))) (pe_callF K_law_draw (hr.mono (by decide)) pass0 (pa_cons (pv 0) (pa_cons pe_int pa_nil))) (fun _ _ => rfl)))) pss_nil)
      (pss_one (ps_expr (pe_bm PySem.F.plainAttrs_list PySem.F.slot_list_append PySem.F.type_list_append mt_append (pv 4) (pa_cons (pv 6) pa_nil))))))))
      (pss_cons (ps_if (pt_cmpR op_eq (pe_callF K_law_draw (hr.mono (by decide)) pass0 (pa_cons (pv 0) (pa_cons pe_int pa_nil))) pe_int (nomark _)) (pss_one (ps_ret (pe_callTy call_tuple_of (by rfl) B.tuple (by decide +kernel) (pa_cons (pv 4) pa_nil)))) pss_nil)
      (pss_cons (ps_par (i := 7) (j := 8) (by rfl) sc__law_forest.nd rfl rfl (by decide) rfl rfl (pa_cons (pe_lst pa_nil) (pa_cons (pe_listRg rfl (by rfl) B.list (prg_1 (by rfl) B.range (pv 2))) pa_nil)) (by rfl))
      (pss_cons (ps_for PassesOwn.never rfl (pi_range1 (by rfl) B.range (pa_cons (pv 2) pa_nil)) (pg_name (i := 5) sc__law_forest.nd rfl (Or.inl rfl)) (pss_one (ps_expr (pe_bm PySem.F.plainAttrs_list PySem.F.slot_list_append PySem.F.type_list_append mt_append (pv 7) (pa_cons (pe_bm PySem.F.plainAttrs_list PySem.F.slot_list_pop PySem.F.type_list_pop mt_popAt (pv 8) (pa_cons (pe_callF K_law_draw (hr.mono (by decide)) pass0 (pa_cons (pv 0) (pa_cons (pe_callB call_len (by rfl) B.len (by decide +kernel) (pa_cons (pv 8) pa_nil)) pa_nil))) pa_nil)) pa_nil)))))
      (pss_cons (ps_set (i := 9) sc__law_forest.nd rfl (Or.inl rfl) (pe_op op_rep (pe_lst (pa_cons pe_non pa_nil)) (pv 2)))
      (pss_cons (ps_for PassesOwn.never rfl (pi_range1 (by rfl) B.range (pa_cons (pv 2) pa_nil)) (pg_name (i := 5) sc__law_forest.nd rfl (Or.inl rfl)) (pss_one (ps_asg (pe_ifExp (pt_cmpR op_isN (pe_ix ix_list (pv 4) (pv 5) (fun _ _ => rfl)) pe_non (nomark _)) pe_non (pe_ix ix_list (pv 7) (pe_ix ix_list (pv 4) (pv 5) (fun _ _ => rfl)) (fun _ _ => rfl))) (pg_sub (pv 9) (pe_ix ix_list (pv 7) (pv 5) (fun _ _ => rfl)) set_list))))
      (pss_one (ps_ret (pe_callTy call_tuple_of (by rfl) B.tuple (by decide +kernel) (pa_cons (pv 9) pa_nil)))))))))))))), ?_⟩
  have p50 : (2 : Nat) ^ 50 = 1125899906842624 := by decide
  have p60 : (2 : Nat) ^ 60 = 1152921504606846976 := by decide
  have p100 : (2 : Nat) ^ 100 = 1267650600228229401496703205376 := by decide +kernel
  have p62 : (2 : Int) ^ 62 = 4611686018427387904 := by decide
  have p63 : (2 : Int) ^ 63 = 9223372036854775808 := by decide
  obtain ⟨wl0, hwl0⟩ := hw.here
  -- size = 1 + _law_draw(well, most); way = _law_draw(well, 4); found = []
  refine ⟨_, rfl, _, rfl, wl, n, _, rfl, hw, by omega, by omega, by omega, fun d0 H1 d00 d01 k1 w1 => ⟨_, _, rfl, rfl, ?_⟩⟩
  refine ⟨_, rfl, wl, n + 1, _, rfl, w1, by omega, by omega, by omega, fun way H2 _ _ k2 w2 => ?_⟩
  refine ⟨by show 0 ≤ sizeLine; decide, fun F hF2 => ?_⟩
  obtain ⟨sz, hsz⟩ : ∃ sz : Nat, 1 + d0 = (sz : Int) := ⟨(1 + d0).toNat, by omega⟩
  have hsz1 : 1 ≤ sz := by omega
  have hsz2 : (sz : Int) ≤ m := by omega
  have hsz3 : sz ≤ 60 := by omega
  have k02 := k1.trans k2
  have hFw : F ≠ wl := by
    obtain ⟨l2, e2⟩ := w2.here
    exact (ne_of_none e2 hF2).symm
  have hFn : H F = none := by
    cases eF : H F with
    | none => rfl
    | some o =>
      have z := k02 F o hFw eF
      rw [hF2] at z; cases z
  -- for k in range(size)
  refine ⟨_, rfl, _, rfl, by omega, by omega, for_it walk_range0 (fun i σ H' => ∃ v5 v6, σ = slF wl F m (1 + d0) way v5 v6 none none none ∧ Keep wl H H' ∧ Well H' wl (n + 2 + 5 * i) ∧ ∃ l : Hs, l.length = i ∧ LtF l ∧ H' F = some (.lst (l.map hv)))
    ⟨none, none, rfl, k02.new hF2, (w2.same ((Same.refl H2).new hF2)), [], rfl, fun j u e => (by cases e), upd_same⟩ (fun _ _ _ _ _ => trivial) ?_ ?_⟩
  · rintro i x σ H3 H4 hi ⟨v5, v6, rfl, k3, w3, l, hl, hlt, hF3⟩ ⟨rfl, rfl⟩
    have hi' : i < sz := by omega
    -- some = [None, k - 1, draw(max(1, k))][draw(3)] if k > 0 else None
    refine ⟨fun σ' H' => ∃ v6, OkV i v6 ∧ σ' = slF wl F m (1 + d0) way (some (.int (i : Int))) (some v6) none none none ∧ Keep wl H H' ∧ Well H' wl (n + 2 + 5 * i + 2) ∧ H' F = some (.lst (l.map hv)), ?_, ?_⟩
    · refine ⟨_, rfl, _, _, rfl, rfl, _, rfl, ?_⟩
      refine ite2 (fun c => ?_) (fun c => ?_)
      · have ci : (0 : Int) < (i : Int) := of_decide_eq_true c
        refine ⟨_, rfl, _, _, rfl, rfl, ?_⟩
        refine ⟨_, rfl, _, rfl, _, _, rfl, wl, _, _, rfl, w3, by omega, by split <;> omega, by split <;> omega, fun d H5 d0 d1 k5 w5 => ⟨by show 3 ≤ sizeLine; decide, fun L hL => ?_⟩⟩
        have w6 := w5.same ((Same.refl H5).new (o := .lst [.non, .int ((i : Int) - 1), .int d]) hL)
        refine ⟨_, rfl, wl, _, _, rfl, w6, by omega, by omega, by omega, fun d2 H6 e0 e1 k6 w6 => ?_⟩
        have hLw : L ≠ wl := by
          obtain ⟨l2, e2⟩ := w5.here
          exact (ne_of_none e2 hL).symm
        have hL6 : H6 L = some (.lst [.non, .int ((i : Int) - 1), .int d]) := k6 L _ hLw upd_same
        obtain ⟨v, hv1, hv2⟩ := pick (xs := [.non, .int ((i : Int) - 1), .int d]) e0 e1
        refine ⟨L, _, _, v, rfl, rfl, SqL.of hL6, hv2, v, ?_, rfl, (k3.trans (k5.new hL)).trans k6, w6, k6 F _ hFw ?_⟩
        · have d2' : d < (i : Int) := by
            split at d1 <;> omega
          simp only [List.mem_cons, List.not_mem_nil, or_false] at hv1
          rcases hv1 with rfl | rfl | rfl
          · exact .non i
          · exact .int (by omega) (by omega)
          · exact .int d0 d2'
        · have z := k5 F _ hFw hF3
          rw [upd_ne (ne_of_none z hL)]; exact z
      · exact ⟨.non, .non i, rfl, k3, w3.mono (by omega), hF3⟩
    · rintro σ' H5 ⟨v6, ok6, rfl, k5, w5, hF5⟩
      -- if k > 0 and way == 0
      refine ⟨fun σ' H' => ∃ v6, OkV i v6 ∧ σ' = slF wl F m (1 + d0) way (some (.int (i : Int))) (some v6) none none none ∧ Keep wl H H' ∧ Well H' wl (n + 2 + 5 * i + 3) ∧ H' F = some (.lst (l.map hv)), ?_, ?_⟩
      · refine ⟨_, rfl, _, _, rfl, rfl, _, rfl, ?_⟩
        refine ite2 (fun c => ?_) (fun c => ?_)
        · have ci : (0 : Int) < (i : Int) := of_decide_eq_true c
          refine ⟨_, rfl, rfl, _, rfl, ?_⟩
          refine ite2 (fun c2 => ?_) (fun c2 => ?_)
          · refine ⟨_, rfl, _, _, rfl, rfl, _, rfl, _, _, rfl, rfl, _, _, rfl, by show 2 ≤ sizeLine; decide, fun L hL => ?_⟩
            have w6 := w5.same ((Same.refl H5).new (o := .lst [.int ((i : Int) - 1), .int (if (i : Int) - 2 > 0 then (i : Int) - 2 else 0)]) hL)
            refine ⟨_, rfl, wl, _, _, rfl, w6, by omega, by omega, by omega, fun d2 H6 e0 e1 k6 w6 => ?_⟩
            have hLw : L ≠ wl := by
              obtain ⟨l2, e2⟩ := w5.here
              exact (ne_of_none e2 hL).symm
            have hL6 : H6 L = some (.lst [.int ((i : Int) - 1), .int (if (i : Int) - 2 > 0 then (i : Int) - 2 else 0)]) := k6 L _ hLw upd_same
            obtain ⟨v, hv1, hv2⟩ := pick (xs := [.int ((i : Int) - 1), .int (if (i : Int) - 2 > 0 then (i : Int) - 2 else 0)]) e0 e1
            refine ⟨L, _, _, v, rfl, rfl, SqL.of hL6, hv2, v, ?_, rfl, (k5.new hL).trans k6, w6, k6 F _ hFw ?_⟩
            · simp only [List.mem_cons, List.not_mem_nil, or_false] at hv1
              rcases hv1 with rfl | rfl
              · exact .int (by omega) (by omega)
              · exact .int (by split <;> omega) (by split <;> omega)
            · rw [upd_ne (ne_of_none hF5 hL)]; exact hF5
          · exact ⟨v6, ok6, rfl, k5, w5.mono (by omega), hF5⟩
        · exact ⟨v6, ok6, rfl, k5, w5.mono (by omega), hF5⟩
      · rintro σ' H6 ⟨v6, ok6, rfl, k6, w6, hF6⟩
        -- if k > 0 and way == 1
        refine ⟨fun σ' H' => ∃ v6, OkV i v6 ∧ σ' = slF wl F m (1 + d0) way (some (.int (i : Int))) (some v6) none none none ∧ Keep wl H H' ∧ Well H' wl (n + 2 + 5 * i + 5) ∧ H' F = some (.lst (l.map hv)), ?_, ?_⟩
        · refine ⟨_, rfl, _, _, rfl, rfl, _, rfl, ?_⟩
          refine ite2 (fun c => ?_) (fun c => ?_)
          · have ci : (0 : Int) < (i : Int) := of_decide_eq_true c
            refine ⟨_, rfl, rfl, _, rfl, ?_⟩
            refine ite2 (fun c2 => ?_) (fun c2 => ?_)
            · refine ⟨_, rfl, _, rfl, wl, _, _, rfl, w6, by omega, by omega, by omega, fun d H7 d0 d1 k7 w7 => ⟨by show 4 ≤ sizeLine; decide, fun L hL => ?_⟩⟩
              have w8 := w7.same ((Same.refl H7).new (o := .lst [.int 0, .int 0, .non, .int d]) hL)
              refine ⟨_, rfl, wl, _, _, rfl, w8, by omega, by omega, by omega, fun d2 H8 e0 e1 k8 w8 => ?_⟩
              have hLw : L ≠ wl := by
                obtain ⟨l2, e2⟩ := w7.here
                exact (ne_of_none e2 hL).symm
              have hL8 : H8 L = some (.lst [.int 0, .int 0, .non, .int d]) := k8 L _ hLw upd_same
              obtain ⟨v, hv1, hv2⟩ := pick (xs := [.int 0, .int 0, .non, .int d]) e0 e1
              refine ⟨L, _, _, v, rfl, rfl, SqL.of hL8, hv2, v, ?_, rfl, (k6.trans (k7.new hL)).trans k8, w8, k8 F _ hFw ?_⟩
              · simp only [List.mem_cons, List.not_mem_nil, or_false] at hv1
                rcases hv1 with rfl | rfl | rfl | rfl
                · exact .int (by omega) (by omega)
                · exact .int (by omega) (by omega)
                · exact .non i
                · exact .int d0 d1
              · have z := k7 F _ hFw hF6
                rw [upd_ne (ne_of_none z hL)]; exact z
            · exact ⟨v6, ok6, rfl, k6, w6.mono (by omega), hF6⟩
          · exact ⟨v6, ok6, rfl, k6, w6.mono (by omega), hF6⟩
        · rintro σ' H7 ⟨v6, ⟨o, rfl, ho⟩, rfl, k7, w7, hF7⟩
          -- found.append(some)
          refine ⟨_, rfl, .inl ⟨rfl, _, SqL.of hF7⟩, _, rfl, F, _, _, rfl, rfl, hF7, by rw [List.length_map]; exact szl (by omega), ?_⟩
          have kf : Keep wl H (upd H7 F (.lst (l.map hv ++ [hv o]))) := fun b u hb e => by
            rw [upd_ne (ne_of_none e hFn)]; exact k7 b u hb e
          refine ⟨_, _, rfl, kf, ?_, l ++ [o], by rw [List.length_append, hl]; rfl, hlt.snoc (by rw [hl]; exact ho), by rw [upd_same, List.map_append]; rfl⟩
          obtain ⟨a, b, c, e, r⟩ := w7.ex
          exact ⟨a, b, c, by rw [upd_ne hFw.symm]; exact e, r.1, r.2.1, r.2.2.1, r.2.2.2.1, by omega⟩
  · rintro σ H3 ⟨v5, v6, rfl, k3, w3, l, hl, hlt, hF3⟩
    have e0 : (1 + d0).toNat = sz := by omega
    rw [e0] at w3 hl
    have hlne : l ≠ [] := by
      intro z; rw [z] at hl; rw [← hl] at hsz1; exact absurd hsz1 (by decide)
    -- if _law_draw(well, 3) == 0: return tuple(found)
    refine ⟨_, rfl, wl, _, _, rfl, w3, by omega, by omega, by omega, fun d H4 _ _ k4 w4 => ?_⟩
    have hF4 := k4 F _ hFw hF3
    have k04 := k3.trans k4
    refine ⟨rfl, _, rfl, ?_⟩
    refine ite2 (fun c => ?_) (fun c => ?_)
    · refine ⟨_, rfl, F, _, rfl, .inl ⟨SqL.of hF4, fun t ht => ?_⟩⟩
      have w5 := w4.same ((Same.refl H4).new (o := .tup (l.map hv)) ht)
      have htn : H t = none := by
        cases et : H t with
        | none => rfl
        | some o =>
          by_cases htw : t = wl
          · obtain ⟨l2, e2⟩ := w4.here
            rw [htw, e2] at ht; cases ht
          · have z := k04 t o htw et
            rw [ht] at z; cases z
      refine q t l _ (fo_plain hlne hlt) (by omega) (k04.new ht) (w5.mono (by omega)) htn upd_same
    · -- names, left = [], list(range(size))
      refine ⟨by show 0 ≤ sizeLine; decide, fun N hN => ?_⟩
      refine ⟨_, rfl, _, rfl, RgOk.of_le (by omega) (by omega) (by omega) (by omega), fun L hL => ⟨_, _, rfl, ?_⟩⟩
      have hNn : H N = none := by
        cases et : H N with
        | none => rfl
        | some o =>
          by_cases htw : N = wl
          · obtain ⟨l2, e2⟩ := w4.here
            rw [htw, e2] at hN; cases hN
          · have z := k04 N o htw et
            rw [hN] at z; cases z
      have hNw : N ≠ wl := by
        obtain ⟨l2, e2⟩ := w4.here
        exact (ne_of_none e2 hN).symm
      have hNL : N ≠ L := ne_of_none upd_same hL
      have hNF : F ≠ N := ne_of_none hF4 hN
      have hL4 : H4 L = none := by rw [upd_ne hNL.symm] at hL; exact hL
      have hLw : L ≠ wl := by
        obtain ⟨l2, e2⟩ := w4.here
        exact (ne_of_none e2 hL4).symm
      have hFL : F ≠ L := ne_of_none hF4 hL4
      have hLn : H L = none := by
        cases et : H L with
        | none => rfl
        | some o =>
          have z := k04 L o hLw et
          rw [hL4] at z; cases z
      have kk : ∀ {H' : Hp} {a : Addr} {o : HO}, Keep wl H H' → H a = none → Keep wl H (upd H' a o) := fun {H' a o} k hn b u hb e => by
        rw [upd_ne (ne_of_none e hn)]; exact k b u hb e
      have ww : ∀ {H' : Hp} {a : Addr} {o : HO} {k : Nat}, Well H' wl k → a ≠ wl → Well (upd H' a o) wl k := fun {H' a o k} h hn => by
        obtain ⟨x, y, z, e, r⟩ := h.ex
        exact ⟨x, y, z, by rw [upd_ne hn.symm]; exact e, r⟩
      -- for k in range(size): names.append(left.pop(_law_draw(well, len(left))))
      refine ⟨_, rfl, _, rfl, by omega, by omega, for_it walk_range0 (fun i σ H' => ∃ v5, σ = slF wl F m (1 + d0) way v5 v6 (some (.ref N)) (some (.ref L)) none ∧ Keep wl H H' ∧ Well H' wl (n + 3 + 5 * sz + i) ∧ H' F = some (.lst (l.map hv)) ∧
          ∃ nm lf : List Nat, nm.length = i ∧ (nm ++ lf).Perm (List.range sz) ∧ H' N = some (.lst (nv nm)) ∧ H' L = some (.lst (nv lf)))
        ⟨v5, rfl, kk (kk k04 hNn) hLn, (ww (ww w4 hNw) hLw).mono (by omega), by rw [upd_ne hFL, upd_ne hNF]; exact hF4, [], List.range sz, rfl, List.Perm.refl _, by rw [upd_ne hNL, upd_same]; rfl, by rw [upd_same, hsz, nv_range]⟩ (fun _ _ _ _ _ => trivial) ?_ ?_⟩
      · rintro i x σ H5 H6 hi ⟨v5, rfl, k5, w5, hF5, nm, lf, hnm, hp, hN5, hL5⟩ ⟨rfl, rfl⟩
        have hi' : i < sz := by omega
        have hlf : nm.length + lf.length = sz := by
          have z := hp.length_eq
          rw [List.length_append, List.length_range] at z; exact z
        refine ⟨_, rfl, .inl ⟨rfl, _, SqL.of hN5⟩, ?_⟩
        refine ⟨_, rfl, .inl ⟨rfl, _, SqL.of hL5⟩, ?_⟩
        refine ⟨_, rfl, _, rfl, _, _, rfl, .inl ⟨_, SqL.of hL5, rfl⟩, wl, _, _, rfl, w5, by omega, by rw [nv_length]; omega, by rw [nv_length]; omega, fun d H6 d0 d1 k6 w6 => ?_⟩
        rw [nv_length] at d1
        obtain ⟨j, hj⟩ : ∃ j : Nat, d = (j : Int) := ⟨d.toNat, by omega⟩
        subst hj
        have hjl : j < lf.length := by omega
        have hL6 := k6 L _ hLw hL5
        have hN6 := k6 N _ hNw hN5
        have hF6 := k6 F _ hFw hF5
        refine ⟨L, _, _, j, _, rfl, rfl, hL6, by omega, by omega, by rw [nv_length]; exact seq_nat hjl, nv_get (List.getElem?_eq_getElem hjl), ?_⟩
        refine ⟨N, _, _, rfl, rfl, by rw [upd_ne hNL]; exact hN6, by rw [nv_length]; exact szl (by omega), ?_⟩
        refine ⟨_, rfl, kk (kk (k5.trans k6) hLn) hNn, (ww (ww w6 hLw) hNw).mono (by omega), by rw [upd_ne hNF, upd_ne hFL]; exact hF6, nm ++ [lf[j]], lf.eraseIdx j, by rw [List.length_append, hnm]; rfl, ?_, by rw [upd_same, nv_append]; rfl, by rw [upd_ne hNL.symm, upd_same, nv_erase]⟩
        have pe := erase_perm lf j hjl
        rw [List.append_assoc]
        exact (List.Perm.append_left nm pe).trans hp
      · rintro σ H5 ⟨v5, rfl, k5, w5, hF5, nm, lf, hnm, hp, hN5, hL5⟩
        rw [e0] at hnm w5
        have hlf : nm.length + lf.length = sz := by
          have z := hp.length_eq
          rw [List.length_append, List.length_range] at z; exact z
        have hlf0 : lf = [] := List.eq_nil_of_length_eq_zero (by omega)
        subst hlf0
        rw [List.append_nil] at hp
        -- turned_here = [None] * size
        refine ⟨by show 1 ≤ sizeLine; decide, fun O hO => ?_⟩
        refine ⟨_, rfl, O, _, _, rfl, rfl, upd_same, by omega, by omega, ?_, fun T hT => ?_⟩
        · show 1 * (1 + d0).toNat ≤ sizeLine
          rw [e0, Nat.one_mul]; exact Nat.le_of_lt (szl (by omega))
        have hT5 : H5 T = none := by
          have z := hT
          rw [upd_ne (ne_of_none upd_same hT).symm] at z; exact z
        have fresh : ∀ {a : Addr}, H5 a = none → H a = none ∧ a ≠ wl ∧ F ≠ a ∧ N ≠ a := fun {a} ha => by
          have h1 : a ≠ wl := by
            obtain ⟨l2, e2⟩ := w5.here
            exact (ne_of_none e2 ha).symm
          refine ⟨?_, h1, ne_of_none hF5 ha, ne_of_none hN5 ha⟩
          cases et : H a with
          | none => rfl
          | some o =>
            have z := k5 a o h1 et
            rw [ha] at z; cases z
        obtain ⟨o1, o2, o3, o4⟩ := fresh hO
        obtain ⟨t1, t2, t3, t4⟩ := fresh hT5
        have hnl : ∀ j : Nat, j < sz → ∃ v, nm[j]? = some v ∧ v < sz := fun j hj => by
          have h1 : j < nm.length := by omega
          exact ⟨nm[j], List.getElem?_eq_getElem h1, List.mem_range.mp (hp.mem_iff.mp (List.getElem_mem h1))⟩
        have hnd : nm.Nodup := hp.nodup_iff.mpr List.nodup_range
        -- for k in range(size): turned_here[names[k]] = ..
        refine ⟨_, rfl, _, rfl, by omega, by omega, for_it walk_range0 (fun i σ H' => ∃ v5, σ = slF wl F m (1 + d0) way v5 v6 (some (.ref N)) (some (.ref L)) (some (.ref T)) ∧ Keep wl H H' ∧ Well H' wl (n + 3 + 6 * sz) ∧ H' F = some (.lst (l.map hv)) ∧ H' N = some (.lst (nv nm)) ∧
            ∃ th : Hs, th.length = sz ∧ (∀ (j v : Nat) (o : Option Nat), j < i → nm[j]? = some v → l[j]? = some o → th[v]? = some (ren nm o)) ∧ H' T = some (.lst (th.map hv)))
          ⟨v5, rfl, kk (kk k5 o1) t1, (ww (ww w5 o2) t2).mono (by omega), by rw [upd_ne t3, upd_ne o3]; exact hF5, by rw [upd_ne t4, upd_ne o4]; exact hN5, List.replicate sz none, List.length_replicate, fun j v o hj => absurd hj (Nat.not_lt_zero j), by rw [upd_same, rep_non, e0]⟩ (fun _ _ _ _ _ => trivial) ?_ ?_⟩
        · rintro i x σ H6 H7 hi ⟨v5, rfl, k6, w6, hF6, hN6, th, hth, hr, hT6⟩ ⟨rfl, rfl⟩
          have hi' : i < sz := by omega
          have hil : i < l.length := by omega
          obtain ⟨v, ev, hv'⟩ := hnl i hi'
          have eo : l[i]? = some l[i] := List.getElem?_eq_getElem hil
          generalize l[i] = o at eo
          have fin : ∀ x : V, x = hv (ren nm o) → gSub (tVar 9) (tOp (rIxL K) (tVar 7) (tVar 5)) rSetL x (slF wl F m (1 + d0) way (some (.int (i : Int))) v6 (some (.ref N)) (some (.ref L)) (some (.ref T))) H7
              (fun σ H' => ∃ v5, σ = slF wl F m (1 + d0) way v5 v6 (some (.ref N)) (some (.ref L)) (some (.ref T)) ∧ Keep wl H H' ∧ Well H' wl (n + 3 + 6 * sz) ∧ H' F = some (.lst (l.map hv)) ∧ H' N = some (.lst (nv nm)) ∧
                ∃ th : Hs, th.length = sz ∧ (∀ (j v : Nat) (o : Option Nat), j < i + 1 → nm[j]? = some v → l[j]? = some o → th[v]? = some (ren nm o)) ∧ H' T = some (.lst (th.map hv))) := by
            rintro x rfl
            refine ⟨_, rfl, _, rfl, _, rfl, N, _, _, _, rfl, rfl, SqL.of hN6, atI_nat (nv_get ev), T, _, _, v, rfl, rfl, hT6, by rw [List.length_map, hth]; exact ixN_nat hv', ?_⟩
            refine ⟨_, rfl, kk k6 t1, ww w6 t2, by rw [upd_ne t3]; exact hF6, by rw [upd_ne t4]; exact hN6, th.set v (ren nm o), by rw [List.length_set]; exact hth, ?_, by rw [upd_same, List.map_set]⟩
            intro j v' o' hj e1 e2
            by_cases hji : j = i
            · subst hji
              have q1 : v' = v := Option.some.inj (e1.symm.trans ev)
              have q2 : o' = o := Option.some.inj (e2.symm.trans eo)
              subst q1 q2
              exact List.getElem?_set_self (by rw [hth]; exact hv')
            · have hne : v ≠ v' := fun z => hji (nodup_at hnd e1 (by rw [← z]; exact ev))
              rw [List.getElem?_set_ne hne]
              exact hr j v' o' (by omega) e1 e2
          refine ⟨_, rfl, _, rfl, F, _, _, _, rfl, rfl, SqL.of hF6, atI_nat (hv_at eo), rfl, _, rfl, ?_⟩
          cases o with
          | none => exact iteT (fin _ rfl)
          | some u =>
            have hu := hlt i u eo
            obtain ⟨vu, eu, _⟩ := hnl u (by omega)
            refine iteF ⟨_, rfl, _, rfl, _, rfl, F, _, _, _, rfl, rfl, SqL.of hF6, atI_nat (hv_at eo), N, _, _, _, rfl, rfl, SqL.of hN6, atI_nat (nv_get eu), fin _ ?_⟩
            show V.int (vu : Int) = V.int ((nm.getD u 0 : Nat) : Int)
            rw [List.getD_eq_getElem?_getD, eu]; rfl
        · rintro σ H6 ⟨v5, rfl, k6, w6, hF6, hN6, th, hth, hr, hT6⟩
          rw [e0] at hr
          refine ⟨_, rfl, T, _, rfl, .inl ⟨SqL.of hT6, fun t ht => ?_⟩⟩
          have w7 := w6.same ((Same.refl H6).new (o := .tup (th.map hv)) ht)
          have htn : H t = none := by
            have h1 : t ≠ wl := by
              obtain ⟨l2, e2⟩ := w6.here
              exact (ne_of_none e2 ht).symm
            cases et : H t with
            | none => rfl
            | some o =>
              have z := k6 t o h1 et
              rw [ht] at z; cases z
          refine q t th _ (fo_turned hlne hlt (by rw [hl]; exact hp) (by rw [hth, hl]) fun j v o e1 e2 => hr j v o ?_ e1 e2) (by omega) (k6.new ht) (w7.mono (by omega)) htn upd_same
          have z := (List.getElem?_eq_some_iff.mp e2).1
          omega
end

end My

namespace My
open PySem PySem.Spec PyProof.Rows L2
/-! ### what the functions of heldbehind.forests raise and hand back -/
def spCheckF (C : Addr) : Sp := fun vs H Q E => ∃ x : V, vs = [x] ∧ Askd H x ∧ (IsF H x → ∀ H', Same H H' → Q .non H') ∧ (¬ IsF H x → ∀ H', Same H H' → E (.ref C) none H')
def spCheckT (C : Addr) : Sp := fun vs H Q E => ∃ (a : Addr) (xs : List V) (y : V), vs = [.ref a, y] ∧ H a = some (.tup xs) ∧ Vd H y ∧ (isIdx (xs.length : Int) y = true → Q .non H) ∧ (isIdx (xs.length : Int) y = false → E (.ref C) none H)
/-- a function of a forest alone: R what its answer's list may be -/
def spOf (C : Addr) (R : Hs → List V → Prop) : Sp := fun vs H Q E => ∃ x : V, vs = [x] ∧ Askd H x ∧ (∀ hs : Hs, tupAt H x = some (hs.map hv) → hs.length ≤ 60) ∧ (¬ IsF H x → ∀ H', Same H H' → E (.ref C) none H') ∧
  ∀ hs : Hs, tupAt H x = some (hs.map hv) → Fo hs → ∀ r l H', R hs l → Same H H' → H r = none → H' r = some (.lst l) → Q (.ref r) H'
/-- a function of a forest and a thing -/
def spOf2 (C C2 : Addr) (R : Hs → Nat → List V → Prop) : Sp := fun vs H Q E => ∃ x y : V, vs = [x, y] ∧ Askd H x ∧ Vd H y ∧ (∀ hs : Hs, tupAt H x = some (hs.map hv) → hs.length ≤ 60) ∧ (¬ IsF H x → ∀ H', Same H H' → E (.ref C) none H') ∧
  (∀ hs : Hs, tupAt H x = some (hs.map hv) → Fo hs → isIdx (hs.length : Int) y = false → ∀ H', Same H H' → E (.ref C2) none H') ∧
  ∀ hs : Hs, tupAt H x = some (hs.map hv) → Fo hs → ∀ t : Nat, y = .int (t : Int) → t < hs.length → ∀ r l H', R hs t l → Same H H' → H r = none → H' r = some (.lst l) → Q (.ref r) H'
theorem tupAt_same {H H' : Hp} {x : V} {xs : List V} (h : tupAt H x = some xs) (s : Same H H') : tupAt H' x = some xs := by
  obtain ⟨a, rfl, ha⟩ := tupAt_ref h
  exact tupAt_tup (s _ _ ha)
theorem Askd.same {H H' : Hp} {x : V} (h : Askd H x) (s : Same H H') (hi : ∀ xs, tupAt H' x = some xs → tupAt H x = some xs) : Askd H' x :=
  ⟨h.vd.same s, fun xs e => ⟨(h.items xs (hi xs e)).1, fun y hy => ((h.items xs (hi xs e)).2 y hy).same s⟩⟩
theorem isIdx_true {n : Nat} {y : V} (h : isIdx (n : Int) y = true) : ∃ t : Nat, y = .int (t : Int) ∧ t < n := by
  cases y with
  | int i =>
    have c : (decide (0 ≤ i) && decide (i < (n : Int))) = true := h
    rw [Bool.and_eq_true, decide_eq_true_eq, decide_eq_true_eq] at c
    exact ⟨i.toNat, by congr 1; omega, by omega⟩
  | _ => cases h
theorem vd_hv {H : Hp} (o : Option Nat) : Vd H (hv o) := by
  cases o with
  | none => exact .non
  | some u => exact .int _
section
variable {P : Program} {w : World} {K : PySem.W.Frag} {mg : Str → Option Value} {base : Heap} {CF CT : Addr}
abbrev st_check_forest : Stmt := topS 15
abbrev N_check_forest : List Str := ["forest"]
theorem sc_check_forest : FnScope N_check_forest ["forest"] (defScope st_check_forest) := ⟨rfl, rfl, rfl, by decide +kernel, rfl, by decide +kernel, by decide +kernel⟩
theorem ok_check_forest (D : Df K mg "check_forest" st_check_forest ["forest"]) (B : Bl mg) (EInvalidForest : Ex1 K mg "InvalidForest" CF) (Kis_forest : Kn P w K mg base CX0 4 "is_forest" st_is_forest ["value"] spIsForest) :
    Kn P w K mg base (L2.CX P w) 5 "check_forest" st_check_forest ["forest"] (spCheckF CF) := by
  refine D.okX sc_check_forest (fun vs H Q E h => ?_) (fun f cdv A outer s H vs Q E hr h => ?_)
  · obtain ⟨x, rfl, _⟩ := h; rfl
  obtain ⟨x, rfl, ask, q1, q2⟩ := h
  refine ⟨_, ((pss_one (ps_if (pt_not (pt_val (pe_callF Kis_forest (hr.mono (by decide)) pass0 (pa_cons (pv 0) pa_nil)))) (pss_one (ps_raise rfl (takes_of rfl rfl rfl rfl) (pmk_own0 PySem.F.excBase_ValueError EInvalidForest.x EInvalidForest.g EInvalidForest.k (raises_own EInvalidForest.b EInvalidForest.t) rfl))) pss_nil))), ?_⟩
  refine ⟨_, rfl, x, rfl, ask, fun b H' s' hb => ⟨_, rfl, ?_⟩⟩
  cases b with
  | true => exact iteF (q1 (hb.mp rfl) H' s')
  | false => exact iteT (q2 (fun z => Bool.false_ne_true (hb.mpr z)) H' s')
abbrev st_walk : Stmt := topS 17
abbrev N_walk : List Str := ["forest"]
theorem sc_walk : FnScope N_walk ["forest"] (defScope st_walk) := ⟨rfl, rfl, rfl, by decide +kernel, rfl, by decide +kernel, by decide +kernel⟩
theorem ok_walk (D : Df K mg "walk" st_walk ["forest"]) (B : Bl mg) (Kcheck_forest : Kn P w K mg base (L2.CX P w) 5 "check_forest" st_check_forest ["forest"] (spCheckF CF))
    (K_without_holder : Kn P w K mg base CX0 1 "_without_holder" st__without_holder ["forest"] (spWithout K)) (K_held_lists : Kn P w K mg base CX0 1 "_held_lists" st__held_lists ["forest"] (spHeld K))
    (K_walk_through : Kn P w K mg base CX0 1 "_walk_through" st__walk_through ["held", "starts"] (spWalkT K)) :
    Kn P w K mg base (L2.CX P w) 6 "walk" st_walk ["forest"] (spOf CF fun hs l => ∃ o, l = nv o ∧ WT hs (roots hs) (Rch hs) o []) := by
  refine D.okX sc_walk (fun vs H Q E h => ?_) (fun f cdv A outer s H vs Q E hr h => ?_)
  · obtain ⟨x, rfl, _⟩ := h; rfl
  obtain ⟨x, rfl, ask, _, q2, q⟩ := h
  refine ⟨_, ((pss_cons (ps_expr (pe_callF Kcheck_forest (hr.mono (by decide)) (passX (takes_of rfl rfl rfl rfl)) (pa_cons (pv 0) pa_nil)))
      (pss_one (ps_ret (pe_callF K_walk_through (hr.mono (by decide)) pass0 (pa_cons (pe_callF K_held_lists (hr.mono (by decide)) pass0 (pa_cons (pv 0) pa_nil)) (pa_cons (pe_callF K_without_holder (hr.mono (by decide)) pass0 (pa_cons (pv 0) pa_nil)) pa_nil))))))), ?_⟩
  refine ⟨_, rfl, x, rfl, ask, fun ⟨hs, e, fo⟩ H1 s1 => ?_, q2⟩
  obtain ⟨a, rfl, ha⟩ := tupAt_ref e
  have hl := (ask.items _ e).1
  rw [List.length_map] at hl
  have hS1 : SqT K H1 a (hs.map hv) := SqT.of (s1 _ _ ha)
  refine ⟨_, rfl, a, hs, rfl, hS1, hl, fo.inb, fun p as H2 s2 hp hpc hA => ?_⟩
  refine ⟨_, rfl, a, hs, rfl, s2.tseq hS1, hl, fun p2 H3 s3 hp2 hr2 => ?_⟩
  refine ⟨p, p2, as, hs, roots hs, Rch hs, rfl, hA.same s3, SqL.of hr2, hl, starts_roots hs, fun r l H4 s4 hr4 hl4 hwt => ?_⟩
  have s14 := (s1.trans s2).trans s3
  exact q hs e fo r _ H4 ⟨l, rfl, hwt⟩ (s14.trans s4) (s14.free hr4) hl4
end

end My

namespace My
open PySem PySem.Spec PyProof.Rows L2
/-! ### the ways up -/
inductive Ups (hs : Hs) : Nat → List Nat → Prop where
  | root {v : Nat} (h : hs[v]? = some none) : Ups hs v []
  | step {v u : Nat} {l : List Nat} (h : hs[v]? = some (some u)) (r : Ups hs u l) : Ups hs v (u :: l)
theorem Rch.ups {hs : Hs} {v : Nat} (r : Rch hs v) : ∃ l, Ups hs v l := by
  induction r with
  | root h => exact ⟨[], .root h⟩
  | step h _ ih => obtain ⟨l, hl⟩ := ih; exact ⟨_, .step h hl⟩
theorem Ups.inj {hs : Hs} {v : Nat} {l m : List Nat} (a : Ups hs v l) (b : Ups hs v m) : l = m := by
  induction a generalizing m with
  | root h => cases b with
    | root _ => rfl
    | step h2 _ => rw [h] at h2; cases h2
  | step h r ih => cases b with
    | root h2 => rw [h] at h2; cases h2
    | step h2 r2 =>
      rw [h] at h2; cases h2
      rw [ih r2]
theorem Ups.lt {hs : Hs} {v : Nat} {l : List Nat} (a : Ups hs v l) : v < hs.length := by
  cases a with
  | root h => exact (List.getElem?_eq_some_iff.mp h).1
  | step h r => exact (List.getElem?_eq_some_iff.mp h).1
theorem Ups.mem {hs : Hs} {v : Nat} {l : List Nat} (a : Ups hs v l) : ∀ w ∈ l, ∃ m, Ups hs w m ∧ m.length < l.length := by
  induction a with
  | root h => intro w hw; cases hw
  | step h r ih =>
    intro w hw
    rcases List.mem_cons.mp hw with rfl | hw
    · exact ⟨_, r, Nat.lt_succ_self _⟩
    · obtain ⟨m, hm, hl⟩ := ih w hw
      exact ⟨m, hm, Nat.lt_succ_of_lt hl⟩
theorem Ups.nd {hs : Hs} {v : Nat} {l : List Nat} (a : Ups hs v l) : (v :: l).Nodup := by
  induction a with
  | root h => simp
  | step h r ih =>
    refine List.nodup_cons.mpr ⟨fun hm => ?_, ih⟩
    obtain ⟨m, hm, hl⟩ := (Ups.step h r).mem _ hm
    rw [hm.inj (.step h r)] at hl
    exact Nat.lt_irrefl _ hl
theorem Ups.len {hs : Hs} {v : Nat} {l : List Nat} (a : Ups hs v l) : l.length < hs.length := by
  have q := nodup_len hs.length _ a.nd fun w hw => by
    rcases List.mem_cons.mp hw with rfl | hw
    · exact a.lt
    · obtain ⟨m, hm, _⟩ := a.mem w hw
      exact hm.lt
  rw [List.length_cons] at q; omega
/-- below: a thing's held ones, and theirs -/
inductive Blw (hs : Hs) (t : Nat) : Nat → Prop where
  | kid {v : Nat} (h : hs[v]? = some (some t)) : Blw hs t v
  | step {v u : Nat} (h : hs[v]? = some (some u)) (r : Blw hs t u) : Blw hs t v
theorem Blw.ups {hs : Hs} {t v : Nat} (b : Blw hs t v) {l : List Nat} (a : Ups hs v l) : t ∈ l := by
  induction b generalizing l with
  | kid h => cases a with
    | root h2 => rw [h] at h2; cases h2
    | step h2 r => rw [h] at h2; cases h2; exact List.mem_cons_self
  | step h r ih => cases a with
    | root h2 => rw [h] at h2; cases h2
    | step h2 r2 => rw [h] at h2; cases h2; exact List.mem_cons_of_mem _ (ih r2)
theorem ups_blw {hs : Hs} {t v : Nat} {l : List Nat} (a : Ups hs v l) (h : t ∈ l) : Blw hs t v := by
  induction a with
  | root _ => cases h
  | step e r ih =>
    rcases List.mem_cons.mp h with rfl | h
    · exact .kid e
    · exact .step e (ih h)
theorem Blw.irr {hs : Hs} {t : Nat} (r : Rch hs t) : ¬ Blw hs t t := fun b => by
  obtain ⟨l, a⟩ := r.ups
  exact (List.nodup_cons.mp a.nd).1 (b.ups a)
theorem starts_kids {hs : Hs} {t : Nat} (r : Rch hs t) : Starts hs (kids hs t) (Blw hs t) where
  nd := nodup_kids hs t
  ok := fun s h => ⟨(List.getElem?_eq_some_iff.mp (mem_kids.mp h)).1, .kid (mem_kids.mp h)⟩
  down := fun _ _ e b => .step e b
  no := fun s h u e => by
    rw [mem_kids.mp h] at e
    cases e
    exact Blw.irr r
theorem WT.blw {hs : Hs} {t : Nat} {l : List Nat} (h : WT hs (kids hs t) (Blw hs t) l []) (v : Nat) : v ∈ l ↔ Blw hs t v := by
  have z : ∀ w, w ∈ l ++ [] ↔ w ∈ l := fun w => by rw [List.append_nil]
  refine ⟨fun hv => (h.ok v ((z v).mpr hv)).2.1, fun b => ?_⟩
  induction b with
  | kid e => exact (z _).mp (h.sm _ (mem_kids.mpr e))
  | step e _ ih => exact (z _).mp (h.cl _ _ e ih)
/-! ### sizes -/
def sumP (hs : Hs) (F : List Int) (D : List Nat) (v : Nat) : Int := (((kids hs v).filter fun c => decide (c ∈ D)).map fun c => F.getD c 0).sum
def SizeOk (hs : Hs) (F : List Int) : Prop := F.length = hs.length ∧ ∀ v : Nat, v < hs.length → F.getD v 0 = 1 + ((kids hs v).map fun c => F.getD c 0).sum
theorem filter_cons_sum (f : Nat → Int) (D : List Nat) (t : Nat) (ht : t ∉ D) : ∀ l : List Nat, l.Nodup → ((l.filter fun c => decide (c ∈ t :: D)).map f).sum = ((l.filter fun c => decide (c ∈ D)).map f).sum + (if t ∈ l then f t else 0)
  | [], _ => by simp
  | a :: r, nd => by
    have ih := filter_cons_sum f D t ht r (List.nodup_cons.mp nd).2
    have nd1 := (List.nodup_cons.mp nd).1
    by_cases e : a = t
    · subst e
      have h1 : decide (a ∈ a :: D) = true := decide_eq_true List.mem_cons_self
      have h2 : decide (a ∈ D) = false := decide_eq_false ht
      rw [if_neg nd1] at ih
      rw [List.filter_cons_of_pos (by exact h1), List.filter_cons_of_neg (by rw [h2]; exact Bool.false_ne_true), if_pos List.mem_cons_self, List.map_cons, List.sum_cons, ih]
      omega
    · have h3 : (t ∈ a :: r) ↔ t ∈ r := by
        rw [List.mem_cons]
        exact ⟨fun h => h.resolve_left fun z => e z.symm, .inr⟩
      by_cases hd : a ∈ D
      · have h1 : decide (a ∈ t :: D) = true := decide_eq_true (List.mem_cons_of_mem _ hd)
        have h2 : decide (a ∈ D) = true := decide_eq_true hd
        rw [List.filter_cons_of_pos (by exact h1), List.filter_cons_of_pos (by exact h2), List.map_cons, List.sum_cons, List.map_cons, List.sum_cons, ih]
        by_cases h : t ∈ r
        · rw [if_pos h, if_pos (h3.mpr h)]; omega
        · rw [if_neg h, if_neg (fun z => h (h3.mp z))]; omega
      · have h1 : decide (a ∈ t :: D) = false := decide_eq_false fun z => (List.mem_cons.mp z).elim e hd
        have h2 : decide (a ∈ D) = false := decide_eq_false hd
        rw [List.filter_cons_of_neg (by rw [h1]; exact Bool.false_ne_true), List.filter_cons_of_neg (by rw [h2]; exact Bool.false_ne_true), ih]
        by_cases h : t ∈ r
        · rw [if_pos h, if_pos (h3.mpr h)]
        · rw [if_neg h, if_neg (fun z => h (h3.mp z))]
/-- how far the sizes are summed up: of the things in D all is said to their holders -/
def SizeTo (hs : Hs) (F : List Int) (D : List Nat) : Prop := F.length = hs.length ∧ ∀ v : Nat, v < hs.length → F.getD v 0 = 1 + sumP hs F D v
theorem sumP_nil (hs : Hs) (F : List Int) (v : Nat) : sumP hs F [] v = 0 := by
  unfold sumP
  have e : ((kids hs v).filter fun c => decide (c ∈ ([] : List Nat))) = [] := by simp
  rw [e]; rfl
theorem getD_set_self {F : List Int} {u : Nat} {x : Int} (h : u < F.length) : (F.set u x).getD u 0 = x := by
  rw [List.getD_eq_getElem?_getD, List.getElem?_set_self h]; rfl
theorem getD_set_ne {F : List Int} {u v : Nat} {x : Int} (h : u ≠ v) : (F.set u x).getD v 0 = F.getD v 0 := by
  rw [List.getD_eq_getElem?_getD, List.getElem?_set_ne h, List.getD_eq_getElem?_getD]
theorem sumP_set {hs : Hs} {F : List Int} {D : List Nat} {u : Nat} {x : Int} (v : Nat) (h : u ∉ D) : sumP hs (F.set u x) D v = sumP hs F D v := by
  unfold sumP
  congr 1
  refine List.map_congr_left fun c hc => ?_
  have h2 := of_decide_eq_true (List.mem_filter.mp hc).2
  exact getD_set_ne fun e => h (e ▸ h2)
theorem SizeTo.skip {hs : Hs} {F : List Int} {D : List Nat} {t : Nat} (h : SizeTo hs F D) (ht : t ∉ D) (e : hs[t]? = some none) : SizeTo hs F (t :: D) := by
  refine ⟨h.1, fun v hv => ?_⟩
  rw [h.2 v hv]
  unfold sumP
  rw [filter_cons_sum _ D t ht _ (nodup_kids hs v), if_neg (fun z => by rw [mem_kids.mp z] at e; cases e)]
  omega
theorem SizeTo.put {hs : Hs} {F : List Int} {D : List Nat} {t u : Nat} (h : SizeTo hs F D) (ht : t ∉ D) (hu : u ∉ D) (hut : u ≠ t) (e : hs[t]? = some (some u)) (hul : u < hs.length) : SizeTo hs (F.set u (F.getD u 0 + F.getD t 0)) (t :: D) := by
  have hlu : u < F.length := by rw [h.1]; exact hul
  have hu2 : u ∉ t :: D := fun z => (List.mem_cons.mp z).elim hut hu
  refine ⟨by rw [List.length_set]; exact h.1, fun v hv => ?_⟩
  rw [sumP_set v hu2]
  have q : sumP hs F (t :: D) v = sumP hs F D v + (if t ∈ kids hs v then F.getD t 0 else 0) := filter_cons_sum _ D t ht _ (nodup_kids hs v)
  rw [q]
  by_cases hvu : v = u
  · subst hvu
    rw [getD_set_self hlu, if_pos (mem_kids.mpr e), h.2 v hv]; omega
  · rw [getD_set_ne (fun z => hvu z.symm), if_neg (fun z => by
      rw [mem_kids.mp z] at e; cases e; exact hvu rfl), h.2 v hv]; omega
theorem SizeTo.all {hs : Hs} {F : List Int} {D : List Nat} (h : SizeTo hs F D) (hD : ∀ v : Nat, v < hs.length → v ∈ D) : SizeOk hs F := by
  refine ⟨h.1, fun v hv => ?_⟩
  rw [h.2 v hv]
  unfold sumP
  rw [List.filter_eq_self.mpr]
  intro c hc
  exact decide_eq_true (hD c (List.getElem?_eq_some_iff.mp (mem_kids.mp hc)).1)
/-- a forest's walk has all things, each behind its holder -/
structure Ord (hs : Hs) (l : List Nat) : Prop where
  nd : l.Nodup
  len : l.length = hs.length
  lt : ∀ v ∈ l, v < hs.length
  mem : ∀ v : Nat, v < hs.length → v ∈ l
  od : ∀ i v u : Nat, l[i]? = some v → hs[v]? = some (some u) → ∃ j : Nat, j < i ∧ l[j]? = some u
theorem WT.ord {hs : Hs} {l : List Nat} (fo : Fo hs) (h : WT hs (roots hs) (Rch hs) l []) : Ord hs l := by
  have nd := h.nd
  rw [List.append_nil] at nd
  have lt : ∀ v ∈ l, v < hs.length := fun v hv => (h.ok v (by rw [List.append_nil]; exact hv)).1
  have mem : ∀ v : Nat, v < hs.length → v ∈ l := fun v hv => h.all_found (fo.all v hv)
  refine ⟨nd, ?_, lt, mem, fun i v u e e2 => ?_⟩
  · have h1 := nodup_len hs.length l nd lt
    have h2 := nodup_sub (List.range hs.length) l List.nodup_range fun v hv => mem v (List.mem_range.mp hv)
    rw [List.length_range] at h2; omega
  · rcases h.od i v e with z | ⟨j, u', hj, e3, e4⟩
    · rw [mem_roots.mp z] at e2; cases e2
    · rw [e2] at e4; cases e4
      exact ⟨j, hj, e3⟩
/-! ### depths -/
def DepthOk (hs : Hs) (F : List Int) : Prop := F.length = hs.length ∧ ∀ v : Nat, v < hs.length → ∀ l, Ups hs v l → F.getD v 0 = (l.length : Int)
def iv (l : List Int) : List V := l.map V.int
theorem iv_get {F : List Int} {v : Nat} (h : v < F.length) : (iv F)[v]? = some (.int (F.getD v 0)) := by
  unfold iv
  rw [List.getElem?_map, List.getElem?_eq_getElem h, List.getD_eq_getElem?_getD, List.getElem?_eq_getElem h]; rfl
theorem iv_rep (x : Int) : ∀ k : Nat, (List.replicate k [V.int x]).flatten = iv (List.replicate k x)
  | 0 => rfl
  | k + 1 => by rw [List.replicate_succ, List.flatten_cons, iv_rep x k]; rfl
theorem iv_set (F : List Int) (u : Nat) (x : Int) : (iv F).set u (.int x) = iv (F.set u x) := by unfold iv; rw [List.map_set]
theorem iv_length (F : List Int) : (iv F).length = F.length := List.length_map _
section
variable {P : Program} {w : World} {K : PySem.W.Frag} {mg : Str → Option Value} {base : Heap} {CF CT : Addr}
end

end My

namespace My
open PySem PySem.Spec PyProof.Rows L2
theorem sizeTo_start (hs : Hs) : SizeTo hs (List.replicate hs.length 1) [] := by
  refine ⟨List.length_replicate, fun v hv => ?_⟩
  rw [sumP_nil, List.getD_eq_getElem?_getD, List.getElem?_replicate, if_pos hv]; rfl
theorem drop_back {l : List Nat} {i t : Nat} (hi : i < l.length) (h : l[l.length - 1 - i]? = some t) : l.drop (l.length - (i + 1)) = t :: l.drop (l.length - i) := by
  have e : l.length - (i + 1) = l.length - 1 - i := by omega
  have e2 : l.length - i = l.length - 1 - i + 1 := by omega
  have hlt : l.length - 1 - i < l.length := by omega
  rw [e, e2, List.drop_eq_getElem_cons hlt]
  rw [List.getElem?_eq_getElem hlt] at h
  rw [Option.some.inj h]
theorem nv_at {l : List Nat} {i : Nat} {x : V} (h : (nv l)[i]? = some x) : ∃ t : Nat, l[i]? = some t ∧ x = .int (t : Int) := by
  unfold nv at h
  rw [List.getElem?_map] at h
  cases e : l[i]? with
  | none => rw [e] at h; cases h
  | some t => rw [e] at h; exact ⟨t, rfl, (Option.some.inj h).symm⟩
theorem not_mem_drop {l : List Nat} (nd : l.Nodup) {i j v : Nat} (h : l[i]? = some v) (hij : i < j) : v ∉ l.drop j := fun z => by
  obtain ⟨k, hk⟩ := List.getElem?_of_mem z
  rw [List.getElem?_drop] at hk
  have e := nodup_at nd h hk
  omega
section
variable {P : Program} {w : World} {K : PySem.W.Frag} {mg : Str → Option Value} {base : Heap} {CF CT : Addr}
abbrev st_sizes : Stmt := topS 16
abbrev N_sizes : List Str := ["forest", "order", "found", "thing", "holder"]
theorem sc_sizes : FnScope N_sizes ["forest"] (defScope st_sizes) := ⟨rfl, rfl, rfl, by decide +kernel, rfl, by decide +kernel, by decide +kernel⟩
theorem ok_sizes (D : Df K mg "sizes" st_sizes ["forest"]) (B : Bl mg) (Kwalk : Kn P w K mg base (L2.CX P w) 6 "walk" st_walk ["forest"] (spOf CF fun hs l => ∃ o, l = nv o ∧ WT hs (roots hs) (Rch hs) o [])) :
    Kn P w K mg base (L2.CX P w) 7 "sizes" st_sizes ["forest"] (spOf CF fun hs l => ∃ F, l = iv F ∧ SizeOk hs F) := by
  refine D.okX sc_sizes (fun vs H Q E h => ?_) (fun f cdv A outer s H vs Q E hr h => ?_)
  · obtain ⟨x, rfl, _⟩ := h; rfl
  obtain ⟨x, rfl, ask, q1, q2, q⟩ := h
  refine ⟨_, ((pss_cons (ps_set (i := 1) sc_sizes.nd rfl (Or.inl rfl) (pe_callF Kwalk (hr.mono (by decide)) (passX (takes_of rfl rfl rfl rfl)) (pa_cons (pv 0) pa_nil)))
      (pss_cons (ps_set (i := 2) sc_sizes.nd rfl (Or.inl rfl) (pe_op op_rep (pe_lst (pa_cons pe_int pa_nil)) (pe_callB call_len (by rfl) B.len (by decide +kernel) (pa_cons (pv 1) pa_nil))))
      (pss_cons (ps_for (passes_of rfl) rfl (pi_reversed (by rfl) B.reversed (pa_cons (pv 1) pa_nil)) (pg_name (i := 3) sc_sizes.nd rfl (Or.inl rfl)) (pss_cons (ps_set (i := 4) sc_sizes.nd rfl (Or.inl rfl) (pe_ix ix_tup (pv 0) (pv 3) (fun _ _ => rfl)))
      (pss_one (ps_if (pt_cmpR op_notN (pv 4) pe_non (nomark _)) (pss_one (ps_asg (pe_op op_add (pe_ix ix_list (pv 2) (pv 4) (fun _ _ => rfl)) (pe_ix ix_list (pv 2) (pv 3) (fun _ _ => rfl))) (pg_sub (pv 2) (pv 4) set_list))) pss_nil))))
      (pss_one (ps_ret (pv 2))))))), ?_⟩
  refine ⟨_, rfl, x, rfl, ask, q1, q2, fun hs e fo r l H1 ⟨o, eo, hwt⟩ s1 hrn hr1 => ?_⟩
  subst eo
  obtain ⟨a, rfl, ha⟩ := tupAt_ref e
  have hl := q1 hs e
  have O := hwt.ord fo
  have p63 : (2 : Int) ^ 63 = 9223372036854775808 := by decide
  refine ⟨by show 1 ≤ sizeLine; decide, fun X hX => ⟨_, rfl, _, _, rfl, .inl ⟨nv o, SqL.of (by rw [upd_ne (ne_of_none hr1 hX)]; exact hr1), rfl⟩, X, _, _, rfl, rfl, upd_same, by omega, by rw [nv_length, O.len]; omega, ?_, fun F hF => ?_⟩⟩
  · show 1 * ((nv o).length : Int).toNat ≤ sizeLine
    rw [nv_length, O.len]
    exact Nat.le_of_lt (szl (by omega))
  have hXn : H X = none := s1.free hX
  have s2 : Same H (upd H1 X (.lst [.int 1])) := s1.new hX
  have hFn : H F = none := s2.free hF
  have hr2 : upd (upd H1 X (.lst [.int 1])) F (.lst (List.replicate ((nv o).length : Int).toNat [V.int 1]).flatten) r = some (.lst (nv o)) := by
    have z : upd H1 X (.lst [.int 1]) r = some (.lst (nv o)) := by rw [upd_ne (ne_of_none hr1 hX)]; exact hr1
    rw [upd_ne (ne_of_none z hF)]; exact z
  have hrF : r ≠ F := by
    intro z
    rw [z] at hr2
    have w2 : upd H1 X (.lst [.int 1]) r = some (.lst (nv o)) := by rw [upd_ne (ne_of_none hr1 hX)]; exact hr1
    rw [z, hF] at w2; cases w2
  refine ⟨_, rfl, r, _, rfl, SqL.of hr2, for_it (walk_rev (xs := nv o)) (fun i σ H' => ∃ v3 v4, σ = [some (.ref a), some (.ref r), some (.ref F), v3, v4] ∧ Same H H' ∧ H' r = some (.lst (nv o)) ∧ ∃ Fl, SizeTo hs Fl (o.drop (o.length - i)) ∧ H' F = some (.lst (iv Fl)))
    ⟨none, none, rfl, s2.upd hFn, hr2, List.replicate hs.length 1, ?_, ?_⟩ (fun i σ H' _ p => by obtain ⟨_, _, _, _, p, _⟩ := p; exact SqL.of p) ?_ ?_⟩
  · rw [Nat.sub_zero, List.drop_length]; exact sizeTo_start hs
  · rw [upd_same, iv_rep, nv_length, O.len]
    have z : ((hs.length : Int)).toNat = hs.length := by omega
    rw [z]
  · rintro i x σ H2 H3 hi ⟨v3, v4, rfl, s3, hr3, Fl, hto, hF3⟩ ⟨rfl, e1⟩
    rw [nv_length] at hi e1
    obtain ⟨t, et, rfl⟩ := nv_at e1
    have htl : t < hs.length := O.lt t (List.mem_of_getElem? et)
    obtain ⟨ho, eho⟩ : ∃ o, hs[t]? = some o := ⟨hs[t], List.getElem?_eq_getElem htl⟩
    have sq : SqT K H3 a (hs.map hv) := SqT.of (s3 _ _ ha)
    have hdr := drop_back hi et
    have htD : t ∉ o.drop (o.length - i) := not_mem_drop O.nd et (by omega)
    refine ⟨_, rfl, _, rfl, a, _, _, _, rfl, rfl, sq, atI_nat (hv_at eho), _, rfl, rfl, _, rfl, ?_⟩
    cases ho with
    | none => exact iteF ⟨_, _, rfl, s3, hr3, Fl, by rw [hdr]; exact hto.skip htD eho, hF3⟩
    | some u =>
      obtain ⟨j, hj, ej⟩ := O.od _ t u et eho
      have hul : u < hs.length := O.lt u (List.mem_of_getElem? ej)
      have huD : u ∉ o.drop (o.length - i) := not_mem_drop O.nd ej (by omega)
      have hut : u ≠ t := fun z => by
        rw [z] at ej
        have z2 := nodup_at O.nd ej et
        omega
      have lF := hto.1
      refine iteT ⟨_, rfl, _, rfl, F, _, _, _, rfl, rfl, SqL.of hF3, atI_nat (iv_get (by omega)), _, rfl, _, rfl, F, _, _, _, rfl, rfl, SqL.of hF3, atI_nat (iv_get (by omega)), _, _, rfl, rfl, ?_⟩
      refine ⟨_, rfl, _, rfl, F, _, _, u, rfl, rfl, hF3, by rw [iv_length]; exact ixN_nat (by omega), ?_⟩
      refine ⟨_, _, rfl, s3.upd hFn, by rw [upd_ne hrF]; exact hr3, _, by rw [hdr]; exact hto.put htD huD hut eho hul, by rw [upd_same, iv_set]⟩
  · rintro σ H2 ⟨v3, v4, rfl, s3, hr3, Fl, hto, hF3⟩
    rw [nv_length, Nat.sub_self, List.drop_zero] at hto
    exact ⟨_, rfl, q hs e fo F _ H2 ⟨Fl, rfl, hto.all O.mem⟩ s3 hFn hF3⟩
end

end My

namespace My
open PySem PySem.Spec PyProof.Rows L2
/-! ### lists of naturals as data -/
def nD (l : List Nat) : List PyData := l.map fun v : Nat => PyData.int ((v : Nat) : Int)
theorem dp_nv {K : PySem.W.Frag} {H : Hp} : ∀ l : List Nat, DpAll K H (nv l) (nD l)
  | [] => .nil
  | v :: l => .cons (.int (v : Int)) (dp_nv l)
theorem lay_nD : ∀ l : List Nat, PyData.canLayAll0 (nD l) = true
  | [] => rfl
  | v :: l => by
    show PyData.canLayAll0 (PyData.int (v : Int) :: nD l) = true
    rw [PyData.canLayAll0, lay_nD l]; rfl
theorem deep_nD : ∀ l : List Nat, PyData.depthAll (nD l) = 0
  | [] => rfl
  | v :: l => by
    show PyData.depthAll (PyData.int (v : Int) :: nD l) = 0
    rw [PyData.depthAll, deep_nD l]; rfl
theorem shaped_nD (l : List Nat) : SeqAt.shaped (.list (nD l)) = true := by
  unfold SeqAt.shaped
  rw [PyData.canLay0, lay_nD, PyData.depth, deep_nD]; rfl
theorem eqv_nD : ∀ a b : List Nat, PyData.eqvAll (nD a) (nD b) = decide (a = b)
  | [], [] => rfl
  | [], _ :: _ => rfl
  | _ :: _, [] => rfl
  | x :: a, y :: b => by
    show PyData.eqvAll (PyData.int (x : Int) :: nD a) (PyData.int (y : Int) :: nD b) = _
    rw [PyData.eqvAll, eqv_nD a b, PyData.eqv]
    by_cases h : x = y
    · subst h
      by_cases h2 : a = b
      · subst h2; simp
      · simp [h2]
    · have h3 : ¬ ((x : Int) = (y : Int)) := by omega
      simp [h, h3]
theorem eqv_list (a b : List PyData) : PyData.eqv (.list a) (.list b) = PyData.eqvAll a b := by rw [PyData.eqv]
theorem flat_nv (l : List Nat) : (nv l).all flatV = true := by
  rw [List.all_eq_true]
  intro y hy
  obtain ⟨v, _, rfl⟩ := List.mem_map.mp hy
  rfl
theorem inV_nv (u : Nat) (l : List Nat) : inV (.int (u : Int)) (nv l) = decide (u ∈ l) := by
  unfold inV nv
  rw [List.any_map]
  induction l with
  | nil => rfl
  | cons v l ih =>
    rw [List.any_cons, ih]
    show ((v : Int) == (u : Int) || decide (u ∈ l)) = _
    by_cases h : v = u
    · subst h; simp
    · have h1 : ((v : Int) == (u : Int)) = false := beq_eq_false_iff_ne.mpr (by omega)
      have h2 : ¬ u = v := fun q => h q.symm
      rw [h1, Bool.false_or]
      simp [h2]

/-! ### a forest of some of the things -/
/-- the place of a thing -/
def posOf (l : List Nat) (u : Nat) : Option Nat := l.findIdx? fun v => decide (v = u)
def amongH (hs : Hs) (l : List Nat) : Hs := l.map fun v => match hs[v]? with
  | some (some u) => posOf l u
  | _ => none
theorem posOf_snoc (l : List Nat) (v u : Nat) : posOf (l ++ [v]) u = (posOf l u).or (if v = u then some l.length else none) := by
  unfold posOf
  rw [List.findIdx?_append]
  by_cases c : v = u <;> simp [c]
theorem posOf_none {l : List Nat} {u : Nat} (h : ¬ u ∈ l) : posOf l u = none := by
  unfold posOf
  rw [List.findIdx?_eq_none_iff]
  intro v hv'
  exact decide_eq_false fun z => h (z ▸ hv')
/-- the dict tells the places -/
def NameK (kvs : List (Key × V)) (l : List Nat) : Prop := (∀ u : Nat, valV kvs (Sum.inl (u : Int)) = (posOf l u).map fun i : Nat => V.int ((i : Nat) : Int)) ∧ kvs.length ≤ l.length
theorem NameK.nil : NameK [] [] := ⟨fun _ => rfl, Nat.le_refl _⟩
theorem NameK.put {kvs : List (Key × V)} {l : List Nat} (h : NameK kvs l) {v : Nat} (hn : ¬ v ∈ l) : NameK (putK kvs (Sum.inl (v : Int)) (.int (l.length : Int))) (l ++ [v]) := by
  refine ⟨fun u => ?_, ?_⟩
  · rw [valV_put, posOf_snoc]
    by_cases e : u = v
    · subst e
      rw [if_pos rfl, if_pos rfl, posOf_none hn]; rfl
    · have n : ¬ (Sum.inl (u : Int) : Key) = Sum.inl (v : Int) := fun z => e (by have := Sum.inl.inj z; omega)
      rw [if_neg n, if_neg (fun z => e z.symm), Option.or_none]
      exact h.1 u
  · have z := length_putK kvs (Sum.inl (v : Int)) (V.int (l.length : Int))
    rw [List.length_append, List.length_singleton]
    have y := h.2
    omega
theorem dc_any {J : It} {n : Nat} {G : Hp → Prop} {Y : Nat → Hp → V → Hp → Prop} (wk : Walk J n G Y) {g : TG} {tt : TT} {tk tv : TE} {vs : List Nat} {σ : L2.St} {H1 : Hp} {D : Addr} {Qd : Hp → Prop} (S : Nat → Hp → Prop) (s0 : S 0 (upd H1 D (.dK [])))
    (sG : ∀ i H, i ≤ n → S i H → G H) (st : ∀ i x H H', i < n → S i H → Y i H x H' → g x (wipe σ vs) H' fun σ2 H2 => wipe σ2 vs = wipe σ vs ∧ tt σ2 H2 fun b H3 => if b = true then tk σ2 H3 fun y H4 => tv σ2 H4 fun z H5 => ∃ kvs k, y = kV k ∧ H5 D = some (.dK kvs) ∧ kvs.length < sizeLine ∧ S (i + 1) (upd H5 D (.dK (putK kvs k z))) else S (i + 1) H3)
    (fin : ∀ H, S n H → Qd H) : ∃ W : Nat → Nat → Hp → Prop, (∃ m, W 0 m (upd H1 D (.dK []))) ∧ ∀ i m H, W i m H → (J.stop i H ∧ Qd H) ∨ (J.go i H ∧ ∃ Nx : Hp → Prop, (∀ H', Nx H' → ∃ m', m' < m ∧ W (i + 1) m' H') ∧
      ∀ x H', J.yld i H x H' → g x (wipe σ vs) H' fun σ2 H2 => wipe σ2 vs = wipe σ vs ∧ tt σ2 H2 fun b H3 => if b = true then tk σ2 H3 fun y H4 => tv σ2 H4 fun z H5 => ∃ kvs k, y = kV k ∧ H5 D = some (.dK kvs) ∧ kvs.length < sizeLine ∧ Nx (upd H5 D (.dK (putK kvs k z))) else Nx H3) := by
  refine ⟨fun i m H => m + i = n ∧ S i H, ⟨n, rfl, s0⟩, fun i m H ⟨e, hS⟩ => ?_⟩
  have hG := sG i H (by omega) hS
  rcases Nat.eq_zero_or_pos m with z | z
  · have ei : i = n := by omega
    subst ei
    exact .inl ⟨wk.stops H hG, fin H hS⟩
  · have hi : i < n := by omega
    exact .inr ⟨wk.goes i H hi hG, S (i + 1), fun H' q => ⟨m - 1, by omega, by omega, q⟩, fun x H' y => st i x H H' hi hS (wk.yields i H x H' hi hG y)⟩
theorem among_len (hs : Hs) (l : List Nat) : (amongH hs l).length = l.length := List.length_map _
theorem among_step {hs : Hs} {l : List Nat} {i : Nat} (hi : i < l.length) : (amongH hs l).take (i + 1) = (amongH hs l).take i ++ [match hs[l[i]]? with
  | some (some u) => posOf l u
  | _ => none] := by
  rw [List.take_add_one, List.getElem?_eq_getElem (by rw [among_len]; exact hi)]
  unfold amongH
  rw [List.getElem_map]; rfl
def spAmong (K : PySem.W.Frag) : Sp := fun vs H Q _ => ∃ (a p : Addr) (hs : Hs) (l : List Nat), vs = [.ref a, .ref p] ∧ H a = some (.tup (hs.map hv)) ∧ (H p = some (.lst (nv l)) ∨ H p = some (.tup (nv l))) ∧ l.Nodup ∧ (∀ v ∈ l, v < hs.length) ∧ l.length ≤ 60 ∧
  ∀ r H', Same H H' → H r = none → H' r = some (.tup ((amongH hs l).map hv)) → Q (.ref r) H'
section
variable {P : Program} {w : World} {K : PySem.W.Frag} {mg : Str → Option Value} {base : Heap}
abbrev st_forest_among : Stmt := topS 18
abbrev N_forest_among : List Str := ["forest", "things", "name_of", "name", "thing"]
theorem sc_forest_among : FnScope N_forest_among ["forest", "things"] (defScope st_forest_among) := ⟨rfl, rfl, rfl, by decide +kernel, rfl, by decide +kernel, by decide +kernel⟩
theorem ok_forest_among (D : Df K mg "forest_among" st_forest_among ["forest", "things"]) (B : Bl mg) : Kn P w K mg base CX0 1 "forest_among" st_forest_among ["forest", "things"] (spAmong K) := by
  refine D.ok sc_forest_among (fun vs H Q E h => ?_) (fun f cdv A outer s H vs Q E hr h => ?_)
  · obtain ⟨a, p, hs, l, rfl, _⟩ := h; rfl
  obtain ⟨a, p, hs, l, rfl, ha, hp, nd, hlt, hl, q⟩ := h
  refine ⟨_, ((pss_cons (ps_set (i := 2) sc_forest_among.nd rfl (Or.inr rfl) (pe_dc (own := [("name", 3), ("thing", 4)]) (g := gTup K 2 (gCons (gName 3) (gCons (gName 4) gNil))) rfl sc_forest_among.nd (pi_or (pi_enum (by rfl) B.enumerate (pa_cons (pv 1) pa_nil)) (pi_enumT (by rfl) B.enumerate (pa_cons (pv 1) pa_nil))) (blkOk_by (N := N_forest_among) (sc := defScope st_forest_among) (own := [("name", 3), ("thing", 4)]) (by decide +kernel)) (fun _ _ _ _ _ => by (refine pg_tup (n := 2) ?hc ?h ?hn ?hst; (case hc => rfl); (case hn => rfl); (case hst => rfl); case h => (refine pgs_cons ?g1 ?g2; (case g1 => exact (pg_name (i := 3) sc_forest_among.nd rfl (Or.inl rfl))); case g2 => (refine pgs_cons ?g1 ?g2; (case g1 => exact (pg_name (i := 4) sc_forest_among.nd rfl (Or.inl rfl))); case g2 => (exact pgs_nil))))) (fun _ _ _ _ _ => by exact pts_nil) (fun _ _ _ _ _ => by exact (pv 4)) (fun _ _ _ _ _ => by exact (pv 3))))
      (pss_one (ps_ret (pe_callTy call_tuple_of (by rfl) B.tuple (by decide +kernel) (pa_cons (pe_lc (own := [("thing", 4)]) (g := gName 4) rfl sc_forest_among.nd (pi_or (pi_list (pv 1)) (pi_tup (pv 1))) (blkOk_by (N := N_forest_among) (sc := defScope st_forest_among) (own := [("thing", 4)]) (by decide +kernel)) (fun _ _ _ _ _ => by (exact (pg_name (i := 4) sc_forest_among.nd rfl (Or.inl rfl)))) (fun _ _ _ _ _ => by exact pts_nil) (fun _ _ _ _ _ => by exact (pe_dgetO (hu_of hr) (pv 2) (pe_ix (ix_tupK K) (pv 0) (pv 4) (fun _ _ => rfl)) ⟨by rfl, by rfl, by rfl, by rfl⟩))) pa_nil)))))), ?_⟩
  -- the turn of the walk over the things' numbers, whichever kind they are
  have turn : ∀ (i : Nat) (Y H1 H2 : Hp) (D : Addr) (T : Addr) (hi : i < l.length), Same H H1 → H D = none → (∃ kvs, H1 D = some (.dK kvs) ∧ NameK kvs (l.take i)) → H1 T = none →
      ∃ kvs, upd H1 T (.tup [.int (i : Int), .int ((l[i] : Nat) : Int)]) D = some (.dK kvs) ∧ NameK (putK kvs (Sum.inl ((l[i] : Nat) : Int)) (.int (i : Int))) (l.take (i + 1)) ∧ kvs.length ≤ 60 := fun i _ H1 _ D T hi s1 hD ⟨kvs, hk, nk⟩ hT => by
    have tk : l.take (i + 1) = l.take i ++ [l[i]] := by rw [List.take_add_one, List.getElem?_eq_getElem hi]; rfl
    have ti : (l.take i).length = i := by rw [List.length_take]; omega
    have nm : ¬ l[i] ∈ l.take i := fun m => by
      have z : (l.take i ++ [l[i]]).Nodup := by rw [← tk]; exact (List.take_sublist _ _).nodup nd
      exact (List.nodup_append.mp z).2.2 _ m _ (List.mem_singleton.mpr rfl) rfl
    refine ⟨kvs, (upd_ne (ne_of_none hk hT)).trans hk, ?_, ?_⟩
    · have z := nk.put nm
      rw [ti] at z
      rw [tk]; exact z
    · have := nk.2
      omega
  rcases hp with hp | hp
  · refine .inl ⟨_, rfl, p, _, rfl, SqL.of hp, fun D hD => dc_any (walk_enum (xs := nv l)) (fun i H' => Same H H' ∧ ∃ kvs, H' D = some (.dK kvs) ∧ NameK kvs (l.take i)) ⟨(Same.refl H).new hD, [], upd_same, .nil⟩ (fun i H' _ z => SqL.of (z.1 _ _ hp)) ?_ ?_⟩
    · rintro i x H1 H2 hi ⟨s1, kx⟩ ⟨T, x1, x2, rfl, hT, rfl, e1, e2⟩
      rw [nv_length] at hi
      have e1' := Option.some.inj e1; subst e1'
      have e2' : (nv l)[i]? = some x2 := e2
      rw [nv_get (List.getElem?_eq_getElem hi)] at e2'
      cases e2'
      obtain ⟨kvs, k1, k2, k3⟩ := turn i H1 H1 H1 D T hi s1 hD kx hT
      have s2 : Same H (upd H1 T (.tup [.int (i : Int), .int ((l[i] : Nat) : Int)])) := s1.new hT
      exact ⟨T, _, rfl, SqT.of upd_same, rfl, _, _, rfl, _, _, rfl, rfl, rfl, _, rfl, _, rfl, kvs, Sum.inl ((l[i] : Nat) : Int), rfl, k1, szl (by omega), s2.upd hD, _, upd_same, k2⟩
    · rintro H1 ⟨s1, kvs, hk, nk⟩
      rw [nv_length, List.take_length] at nk
      refine .inl ⟨_, rfl, p, rfl, ⟨_, SqL.of (s1 _ _ hp)⟩, fun L hL => lc_it (walk_list (xs := nv l)) (fun i H' => Same H1 H' ∧ H' L = some (.lst (((amongH hs l).take i).map hv))) ⟨(Same.refl H1).new hL, upd_same⟩ (fun i H' _ z => SqL.of (z.1 _ _ (s1 _ _ hp))) ?_ ?_⟩
      · rintro i x H2 H3 hi ⟨s2, o2⟩ ⟨rfl, e1⟩
        rw [nv_length] at hi
        rw [nv_get (List.getElem?_eq_getElem hi)] at e1
        cases e1
        obtain ⟨o, ho⟩ : ∃ o, hs[l[i]]? = some o := ⟨_, List.getElem?_eq_getElem (hlt _ (List.getElem_mem hi))⟩
        have hk3 := s2 _ _ hk
        have acc : ((((amongH hs l).take i).map hv).length : Nat) < sizeLine := by rw [List.length_map, List.length_take]; exact szl (by omega)
        refine ⟨rfl, _, rfl, D, rfl, .inl ⟨kvs, .inl hk3⟩, _, rfl, _, rfl, a, _, _, _, rfl, rfl, SqT.of (s2 _ _ (s1 _ _ ha)), atI_nat (hv_at ho), ?_⟩
        cases o with
        | none =>
          refine .inl ⟨rfl, ⟨kvs, hk3⟩, _, o2, acc, s2.upd hL, ?_⟩
          rw [upd_same, among_step hi, ho, List.map_append]; rfl
        | some u =>
          refine .inr ⟨_, DGet.k (k := Sum.inl (u : Int)) hk3, _, o2, acc, s2.upd hL, ?_⟩
          rw [upd_same, among_step hi, ho, List.map_append, nk.1 u]
          show some (HO.lst (_ ++ [_])) = some (HO.lst (_ ++ [hv (posOf l u)]))
          cases posOf l u <;> rfl
      · rintro H2 ⟨s2, o2⟩
        have et : (amongH hs l).take (nv l).length = amongH hs l := by rw [nv_length, ← among_len hs l, List.take_length]
        rw [et] at o2
        refine ⟨L, _, rfl, .inl ⟨SqL.of o2, fun r hr2 => ?_⟩⟩
        have s12 := s1.trans s2
        exact q r _ (s12.new hr2) (s12.free hr2) upd_same
  · refine .inr ⟨_, rfl, p, _, rfl, SqT.of hp, fun D hD => dc_any (walk_enumT (xs := nv l)) (fun i H' => Same H H' ∧ ∃ kvs, H' D = some (.dK kvs) ∧ NameK kvs (l.take i)) ⟨(Same.refl H).new hD, [], upd_same, .nil⟩ (fun i H' _ z => SqT.of (z.1 _ _ hp)) ?_ ?_⟩
    · rintro i x H1 H2 hi ⟨s1, kx⟩ ⟨T, x1, x2, rfl, hT, rfl, e1, e2⟩
      rw [nv_length] at hi
      have e1' := Option.some.inj e1; subst e1'
      have e2' : (nv l)[i]? = some x2 := e2
      rw [nv_get (List.getElem?_eq_getElem hi)] at e2'
      cases e2'
      obtain ⟨kvs, k1, k2, k3⟩ := turn i H1 H1 H1 D T hi s1 hD kx hT
      have s2 : Same H (upd H1 T (.tup [.int (i : Int), .int ((l[i] : Nat) : Int)])) := s1.new hT
      exact ⟨T, _, rfl, SqT.of upd_same, rfl, _, _, rfl, _, _, rfl, rfl, rfl, _, rfl, _, rfl, kvs, Sum.inl ((l[i] : Nat) : Int), rfl, k1, szl (by omega), s2.upd hD, _, upd_same, k2⟩
    · rintro H1 ⟨s1, kvs, hk, nk⟩
      rw [nv_length, List.take_length] at nk
      refine .inr ⟨_, rfl, p, rfl, ⟨_, SqT.of (s1 _ _ hp)⟩, fun L hL => lc_it (walk_tup (xs := nv l)) (fun i H' => Same H1 H' ∧ H' L = some (.lst (((amongH hs l).take i).map hv))) ⟨(Same.refl H1).new hL, upd_same⟩ (fun i H' _ z => SqT.of (z.1 _ _ (s1 _ _ hp))) ?_ ?_⟩
      · rintro i x H2 H3 hi ⟨s2, o2⟩ ⟨rfl, e1⟩
        rw [nv_length] at hi
        rw [nv_get (List.getElem?_eq_getElem hi)] at e1
        cases e1
        obtain ⟨o, ho⟩ : ∃ o, hs[l[i]]? = some o := ⟨_, List.getElem?_eq_getElem (hlt _ (List.getElem_mem hi))⟩
        have hk3 := s2 _ _ hk
        have acc : ((((amongH hs l).take i).map hv).length : Nat) < sizeLine := by rw [List.length_map, List.length_take]; exact szl (by omega)
        refine ⟨rfl, _, rfl, D, rfl, .inl ⟨kvs, .inl hk3⟩, _, rfl, _, rfl, a, _, _, _, rfl, rfl, SqT.of (s2 _ _ (s1 _ _ ha)), atI_nat (hv_at ho), ?_⟩
        cases o with
        | none =>
          refine .inl ⟨rfl, ⟨kvs, hk3⟩, _, o2, acc, s2.upd hL, ?_⟩
          rw [upd_same, among_step hi, ho, List.map_append]; rfl
        | some u =>
          refine .inr ⟨_, DGet.k (k := Sum.inl (u : Int)) hk3, _, o2, acc, s2.upd hL, ?_⟩
          rw [upd_same, among_step hi, ho, List.map_append, nk.1 u]
          show some (HO.lst (_ ++ [_])) = some (HO.lst (_ ++ [hv (posOf l u)]))
          cases posOf l u <;> rfl
      · rintro H2 ⟨s2, o2⟩
        have et : (amongH hs l).take (nv l).length = amongH hs l := by rw [nv_length, ← among_len hs l, List.take_length]
        rw [et] at o2
        refine ⟨L, _, rfl, .inl ⟨SqL.of o2, fun r hr2 => ?_⟩⟩
        have s12 := s1.trans s2
        exact q r _ (s12.new hr2) (s12.free hr2) upd_same
end

end My

namespace My
open PySem PySem.Spec PyProof.Rows L2
theorem askdF {H : Hp} {t : Addr} {hs : Hs} (ht : H t = some (.tup (hs.map hv))) (hl : hs.length ≤ 60) : Askd H (.ref t) := by
  refine ⟨.tup ht, fun xs e => ?_⟩
  rw [tupAt_tup ht] at e
  cases e
  refine ⟨by rw [List.length_map]; omega, fun y hy => ?_⟩
  obtain ⟨o, _, rfl⟩ := List.mem_map.mp hy
  exact vd_hv o

/-! ### heldbehind.integers.lowest, heldbehind.shares._share -/
structure Bm (mg : Str → Option Value) : Prop where
  gcd : mg "gcd" = some (.builtin "math.gcd")
  factorial : mg "factorial" = some (.builtin "math.factorial")
def gcI (a b : Int) : Int := ((Nat.gcd a.natAbs b.natAbs : Nat) : Int)
/-- a fraction in lowest terms -/
def lwV (a b : Int) : List V := [.int (a / gcI a b), .int (b / gcI a b)]
theorem gcI_pos {a b : Int} (h : 1 ≤ b) : 0 < gcI a b := by
  have z : 0 < Nat.gcd a.natAbs b.natAbs := Nat.gcd_pos_of_pos_right _ (by omega)
  unfold gcI; omega
theorem gcI_le {a b : Int} (h : 1 ≤ b) : (gcI a b).natAbs ≤ b.natAbs := by
  have z : Nat.gcd a.natAbs b.natAbs ≤ b.natAbs := Nat.le_of_dvd (by omega) (Nat.gcd_dvd_right _ _)
  unfold gcI; omega
def spLowest : Sp := fun vs H Q _ => ∃ a b : Int, vs = [.int a, .int b] ∧ 1 ≤ b ∧ b.natAbs < 2 ^ 8000 ∧ ∀ p H', Same H H' → H p = none → H' p = some (.tup (lwV a b)) → Q (.ref p) H'
def spShare : Sp := fun vs H Q _ => ∃ (t : Addr) (xs : List V) (a : Int), vs = [.ref t, .int a] ∧ H t = some (.tup xs) ∧ xs.length ≤ 60 ∧ ∀ p H', Same H H' → H p = none → H' p = some (.tup (lwV a ((fct xs.length : Nat) : Int))) → Q (.ref p) H'
section
variable {P : Program} {w : World} {K : PySem.W.Frag} {mg : Str → Option Value} {base : Heap}
abbrev st_lowest : Stmt := topS 12
abbrev N_lowest : List Str := ["top", "bottom", "divisor"]
theorem sc_lowest : FnScope N_lowest ["top", "bottom"] (defScope st_lowest) := ⟨rfl, rfl, rfl, by decide +kernel, rfl, by decide +kernel, by decide +kernel⟩
theorem ok_lowest (D : Df K mg "lowest" st_lowest ["top", "bottom"]) (BM : Bm mg) : Kn P w K mg base CX0 1 "lowest" st_lowest ["top", "bottom"] spLowest := by
  refine D.ok sc_lowest (fun vs H Q E h => ?_) (fun f cdv A outer s H vs Q E hr h => ?_)
  · obtain ⟨a, b, rfl, _⟩ := h; rfl
  obtain ⟨a, b, rfl, hb, hb2, q⟩ := h
  refine ⟨_, ((pss_cons (ps_set (i := 2) sc_lowest.nd rfl (Or.inl rfl) (pe_callBfun cr_gcd (by rfl) BM.gcd (pa_cons (pv 0) (pa_cons (pv 1) pa_nil))))
      (pss_one (ps_ret (pe_tup (pa_cons (pe_op op_fdivW (pv 0) (pv 2)) (pa_cons (pe_op op_fdivW (pv 1) (pv 2)) pa_nil))))))), ?_⟩
  have g0 := gcI_pos (a := a) hb
  have g1 := Nat.lt_of_le_of_lt (gcI_le (a := a) hb) hb2
  exact ⟨_, rfl, _, rfl, _, _, rfl, _, rfl, _, rfl, _, _, rfl, rfl, wide_div g0 g1 (by decide) (by decide), _, rfl, _, rfl, _, _, rfl, rfl, wide_div g0 g1 (by decide) (by decide), by show 2 ≤ sizeLine; decide, fun p hp => q p _ ((Same.refl H).new hp) hp upd_same⟩
end

/-! ### the law's own ways up, and how many things lie at or below each -/
def upF (hs : Hs) : Nat → Nat → List Nat
  | 0, _ => []
  | k + 1, v => match hs[v]? with
    | some (some u) => u :: upF hs k u
    | _ => []
def up (hs : Hs) (v : Nat) : List Nat := upF hs hs.length v
theorem upF_of {hs : Hs} {v : Nat} {l : List Nat} (a : Ups hs v l) : ∀ k : Nat, l.length ≤ k → upF hs k v = l := by
  induction a with
  | root h =>
    intro k _
    cases k with
    | zero => rfl
    | succ k => unfold upF; rw [h]
  | @step v u l h r ih =>
    intro k hk
    cases k with
    | zero => rw [List.length_cons] at hk; omega
    | succ k =>
      rw [List.length_cons] at hk
      unfold upF
      rw [h]
      show u :: upF hs k u = u :: l
      rw [ih k (by omega)]
theorem Ups.up {hs : Hs} {v : Nat} {l : List Nat} (a : Ups hs v l) : My.up hs v = l := upF_of a _ (Nat.le_of_lt a.len)
theorem Fo.ups {hs : Hs} (fo : Fo hs) {v : Nat} (h : v < hs.length) : Ups hs v (up hs v) := by
  obtain ⟨l, a⟩ := (fo.all v h).ups
  rw [a.up]; exact a
def ind (p : Prop) [Decidable p] : Int := if p then 1 else 0
theorem ind_split {hs : Hs} {v w : Nat} {l : List Nat} (a : Ups hs w l) : ind (v ∈ l) = ((kids hs v).map fun c => ind (c = w) + ind (c ∈ l)).sum := by
  have one : ∀ (cs : List Nat) (x : Nat), cs.Nodup → (cs.map fun c => ind (c = x)).sum = ind (x ∈ cs) := fun cs x => by
    induction cs with
    | nil => intro _; rfl
    | cons c cs ih =>
      intro nd
      obtain ⟨n1, n2⟩ := List.nodup_cons.mp nd
      rw [List.map_cons, List.sum_cons, ih n2]
      unfold ind
      by_cases e : c = x
      · subst e
        rw [if_pos rfl, if_neg n1, if_pos List.mem_cons_self]; rfl
      · rw [if_neg e]
        by_cases m : x ∈ cs
        · rw [if_pos m, if_pos (List.mem_cons_of_mem _ m)]; rfl
        · rw [if_neg m, if_neg (fun z => (List.mem_cons.mp z).elim (fun q => e q.symm) m)]; rfl
  have add : ∀ (cs : List Nat) (f g : Nat → Int), (cs.map fun c => f c + g c).sum = (cs.map f).sum + (cs.map g).sum := fun cs f g => by
    induction cs with
    | nil => rfl
    | cons c cs ih => rw [List.map_cons, List.sum_cons, List.map_cons, List.sum_cons, List.map_cons, List.sum_cons, ih]; omega
  induction a with
  | @root w h =>
    rw [add, one _ _ (nodup_kids hs v)]
    have z1 : ¬ w ∈ kids hs v := fun z => by rw [mem_kids.mp z] at h; cases h
    have z2 : ((kids hs v).map fun c => ind (c ∈ ([] : List Nat))).sum = 0 := by
      generalize kids hs v = cs
      induction cs with
      | nil => rfl
      | cons c cs ih =>
        rw [List.map_cons, List.sum_cons, ih]
        unfold ind
        rw [if_neg List.not_mem_nil]; rfl
    rw [z2]
    unfold ind
    rw [if_neg List.not_mem_nil, if_neg z1]; rfl
  | @step w u l h r ih =>
    rw [add] at ih ⊢
    rw [one _ _ (nodup_kids hs v)] at ih ⊢
    have nd := r.nd
    have z1 : ind (w ∈ kids hs v) = ind (v = u) := by
      unfold ind
      by_cases e : v = u
      · subst e
        rw [if_pos (mem_kids.mpr h), if_pos rfl]
      · rw [if_neg e, if_neg fun z => e ?_]
        have q := mem_kids.mp z
        rw [h] at q
        exact (Option.some.inj (Option.some.inj q)).symm
    have z2 : ∀ cs : List Nat, (cs.map fun c => ind (c ∈ u :: l)).sum = (cs.map fun c => ind (c = u)).sum + (cs.map fun c => ind (c ∈ l)).sum := fun cs => by
      rw [← add]
      congr 1
      refine List.map_congr_left fun c _ => ?_
      unfold ind
      by_cases e : c = u
      · subst e
        rw [if_pos List.mem_cons_self, if_pos rfl, if_neg (List.nodup_cons.mp nd).1]; rfl
      · rw [if_neg e]
        by_cases m : c ∈ l
        · rw [if_pos m, if_pos (List.mem_cons_of_mem _ m)]; rfl
        · rw [if_neg m, if_neg (fun z => (List.mem_cons.mp z).elim e m)]; rfl
    have z3 : ind (v ∈ u :: l) = ind (v = u) + ind (v ∈ l) := by
      have z := z2 [v]
      simpa using z
    rw [z1, z2, one _ _ (nodup_kids hs v), z3, ih]
/-- as many things as lie below one -/
def cnt (hs : Hs) (v i : Nat) : Int := ((List.range i).map fun w => ind (v ∈ up hs w)).sum
def Wt (hs : Hs) (F : List Int) : Prop := F.length = hs.length ∧ ∀ v : Nat, v < hs.length → F.getD v 0 = 1 + cnt hs v hs.length
theorem cnt_split {hs : Hs} (fo : Fo hs) (v : Nat) : ∀ i : Nat, i ≤ hs.length → cnt hs v i = ((kids hs v).map fun c => ind (c < i) + cnt hs c i).sum
  | 0, _ => by
    unfold cnt
    rw [List.range_zero]
    generalize kids hs v = cs
    show (0 : Int) = _
    induction cs with
    | nil => rfl
    | cons c cs ih => rw [List.map_cons, List.sum_cons, ← ih]; rfl
  | i + 1, h => by
    have ih := cnt_split fo v i (by omega)
    have suc : ∀ c : Nat, cnt hs c (i + 1) = cnt hs c i + ind (c ∈ up hs i) := fun c => by
      unfold cnt
      rw [List.range_succ, List.map_append, List.sum_append]
      show _ + (ind (c ∈ up hs i) + 0) = _
      omega
    rw [suc, ih, ind_split (v := v) (fo.ups (show i < hs.length by omega))]
    generalize kids hs v = cs
    induction cs with
    | nil => rfl
    | cons c cs ih2 =>
      rw [List.map_cons, List.sum_cons, List.map_cons, List.sum_cons, List.map_cons, List.sum_cons, ← ih2, suc]
      have z : ind (c < i + 1) = ind (c < i) + ind (c = i) := by
        unfold ind
        by_cases e : c = i
        · subst e
          rw [if_pos (Nat.lt_succ_self c), if_neg (Nat.lt_irrefl c), if_pos rfl]; rfl
        · rw [if_neg e]
          by_cases m : c < i
          · rw [if_pos m, if_pos (by omega)]; rfl
          · rw [if_neg m, if_neg (by omega)]; rfl
      rw [z]; omega
theorem Wt.size {hs : Hs} {F : List Int} (fo : Fo hs) (h : Wt hs F) : SizeOk hs F := by
  refine ⟨h.1, fun v hv => ?_⟩
  rw [h.2 v hv, cnt_split fo v _ (Nat.le_refl _)]
  congr 2
  refine List.map_congr_left fun c hc => ?_
  have hcl := (List.getElem?_eq_some_iff.mp (mem_kids.mp hc)).1
  rw [h.2 c hcl]
  unfold ind
  rw [if_pos hcl]
theorem size_one {hs : Hs} {F G : List Int} (fo : Fo hs) (h : SizeOk hs F) (g : SizeOk hs G) : F = G := by
  have key : ∀ (k v : Nat), v < hs.length → hs.length - (up hs v).length = k → F.getD v 0 = G.getD v 0 := fun k => by
    induction k using Nat.strongRecOn with
    | _ k ih =>
      intro v hv e
      rw [h.2 v hv, g.2 v hv]
      congr 2
      refine List.map_congr_left fun c hc => ?_
      have ec := mem_kids.mp hc
      have hcl := (List.getElem?_eq_some_iff.mp ec).1
      have u1 : up hs c = v :: up hs v := (Ups.step ec (fo.ups hv)).up
      have l1 := (fo.ups hcl).len
      refine ih (hs.length - (up hs c).length) ?_ c hcl rfl
      rw [u1, List.length_cons] at l1 ⊢
      omega
  refine List.ext_getElem (h.1.trans g.1.symm) fun i h1 h2 => ?_
  have z := key _ i (by rw [← h.1]; exact h1) rfl
  rw [List.getD_eq_getElem?_getD, List.getD_eq_getElem?_getD, List.getElem?_eq_getElem h1, List.getElem?_eq_getElem h2] at z
  exact z
def spUp : Sp := fun vs H Q _ => ∃ (t : Addr) (hs : Hs) (v : Nat), vs = [.ref t, .int (v : Int)] ∧ H t = some (.tup (hs.map hv)) ∧ Fo hs ∧ hs.length ≤ 1000 ∧ v < hs.length ∧ ∀ p H', Same H H' → H p = none → H' p = some (.lst (nv (up hs v))) → Q (.ref p) H'
section
variable {P : Program} {w : World} {K : PySem.W.Frag} {mg : Str → Option Value} {base : Heap}
abbrev st__law_up : Stmt := topS 46
abbrev N__law_up : List Str := ["plan", "one", "found"]
theorem sc__law_up : FnScope N__law_up ["plan", "one"] (defScope st__law_up) := ⟨rfl, rfl, rfl, by decide +kernel, rfl, by decide +kernel, by decide +kernel⟩
theorem ok__law_up (D : Df K mg "_law_up" st__law_up ["plan", "one"]) (B : Bl mg) : Kn P w K mg base CX0 1 "_law_up" st__law_up ["plan", "one"] spUp := by
  refine D.ok sc__law_up (fun vs H Q E h => ?_) (fun f cdv A outer s H vs Q E hr h => ?_)
  · obtain ⟨t, hs, v, rfl, _⟩ := h; rfl
  obtain ⟨t, hs, v, rfl, ht, fo, hl, hv1, q⟩ := h
  refine ⟨_, ((pss_cons (ps_set (i := 2) sc__law_up.nd rfl (Or.inl rfl) (pe_lst pa_nil))
      (pss_cons (ps_while PassesOwn.never (pt_cmpR op_notN (pe_ix ix_tup (pv 0) (pv 1) (fun _ _ => rfl)) pe_non (nomark _)) (pss_cons (ps_set (i := 1) sc__law_up.nd rfl (Or.inl rfl) (pe_ix ix_tup (pv 0) (pv 1) (fun _ _ => rfl)))
      (pss_one (ps_expr (pe_bm PySem.F.plainAttrs_list PySem.F.slot_list_append PySem.F.type_list_append mt_append (pv 2) (pa_cons (pv 1) pa_nil))))))
      (pss_one (ps_ret (pv 2)))))), ?_⟩
  have hu := fo.ups hv1
  have hlen := hu.len
  generalize up hs v = ups at hu hlen q
  refine ⟨by show 0 ≤ sizeLine; decide, fun F hF => ?_⟩
  have s0 : Same H (upd H F (.lst [])) := (Same.refl H).new hF
  have sq : ∀ {H' : Hp}, Same H H' → SqT K H' t (hs.map hv) := fun s' => SqT.of (s' _ _ ht)
  refine ⟨fun m σ H' => ∃ (u : Nat) (done rest : List Nat), σ = [some (.ref t), some (.int (u : Int)), some (.ref F)] ∧ Same H H' ∧ H' F = some (.lst (nv done)) ∧ ups = done ++ rest ∧ Ups hs u rest ∧ m = rest.length, ⟨_, v, [], ups, rfl, s0, upd_same, rfl, hu, rfl⟩, ?_⟩
  rintro m σ H' ⟨u, done, rest, rfl, s1, hF1, eu, hr1, rfl⟩
  obtain ⟨o, eo⟩ : ∃ o, hs[u]? = some o := ⟨hs[u]'hr1.lt, List.getElem?_eq_getElem hr1.lt⟩
  refine ⟨_, rfl, _, rfl, t, _, _, hv o, rfl, rfl, sq s1, atI_nat (hv_at eo), rfl, _, rfl, ?_⟩
  cases hr1 with
  | root h =>
    rw [h] at eo; cases eo
    refine iteF ⟨_, rfl, q F H' s1 hF ?_⟩
    rw [eu, List.append_nil]; exact hF1
  | @step _ u2 r' h r =>
    rw [h] at eo; cases eo
    have hdl : done.length ≤ 1000 := by
      rw [eu, List.length_append] at hlen; omega
    refine iteT ⟨fun σ' H' => ∃ m', m' < (u2 :: r').length ∧ ∃ (u : Nat) (done rest : List Nat), σ' = [some (.ref t), some (.int (u : Int)), some (.ref F)] ∧ Same H H' ∧ H' F = some (.lst (nv done)) ∧ ups = done ++ rest ∧ Ups hs u rest ∧ m' = rest.length, fun _ _ h => h, ?_⟩
    refine ⟨_, rfl, _, rfl, t, _, _, hv (some u2), rfl, rfl, sq s1, atI_nat (hv_at h), ?_⟩
    refine ⟨_, rfl, .inl ⟨rfl, _, SqL.of hF1⟩, _, rfl, F, _, _, rfl, rfl, hF1, by rw [nv_length]; exact szl hdl, ?_⟩
    refine ⟨r'.length, Nat.lt_succ_self _, u2, done ++ [u2], r', rfl, s1.upd hF, ?_, by rw [eu, List.append_assoc]; rfl, r, rfl⟩
    rw [upd_same, nv_append]; rfl
end

theorem cnt_zero (hs : Hs) (v : Nat) : cnt hs v 0 = 0 := rfl
theorem cnt_succ (hs : Hs) (v i : Nat) : cnt hs v (i + 1) = cnt hs v i + ind (v ∈ up hs i) := by
  unfold cnt
  rw [List.range_succ, List.map_append, List.sum_append]
  show _ + (ind (v ∈ up hs i) + 0) = _
  omega
theorem cnt_bound (hs : Hs) (v : Nat) : ∀ i : Nat, 0 ≤ cnt hs v i ∧ cnt hs v i ≤ (i : Int)
  | 0 => by rw [cnt_zero]; exact ⟨Int.le_refl _, Int.le_refl _⟩
  | i + 1 => by
    rw [cnt_succ]
    have h := cnt_bound hs v i
    unfold ind
    split <;> omega
def spWeights : Sp := fun vs H Q _ => ∃ (t : Addr) (hs : Hs), vs = [.ref t] ∧ H t = some (.tup (hs.map hv)) ∧ Fo hs ∧ hs.length ≤ 1000 ∧ ∀ p F H', Same H H' → H p = none → Wt hs F → H' p = some (.lst (iv F)) → Q (.ref p) H'
def spWeights0 : Sp := fun vs H Q _ => ∃ (t : Addr) (hs : Hs), vs = [.ref t] ∧ H t = some (.tup (hs.map hv)) ∧ (hs ≠ [] → Fo hs) ∧ hs.length ≤ 1000 ∧ ∀ p F H', Same H H' → H p = none → Wt hs F → H' p = some (.lst (iv F)) → Q (.ref p) H'
theorem Kn.imp {P : Program} {w : World} {K : PySem.W.Frag} {mg : Str → Option Value} {base : Heap} {CX : CXT} {k : Nat} {x : Str} {st : Stmt} {ps : List Str} {sp sp' : Sp} (F : Kn P w K mg base CX k x st ps sp) (h : ∀ vs H Q E, sp' vs H Q E → sp vs H Q E) : Kn P w K mg base CX k x st ps sp' := by
  obtain ⟨f, fd, ok, r⟩ := F.ex
  exact ⟨f, fd, ok.imp h, r⟩
section
variable {P : Program} {w : World} {K : PySem.W.Frag} {mg : Str → Option Value} {base : Heap}
abbrev st__law_weights : Stmt := topS 47
abbrev N__law_weights : List Str := ["plan", "found", "one", "mate"]
theorem sc__law_weights : FnScope N__law_weights ["plan"] (defScope st__law_weights) := ⟨rfl, rfl, rfl, by decide +kernel, rfl, by decide +kernel, by decide +kernel⟩
theorem ok__law_weights0 (D : Df K mg "_law_weights" st__law_weights ["plan"]) (B : Bl mg) (K_law_up : Kn P w K mg base CX0 1 "_law_up" st__law_up ["plan", "one"] spUp) : Kn P w K mg base CX0 3 "_law_weights" st__law_weights ["plan"] spWeights0 := by
  refine D.ok sc__law_weights (fun vs H Q E h => ?_) (fun f cdv A outer s H vs Q E hr h => ?_)
  · obtain ⟨t, hs, rfl, _⟩ := h; rfl
  obtain ⟨t, hs, rfl, ht, fo0, hl, q⟩ := h
  refine ⟨_, ((pss_cons (ps_setLc (i := 1) (own := [("one", 2)]) (g := gName 2) rfl sc__law_weights.nd rfl rfl (sw_true rfl rfl rfl (by decide +kernel)) (pi_tup (pv 0)) (blkOk_by (N := N__law_weights) (sc := defScope st__law_weights) (own := [("one", 2)]) (by decide +kernel)) (fun _ _ _ _ _ => by (exact (pg_name (i := 2) sc__law_weights.nd rfl (Or.inl rfl)))) (fun _ _ _ _ _ => by exact pts_nil) (fun _ _ _ _ _ => by exact pe_int))
      (pss_cons (ps_for PassesOwn.never rfl (pi_range1 (by rfl) B.range (pa_cons (pe_callB call_len (by rfl) B.len (by decide +kernel) (pa_cons (pv 0) pa_nil)) pa_nil)) (pg_name (i := 2) sc__law_weights.nd rfl (Or.inl rfl)) (pss_one (ps_for PassesOwn.never rfl (pi_list (pe_callF K_law_up (hr.mono (by decide)) pass0 (pa_cons (pv 0) (pa_cons (pv 2) pa_nil)))) (pg_name (i := 3) sc__law_weights.nd rfl (Or.inl rfl)) (pss_one (ps_asg (pe_op op_add (pe_ix ix_list (pv 1) (pv 3) (fun _ _ => rfl)) pe_int) (pg_sub (pv 1) (pv 3) set_list))))))
      (pss_one (ps_ret (pv 1)))))), ?_⟩
  have hlm : (hs.map hv).length = hs.length := List.length_map _
  have sq : ∀ {H' : Hp}, Same H H' → SqT K H' t (hs.map hv) := fun s' => SqT.of (s' _ _ ht)
  -- found = [1 for one in plan]
  refine ⟨_, rfl, t, rfl, ⟨_, SqT.of ht⟩, fun F hF => lc_it (walk_tup (xs := hs.map hv)) (fun i H' => Same H H' ∧ H' F = some (.lst (iv (List.replicate i 1)))) ⟨(Same.refl H).new hF, upd_same⟩ (fun i H' _ p => sq p.1) ?_ ?_⟩
  · rintro i x H1 H2 hi ⟨s1, hF1⟩ ⟨rfl, e1⟩
    refine ⟨rfl, _, hF1, by rw [iv_length, List.length_replicate]; exact szl (by omega), s1.upd hF, ?_⟩
    rw [upd_same, List.replicate_succ']
    unfold iv
    rw [List.map_append]; rfl
  · rintro H1 ⟨s1, hF1⟩
    rw [hlm] at hF1
    refine ⟨_, rfl, _, _, rfl, .inr ⟨_, sq s1, rfl⟩, _, rfl, by omega, by omega, for_it walk_range0 (fun i σ H' => ∃ v2 v3 G, σ = [some (.ref t), some (.ref F), v2, v3] ∧ Same H H' ∧ H' F = some (.lst (iv G)) ∧ G.length = hs.length ∧ ∀ v : Nat, v < hs.length → G.getD v 0 = 1 + cnt hs v i)
      ⟨none, none, _, rfl, s1, hF1, List.length_replicate, fun v hv => by rw [cnt_zero, List.getD_eq_getElem?_getD, List.getElem?_replicate, if_pos hv]; rfl⟩ (fun _ _ _ _ _ => trivial) ?_ ?_⟩
    · rintro i x σ H2 H3 hi ⟨v2, v3, G, rfl, s2, hF2, lG, eG⟩ ⟨rfl, rfl⟩
      have hi' : i < hs.length := by omega
      have fo := fo0 (fun z => by rw [z] at hi'; exact absurd hi' (Nat.not_lt_zero _))
      have hu := fo.ups hi'
      -- for mate in _law_up(plan, one)
      refine ⟨_, rfl, _, rfl, t, hs, i, rfl, s2 _ _ ht, fo, hl, hi', fun p H4 s4 hp hp4 => ?_⟩
      have hF4 := s4 _ _ hF2
      have hpF : p ≠ F := (ne_of_none hF2 hp).symm
      refine ⟨p, rfl, ⟨_, SqL.of hp4⟩, for_it (walk_list (xs := nv (up hs i))) (fun j σ H' => ∃ v3 G, σ = [some (.ref t), some (.ref F), some (.int (i : Int)), v3] ∧ Same H H' ∧ H' p = some (.lst (nv (up hs i))) ∧ H' F = some (.lst (iv G)) ∧ G.length = hs.length ∧ ∀ v : Nat, v < hs.length → G.getD v 0 = 1 + cnt hs v i + ind (v ∈ (up hs i).take j))
        ⟨v3, G, rfl, s2.trans s4, hp4, hF4, lG, fun v hv => by rw [eG v hv, List.take_zero]; show _ = _ + ind (v ∈ []); unfold ind; rw [if_neg List.not_mem_nil]; omega⟩ (fun j σ H' _ ⟨_, _, _, _, z, _⟩ => SqL.of z) ?_ ?_⟩
      · rintro j y σ H5 H6 hj ⟨v3, G, rfl, s5, hp5, hF5, lG, eG⟩ ⟨rfl, e5⟩
        obtain ⟨m, hm, rfl⟩ : ∃ m : Nat, (up hs i)[j]? = some m ∧ y = .int (m : Int) := nv_at e5
        obtain ⟨l', hl', _⟩ := hu.mem m (List.mem_of_getElem? hm)
        have hml := hl'.lt
        have eM : (iv G)[m]? = some (.int (G.getD m 0)) := iv_get (by omega)
        refine ⟨_, rfl, _, rfl, F, _, _, _, rfl, rfl, SqL.of hF5, atI_nat eM, _, _, rfl, rfl, ?_⟩
        refine ⟨_, rfl, _, rfl, F, _, _, m, rfl, rfl, hF5, by rw [iv_length, lG]; exact ixN_nat hml, ?_⟩
        refine ⟨_, G.set m (G.getD m 0 + 1), rfl, s5.upd hF, by rw [upd_ne hpF]; exact hp5, by rw [upd_same, iv_set], by rw [List.length_set]; exact lG, fun v hv => ?_⟩
        have nd := hu.nd
        have nd2 := (List.nodup_cons.mp nd).2
        rw [List.take_add_one, hm]
        by_cases e : m = v
        · subst e
          rw [getD_set_self (by omega), eG m hv]
          have n1 : m ∉ (up hs i).take j := fun z =>
            (List.nodup_append.mp (by rw [List.take_append_drop]; exact nd2 : ((up hs i).take j ++ (up hs i).drop j).Nodup)).2.2 m z m (List.mem_of_getElem? (i := 0) (by rw [List.getElem?_drop]; exact hm)) rfl
          unfold ind
          rw [if_neg n1, if_pos (show m ∈ (up hs i).take j ++ (some m).toList from List.mem_append_right _ (List.mem_singleton.mpr rfl))]
          omega
        · rw [getD_set_ne e, eG v hv]
          have z : (v ∈ (up hs i).take j ++ (some m).toList) ↔ v ∈ (up hs i).take j := by
            rw [List.mem_append]
            exact ⟨fun h => h.elim id fun h => absurd (List.mem_singleton.mp h).symm e, .inl⟩
          unfold ind
          by_cases c : v ∈ (up hs i).take j
          · rw [if_pos c, if_pos (z.mpr c)]
          · rw [if_neg c, if_neg (fun h => c (z.mp h))]
      · rintro σ H5 ⟨v3, G, rfl, s5, hp5, hF5, lG, eG⟩
        refine ⟨_, _, G, rfl, s5, hF5, lG, fun v hv => ?_⟩
        rw [eG v hv, cnt_succ, nv_length, List.take_length]
        omega
    · rintro σ H2 ⟨v2, v3, G, rfl, s2, hF2, lG, eG⟩
      exact ⟨_, rfl, q F G H2 s2 hF ⟨lG, by rw [← hlm]; exact hlm ▸ eG⟩ hF2⟩
theorem ok__law_weights (D : Df K mg "_law_weights" st__law_weights ["plan"]) (B : Bl mg) (K_law_up : Kn P w K mg base CX0 1 "_law_up" st__law_up ["plan", "one"] spUp) : Kn P w K mg base CX0 3 "_law_weights" st__law_weights ["plan"] spWeights :=
  Kn.imp (ok__law_weights0 D B K_law_up) fun _ _ _ _ ⟨t, hs, e, ht, fo, r⟩ => ⟨t, hs, e, ht, fun _ => fo, r⟩
end

/-! ### heldbehind.shares._place_weights -/
def mulL (a b : List Int) : List Int := List.zipWith (fun x y => x * y) a b
def stayL (l : Int) (ws wy : List Int) : List Int := List.zipWith (fun w s => w * (l - s)) ws wy
def pwStep (wy : List Int) (l : Int) (ws : List Int) : List Int := List.zipWith (fun x y => x + y) (0 :: (mulL ws wy).dropLast) (stayL l ws wy)
def pwTerm (wy ws : List Int) (l : Nat) : Int := (mulL ws wy).getLastD 0 * ((fct l : Nat) : Int)
/-- the weights behind i steps, of n things -/
def pwAt (wy : List Int) (n : Nat) : Nat → List Int
  | 0 => 1 :: List.replicate (wy.length - 1) 0
  | i + 1 => pwStep wy ((n : Int) - (i : Int)) (pwAt wy n i)
/-- for each place the integer whose share of n! is the place's -/
def pw (wy : List Int) (n : Nat) : List Int := (List.range n).map fun i => pwTerm wy (pwAt wy n i) (n - 1 - i)
/-- the sizes on the way down to a thing -/
def wayS (hs : Hs) (F : List Int) (t : Nat) : List Int := ((up hs t).reverse ++ [t]).map fun v => F.getD v 0
def szL (hs : Hs) : List Int := (List.range hs.length).map fun v => 1 + cnt hs v hs.length
theorem szL_wt (hs : Hs) : Wt hs (szL hs) := by
  unfold szL
  refine ⟨by rw [List.length_map, List.length_range], fun v hv => ?_⟩
  rw [List.getD_eq_getElem?_getD, List.getElem?_map, List.getElem?_range hv]; rfl
theorem szL_ok {hs : Hs} (fo : Fo hs) : SizeOk hs (szL hs) := (szL_wt hs).size fo
theorem szL_at {hs : Hs} (fo : Fo hs) {v : Nat} (h : v < hs.length) : 1 ≤ (szL hs).getD v 0 ∧ (szL hs).getD v 0 ≤ (hs.length : Int) := by
  rw [(szL_wt hs).2 v h]
  have z := cnt_bound hs v hs.length
  refine ⟨by omega, ?_⟩
  -- none is below itself
  have z2 : cnt hs v hs.length ≤ (hs.length : Int) - 1 := by
    have h2 : ∀ i : Nat, v < i → i ≤ hs.length → cnt hs v i ≤ (i : Int) - 1 := fun i => by
      induction i with
      | zero => intro q; omega
      | succ i ih =>
        intro q1 q2
        rw [cnt_succ]
        by_cases e : v = i
        · subst e
          have z3 := (cnt_bound hs v v).2
          have z4 : ind (v ∈ up hs v) = 0 := by
            unfold ind
            rw [if_neg (List.nodup_cons.mp (fo.ups h).nd).1]
          omega
        · have z3 := ih (by omega) (by omega)
          have z4 : ind (v ∈ up hs i) ≤ 1 := by unfold ind; split <;> omega
          omega
    exact h2 _ h (Nat.le_refl _)
  omega
theorem mulL_len {a b : List Int} (h : a.length = b.length) : (mulL a b).length = b.length := by
  unfold mulL; rw [List.length_zipWith, h, Nat.min_self]
theorem stayL_len {l : Int} {a b : List Int} (h : a.length = b.length) : (stayL l a b).length = b.length := by
  unfold stayL; rw [List.length_zipWith, h, Nat.min_self]
theorem pwStep_len {wy ws : List Int} {l : Int} (h : ws.length = wy.length) (h1 : 1 ≤ wy.length) : (pwStep wy l ws).length = wy.length := by
  unfold pwStep
  rw [List.length_zipWith, List.length_cons, List.length_dropLast, mulL_len h, stayL_len h]
  omega
theorem pwAt_len {wy : List Int} (n : Nat) (h1 : 1 ≤ wy.length) : ∀ i : Nat, (pwAt wy n i).length = wy.length
  | 0 => by rw [pwAt, List.length_cons, List.length_replicate]; omega
  | i + 1 => by rw [pwAt]; exact pwStep_len (pwAt_len n h1 i) h1
def Bd (B : Nat) (ws : List Int) : Prop := ∀ x ∈ ws, x.natAbs ≤ B
theorem zip_mem {f : Int → Int → Int} {a b : List Int} {x : Int} (h : x ∈ List.zipWith f a b) : ∃ y ∈ a, ∃ z ∈ b, x = f y z := by
  obtain ⟨i, e⟩ := List.getElem?_of_mem h
  rw [List.getElem?_zipWith] at e
  cases ea : a[i]? with
  | none => rw [ea] at e; cases e
  | some y =>
    cases eb : b[i]? with
    | none => rw [ea, eb] at e; cases e
    | some z =>
      rw [ea, eb] at e
      exact ⟨y, List.mem_of_getElem? ea, z, List.mem_of_getElem? eb, (Option.some.inj e).symm⟩
theorem Bd.mul {B C : Nat} {a b : List Int} (h : Bd B a) (g : Bd C b) : Bd (B * C) (mulL a b) := fun x hx => by
  obtain ⟨y, hy, z, hz, rfl⟩ := zip_mem hx
  rw [Int.natAbs_mul]
  exact Nat.mul_le_mul (h y hy) (g z hz)
theorem Bd.stay {B : Nat} {l : Int} {a b : List Int} (h : Bd B a) (g : Bd 60 b) (hl : l.natAbs ≤ 60) : Bd (B * 120) (stayL l a b) := fun x hx => by
  obtain ⟨y, hy, z, hz, rfl⟩ := zip_mem hx
  rw [Int.natAbs_mul]
  have := g z hz
  exact Nat.mul_le_mul (h y hy) (by omega)
theorem Bd.step {B : Nat} {l : Int} {wy ws : List Int} (h : Bd B ws) (g : Bd 60 wy) (hl : l.natAbs ≤ 60) : Bd (B * 256) (pwStep wy l ws) := fun x hx => by
  obtain ⟨y, hy, z, hz, rfl⟩ := zip_mem hx
  have h1 : y.natAbs ≤ B * 60 := by
    rcases List.mem_cons.mp hy with rfl | hy
    · exact Nat.zero_le _
    · exact h.mul g y ((List.dropLast_sublist _).subset hy)
  have h2 := h.stay g hl z hz
  have e : B * 256 = B * 60 + B * 120 + B * 76 := by omega
  omega
theorem pwAt_bd {wy : List Int} {n : Nat} (g : Bd 60 wy) (hn : n ≤ 60) : ∀ i : Nat, i ≤ n → Bd (256 ^ i) (pwAt wy n i)
  | 0, _ => fun x hx => by
    rw [pwAt] at hx
    rcases List.mem_cons.mp hx with rfl | hx
    · decide
    · rw [(List.mem_replicate.mp hx).2]; decide
  | i + 1, h => by
    rw [pwAt, Nat.pow_succ]
    exact (pwAt_bd g hn i (by omega)).step g (by omega)
theorem wayS_len (hs : Hs) (F : List Int) (t : Nat) : 1 ≤ (wayS hs F t).length := by
  unfold wayS
  rw [List.length_map, List.length_append]
  show 1 ≤ _ + 1
  omega
theorem way_lt {hs : Hs} (fo : Fo hs) {t : Nat} (ht : t < hs.length) : ∀ v ∈ (up hs t).reverse ++ [t], v < hs.length := fun v hv => by
  rcases List.mem_append.mp hv with h | h
  · obtain ⟨m, hm, _⟩ := (fo.ups ht).mem v (List.mem_reverse.mp h)
    exact hm.lt
  · rw [List.mem_singleton.mp h]; exact ht
theorem wayS_bd {hs : Hs} (fo : Fo hs) (h60 : hs.length ≤ 60) {t : Nat} (ht : t < hs.length) : Bd 60 (wayS hs (szL hs) t) := fun x hx => by
  obtain ⟨v, hv, rfl⟩ := List.mem_map.mp hx
  have z := szL_at fo (way_lt fo ht v hv)
  omega
theorem iv_at {F : List Int} {i : Nat} {x : V} (h : (iv F)[i]? = some x) : ∃ n : Int, F[i]? = some n ∧ x = .int n := by
  unfold iv at h
  rw [List.getElem?_map] at h
  cases e : F[i]? with
  | none => rw [e] at h; cases h
  | some n => rw [e] at h; exact ⟨n, rfl, (Option.some.inj h).symm⟩
theorem iv_snoc (F : List Int) (n : Int) : iv F ++ [V.int n] = iv (F ++ [n]) := by unfold iv; rw [List.map_append]; rfl
theorem zip_at {f : Int → Int → Int} {a b : List Int} {j : Nat} {y z : Int} (e1 : a[j]? = some y) (e2 : b[j]? = some z) : (List.zipWith f a b).take (j + 1) = (List.zipWith f a b).take j ++ [f y z] := by
  rw [List.take_add_one, List.getElem?_zipWith, e1, e2]; rfl
theorem iv_nv (l : List Nat) : nv l = iv (l.map fun v : Nat => ((v : Nat) : Int)) := by unfold nv iv; rw [List.map_map]; rfl
section
variable {P : Program} {w : World} {K : PySem.W.Frag} {mg : Str → Option Value} {base : Heap} {CF CT : Addr}
end

/-! ### heldbehind.sequences.count_sequences -/
/-- one size after the other divides -/
def divAll (a : Int) (F : List Int) : Int := F.foldl (fun x s => x / s) a
theorem divAll_snoc (a : Int) (F : List Int) (s : Int) : divAll a (F ++ [s]) = divAll a F / s := by
  unfold divAll
  rw [List.foldl_append]; rfl
/-- the number of sequences, as it is reckoned -/
def cntL (hs : Hs) : Int := divAll ((fct hs.length : Nat) : Int) (szL hs)
def spCnt : Sp := fun vs H Q _ => ∃ (a : Addr) (hs : Hs), vs = [.ref a] ∧ H a = some (.tup (hs.map hv)) ∧ Fo hs ∧ hs.length ≤ 60 ∧ ∀ H', Same H H' → Q (.int (cntL hs)) H'
section
variable {P : Program} {w : World} {K : PySem.W.Frag} {mg : Str → Option Value} {base : Heap} {CF : Addr}
abbrev st_count_sequences : Stmt := topS 28
abbrev N_count_sequences : List Str := ["forest", "size_of", "found", "size"]
theorem sc_count_sequences : FnScope N_count_sequences ["forest"] (defScope st_count_sequences) := ⟨rfl, rfl, rfl, by decide +kernel, rfl, by decide +kernel, by decide +kernel⟩
theorem ok_count_sequences (D : Df K mg "count_sequences" st_count_sequences ["forest"]) (B : Bl mg) (BM : Bm mg) (Ksizes : Kn P w K mg base (L2.CX P w) 7 "sizes" st_sizes ["forest"] (spOf CF fun hs l => ∃ F, l = iv F ∧ SizeOk hs F)) :
    Kn P w K mg base (L2.CX P w) 8 "count_sequences" st_count_sequences ["forest"] spCnt := by
  refine D.okX sc_count_sequences (fun vs H Q E h => ?_) (fun f cdv A outer s H vs Q E hr h => ?_)
  · obtain ⟨a, hs, rfl, _⟩ := h; rfl
  obtain ⟨a, hs, rfl, ha, fo, hl, q⟩ := h
  refine ⟨_, ((pss_cons (ps_set (i := 1) sc_count_sequences.nd rfl (Or.inl rfl) (pe_callF Ksizes (hr.mono (by decide)) (passX (takes_of rfl rfl rfl rfl)) (pa_cons (pv 0) pa_nil)))
      (pss_cons (ps_set (i := 2) sc_count_sequences.nd rfl (Or.inl rfl) (pe_callBfun cr_factorial (by rfl) BM.factorial (pa_cons (pe_callB call_len (by rfl) B.len (by decide +kernel) (pa_cons (pv 1) pa_nil)) pa_nil)))
      (pss_cons (ps_for (passes_of rfl) rfl (pi_list (pv 1)) (pg_name (i := 3) sc_count_sequences.nd rfl (Or.inl rfl)) (pss_one (ps_set (i := 2) sc_count_sequences.nd rfl (Or.inl rfl) (pe_op op_fdivW (pv 2) (pv 3)))))
      (pss_one (ps_ret (pv 2))))))), ?_⟩
  have e : tupAt H (.ref a) = some (hs.map hv) := tupAt_tup ha
  have hb : ∀ hs' : Hs, tupAt H (.ref a) = some (hs'.map hv) → hs'.length ≤ 60 := fun hs' e' => by
    rw [e] at e'
    have z := congrArg List.length (Option.some.inj e')
    rw [List.length_map, List.length_map] at z
    omega
  refine ⟨_, rfl, .ref a, rfl, askdF ha hl, hb, fun n => absurd ⟨hs, e, fo⟩ n, fun hs' e' fo' r l H1 ⟨F, el, ok⟩ s1 hrn hr1 => ?_⟩
  have eh : hs = hs' := by
    rw [e] at e'
    exact hv_inj (Option.some.inj e')
  subst eh
  subst el
  have lF := ok.1
  have eF : F = szL hs := size_one fo ok (szL_ok fo)
  subst eF
  refine ⟨_, rfl, _, _, rfl, .inl ⟨_, SqL.of hr1, rfl⟩, (szL hs).length, ?_, by omega, ?_⟩
  · rw [iv_length]
  rw [lF]
  refine ⟨_, rfl, r, rfl, ⟨_, SqL.of hr1⟩, for_it (walk_list (xs := iv (szL hs))) (fun i σ H' => ∃ v3, σ = [some (.ref a), some (.ref r), some (.int (divAll ((fct hs.length : Nat) : Int) ((szL hs).take i))), v3] ∧ Same H1 H') ⟨_, rfl, Same.refl H1⟩ (fun i σ H' _ z => ?_) ?_ ?_⟩
  · obtain ⟨_, _, z⟩ := z
    exact SqL.of (z _ _ hr1)
  · rintro i x σ H2 H3 hi ⟨v3, rfl, s2⟩ ⟨rfl, e1⟩
    rw [iv_length] at hi
    rw [iv_get hi] at e1
    cases e1
    rw [lF] at hi
    have b := szL_at fo hi
    have ds : divAll ((fct hs.length : Nat) : Int) ((szL hs).take (i + 1)) = divAll ((fct hs.length : Nat) : Int) ((szL hs).take i) / (szL hs).getD i 0 := by
      have hi2 : i < (szL hs).length := by omega
      have ei : (szL hs).getD i 0 = (szL hs)[i] := by rw [List.getD_eq_getElem?_getD, List.getElem?_eq_getElem hi2]; rfl
      have tk : (szL hs).take (i + 1) = (szL hs).take i ++ [(szL hs)[i]] := by rw [List.take_add_one, List.getElem?_eq_getElem hi2]; rfl
      rw [tk, divAll_snoc, ei]
    exact ⟨_, rfl, _, rfl, _, _, rfl, rfl, wide_div (b := 64) (by omega) (Nat.lt_of_le_of_lt (show _ ≤ 100 by omega) (by decide)) (by decide) (by decide), some (.int ((szL hs).getD i 0)), by rw [ds]; rfl, s2⟩
  · rintro σ H2 ⟨v3, rfl, s2⟩
    have et : (szL hs).take (iv (szL hs)).length = szL hs := by rw [iv_length, List.take_length]
    rw [et]
    exact ⟨_, rfl, q H2 (s1.trans s2)⟩
end

end My

namespace My
open PySem PySem.Spec PyProof.Rows L2
/-! ### stages: lists of tuples of things -/
def Lot (H : Hp) (x : V) (l : List Nat) : Prop := ∃ t, x = .ref t ∧ H t = some (.tup (nv l))
def LotsX (H : Hp) (xs : List V) (ls : List (List Nat)) : Prop := xs.length = ls.length ∧ ∀ (i : Nat) (x : V) (l : List Nat), xs[i]? = some x → ls[i]? = some l → Lot H x l
def Lots (H : Hp) (p : Addr) (ls : List (List Nat)) : Prop := ∃ xs, H p = some (.lst xs) ∧ LotsX H xs ls
theorem Lot.same {H H' : Hp} {x : V} {l : List Nat} (h : Lot H x l) (s : Same H H') : Lot H' x l := by
  obtain ⟨t, e, ht⟩ := h
  exact ⟨t, e, s _ _ ht⟩
theorem LotsX.same {H H' : Hp} {xs : List V} {ls : List (List Nat)} (h : LotsX H xs ls) (s : Same H H') : LotsX H' xs ls := ⟨h.1, fun i x l e1 e2 => (h.2 i x l e1 e2).same s⟩
theorem Lots.same {H H' : Hp} {p : Addr} {ls : List (List Nat)} (h : Lots H p ls) (s : Same H H') : Lots H' p ls := by
  obtain ⟨xs, e, hx⟩ := h
  exact ⟨xs, s _ _ e, hx.same s⟩
theorem LotsX.at {H : Hp} {xs : List V} {ls : List (List Nat)} (h : LotsX H xs ls) {i : Nat} {x : V} (e : xs[i]? = some x) : ∃ t l, ls[i]? = some l ∧ x = .ref t ∧ H t = some (.tup (nv l)) := by
  have lt := (List.getElem?_eq_some_iff.mp e).1
  obtain ⟨t, e1, ht⟩ := h.2 i x _ e (List.getElem?_eq_getElem (by rw [← h.1]; exact lt))
  exact ⟨t, _, List.getElem?_eq_getElem (by rw [← h.1]; exact lt), e1, ht⟩
theorem LotsX.of {H : Hp} {xs : List V} {ls : List (List Nat)} (h : LotsX H xs ls) {i : Nat} {l : List Nat} (e : ls[i]? = some l) : ∃ t, xs[i]? = some (.ref t) ∧ H t = some (.tup (nv l)) := by
  have lt := (List.getElem?_eq_some_iff.mp e).1
  have e2 : xs[i]? = some (xs[i]'(by rw [h.1]; exact lt)) := List.getElem?_eq_getElem (by rw [h.1]; exact lt)
  obtain ⟨t, e1, ht⟩ := h.2 i _ _ e2 e
  exact ⟨t, e1 ▸ e2, ht⟩
theorem LotsX.nil {H : Hp} : LotsX H [] [] := ⟨rfl, fun i x l e => by cases e⟩
theorem LotsX.snoc {H : Hp} {xs : List V} {ls : List (List Nat)} {x : V} {l : List Nat} (h : LotsX H xs ls) (hx : Lot H x l) : LotsX H (xs ++ [x]) (ls ++ [l]) := by
  refine ⟨by rw [List.length_append, List.length_append, h.1]; rfl, fun i y m e1 e2 => ?_⟩
  by_cases c : i < xs.length
  · rw [List.getElem?_append_left c] at e1
    rw [List.getElem?_append_left (by rw [← h.1]; exact c)] at e2
    exact h.2 i y m e1 e2
  · have lt := (List.getElem?_eq_some_iff.mp e1).1
    rw [List.length_append, List.length_singleton] at lt
    have ei : i = xs.length := by omega
    subst ei
    rw [List.getElem?_append_right (Nat.le_refl _), Nat.sub_self] at e1
    rw [h.1, List.getElem?_append_right (Nat.le_refl _), Nat.sub_self] at e2
    cases e1; cases e2
    exact hx
/-- the stages are right ones of n things -/
structure Stg (n : Nat) (ls : List (List Nat)) : Prop where
  ne : ∀ l ∈ ls, l ≠ []
  up : ∀ l ∈ ls, l.Pairwise (· < ·)
  nd : ls.flatten.Nodup
  lt : ∀ v ∈ ls.flatten, v < n
theorem Stg.size {n : Nat} {ls : List (List Nat)} (s : Stg n ls) : ls.flatten.length ≤ n := by
  have q := nodup_sub ls.flatten (List.range n) s.nd fun v hv => List.mem_range.mpr (s.lt v hv)
  rw [List.length_range] at q; exact q
theorem flat_ge : ∀ {ls : List (List Nat)}, (∀ l ∈ ls, l ≠ []) → ls.length ≤ ls.flatten.length
  | [], _ => Nat.le_refl _
  | l :: ls, h => by
    have a := flat_ge (ls := ls) fun m hm => h m (List.mem_cons_of_mem _ hm)
    have b : 0 < l.length := List.length_pos_iff.mpr (h l List.mem_cons_self)
    rw [List.flatten_cons, List.length_append, List.length_cons]
    omega
theorem Stg.many {n : Nat} {ls : List (List Nat)} (s : Stg n ls) : ls.length ≤ n := Nat.le_trans (flat_ge s.ne) s.size
theorem Stg.one {n : Nat} {ls : List (List Nat)} (s : Stg n ls) {l : List Nat} (h : l ∈ ls) : l.length ≤ n := by
  have q := s.size
  have a := (List.sublist_flatten_of_mem h).length_le
  omega
def spAscends : Sp := fun vs H Q _ => ∃ (t : Addr) (l : List Nat), vs = [.ref t] ∧ H t = some (.tup (nv l)) ∧ l.length ≤ 60 ∧ l ≠ [] ∧ l.Pairwise (· < ·) ∧ ∀ H', Same H H' → Q (.bl true) H'
def spDifferent : Sp := fun vs H Q _ => ∃ (p : Addr) (l : List Nat) (n : Nat), vs = [.ref p, .int (n : Int)] ∧ H p = some (.lst (nv l)) ∧ l.length ≤ 60 ∧ l.Nodup ∧ (∀ v ∈ l, v < n) ∧ ∀ H', Same H H' → Q (.bl true) H'
theorem dp_list {K : PySem.W.Frag} {H : Hp} {p : Addr} {l : List Nat} (h : H p = some (.lst (nv l))) : Dp K H (.ref p) (.list (nD l)) := .lst (SqL.of h) (dp_nv l)
theorem sorted_same : ∀ {ms ns : List Int}, ms.Perm ns → ms.Pairwise (· ≤ ·) → ns.Pairwise (· ≤ ·) → ms = ns := fun {ms ns} p h1 h2 =>
  List.Perm.eq_of_pairwise (fun a b _ _ x y => Int.le_antisymm x y) h1 h2 p
section
variable {P : Program} {w : World} {K : PySem.W.Frag} {mg : Str → Option Value} {base : Heap}
abbrev st__ascends : Stmt := topS 36
abbrev N__ascends : List Str := ["things"]
theorem sc__ascends : FnScope N__ascends ["things"] (defScope st__ascends) := ⟨rfl, rfl, rfl, by decide +kernel, rfl, by decide +kernel, by decide +kernel⟩
theorem ok__ascends (D : Df K mg "_ascends" st__ascends ["things"]) (B : Bl mg) : Kn P w K mg base CX0 1 "_ascends" st__ascends ["things"] spAscends := by
  refine D.ok sc__ascends (fun vs H Q E h => ?_) (fun f cdv A outer s H vs Q E hr h => ?_)
  · obtain ⟨t, l, rfl, _⟩ := h; rfl
  obtain ⟨t, l, rfl, ht, hl, hne, hup, q⟩ := h
  refine ⟨_, ((pss_one (ps_ret (pe_and (pe_cmpR op_gt (pe_callB call_len (by rfl) B.len (by decide +kernel) (pa_cons (pv 0) pa_nil)) pe_int (nomark _)) (pe_one (pe_cmpR (op_eqD hr.units) (pe_callTy call_list_of (by rfl) B.list (by decide +kernel) (pa_cons (pv 0) pa_nil)) (pe_callB cr_sortedTup (by rfl) B.sorted (by decide +kernel) (pa_cons (pv 0) pa_nil)) (nomark _))))))), ?_⟩
  have pos : 0 < l.length := List.length_pos_iff.mpr hne
  refine ⟨_, rfl, _, _, rfl, .inr ⟨_, SqT.of ht, rfl⟩, _, _, rfl, rfl, _, rfl, ?_⟩
  rw [nv_length]
  refine ite2 (fun _ => ?_) (fun c => absurd (decide_eq_true (p := (0 : Int) < (l.length : Int)) (by omega)) c)
  refine ⟨_, rfl, _, _, rfl, .inr (SqT.of ht), fun p hp => ?_⟩
  have s1 := (Same.refl H).new (o := .lst (nv l)) hp
  have o1 : upd H p (.lst (nv l)) p = some (.lst (nv l)) := upd_same
  generalize upd H p (.lst (nv l)) = H1 at s1 o1 ⊢
  refine ⟨_, rfl, _, l.map fun v : Nat => (v : Int), rfl, by rw [List.map_map]; exact SqT.of (s1 _ _ ht), fun ms p2 pm hs hp2 => ?_⟩
  have em : ms = l.map fun v : Nat => (v : Int) := sorted_same pm hs (List.pairwise_map.mpr (hup.imp fun {a b} h => by omega))
  subst em
  rw [List.map_map]
  have s2 := s1.new (o := .lst (nv l)) hp2
  have o2 : upd H1 p2 (.lst (nv l)) p2 = some (.lst (nv l)) := upd_same
  have o3 : upd H1 p2 (.lst (nv l)) p = some (.lst (nv l)) := (upd_ne (ne_of_none o1 hp2)).trans o1
  show ∃ d e, _
  refine ⟨_, _, dp_list o3, dp_list o2, shaped_nD l, shaped_nD l, ?_⟩
  rw [eqv_list, eqv_nD, decide_eq_true rfl]
  exact q _ s2
abbrev st_are_different : Stmt := topS 11
abbrev N_are_different : List Str := ["values", "many", "value"]
theorem sc_are_different : FnScope N_are_different ["values", "many"] (defScope st_are_different) := ⟨rfl, rfl, rfl, by decide +kernel, rfl, by decide +kernel, by decide +kernel⟩
theorem ok_are_different (D : Df K mg "are_different" st_are_different ["values", "many"]) (B : Bl mg) (Kis_index : Kn P w K mg base CX0 3 "is_index" st_is_index ["value", "many"] spIsIndex) :
    Kn P w K mg base CX0 4 "are_different" st_are_different ["values", "many"] spDifferent := by
  refine D.ok sc_are_different (fun vs H Q E h => ?_) (fun f cdv A outer s H vs Q E hr h => ?_)
  · obtain ⟨p, l, n, rfl, _⟩ := h; rfl
  obtain ⟨p, l, n, rfl, hp, hl, nd, hlt, q⟩ := h
  refine ⟨_, ((pss_one (ps_ret (pe_and (pe_callB (cr_all rfl) (by rfl) B.all (by decide +kernel) (pa_cons (pe_lc (own := [("value", 2)]) (g := gName 2) rfl sc_are_different.nd (pi_list (pv 0)) (blkOk_by (N := N_are_different) (sc := defScope st_are_different) (own := [("value", 2)]) (by decide +kernel)) (fun _ _ _ _ _ => by (exact (pg_name (i := 2) sc_are_different.nd rfl (Or.inl rfl)))) (fun _ _ _ _ _ => by exact pts_nil) (fun _ _ _ _ _ => by exact (pe_callF Kis_index (hr.mono (by decide)) pass0 (pa_cons (pv 2) (pa_cons (pv 1) pa_nil))))) pa_nil)) (pe_one (pe_cmpR op_eq (RZ.pe_lenSetI (by rfl) B.len (by rfl) B.set (pv 0)) (pe_callB call_len (by rfl) B.len (by decide +kernel) (pa_cons (pv 0) pa_nil)) (nomark _))))))), ?_⟩
  refine ⟨_, rfl, p, rfl, ⟨_, SqL.of hp⟩, fun L hL => lc_list (xs := nv l) (fun i H' => Same H H' ∧ H' L = some (.lst ((List.replicate i true).map V.bl))) ⟨(Same.refl H).new hL, upd_same⟩ (fun i H' _ z => SqL.of (z.1 _ _ hp)) ?_ ?_⟩
  · rintro i x H1 e ⟨s1, hL1⟩
    obtain ⟨v, ev, rfl⟩ := List.getElem?_map .. |>.symm.trans e |> Option.map_eq_some_iff.mp
    have hi : i < l.length := (List.getElem?_eq_some_iff.mp ev).1
    have hv' : isIdx (n : Int) (.int (v : Int)) = true := by
      have z := hlt v (List.mem_of_getElem? ev)
      show (decide ((0 : Int) ≤ v) && decide ((v : Int) < n)) = true
      rw [decide_eq_true (by omega), decide_eq_true (by omega)]; rfl
    refine ⟨rfl, _, rfl, _, rfl, _, _, rfl, .int _, _, hL1, ?_, s1.upd hL, ?_⟩
    · rw [List.length_map, List.length_replicate]; exact szl (by omega)
    · rw [upd_same, hv', List.replicate_succ', List.map_append]; rfl
  · rintro H1 ⟨s1, hL1⟩
    refine ⟨L, List.replicate (nv l).length true, rfl, SqL.of hL1, _, rfl, ?_⟩
    have ea : (List.replicate (nv l).length true).all id = true := by rw [List.all_eq_true]; intro b hb; exact (List.mem_replicate.mp hb).2
    rw [ea]
    refine iteT ⟨_, rfl, _, l.map fun v : Nat => (v : Int), rfl, by rw [List.map_map]; exact SqL.of (s1 _ _ hp), ?_, ?_, ?_⟩
    · exact List.Pairwise.map _ (fun a b h => by omega) nd
    · rw [List.length_map]; omega
    refine ⟨_, rfl, _, _, rfl, .inl ⟨_, SqL.of (s1 _ _ hp), rfl⟩, rfl, ?_⟩
    rw [List.length_map, nv_length]
    show Q (.bl (decide (V.int (l.length : Int) = V.int (l.length : Int)))) H1
    rw [decide_eq_true rfl]
    exact q H1 s1
end

end My

namespace My
open PySem PySem.Spec PyProof.Rows L2
/-! ### stages: are they right ones -/
def spStages : Sp := fun vs H Q _ => ∃ (p : Addr) (ls : List (List Nat)) (n : Nat), vs = [.ref p, .int (n : Int)] ∧ Lots H p ls ∧ Stg n ls ∧ n ≤ 60 ∧ ∀ H', Same H H' → Q (.bl true) H'
def spCheckS (C : Addr) : Sp := fun vs H Q _ => ∃ (a p : Addr) (hs : Hs) (ls : List (List Nat)), vs = [.ref a, .ref p] ∧ H a = some (.tup (hs.map hv)) ∧ Fo hs ∧ hs.length ≤ 60 ∧ Lots H p ls ∧ Stg hs.length ls ∧ ∀ H', Same H H' → Q .non H'
theorem all_true (n : Nat) : (List.replicate n true).all id = true := by rw [List.all_eq_true]; intro b hb; exact (List.mem_replicate.mp hb).2
theorem flat_len {ls : List (List Nat)} (i : Nat) : (ls.take i).flatten.length ≤ ls.flatten.length := by
  conv => rhs; rw [← List.take_append_drop i ls, List.flatten_append, List.length_append]
  omega
section
variable {P : Program} {w : World} {K : PySem.W.Frag} {mg : Str → Option Value} {base : Heap}
abbrev st_are_stages : Stmt := topS 31
abbrev N_are_stages : List Str := ["value", "many", "things", "stage", "thing"]
theorem sc_are_stages : FnScope N_are_stages ["value", "many"] (defScope st_are_stages) := ⟨rfl, rfl, rfl, by decide +kernel, rfl, by decide +kernel, by decide +kernel⟩
theorem ok_are_stages (D : Df K mg "are_stages" st_are_stages ["value", "many"]) (B : Bl mg) (K_ascends : Kn P w K mg base CX0 1 "_ascends" st__ascends ["things"] spAscends)
    (Kare_different : Kn P w K mg base CX0 4 "are_different" st_are_different ["values", "many"] spDifferent) : Kn P w K mg base CX0 5 "are_stages" st_are_stages ["value", "many"] spStages := by
  refine D.ok sc_are_stages (fun vs H Q E h => ?_) (fun f cdv A outer s H vs Q E hr h => ?_)
  · obtain ⟨p, ls, n, rfl, _⟩ := h; rfl
  obtain ⟨p, ls, n, rfl, hp, st, hn, q⟩ := h
  refine ⟨_, ((pss_cons (ps_if (PW.pt (pw_or (pt_not (pt_val (pe_callB call_isi (by rfl) B.isinstance (by decide +kernel) (pa_cons (pv 0) (pa_cons (pe_bltn (v := .ty "list") (u := .type "list") (by rfl) B.list (by decide +kernel) rfl) pa_nil))))) (pw_or1 (pt_not (pt_val (pe_callB (cr_all rfl) (by rfl) B.all (by decide +kernel) (pa_cons (pe_lc (own := [("stage", 3)]) (g := gName 3) rfl sc_are_stages.nd (pi_list (pv 0)) (blkOk_by (N := N_are_stages) (sc := defScope st_are_stages) (own := [("stage", 3)]) (by decide +kernel)) (fun _ _ _ _ _ => by (exact (pg_name (i := 3) sc_are_stages.nd rfl (Or.inl rfl)))) (fun _ _ _ _ _ => by exact pts_nil) (fun _ _ _ _ _ => by exact (pe_callB (call_isiK1 K) (by rfl) B.isinstance (by decide +kernel) (pa_cons (pv 3) (pa_cons (pe_bltn (v := .ty "tuple") (u := .type "tuple") (by rfl) B.tuple (by decide +kernel) rfl) pa_nil))))) pa_nil))))))) (pss_one (ps_ret pe_bl)) pss_nil)
      (pss_cons (ps_setLc2 (i := 2) (own := [("stage", 3), ("thing", 4)]) (vs1 := [4]) (g := gName 3) (g1 := gName 4) rfl sc_are_stages.nd rfl rfl (sw_true rfl rfl rfl (by decide +kernel)) (pi_list (pv 0)) (blkOk_by (N := N_are_stages) (sc := defScope st_are_stages) (own := [("stage", 3), ("thing", 4)]) (by decide +kernel)) (by decide) (fun _ _ _ _ _ => by (exact (pg_name (i := 3) sc_are_stages.nd rfl (Or.inl rfl)))) (fun _ _ _ _ _ => by exact pts_nil) (fun _ _ _ _ _ => by exact (pi_tupK K (pv 3))) (fun _ _ _ _ _ => by (exact (pg_name (i := 4) sc_are_stages.nd rfl (Or.inl rfl)))) (fun _ _ _ _ _ => by exact pts_nil) (fun _ _ _ _ _ => by exact (pv 4)))
      (pss_one (ps_ret (pe_and (pe_callF Kare_different (hr.mono (by decide)) pass0 (pa_cons (pv 2) (pa_cons (pv 1) pa_nil))) (pe_one (pe_callB (cr_all rfl) (by rfl) B.all (by decide +kernel) (pa_cons (pe_lc (own := [("stage", 3)]) (g := gName 3) rfl sc_are_stages.nd (pi_list (pv 0)) (blkOk_by (N := N_are_stages) (sc := defScope st_are_stages) (own := [("stage", 3)]) (by decide +kernel)) (fun _ _ _ _ _ => by (exact (pg_name (i := 3) sc_are_stages.nd rfl (Or.inl rfl)))) (fun _ _ _ _ _ => by exact pts_nil) (fun _ _ _ _ _ => by exact (pe_callF K_ascends (hr.mono (by decide)) pass0 (pa_cons (pv 3) pa_nil)))) pa_nil))))))))), ?_⟩
  have many := st.many
  have size := st.size
  obtain ⟨xs, hx, lx⟩ := hp
  refine ⟨_, rfl, _, _, _, _, _, rfl, .ty _, .base (.lst hx), kit_ty (by decide +kernel : kitB "list" "list" = some true), _, rfl, ?_⟩
  refine iteF ?_
  refine ⟨_, rfl, p, rfl, ⟨_, SqL.of hx⟩, fun L hL => lc_it (walk_list (xs := xs)) (fun i H' => Same H H' ∧ H' L = some (.lst ((List.replicate i true).map V.bl))) ⟨(Same.refl H).new hL, upd_same⟩ (fun i H' _ z => SqL.of (z.1 _ _ hx)) ?_ ?_⟩
  · rintro i y H1 H2 hi ⟨s1, hL1⟩ ⟨rfl, e1⟩
    obtain ⟨t, l, el, rfl, ht⟩ := (lx.same s1).at e1
    refine ⟨rfl, _, rfl, _, _, _, _, _, rfl, .ty _, .base (.tup ht), kit_ty (by decide +kernel : kitB "tuple" "tuple" = some true), _, hL1, ?_, s1.upd hL, ?_⟩
    · rw [List.length_map, List.length_replicate]; exact szl (by rw [← lx.1] at many; omega)
    · rw [upd_same, List.replicate_succ', List.map_append]; rfl
  rintro H1 ⟨s1, hL1⟩
  refine ⟨L, List.replicate xs.length true, rfl, SqL.of hL1, _, rfl, ?_⟩
  rw [all_true]
  refine iteF ?_
  refine ⟨_, rfl, p, rfl, ⟨_, SqL.of (s1 _ _ hx)⟩, fun D hD => ⟨fun i m H' => m = xs.length - i ∧ i ≤ xs.length ∧ Same H1 H' ∧ H' D = some (.lst (nv (ls.take i).flatten)), ⟨xs.length, by simp, Nat.zero_le _, (Same.refl H1).new hD, upd_same⟩, ?_⟩⟩
  rintro i m H2 ⟨rfl, hi, s2, hD2⟩
  by_cases hlt : i < xs.length
  · refine .inr ⟨(walk_list (xs := xs)).goes i H2 hlt (SqL.of (s2 _ _ (s1 _ _ hx))), fun H' => Same H1 H' ∧ H' D = some (.lst (nv (ls.take (i + 1)).flatten)), fun H' z => ⟨xs.length - (i + 1), by omega, rfl, hlt, z.1, z.2⟩, fun x H3 y => ?_⟩
    obtain ⟨rfl, e1⟩ := (walk_list (xs := xs)).yields i H2 x H3 hlt (SqL.of (s2 _ _ (s1 _ _ hx))) y
    obtain ⟨t, l, el, rfl, ht⟩ := lx.at e1
    have le1 := flat_len (ls := ls) (i + 1)
    have et : (ls.take (i + 1)).flatten = (ls.take i).flatten ++ l := by rw [List.take_add_one, el]; simp
    rw [et, List.length_append] at le1
    refine ⟨rfl, _, rfl, t, rfl, ⟨_, SqT.of (s2 _ _ (s1 _ _ ht))⟩, fun j k H' => k = l.length - j ∧ j ≤ l.length ∧ Same H1 H' ∧ H' D = some (.lst (nv ((ls.take i).flatten ++ l.take j))), ⟨l.length, by simp, Nat.zero_le _, s2, by rw [hD2, List.take_zero, List.append_nil]⟩, ?_⟩
    rintro j k H4 ⟨rfl, hj, s4, hD4⟩
    have hT4 : SqT K H4 t (nv l) := SqT.of (s4 _ _ (s1 _ _ ht))
    by_cases hlj : j < l.length
    · have hlj' : j < (nv l).length := by rw [nv_length]; exact hlj
      refine .inr ⟨(walk_tup (xs := nv l)).goes j H4 hlj' hT4, fun H' => Same H1 H' ∧ H' D = some (.lst (nv ((ls.take i).flatten ++ l.take (j + 1)))), fun H' z => ⟨l.length - (j + 1), by omega, rfl, hlj, z.1, z.2⟩, fun x H5 y => ?_⟩
      obtain ⟨rfl, e2⟩ := (walk_tup (xs := nv l)).yields j H4 x H5 hlj' hT4 y
      rw [nv_get (List.getElem?_eq_getElem hlj)] at e2
      cases e2
      refine ⟨rfl, _, rfl, _, hD4, ?_, s4.upd hD, ?_⟩
      · rw [nv_length, List.length_append, List.length_take]; exact szl (by omega)
      · rw [upd_same, List.take_add_one, List.getElem?_eq_getElem hlj, ← List.append_assoc, show (some l[j]).toList = [l[j]] from rfl, nv_append _ [l[j]]]; rfl
    · have ej : j = l.length := by omega
      subst ej
      refine .inl ⟨by have z := (walk_tup (xs := nv l)).stops H4 hT4; rw [nv_length] at z; exact z, s4, ?_⟩
      rw [hD4, et, List.take_length]
  · have ei : i = xs.length := by omega
    subst ei
    refine .inl ⟨(walk_list (xs := xs)).stops H2 (SqL.of (s2 _ _ (s1 _ _ hx))), ?_⟩
    rw [lx.1, List.take_length] at hD2
    have s12 := s1.trans s2
    refine ⟨_, rfl, _, rfl, D, ls.flatten, n, rfl, hD2, by omega, st.nd, st.lt, fun H3 s3 => ⟨_, rfl, iteT ?_⟩⟩
    have s13 := s12.trans s3
    refine ⟨_, rfl, p, rfl, ⟨_, SqL.of (s13 _ _ hx)⟩, fun L2 hL2 => lc_it (walk_list (xs := xs)) (fun i H' => Same H H' ∧ H' L2 = some (.lst ((List.replicate i true).map V.bl))) ⟨s13.new hL2, upd_same⟩ (fun i H' _ z => SqL.of (z.1 _ _ hx)) ?_ ?_⟩
    · rintro i y H4 H5 hi ⟨s4, hL4⟩ ⟨rfl, e1⟩
      obtain ⟨t, l, el, rfl, ht⟩ := lx.at e1
      have ml := List.mem_of_getElem? el
      refine ⟨rfl, _, rfl, t, l, rfl, s4 _ _ ht, ?_, st.ne l ml, st.up l ml, fun H6 s6 => ⟨_, s6 _ _ hL4, ?_, ?_, ?_⟩⟩
      · have z := st.one ml
        omega
      · rw [List.length_map, List.length_replicate]; exact szl (by rw [← lx.1] at many; omega)
      · exact (s4.trans s6).upd (s13.free hL2)
      · rw [upd_same, List.replicate_succ', List.map_append]; rfl
    · rintro H4 ⟨s4, hL4⟩
      refine ⟨L2, List.replicate xs.length true, rfl, SqL.of hL4, ?_⟩
      rw [all_true]
      exact q _ s4
theorem lots_p {H : Hp} {p : Addr} {ls : List (List Nat)} (h : Lots H p ls) : ∃ xs, H p = some (.lst xs) := by
  obtain ⟨xs, e, _⟩ := h
  exact ⟨xs, e⟩
abbrev st__check_stages : Stmt := topS 37
abbrev N__check_stages : List Str := ["forest", "stages"]
theorem sc__check_stages : FnScope N__check_stages ["forest", "stages"] (defScope st__check_stages) := ⟨rfl, rfl, rfl, by decide +kernel, rfl, by decide +kernel, by decide +kernel⟩
theorem ok__check_stages {CF CS : Addr} (D : Df K mg "_check_stages" st__check_stages ["forest", "stages"]) (B : Bl mg) (EInvalidStages : Ex1 K mg "InvalidStages" CS)
    (Kcheck_forest : Kn P w K mg base (L2.CX P w) 5 "check_forest" st_check_forest ["forest"] (spCheckF CF)) (Kare_stages : Kn P w K mg base CX0 5 "are_stages" st_are_stages ["value", "many"] spStages) :
    Kn P w K mg base (L2.CX P w) 6 "_check_stages" st__check_stages ["forest", "stages"] (spCheckS CS) := by
  refine D.okX sc__check_stages (fun vs H Q E h => ?_) (fun f cdv A outer s H vs Q E hr h => ?_)
  · obtain ⟨a, p, hs, ls, rfl, _⟩ := h; rfl
  obtain ⟨a, p, hs, ls, rfl, ha, fo, hl, hp, st, q⟩ := h
  refine ⟨_, ((pss_cons (ps_expr (pe_callF Kcheck_forest (hr.mono (by decide)) (passX (takes_of rfl rfl rfl rfl)) (pa_cons (pv 0) pa_nil)))
      (pss_one (ps_if (pt_not (pt_val (pe_callF Kare_stages (hr.mono (by decide)) pass0 (pa_cons (pv 1) (pa_cons (pe_callB call_len (by rfl) B.len (by decide +kernel) (pa_cons (pv 0) pa_nil)) pa_nil))))) (pss_one (ps_raise rfl (takes_of rfl rfl rfl rfl) (pmk_own0 PySem.F.excBase_ValueError EInvalidStages.x EInvalidStages.g EInvalidStages.k (raises_own EInvalidStages.b EInvalidStages.t) rfl))) pss_nil)))), ?_⟩
  have e : tupAt H (.ref a) = some (hs.map hv) := tupAt_tup ha
  refine ⟨_, rfl, _, rfl, askdF ha hl, fun _ H1 s1 => ?_, fun n => absurd ⟨hs, e, fo⟩ n⟩
  refine ⟨_, rfl, _, rfl, _, _, rfl, .inr ⟨_, SqT.of (s1 _ _ ha), rfl⟩, p, ls, hs.length, ?_, hp.same s1, st, hl, fun H2 s2 => ⟨_, rfl, iteF (q H2 (s1.trans s2))⟩⟩
  rw [List.length_map]; rfl
end

end My

namespace My
open PySem PySem.Spec PyProof.Rows L2
/-! ### the first stage that is wrong -/
/-- the things of l whose holder is not among those seen -/
def wrongIn (hs : Hs) (seen l : List Nat) : List Nat := l.filter fun v => match hs[v]? with
  | some (some u) => !decide (u ∈ seen)
  | _ => false
theorem wrongIn_snoc (hs : Hs) (seen l : List Nat) (v : Nat) : wrongIn hs seen (l ++ [v]) = wrongIn hs seen l ++ wrongIn hs seen [v] := List.filter_append _ _
theorem wrongIn_root {hs : Hs} {seen : List Nat} {v : Nat} (h : hs[v]? = some none) : wrongIn hs seen [v] = [] := by
  unfold wrongIn
  rw [List.filter_cons, h]; rfl
theorem wrongIn_in {hs : Hs} {seen : List Nat} {v u : Nat} (h : hs[v]? = some (some u)) (m : u ∈ seen) : wrongIn hs seen [v] = [] := by
  unfold wrongIn
  rw [List.filter_cons, h]; simp [m]
theorem wrongIn_out {hs : Hs} {seen : List Nat} {v u : Nat} (h : hs[v]? = some (some u)) (m : ¬ u ∈ seen) : wrongIn hs seen [v] = [v] := by
  unfold wrongIn
  rw [List.filter_cons, h]; simp [m]
theorem wrongIn_at {hs : Hs} {seen l : List Nat} {j : Nat} (hj : j < l.length) (h : wrongIn hs seen (l.take j) = []) (h2 : wrongIn hs seen [l[j]] = [l[j]]) : ∃ rest, wrongIn hs seen l = l[j] :: rest := by
  have e : l = l.take j ++ ([l[j]] ++ l.drop (j + 1)) := by
    have z := List.drop_eq_getElem_cons hj
    rw [List.singleton_append, ← z, List.take_append_drop]
  refine ⟨wrongIn hs seen (l.drop (j + 1)), ?_⟩
  conv => lhs; rw [e]
  show List.filter _ _ = _
  rw [List.filter_append, List.filter_append]
  show wrongIn hs seen _ ++ (wrongIn hs seen _ ++ wrongIn hs seen _) = _
  rw [h, h2]; rfl
/-- what stage_fault is to tell -/
def IsFault (hs : Hs) (ls : List (List Nat)) : Option (Nat × Nat) → Prop
  | none => ∀ (i : Nat) (l : List Nat), ls[i]? = some l → wrongIn hs (ls.take (i + 1)).flatten l = []
  | some (i, v) => (∀ (j : Nat) (m : List Nat), j < i → ls[j]? = some m → wrongIn hs (ls.take (j + 1)).flatten m = []) ∧ ∃ l rest, ls[i]? = some l ∧ wrongIn hs (ls.take (i + 1)).flatten l = v :: rest
theorem IsFault.same {hs : Hs} {ls : List (List Nat)} {r r' : Option (Nat × Nat)} (h : IsFault hs ls r) (h' : IsFault hs ls r') : r = r' := by
  cases r with
  | none =>
    cases r' with
    | none => rfl
    | some q =>
      obtain ⟨_, l, rest, e, w⟩ := h'
      have z := h _ l e
      rw [z] at w; cases w
  | some p =>
    obtain ⟨k1, l, rest, e, w⟩ := h
    cases r' with
    | none =>
      have z := h' _ l e
      rw [z] at w; cases w
    | some q =>
      obtain ⟨k2, l2, rest2, e2, w2⟩ := h'
      have c1 : ¬ p.1 < q.1 := fun c => by
        have z := k2 p.1 l c e
        rw [z] at w; cases w
      have c2 : ¬ q.1 < p.1 := fun c => by
        have z := k1 q.1 l2 c e2
        rw [z] at w2; cases w2
      have ei : p.1 = q.1 := by omega
      rw [ei] at e w
      rw [e] at e2; cases e2
      rw [w] at w2
      exact congrArg some (Prod.ext ei (List.cons.inj w2).1)
def FaultV (H : Hp) : Option (Nat × Nat) → V → Prop
  | none, v => v = .non
  | some (i, t), v => ∃ a, v = .ref a ∧ H a = some (.tup [.int (i : Int), .int (t : Int)])
def spFault : Sp := fun vs H Q _ => ∃ (a p : Addr) (hs : Hs) (ls : List (List Nat)), vs = [.ref a, .ref p] ∧ H a = some (.tup (hs.map hv)) ∧ Fo hs ∧ hs.length ≤ 60 ∧ Lots H p ls ∧ Stg hs.length ls ∧
  ∀ r v H', IsFault hs ls r → Same H H' → FaultV H' r v → Q v H'
/-- the dict has just these things as keys -/
def DoneK (kvs : List (Key × V)) (S : List Nat) : Prop := (∀ u : Nat, (valV kvs (Sum.inl (u : Int))).isSome = decide (u ∈ S)) ∧ kvs.length ≤ S.length
theorem DoneK.nil : DoneK [] [] := ⟨fun u => rfl, Nat.le_refl _⟩
theorem DoneK.put {kvs : List (Key × V)} {S : List Nat} (h : DoneK kvs S) (v : Nat) (y : V) : DoneK (putK kvs (Sum.inl (v : Int)) y) (S ++ [v]) := by
  refine ⟨fun u => ?_, ?_⟩
  · rw [valV_put]
    by_cases e : u = v
    · subst e
      rw [if_pos rfl]; simp
    · have n : ¬ (Sum.inl (u : Int) : Key) = Sum.inl (v : Int) := fun z => e (by have := Sum.inl.inj z; omega)
      rw [if_neg n, h.1 u]
      simp [e]
  · have z := length_putK kvs (Sum.inl (v : Int)) y
    rw [List.length_append, List.length_singleton]
    have y := h.2
    omega
section
variable {P : Program} {w : World} {K : PySem.W.Frag} {mg : Str → Option Value} {base : Heap}
abbrev st_stage_fault : Stmt := topS 32
abbrev N_stage_fault : List Str := ["forest", "stages", "done", "index", "stage", "thing"]
theorem sc_stage_fault : FnScope N_stage_fault ["forest", "stages"] (defScope st_stage_fault) := ⟨rfl, rfl, rfl, by decide +kernel, rfl, by decide +kernel, by decide +kernel⟩
theorem ok_stage_fault {CS : Addr} (D : Df K mg "stage_fault" st_stage_fault ["forest", "stages"]) (B : Bl mg)
    (K_check_stages : Kn P w K mg base (L2.CX P w) 6 "_check_stages" st__check_stages ["forest", "stages"] (spCheckS CS)) :
    Kn P w K mg base (L2.CX P w) 7 "stage_fault" st_stage_fault ["forest", "stages"] spFault := by
  refine D.okX sc_stage_fault (fun vs H Q E h => ?_) (fun f cdv A outer s H vs Q E hr h => ?_)
  · obtain ⟨a, p, hs, ls, rfl, _⟩ := h; rfl
  obtain ⟨a, p, hs, ls, rfl, ha, fo, hl, hp, st, q⟩ := h
  refine ⟨_, ((pss_cons (ps_expr (pe_callF K_check_stages (hr.mono (by decide)) (passX (takes_of rfl rfl rfl rfl)) (pa_cons (pv 0) (pa_cons (pv 1) pa_nil))))
      (pss_cons (ps_set (i := 2) sc_stage_fault.nd rfl (Or.inl rfl) pe_dnewK)
      (pss_cons (ps_for (passes_of rfl) rfl (pi_enum (by rfl) B.enumerate (pa_cons (pv 1) pa_nil)) (pg_tup rfl (pgs_cons (pg_name (i := 3) sc_stage_fault.nd rfl (Or.inl rfl)) (pgs_cons (pg_name (i := 4) sc_stage_fault.nd rfl (Or.inl rfl)) pgs_nil))) (pss_cons (ps_for (passes_of rfl) rfl (pi_tup (pv 4)) (pg_name (i := 5) sc_stage_fault.nd rfl (Or.inl rfl)) (pss_one (ps_dput (hu_of hr) (pv 2) (pv 5) pe_bl rfl)))
      (pss_one (ps_for (passes_of rfl) rfl (pi_tup (pv 4)) (pg_name (i := 5) sc_stage_fault.nd rfl (Or.inl rfl)) (pss_one (ps_if (PW.pt (pw_and (pt_cmpR op_notN (pe_ix ix_tup (pv 0) (pv 5) (fun _ _ => rfl)) pe_non (nomark _)) (pw_and1 (pt_cmp (pc_dnotin (hu_of hr) (pe_ix ix_tup (pv 0) (pv 5) (fun _ _ => rfl)) (pv 2)))))) (pss_one (ps_ret (pe_tup (pa_cons (pv 3) (pa_cons (pv 5) pa_nil))))) pss_nil))))))
      (pss_one (ps_ret pe_non)))))), ?_⟩
  have size := st.size
  refine ⟨_, rfl, _, rfl, a, p, hs, ls, rfl, ha, fo, hl, hp, st, fun H1 s1 => ?_⟩
  obtain ⟨xs, hx, lx⟩ := hp
  refine fun d hd => ?_
  have o1 : upd H1 d (.dK []) d = some (.dK []) := upd_same
  have s2 : Same H1 (upd H1 d (.dK [])) := (Same.refl H1).new hd
  generalize upd H1 d (.dK []) = H2 at o1 s2 ⊢
  have hd0 : H d = none := s1.free hd
  refine ⟨_, rfl, p, _, rfl, SqL.of (s2 _ _ (s1 _ _ hx)), for_it (walk_enum (xs := xs)) (fun i σ H' => ∃ v3 v4 v5, σ = [some (.ref a), some (.ref p), some (.ref d), v3, v4, v5] ∧ Same H H' ∧ (∃ kvs, H' d = some (.dK kvs) ∧ DoneK kvs (ls.take i).flatten) ∧
      ∀ (j : Nat) (m : List Nat), j < i → ls[j]? = some m → wrongIn hs (ls.take (j + 1)).flatten m = []) ⟨_, _, _, rfl, s1.trans s2, ⟨[], o1, .nil⟩, fun j m c => absurd c (Nat.not_lt_zero _)⟩ (fun i σ H' _ z => ?_) ?_ ?_⟩
  · obtain ⟨_, _, _, _, z, _⟩ := z
    exact SqL.of (z _ _ hx)
  · rintro i x σ H3 H4 hi ⟨v3, v4, v5, rfl, s3, ⟨kvs, hk, dk⟩, pre⟩ ⟨T, x1, x2, rfl, hT, rfl, e1, e2⟩
    have e1' := Option.some.inj e1; subst e1'
    obtain ⟨t, l, el, rfl, ht⟩ := lx.at e2
    have le1 := flat_len (ls := ls) (i + 1)
    have et : (ls.take (i + 1)).flatten = (ls.take i).flatten ++ l := by rw [List.take_add_one, el]; simp
    rw [et, List.length_append] at le1
    have s4 : Same H (upd H3 T (.tup [.int (i : Int), .ref t])) := s3.new hT
    have k4 : upd H3 T (.tup [.int (i : Int), .ref t]) d = some (.dK kvs) := (upd_ne (ne_of_none hk hT)).trans hk
    refine ⟨T, _, rfl, SqT.of upd_same, rfl, _, _, rfl, _, _, rfl, rfl, ?_⟩
    generalize upd H3 T (.tup [.int (i : Int), .ref t]) = H4 at s4 k4 ⊢
    refine ⟨_, rfl, t, rfl, ⟨_, SqT.of (s4 _ _ ht)⟩, for_it (walk_tup (xs := nv l)) (fun j σ H' => ∃ v5, σ = [some (.ref a), some (.ref p), some (.ref d), some (.int (i : Int)), some (.ref t), v5] ∧ Same H H' ∧ ∃ kvs, H' d = some (.dK kvs) ∧ DoneK kvs ((ls.take i).flatten ++ l.take j))
      ⟨_, rfl, s4, kvs, k4, by rw [List.take_zero, List.append_nil]; exact dk⟩ (fun j σ H' _ z => ?_) ?_ ?_⟩
    · obtain ⟨_, _, z, _⟩ := z
      exact SqT.of (z _ _ ht)
    · rintro j x σ H5 H6 hj ⟨v5, rfl, s5, kvs, hk5, dk5⟩ ⟨rfl, e3⟩
      rw [nv_length] at hj
      rw [nv_get (List.getElem?_eq_getElem hj)] at e3
      cases e3
      have z5 := dk5.2
      rw [List.length_append, List.length_take] at z5
      refine ⟨_, rfl, _, rfl, d, _, rfl, DPut.k (k := Sum.inl ((l[j] : Nat) : Int)) hk5 (szl (by omega)), ?_⟩
      refine ⟨_, rfl, s5.upd hd0, _, upd_same, ?_⟩
      rw [List.take_add_one, List.getElem?_eq_getElem hj, ← List.append_assoc]
      exact dk5.put _ _
    · rintro σ H5 ⟨v5, rfl, s5, kvs, hk5, dk5⟩
      rw [nv_length, List.take_length, ← et] at dk5
      refine ⟨_, rfl, t, rfl, ⟨_, SqT.of (s5 _ _ ht)⟩, for_it (walk_tup (xs := nv l)) (fun j σ H' => (∃ v5, σ = [some (.ref a), some (.ref p), some (.ref d), some (.int (i : Int)), some (.ref t), v5]) ∧ H' = H5 ∧ wrongIn hs (ls.take (i + 1)).flatten (l.take j) = [])
        ⟨⟨_, rfl⟩, rfl, rfl⟩ (fun j σ H' _ z => by rw [z.2.1]; exact SqT.of (s5 _ _ ht)) ?_ ?_⟩
      · rintro j x σ H6 H7 hj ⟨⟨v5, rfl⟩, rfl, wr⟩ ⟨rfl, e3⟩
        rw [nv_length] at hj
        rw [nv_get (List.getElem?_eq_getElem hj)] at e3
        cases e3
        have ml := List.mem_of_getElem? el
        have hv' : l[j] < hs.length := st.lt _ (List.mem_flatten.mpr ⟨l, ml, List.getElem_mem hj⟩)
        obtain ⟨o, ho⟩ : ∃ o, hs[l[j]]? = some o := ⟨_, List.getElem?_eq_getElem hv'⟩
        have next : wrongIn hs (ls.take (i + 1)).flatten [l[j]] = [] → wrongIn hs (ls.take (i + 1)).flatten (l.take (j + 1)) = [] := fun z => by
          have tk : l.take (j + 1) = l.take j ++ [l[j]] := by rw [List.take_add_one, List.getElem?_eq_getElem hj]; rfl
          rw [tk, wrongIn_snoc, wr, z]; rfl
        refine ⟨_, rfl, _, rfl, a, _, _, _, rfl, rfl, SqT.of (s5 _ _ ha), atI_nat (hv_at ho), rfl, _, rfl, ?_⟩
        cases o with
        | none => exact iteF ⟨⟨_, rfl⟩, rfl, next (wrongIn_root ho)⟩
        | some u =>
          refine iteT ⟨_, rfl, _, rfl, a, _, _, _, rfl, rfl, SqT.of (s5 _ _ ha), atI_nat (hv_at ho), _, rfl, d, _, rfl, DGet.k (k := Sum.inl (u : Int)) hk5, _, rfl, ?_⟩
          rw [dk5.1 u]
          by_cases m : u ∈ (ls.take (i + 1)).flatten
          · rw [decide_eq_true m]
            exact iteF ⟨⟨_, rfl⟩, rfl, next (wrongIn_in ho m)⟩
          · rw [decide_eq_false m]
            obtain ⟨rest, er⟩ := wrongIn_at hj wr (wrongIn_out ho m)
            refine iteT ⟨_, rfl, _, rfl, ⟨by show 2 ≤ sizeLine; decide, fun r hr2 => ?_⟩⟩
            exact q (some (i, l[j])) (.ref r) _ ⟨pre, l, rest, el, er⟩ (s5.new hr2) ⟨r, rfl, upd_same⟩
      · rintro σ H6 ⟨⟨v5, rfl⟩, rfl, wr⟩
        rw [nv_length, List.take_length] at wr
        refine ⟨_, _, _, rfl, s5, ⟨kvs, hk5, dk5⟩, fun j m c e => ?_⟩
        by_cases c2 : j < i
        · exact pre j m c2 e
        · have ej : j = i := by omega
          subst ej
          rw [el] at e; cases e
          exact wr
  · rintro σ H3 ⟨v3, v4, v5, rfl, s3, ⟨kvs, hk, dk⟩, pre⟩
    exact q none .non H3 (fun i l e => pre i l (by rw [lx.1]; exact (List.getElem?_eq_some_iff.mp e).1) e) s3 rfl
end

end My

namespace My
open PySem PySem.Spec PyProof.Rows L2
/-! ### the things that no stage has, and the stages with them -/
def restL (n : Nat) (ls : List (List Nat)) : List Nat := (List.range n).filter fun v => decide (¬ v ∈ ls.flatten)
theorem rest_succ (n : Nat) (ls : List (List Nat)) : restL (n + 1) ls = restL n ls ++ (if n ∈ ls.flatten then [] else [n]) := by
  unfold restL
  rw [List.range_succ, List.filter_append]
  generalize ls.flatten = S
  by_cases c : n ∈ S <;> simp [c]
theorem rest_len (n : Nat) (ls : List (List Nat)) : (restL n ls).length ≤ n := by
  have z := List.length_filter_le (fun v => decide (¬ v ∈ ls.flatten)) (List.range n)
  rw [List.length_range] at z; exact z
theorem rest_lt {n v : Nat} {ls : List (List Nat)} (h : v ∈ restL n ls) : v < n := List.mem_range.mp (List.mem_filter.mp h).1
theorem rest_nd (n : Nat) (ls : List (List Nat)) : (restL n ls).Nodup := List.nodup_range.filter _
def spRest : Sp := fun vs H Q _ => ∃ (a p : Addr) (hs : Hs) (ls : List (List Nat)), vs = [.ref a, .ref p] ∧ H a = some (.tup (hs.map hv)) ∧ hs.length ≤ 60 ∧ Lots H p ls ∧ Stg hs.length ls ∧ ∀ r H', Same H H' → H r = none → H' r = some (.lst (nv (restL hs.length ls))) → Q (.ref r) H'
/-- a stage, as a tuple, or what is left, as a list -/
def Blk (H : Hp) (x : V) (l : List Nat) : Prop := ∃ t, x = .ref t ∧ (H t = some (.lst (nv l)) ∨ H t = some (.tup (nv l)))
/-- the stages, and what is left, if there is some -/
def blocksL (n : Nat) (ls : List (List Nat)) : List (List Nat) := if 0 < (restL n ls).length then ls ++ [restL n ls] else ls
def spBlocks : Sp := fun vs H Q _ => ∃ (a p : Addr) (hs : Hs) (ls : List (List Nat)), vs = [.ref a, .ref p] ∧ H a = some (.tup (hs.map hv)) ∧ hs.length ≤ 60 ∧ Lots H p ls ∧ Stg hs.length ls ∧
  ∀ r xs H', Same H H' → H' r = some (.lst xs) → xs.length = (blocksL hs.length ls).length → (∀ (i : Nat) (x : V) (l : List Nat), xs[i]? = some x → (blocksL hs.length ls)[i]? = some l → Blk H' x l) → Q (.ref r) H'
section
variable {P : Program} {w : World} {K : PySem.W.Frag} {mg : Str → Option Value} {base : Heap}
abbrev st__rest : Stmt := topS 39
abbrev N__rest : List Str := ["forest", "stages", "placed", "stage", "thing"]
theorem sc__rest : FnScope N__rest ["forest", "stages"] (defScope st__rest) := ⟨rfl, rfl, rfl, by decide +kernel, rfl, by decide +kernel, by decide +kernel⟩
theorem ok__rest (D : Df K mg "_rest" st__rest ["forest", "stages"]) (B : Bl mg) : Kn P w K mg base CX0 1 "_rest" st__rest ["forest", "stages"] spRest := by
  refine D.ok sc__rest (fun vs H Q E h => ?_) (fun f cdv A outer s H vs Q E hr h => ?_)
  · obtain ⟨a, p, hs, ls, rfl, _⟩ := h; rfl
  obtain ⟨a, p, hs, ls, rfl, ha, hl, ⟨xs, hx, lx⟩, st, q⟩ := h
  refine ⟨_, ((pss_cons (ps_set (i := 2) sc__rest.nd rfl (Or.inr rfl) (pe_dc2 (own := [("stage", 3), ("thing", 4)]) (ub := [4]) (gA := gName 3) (gB := gName 4) rfl sc__rest.nd (pi_list (pv 1)) (blkOk_by (N := N__rest) (sc := defScope st__rest) (own := [("stage", 3), ("thing", 4)]) (by decide +kernel)) (by decide) (fun _ _ _ _ _ => by (exact (pg_name (i := 3) sc__rest.nd rfl (Or.inl rfl)))) (fun _ _ _ _ _ => by exact pts_nil) (fun _ _ _ _ _ => by exact (pi_tupK K (pv 3))) (fun _ _ _ _ _ => by (exact (pg_name (i := 4) sc__rest.nd rfl (Or.inl rfl)))) (fun _ _ _ _ _ => by exact pts_nil) (fun _ _ _ _ _ => by exact (pv 4)) (fun _ _ _ _ _ => by exact pe_bl)))
      (pss_one (ps_ret (pe_lc (own := [("thing", 4)]) (g := gName 4) rfl sc__rest.nd (pi_range1 (by rfl) B.range (pa_cons (pe_callB call_len (by rfl) B.len (by decide +kernel) (pa_cons (pv 0) pa_nil)) pa_nil)) (blkOk_by (N := N__rest) (sc := defScope st__rest) (own := [("thing", 4)]) (by decide +kernel)) (fun _ _ _ _ _ => by (exact (pg_name (i := 4) sc__rest.nd rfl (Or.inl rfl)))) (fun _ _ _ _ _ => by exact (pts_one (pt_cmp (pc_dnotin (hu_of hr) (pv 4) (pv 2))))) (fun _ _ _ _ _ => by exact (pv 4))))))), ?_⟩
  have many := st.many
  have size := st.size
  refine ⟨_, rfl, p, rfl, ⟨_, SqL.of hx⟩, fun D hD => ⟨fun i m H' => m = xs.length - i ∧ i ≤ xs.length ∧ Same H H' ∧ ∃ kvs, H' D = some (.dK kvs) ∧ DoneK kvs (ls.take i).flatten, ⟨xs.length, by simp, Nat.zero_le _, (Same.refl H).new hD, [], upd_same, .nil⟩, ?_⟩⟩
  rintro i m H2 ⟨rfl, hi, s2, kvs, hk, dk⟩
  by_cases hlt : i < xs.length
  · refine .inr ⟨(walk_list (xs := xs)).goes i H2 hlt (SqL.of (s2 _ _ hx)), fun H' => Same H H' ∧ ∃ kvs, H' D = some (.dK kvs) ∧ DoneK kvs (ls.take (i + 1)).flatten, fun H' z => ⟨xs.length - (i + 1), by omega, rfl, hlt, z.1, z.2⟩, fun x H3 y => ?_⟩
    obtain ⟨rfl, e1⟩ := (walk_list (xs := xs)).yields i H2 x H3 hlt (SqL.of (s2 _ _ hx)) y
    obtain ⟨t, l, el, rfl, ht⟩ := lx.at e1
    have le1 := flat_len (ls := ls) (i + 1)
    have et : (ls.take (i + 1)).flatten = (ls.take i).flatten ++ l := by rw [List.take_add_one, el]; simp
    rw [et, List.length_append] at le1
    refine ⟨rfl, _, rfl, t, rfl, ⟨_, SqT.of (s2 _ _ ht)⟩, fun j k H' => k = l.length - j ∧ j ≤ l.length ∧ Same H H' ∧ ∃ kvs, H' D = some (.dK kvs) ∧ DoneK kvs ((ls.take i).flatten ++ l.take j), ⟨l.length, by simp, Nat.zero_le _, s2, kvs, hk, by rw [List.take_zero, List.append_nil]; exact dk⟩, ?_⟩
    rintro j k H4 ⟨rfl, hj, s4, kv4, hk4, dk4⟩
    have hT4 : SqT K H4 t (nv l) := SqT.of (s4 _ _ ht)
    by_cases hlj : j < l.length
    · have hlj' : j < (nv l).length := by rw [nv_length]; exact hlj
      refine .inr ⟨(walk_tup (xs := nv l)).goes j H4 hlj' hT4, fun H' => Same H H' ∧ ∃ kvs, H' D = some (.dK kvs) ∧ DoneK kvs ((ls.take i).flatten ++ l.take (j + 1)), fun H' z => ⟨l.length - (j + 1), by omega, rfl, hlj, z.1, z.2⟩, fun x H5 y => ?_⟩
      obtain ⟨rfl, e2⟩ := (walk_tup (xs := nv l)).yields j H4 x H5 hlj' hT4 y
      rw [nv_get (List.getElem?_eq_getElem hlj)] at e2
      cases e2
      have z4 := dk4.2
      rw [List.length_append, List.length_take] at z4
      refine ⟨rfl, _, rfl, kv4, Sum.inl ((l[j] : Nat) : Int), rfl, hk4, szl (by omega), s4.upd hD, _, upd_same, ?_⟩
      have tk : l.take (j + 1) = l.take j ++ [l[j]] := by rw [List.take_add_one, List.getElem?_eq_getElem hlj]; rfl
      rw [tk, ← List.append_assoc]
      exact dk4.put _ _
    · have ej : j = l.length := by omega
      subst ej
      refine .inl ⟨by have z := (walk_tup (xs := nv l)).stops H4 hT4; rw [nv_length] at z; exact z, s4, kv4, hk4, ?_⟩
      rw [et, ← List.take_length (l := l)]
      rw [List.take_length] at dk4 ⊢
      exact dk4
  · have ei : i = xs.length := by omega
    subst ei
    refine .inl ⟨(walk_list (xs := xs)).stops H2 (SqL.of (s2 _ _ hx)), ?_⟩
    rw [lx.1, List.take_length] at dk
    have ha2 := s2 _ _ ha
    have hlm : (hs.map hv).length = hs.length := List.length_map _
    refine ⟨_, rfl, _, _, rfl, .inr ⟨_, SqT.of ha2, rfl⟩, _, rfl, by omega, by omega, fun L hL => lc_it walk_range0 (fun i H' => Same H2 H' ∧ H' L = some (.lst (nv (restL i ls)))) ⟨(Same.refl H2).new hL, upd_same⟩ (fun _ _ _ _ => trivial) ?_ ?_⟩
    · rintro i x H5 H6 hi ⟨s5, l5⟩ ⟨rfl, rfl⟩
      have lr := rest_len i ls
      rw [List.length_map] at hi
      refine ⟨rfl, _, rfl, _, rfl, D, _, rfl, DGet.k (k := Sum.inl (i : Int)) (s5 _ _ hk), _, rfl, ?_⟩
      rw [dk.1 i]
      by_cases c : i ∈ ls.flatten
      · rw [decide_eq_true c]
        refine iteF ⟨s5, ?_⟩
        rw [rest_succ, if_pos c, List.append_nil]
        exact l5
      · rw [decide_eq_false c]
        refine iteT ⟨_, rfl, _, l5, by rw [nv_length]; exact szl (by omega), s5.upd hL, ?_⟩
        rw [upd_same, rest_succ, if_neg c, nv_append]; rfl
    · rintro H5 ⟨s5, l5⟩
      have en : (((hs.map hv).length : Nat) : Int).toNat = hs.length := by rw [List.length_map]; omega
      rw [en] at l5
      exact q L H5 (s2.trans s5) (s2.free hL) l5
abbrev st__blocks : Stmt := topS 40
abbrev N__blocks : List Str := ["forest", "stages", "rest"]
theorem sc__blocks : FnScope N__blocks ["forest", "stages"] (defScope st__blocks) := ⟨rfl, rfl, rfl, by decide +kernel, rfl, by decide +kernel, by decide +kernel⟩
theorem ok__blocks (D : Df K mg "_blocks" st__blocks ["forest", "stages"]) (B : Bl mg) (K_rest : Kn P w K mg base CX0 1 "_rest" st__rest ["forest", "stages"] spRest) : Kn P w K mg base CX0 3 "_blocks" st__blocks ["forest", "stages"] spBlocks := by
  refine D.ok sc__blocks (fun vs H Q E h => ?_) (fun f cdv A outer s H vs Q E hr h => ?_)
  · obtain ⟨a, p, hs, ls, rfl, _⟩ := h; rfl
  obtain ⟨a, p, hs, ls, rfl, ha, hl, ⟨xs, hx, lx⟩, st, q⟩ := h
  refine ⟨_, ((pss_cons (ps_set (i := 2) sc__blocks.nd rfl (Or.inl rfl) (pe_callF K_rest (hr.mono (by decide)) pass0 (pa_cons (pv 0) (pa_cons (pv 1) pa_nil))))
      (pss_one (ps_ret (pe_ifExp (pt_cmpR op_gt (pe_callB call_len (by rfl) B.len (by decide +kernel) (pa_cons (pv 2) pa_nil)) pe_int (nomark _)) (pe_op op_cat (pv 1) (pe_lst (pa_cons (pv 2) pa_nil))) (pv 1)))))), ?_⟩
  have many := st.many
  refine ⟨_, rfl, _, rfl, a, p, hs, ls, rfl, ha, hl, ⟨xs, hx, lx⟩, st, fun r H1 s1 hr0 hr1 => ?_⟩
  refine ⟨_, rfl, _, _, rfl, .inl ⟨_, SqL.of hr1, rfl⟩, _, _, rfl, rfl, _, rfl, ?_⟩
  rw [nv_length]
  refine ite2 (fun c => ?_) (fun c => ?_)
  · have pos : 0 < (restL hs.length ls).length := by have := of_decide_eq_true c; omega
    have eb : blocksL hs.length ls = ls ++ [restL hs.length ls] := if_pos pos
    refine ⟨_, rfl, _, rfl, ⟨by show 1 ≤ sizeLine; decide, fun Z hZ => ?_⟩⟩
    have s2 := s1.new (o := .lst [.ref r]) hZ
    have z2 : upd H1 Z (.lst [.ref r]) Z = some (.lst [.ref r]) := upd_same
    have r2 : upd H1 Z (.lst [.ref r]) r = some (.lst (nv (restL hs.length ls))) := (upd_ne (ne_of_none hr1 hZ)).trans hr1
    generalize upd H1 Z (.lst [.ref r]) = H2 at s2 z2 r2 ⊢
    refine ⟨p, Z, _, _, rfl, rfl, s2 _ _ hx, z2, Nat.le_of_lt (szl (by rw [lx.1, List.length_singleton]; omega)), fun C hC => ?_⟩
    have s3 := s2.new (o := .lst (xs ++ [.ref r])) hC
    have r3 : upd H2 C (.lst (xs ++ [.ref r])) r = some (.lst (nv (restL hs.length ls))) := (upd_ne (ne_of_none r2 hC)).trans r2
    refine q C (xs ++ [.ref r]) _ s3 upd_same (by rw [eb, List.length_append, List.length_append, lx.1]; rfl) (fun i x l e1 e2 => ?_)
    rw [eb] at e2
    by_cases ci : i < xs.length
    · rw [List.getElem?_append_left ci] at e1
      rw [List.getElem?_append_left (by rw [← lx.1]; exact ci)] at e2
      obtain ⟨t, e, ht⟩ := lx.2 i x l e1 e2
      exact ⟨t, e, .inr (s3 _ _ ht)⟩
    · have lt := (List.getElem?_eq_some_iff.mp e1).1
      rw [List.length_append, List.length_singleton] at lt
      have ei : i = xs.length := by omega
      subst ei
      rw [List.getElem?_append_right (Nat.le_refl _), Nat.sub_self] at e1
      rw [lx.1, List.getElem?_append_right (Nat.le_refl _), Nat.sub_self] at e2
      cases e1; cases e2
      exact ⟨r, rfl, .inl r3⟩
  · have eb : blocksL hs.length ls = ls := if_neg (fun z => c (decide_eq_true (by omega)))
    refine ⟨_, rfl, ?_⟩
    refine q p xs H1 s1 (s1 _ _ hx) (by rw [eb]; exact lx.1) (fun i x l e1 e2 => ?_)
    rw [eb] at e2
    obtain ⟨t, e, ht⟩ := lx.2 i x l e1 e2
    exact ⟨t, e, .inr (s1 _ _ ht)⟩
/-- the number of sequences that keep the stages, as it is reckoned -/
def cwL (hs : Hs) (ls : List (List Nat)) : Int := (blocksL hs.length ls).foldl (fun x l => x * cntL (amongH hs l)) 1
def spCountW (hs0 : Unit) : Sp := fun vs H Q _ => ∃ (a p : Addr) (hs : Hs) (ls : List (List Nat)), vs = [.ref a, .ref p] ∧ H a = some (.tup (hs.map hv)) ∧ Fo hs ∧ hs.length ≤ 60 ∧ Lots H p ls ∧ Stg hs.length ls ∧
  ∀ r H', IsFault hs ls r → Same H H' → Q (.int (if r.isSome = true then 0 else cwL hs ls)) H'
end

end My

namespace My
open PySem PySem.Spec PyProof.Rows L2
/-! ### heldbehind.stages.count_with -/
theorem posOf_some {l : List Nat} {u j : Nat} (h : posOf l u = some j) : l[j]? = some u := by
  unfold posOf at h
  obtain ⟨hj, h1, _⟩ := List.findIdx?_eq_some_iff_getElem.mp h
  rw [List.getElem?_eq_getElem hj, of_decide_eq_true h1]
theorem posOf_mem {l : List Nat} {u : Nat} (h : u ∈ l) : ∃ j, posOf l u = some j := by
  unfold posOf
  cases e : l.findIdx? fun v => decide (v = u) with
  | some j => exact ⟨j, rfl⟩
  | none => exact absurd (List.findIdx?_eq_none_iff.mp e u h) (by simp)
theorem among_at {hs : Hs} {l : List Nat} {i v : Nat} (h : l[i]? = some v) : (amongH hs l)[i]? = some (match hs[v]? with
  | some (some u) => posOf l u
  | _ => none) := by
  unfold amongH
  rw [List.getElem?_map, h]; rfl
theorem fo_among {hs : Hs} {l : List Nat} (fo : Fo hs) (ne : l ≠ []) (nd : l.Nodup) (hlt : ∀ v ∈ l, v < hs.length) : Fo (amongH hs l) := by
  have key : ∀ v, Rch hs v → ∀ i, l[i]? = some v → Rch (amongH hs l) i := fun v r => by
    induction r with
    | @root v h =>
      intro i e
      refine .root ?_
      rw [among_at e, h]
    | @step v u h r ih =>
      intro i e
      by_cases m : u ∈ l
      · obtain ⟨j, ej⟩ := posOf_mem m
        refine .step (u := j) ?_ (ih j (posOf_some ej))
        rw [among_at e, h]
        show some (posOf l u) = _
        rw [ej]
      · refine .root ?_
        rw [among_at e, h]
        show some (posOf l u) = _
        rw [posOf_none m]
  refine ⟨fun z => ne ?_, fun v u e => ?_, fun v hv' => ?_⟩
  · have q := congrArg List.length z
    rw [among_len] at q
    exact List.eq_nil_of_length_eq_zero q
  · rw [among_len]
    have lt := (List.getElem?_eq_some_iff.mp e).1
    rw [among_len] at lt
    rw [among_at (List.getElem?_eq_getElem lt)] at e
    have e2 := Option.some.inj e
    cases eh : hs[l[v]]? with
    | none => rw [eh] at e2; cases e2
    | some o =>
      rw [eh] at e2
      cases o with
      | none => cases e2
      | some w =>
        have e3 : posOf l w = some u := e2
        exact (List.getElem?_eq_some_iff.mp (posOf_some e3)).1
  · rw [among_len] at hv'
    exact key l[v] (fo.all _ (hlt _ (List.getElem_mem hv'))) v (List.getElem?_eq_getElem hv')

theorem divAll_bd : ∀ {F : List Int} {a : Int}, 0 ≤ a → (∀ x ∈ F, 1 ≤ x) → 0 ≤ divAll a F ∧ divAll a F ≤ a
  | [], a, h, _ => ⟨h, Int.le_refl _⟩
  | x :: F, a, h, hx => by
    have x1 := hx x List.mem_cons_self
    have d0 : 0 ≤ a / x := Int.ediv_nonneg h (by omega)
    have d1 : a / x ≤ a := Int.ediv_le_self x h
    have z := divAll_bd (F := F) d0 fun y hy => hx y (List.mem_cons_of_mem _ hy)
    exact ⟨z.1, Int.le_trans z.2 d1⟩
theorem cnt_bd {hs : Hs} (fo : Fo hs) : 0 ≤ cntL hs ∧ cntL hs ≤ ((fct hs.length : Nat) : Int) := divAll_bd (by omega) fun x hx => by
  obtain ⟨i, e⟩ := List.getElem?_of_mem hx
  have lt := (List.getElem?_eq_some_iff.mp e).1
  have ll : (szL hs).length = hs.length := (szL_ok fo).1
  have b := szL_at fo (show i < hs.length by omega)
  have ei : (szL hs).getD i 0 = x := by rw [List.getD_eq_getElem?_getD, e]; rfl
  omega
theorem fct_mul : ∀ a b : Nat, fct a * fct b ≤ fct (a + b)
  | a, 0 => by rw [Nat.add_zero]; show fct a * 1 ≤ _; omega
  | a, b + 1 => by
    have z := fct_mul a b
    rw [← Nat.add_assoc, fct, fct, ← Nat.mul_assoc]
    exact Nat.mul_le_mul z (by omega)

end My

namespace My
open PySem PySem.Spec PyProof.Rows L2
theorem blocks_ok {n : Nat} {ls : List (List Nat)} (st : Stg n ls) : ∀ l ∈ blocksL n ls, l ≠ [] ∧ l.Nodup ∧ (∀ v ∈ l, v < n) ∧ l.length ≤ n := fun l hl => by
  have old : l ∈ ls → l ≠ [] ∧ l.Nodup ∧ (∀ v ∈ l, v < n) ∧ l.length ≤ n := fun m =>
    ⟨st.ne l m, (st.up l m).imp (fun {a b} h => by omega), fun v hv' => st.lt v (List.mem_flatten.mpr ⟨l, m, hv'⟩), st.one m⟩
  unfold blocksL at hl
  split at hl
  · rename_i c
    rcases List.mem_append.mp hl with m | m
    · exact old m
    · rw [List.mem_singleton.mp m]
      exact ⟨fun z => by rw [z] at c; exact Nat.lt_irrefl _ c, rest_nd n ls, fun v hv' => rest_lt hv', rest_len n ls⟩
  · exact old hl
theorem blocks_len {n : Nat} {ls : List (List Nat)} (st : Stg n ls) : (blocksL n ls).flatten.length ≤ n + n := by
  have s := st.size
  have r := rest_len n ls
  unfold blocksL
  split
  · rw [List.flatten_append, List.flatten_singleton, List.length_append]; omega
  · omega
def cwTo (hs : Hs) (bs : List (List Nat)) : Int := bs.foldl (fun x l => x * cntL (amongH hs l)) 1
theorem cwTo_snoc (hs : Hs) (bs : List (List Nat)) (l : List Nat) : cwTo hs (bs ++ [l]) = cwTo hs bs * cntL (amongH hs l) := by
  unfold cwTo
  rw [List.foldl_append]; rfl
theorem cwTo_bd {hs : Hs} (fo : Fo hs) : ∀ (bs : List (List Nat)), (∀ l ∈ bs, l ≠ [] ∧ l.Nodup ∧ (∀ v ∈ l, v < hs.length) ∧ l.length ≤ hs.length) → 0 ≤ cwTo hs bs ∧ cwTo hs bs ≤ ((fct bs.flatten.length : Nat) : Int) := fun bs => by
  have key : ∀ (rev : List (List Nat)), (∀ l ∈ rev, l ≠ [] ∧ l.Nodup ∧ (∀ v ∈ l, v < hs.length) ∧ l.length ≤ hs.length) → 0 ≤ cwTo hs rev.reverse ∧ cwTo hs rev.reverse ≤ ((fct rev.reverse.flatten.length : Nat) : Int) := fun rev => by
    induction rev with
    | nil => intro _; exact ⟨by show (0 : Int) ≤ 1; decide, by show (1 : Int) ≤ 1; decide⟩
    | cons l rev ih =>
      intro h
      obtain ⟨i1, i2⟩ := ih fun m hm => h m (List.mem_cons_of_mem _ hm)
      obtain ⟨n1, n2, n3, _⟩ := h l List.mem_cons_self
      have c := cnt_bd (fo_among fo n1 n2 n3)
      rw [among_len] at c
      rw [List.reverse_cons, cwTo_snoc]
      refine ⟨Int.mul_nonneg i1 c.1, ?_⟩
      have z : cwTo hs rev.reverse * cntL (amongH hs l) ≤ ((fct rev.reverse.flatten.length : Nat) : Int) * ((fct l.length : Nat) : Int) := Int.mul_le_mul i2 c.2 c.1 (by omega)
      have y := fct_mul rev.reverse.flatten.length l.length
      rw [List.flatten_append, List.flatten_singleton, List.length_append]
      refine Int.le_trans z ?_
      rw [← Int.natCast_mul]
      exact Int.ofNat_le.mpr y
  intro h
  have z := key bs.reverse fun l hl => h l (List.mem_reverse.mp hl)
  rw [List.reverse_reverse] at z
  exact z
section
variable {P : Program} {w : World} {K : PySem.W.Frag} {mg : Str → Option Value} {base : Heap}
abbrev st_count_with : Stmt := topS 33
abbrev N_count_with : List Str := ["forest", "stages", "found", "things"]
theorem sc_count_with : FnScope N_count_with ["forest", "stages"] (defScope st_count_with) := ⟨rfl, rfl, rfl, by decide +kernel, rfl, by decide +kernel, by decide +kernel⟩
theorem ok_count_with (D : Df K mg "count_with" st_count_with ["forest", "stages"]) (B : Bl mg) (Kstage_fault : Kn P w K mg base (L2.CX P w) 7 "stage_fault" st_stage_fault ["forest", "stages"] spFault)
    (K_blocks : Kn P w K mg base CX0 3 "_blocks" st__blocks ["forest", "stages"] spBlocks) (Kforest_among : Kn P w K mg base CX0 1 "forest_among" st_forest_among ["forest", "things"] (spAmong K)) (Kcount_sequences : Kn P w K mg base (L2.CX P w) 8 "count_sequences" st_count_sequences ["forest"] spCnt) :
    Kn P w K mg base (L2.CX P w) 9 "count_with" st_count_with ["forest", "stages"] (spCountW ()) := by
  refine D.okX sc_count_with (fun vs H Q E h => ?_) (fun f cdv A outer s H vs Q E hr h => ?_)
  · obtain ⟨a, p, hs, ls, rfl, _⟩ := h; rfl
  obtain ⟨a, p, hs, ls, rfl, ha, fo, hl, hp, st, q⟩ := h
  refine ⟨_, ((pss_cons (ps_if (pt_cmpR op_notN (pe_callF Kstage_fault (hr.mono (by decide)) (passX (takes_of rfl rfl rfl rfl)) (pa_cons (pv 0) (pa_cons (pv 1) pa_nil))) pe_non (nomark _)) (pss_one (ps_ret pe_int)) pss_nil)
      (pss_cons (ps_set (i := 2) sc_count_with.nd rfl (Or.inl rfl) pe_int)
      (pss_cons (ps_for (passes_of rfl) rfl (pi_list (pe_callF K_blocks (hr.mono (by decide)) pass0 (pa_cons (pv 0) (pa_cons (pv 1) pa_nil)))) (pg_name (i := 3) sc_count_with.nd rfl (Or.inl rfl)) (pss_one (ps_set (i := 2) sc_count_with.nd rfl (Or.inl rfl) (pe_op op_mulW (pv 2) (pe_callF Kcount_sequences (hr.mono (by decide)) (passX (takes_of rfl rfl rfl rfl)) (pa_cons (pe_callF Kforest_among (hr.mono (by decide)) pass0 (pa_cons (pv 0) (pa_cons (pv 3) pa_nil))) pa_nil))))))
      (pss_one (ps_ret (pv 2))))))), ?_⟩
  refine ⟨_, rfl, _, rfl, a, p, hs, ls, rfl, ha, fo, hl, hp, st, fun r v H1 isf s1 fv => ?_⟩
  cases r with
  | some it =>
    obtain ⟨i, t⟩ := it
    obtain ⟨x, rfl, hx⟩ := fv
    exact ⟨rfl, _, rfl, iteT (q (some (i, t)) H1 isf s1)⟩
  | none =>
    have ev : v = .non := fv
    subst ev
    refine ⟨rfl, _, rfl, iteF ?_⟩
    have bl := blocks_ok st
    have bn := blocks_len st
    refine ⟨_, rfl, _, rfl, a, p, hs, ls, rfl, s1 _ _ ha, hl, hp.same s1, st, fun C xs H2 s2 hC hxl hx => ?_⟩
    have s12 := s1.trans s2
    refine ⟨C, rfl, ⟨_, SqL.of hC⟩, for_it (walk_list (xs := xs)) (fun i σ H' => ∃ v3, σ = [some (.ref a), some (.ref p), some (.int (cwTo hs ((blocksL hs.length ls).take i))), v3] ∧ Same H2 H') ⟨_, rfl, Same.refl H2⟩ (fun i σ H' _ z => ?_) ?_ ?_⟩
    · obtain ⟨_, _, z⟩ := z
      exact SqL.of (z _ _ hC)
    · rintro i x σ H3 H4 hi ⟨v3, rfl, s3⟩ ⟨rfl, e1⟩
      have hi2 : i < (blocksL hs.length ls).length := by rw [← hxl]; exact hi
      have e2 : (blocksL hs.length ls)[i]? = some (blocksL hs.length ls)[i] := List.getElem?_eq_getElem hi2
      obtain ⟨t, rfl, ht⟩ := hx i x _ e1 e2
      have ml := List.getElem_mem hi2
      have tk : (blocksL hs.length ls).take (i + 1) = (blocksL hs.length ls).take i ++ [(blocksL hs.length ls)[i]] := by rw [List.take_add_one, e2]; rfl
      generalize (blocksL hs.length ls)[i] = l at ht ml tk e2
      obtain ⟨n1, n2, n3, n4⟩ := bl l ml
      have ht3 : H4 t = some (.lst (nv l)) ∨ H4 t = some (.tup (nv l)) := ht.elim (fun z => .inl (s3 _ _ z)) fun z => .inr (s3 _ _ z)
      refine ⟨_, rfl, _, rfl, _, rfl, a, t, hs, l, rfl, (s12.trans s3) _ _ ha, ht3, n2, n3, by omega, fun r H5 s5 hr0 hr5 => ?_⟩
      have fa := fo_among fo n1 n2 n3
      refine ⟨r, amongH hs l, rfl, hr5, fa, by rw [among_len]; omega, fun H6 s6 => ?_⟩
      have c1 := cwTo_bd fo ((blocksL hs.length ls).take i) fun m hm => bl m (List.mem_of_mem_take hm)
      have c2 := cnt_bd fa
      rw [among_len] at c2
      have big : fct 120 < 2 ^ 1000 := by decide +kernel
      have l1 := flat_len (ls := blocksL hs.length ls) i
      have m1 := fct_mono (show ((blocksL hs.length ls).take i).flatten.length ≤ 120 by omega)
      have m2 := fct_mono (show l.length ≤ 120 by omega)
      refine ⟨_, _, rfl, rfl, wide_mul (a := 1000) (b := 1000) (by omega) (by omega) (by decide) (by decide) (by decide), some (.ref t), by rw [tk, cwTo_snoc]; rfl, (s3.trans s5).trans s6⟩
    · rintro σ H3 ⟨v3, rfl, s3⟩
      have et : (blocksL hs.length ls).take xs.length = blocksL hs.length ls := by rw [hxl, List.take_length]
      rw [et]
      exact ⟨_, rfl, q none H3 isf (s12.trans s3)⟩
end

end My

namespace My
open PySem PySem.Spec PyProof.Rows L2
def spShareW : Sp := fun vs H Q _ => ∃ (a p : Addr) (hs : Hs) (ls : List (List Nat)), vs = [.ref a, .ref p] ∧ H a = some (.tup (hs.map hv)) ∧ Fo hs ∧ hs.length ≤ 60 ∧ 1 ≤ cntL hs ∧ Lots H p ls ∧ Stg hs.length ls ∧
  ∀ r t H', IsFault hs ls r → Same H H' → H t = none → H' t = some (.tup (lwV (if r.isSome = true then 0 else cwL hs ls) (cntL hs))) → Q (.ref t) H'
section
variable {P : Program} {w : World} {K : PySem.W.Frag} {mg : Str → Option Value} {base : Heap}
abbrev st_share_with : Stmt := topS 35
abbrev N_share_with : List Str := ["forest", "stages"]
theorem sc_share_with : FnScope N_share_with ["forest", "stages"] (defScope st_share_with) := ⟨rfl, rfl, rfl, by decide +kernel, rfl, by decide +kernel, by decide +kernel⟩
theorem ok_share_with (D : Df K mg "share_with" st_share_with ["forest", "stages"]) (B : Bl mg) (Klowest : Kn P w K mg base CX0 1 "lowest" st_lowest ["top", "bottom"] spLowest)
    (Kcount_with : Kn P w K mg base (L2.CX P w) 9 "count_with" st_count_with ["forest", "stages"] (spCountW ())) (Kcount_sequences : Kn P w K mg base (L2.CX P w) 8 "count_sequences" st_count_sequences ["forest"] spCnt) :
    Kn P w K mg base (L2.CX P w) 10 "share_with" st_share_with ["forest", "stages"] spShareW := by
  refine D.okX sc_share_with (fun vs H Q E h => ?_) (fun f cdv A outer s H vs Q E hr h => ?_)
  · obtain ⟨a, p, hs, ls, rfl, _⟩ := h; rfl
  obtain ⟨a, p, hs, ls, rfl, ha, fo, hl, h1, hp, st, q⟩ := h
  refine ⟨_, ((pss_one (ps_ret (pe_callF Klowest (hr.mono (by decide)) pass0 (pa_cons (pe_callF Kcount_with (hr.mono (by decide)) (passX (takes_of rfl rfl rfl rfl)) (pa_cons (pv 0) (pa_cons (pv 1) pa_nil))) (pa_cons (pe_callF Kcount_sequences (hr.mono (by decide)) (passX (takes_of rfl rfl rfl rfl)) (pa_cons (pv 0) pa_nil)) pa_nil)))))), ?_⟩
  refine ⟨_, rfl, _, rfl, a, p, hs, ls, rfl, ha, fo, hl, hp, st, fun r H1 isf s1 => ?_⟩
  refine ⟨_, rfl, a, hs, rfl, s1 _ _ ha, fo, hl, fun H2 s2 => ?_⟩
  have s12 := s1.trans s2
  have b := cnt_bd fo
  have big : fct 60 < 2 ^ 8000 := by decide +kernel
  have m := fct_mono hl
  exact ⟨_, _, rfl, h1, by omega, fun t H3 s3 ht3 hT => q r t H3 isf (s12.trans s3) (s12.free ht3) hT⟩
end

end My

namespace My
open PySem PySem.Spec PyProof.Rows L2
/-! ### the law's own number of sequences -/
def spLMany : Sp := fun vs H Q _ => ∃ (a : Addr) (hs : Hs), vs = [.ref a] ∧ H a = some (.tup (hs.map hv)) ∧ (hs ≠ [] → Fo hs) ∧ hs.length ≤ 60 ∧ ∀ H', Same H H' → Q (.int (cntL hs)) H'
section
variable {P : Program} {w : World} {K : PySem.W.Frag} {mg : Str → Option Value} {base : Heap}
abbrev st__law_many : Stmt := topS 48
abbrev N__law_many : List Str := ["plan", "top", "k", "size"]
theorem sc__law_many : FnScope N__law_many ["plan"] (defScope st__law_many) := ⟨rfl, rfl, rfl, by decide +kernel, rfl, by decide +kernel, by decide +kernel⟩
theorem ok__law_many (D : Df K mg "_law_many" st__law_many ["plan"]) (B : Bl mg) (K_law_weights : Kn P w K mg base CX0 3 "_law_weights" st__law_weights ["plan"] spWeights0) : Kn P w K mg base CX0 4 "_law_many" st__law_many ["plan"] spLMany := by
  refine D.ok sc__law_many (fun vs H Q E h => ?_) (fun f cdv A outer s H vs Q E hr h => ?_)
  · obtain ⟨a, hs, rfl, _⟩ := h; rfl
  obtain ⟨a, hs, rfl, ha, fo0, hl, q⟩ := h
  have lF : (szL hs).length = hs.length := by unfold szL; rw [List.length_map, List.length_range]
  refine ⟨_, ((pss_cons (ps_set (i := 1) sc__law_many.nd rfl (Or.inl rfl) pe_int)
      (pss_cons (ps_for PassesOwn.never rfl (pi_range1 (by rfl) B.range (pa_cons (pe_callB call_len (by rfl) B.len (by decide +kernel) (pa_cons (pv 0) pa_nil)) pa_nil)) (pg_name (i := 2) sc__law_many.nd rfl (Or.inl rfl)) (pss_one (ps_set (i := 1) sc__law_many.nd rfl (Or.inl rfl) (pe_op op_mulW (pv 1) (pe_op op_add (pv 2) pe_int)))))
      (pss_cons (ps_for PassesOwn.never rfl (pi_list (pe_callF K_law_weights (hr.mono (by decide)) pass0 (pa_cons (pv 0) pa_nil))) (pg_name (i := 3) sc__law_many.nd rfl (Or.inl rfl)) (pss_one (ps_set (i := 1) sc__law_many.nd rfl (Or.inl rfl) (pe_op op_fdivW (pv 1) (pv 3)))))
      (pss_one (ps_ret (pv 1))))))), ?_⟩
  have hlm : (hs.map hv).length = hs.length := List.length_map _
  have big : fct 60 < 2 ^ 1000 := by decide +kernel
  refine ⟨_, rfl, _, _, rfl, .inr ⟨_, SqT.of ha, rfl⟩, _, rfl, by omega, by omega, for_it walk_range0 (fun i σ H' => ∃ v2 v3, σ = [some (.ref a), some (.int ((fct i : Nat) : Int)), v2, v3] ∧ H' = H) ⟨_, _, rfl, rfl⟩ (fun _ _ _ _ _ => trivial) ?_ ?_⟩
  · rintro i x σ H1 H2 hi ⟨v2, v3, rfl, rfl⟩ ⟨rfl, rfl⟩
    have hi2 : i < hs.length := by omega
    have m := fct_mono (show i ≤ 60 by omega)
    refine ⟨_, rfl, _, rfl, _, _, rfl, rfl, _, _, rfl, rfl, wide_mul (a := 1000) (b := 64) (by omega) (Nat.lt_of_le_of_lt (show _ ≤ 100 by omega) (by decide)) (by decide) (by decide) (by decide), some (.int (i : Int)), v3, ?_, rfl⟩
    have e : ((fct (i + 1) : Nat) : Int) = ((fct i : Nat) : Int) * ((i : Int) + 1) := by rw [fct]; exact Int.natCast_mul _ _
    rw [e]; rfl
  · rintro σ H1 ⟨v2, v3, rfl, rfl⟩
    have en : (((hs.map hv).length : Nat) : Int).toNat = hs.length := by rw [hlm]; omega
    rw [en]
    refine ⟨_, rfl, a, hs, rfl, ha, fo0, by omega, fun p F H2 s2 hp wt hF => ?_⟩
    have eF : F = szL hs := by
      by_cases z : hs = []
      · subst z
        exact List.eq_nil_of_length_eq_zero wt.1
      · exact size_one (fo0 z) (wt.size (fo0 z)) (szL_ok (fo0 z))
    subst eF
    refine ⟨p, rfl, ⟨_, SqL.of hF⟩, for_it (walk_list (xs := iv (szL hs))) (fun i σ H' => ∃ v2 v3, σ = [some (.ref a), some (.int (divAll ((fct hs.length : Nat) : Int) ((szL hs).take i))), v2, v3] ∧ H' = H2) ⟨_, _, rfl, rfl⟩ (fun i σ H' _ z => ?_) ?_ ?_⟩
    · obtain ⟨_, _, _, z⟩ := z
      rw [z]; exact SqL.of hF
    · rintro i x σ H3 H4 hi ⟨v2, v3, rfl, rfl⟩ ⟨rfl, e1⟩
      rw [iv_length] at hi
      rw [iv_get hi] at e1
      cases e1
      rw [lF] at hi
      have fo := fo0 (fun z => by rw [z] at hi; exact absurd hi (Nat.not_lt_zero _))
      have b := szL_at fo hi
      have ds : divAll ((fct hs.length : Nat) : Int) ((szL hs).take (i + 1)) = divAll ((fct hs.length : Nat) : Int) ((szL hs).take i) / (szL hs).getD i 0 := by
        have hi2 : i < (szL hs).length := by omega
        have ei : (szL hs).getD i 0 = (szL hs)[i] := by rw [List.getD_eq_getElem?_getD, List.getElem?_eq_getElem hi2]; rfl
        have tk : (szL hs).take (i + 1) = (szL hs).take i ++ [(szL hs)[i]] := by rw [List.take_add_one, List.getElem?_eq_getElem hi2]; rfl
        rw [tk, divAll_snoc, ei]
      exact ⟨_, rfl, _, rfl, _, _, rfl, rfl, wide_div (b := 64) (by omega) (Nat.lt_of_le_of_lt (show _ ≤ 100 by omega) (by decide)) (by decide) (by decide), v2, some (.int ((szL hs).getD i 0)), by rw [ds]; rfl, rfl⟩
    · rintro σ H3 ⟨v2, v3, rfl, rfl⟩
      have et : (szL hs).take (iv (szL hs)).length = szL hs := by rw [iv_length, List.take_length]
      rw [et]
      exact ⟨_, rfl, q H3 s2⟩
end

end My

namespace My
open PySem PySem.Spec PyProof.Rows L2
/-! ### sequences by beginnings: what can be next, and how many ways there are on -/
theorem sum_add (cs : List Nat) (f g : Nat → Int) : (cs.map fun c => f c + g c).sum = (cs.map f).sum + (cs.map g).sum := by
  induction cs with
  | nil => rfl
  | cons c cs ih => rw [List.map_cons, List.sum_cons, List.map_cons, List.sum_cons, List.map_cons, List.sum_cons, ih]; omega
theorem sum_zero {cs : List Nat} {f : Nat → Int} (h : ∀ c ∈ cs, f c = 0) : (cs.map f).sum = 0 := by
  induction cs with
  | nil => rfl
  | cons c cs ih => rw [List.map_cons, List.sum_cons, h c List.mem_cons_self, ih fun x hx => h x (List.mem_cons_of_mem _ hx)]; rfl
theorem sum_one {cs : List Nat} (nd : cs.Nodup) (x : Nat) : (cs.map fun c => ind (x = c)).sum = ind (x ∈ cs) := by
  induction cs with
  | nil => rfl
  | cons c cs ih =>
    obtain ⟨n1, n2⟩ := List.nodup_cons.mp nd
    rw [List.map_cons, List.sum_cons, ih n2]
    unfold ind
    by_cases e : x = c
    · subst e
      rw [if_pos rfl, if_neg n1, if_pos List.mem_cons_self]; rfl
    · rw [if_neg e]
      by_cases m : x ∈ cs
      · rw [if_pos m, if_pos (List.mem_cons_of_mem _ m)]; rfl
      · rw [if_neg m, if_neg (fun z => (List.mem_cons.mp z).elim e m)]; rfl
theorem sum_swap (cs ws : List Nat) (f : Nat → Nat → Int) : (cs.map fun c => (ws.map fun w => f c w).sum).sum = (ws.map fun w => (cs.map fun c => f c w).sum).sum := by
  induction cs with
  | nil => rw [List.map_nil]; exact (sum_zero fun _ _ => rfl).symm
  | cons c cs ih =>
    rw [List.map_cons, List.sum_cons, ih, ← sum_add]
    rfl
theorem sum_const (cs : List Nat) (x : Int) : (cs.map fun _ => x).sum = x * (cs.length : Int) := by
  induction cs with
  | nil => rw [List.map_nil, List.length_nil]; exact (Int.mul_zero x).symm
  | cons c cs ih =>
    rw [List.map_cons, List.sum_cons, ih, List.length_cons]
    have e : ((cs.length + 1 : Nat) : Int) = (cs.length : Int) + 1 := rfl
    rw [e, Int.mul_add, Int.mul_one]
    omega
theorem sum_mul (cs : List Nat) (f : Nat → Int) (x : Int) : (cs.map fun c => x * f c).sum = x * (cs.map f).sum := by
  induction cs with
  | nil => exact (Int.mul_zero x).symm
  | cons c cs ih => rw [List.map_cons, List.sum_cons, ih, List.map_cons, List.sum_cons, Int.mul_add]
def avB (hs : Hs) (r : List Nat) (v : Nat) : Bool := decide (v ∉ r) && (match hs[v]? with
  | some none => true
  | some (some u) => decide (u ∈ r)
  | none => false)
/-- what can be next behind a beginning -/
def av (hs : Hs) (r : List Nat) : List Nat := (List.range hs.length).filter (avB hs r)
structure Pre (hs : Hs) (r : List Nat) : Prop where
  nd : r.Nodup
  lt : ∀ v ∈ r, v < hs.length
  cl : ∀ v ∈ r, ∀ u : Nat, hs[v]? = some (some u) → u ∈ r
theorem av_nd (hs : Hs) (r : List Nat) : (av hs r).Nodup := List.nodup_range.filter _
theorem av_mem {hs : Hs} {r : List Nat} {v : Nat} : v ∈ av hs r ↔ v < hs.length ∧ v ∉ r ∧ ∀ u : Nat, hs[v]? = some (some u) → u ∈ r := by
  unfold av avB
  rw [List.mem_filter, List.mem_range, Bool.and_eq_true, decide_eq_true_eq]
  constructor
  · rintro ⟨h1, h2, h3⟩
    refine ⟨h1, h2, fun u e => ?_⟩
    rw [e] at h3
    exact of_decide_eq_true h3
  · rintro ⟨h1, h2, h3⟩
    refine ⟨h1, h2, ?_⟩
    rw [List.getElem?_eq_getElem h1] at h3 ⊢
    generalize hs[v]'h1 = o at h3 ⊢
    rcases o with _ | u
    · rfl
    · exact decide_eq_true (h3 u rfl)
theorem Pre.ups {hs : Hs} {r : List Nat} (p : Pre hs r) {w : Nat} {l : List Nat} (a : Ups hs w l) : w ∈ r → ∀ x ∈ l, x ∈ r := by
  induction a with
  | root h => intro _ x hx; cases hx
  | @step w u l h _ ih =>
    intro hw x hx
    have hu := p.cl w hw u h
    rcases List.mem_cons.mp hx with rfl | hx
    · exact hu
    · exact ih hu x hx
theorem av_one {hs : Hs} {r : List Nat} (p : Pre hs r) {w : Nat} {l : List Nat} (a : Ups hs w l) : ((av hs r).map fun v => ind (w = v) + ind (v ∈ l)).sum = ind (w ∉ r) := by
  have noav : ∀ v ∈ av hs r, v ∉ r := fun v hv => (av_mem.mp hv).2.1
  induction a with
  | @root w h =>
    have hl := (List.getElem?_eq_some_iff.mp h).1
    have e : (av hs r).map (fun v => ind (w = v) + ind (v ∈ ([] : List Nat))) = (av hs r).map fun v => ind (w = v) := List.map_congr_left fun v _ => by
      have z : ind (v ∈ ([] : List Nat)) = 0 := by unfold ind; rw [if_neg List.not_mem_nil]
      rw [z, Int.add_zero]
    rw [e, sum_one (av_nd hs r)]
    unfold ind
    by_cases c : w ∈ r
    · rw [if_neg (fun z => noav w z c), if_neg (fun z => z c)]
    · rw [if_pos (av_mem.mpr ⟨hl, c, fun u e => by rw [h] at e; cases e⟩), if_pos c]
  | @step w u l h ru ih =>
    have hl := (List.getElem?_eq_some_iff.mp h).1
    have nd := ru.nd
    have split : ∀ v : Nat, ind (v ∈ u :: l) = ind (u = v) + ind (v ∈ l) := fun v => by
      unfold ind
      by_cases e : u = v
      · subst e
        rw [if_pos List.mem_cons_self, if_pos rfl, if_neg (List.nodup_cons.mp nd).1]; rfl
      · rw [if_neg e]
        by_cases m : v ∈ l
        · rw [if_pos m, if_pos (List.mem_cons_of_mem _ m)]; rfl
        · rw [if_neg m, if_neg (fun z => (List.mem_cons.mp z).elim (fun q => e q.symm) m)]; rfl
    have e : (av hs r).map (fun v => ind (w = v) + ind (v ∈ u :: l)) = (av hs r).map fun v => ind (w = v) + (ind (u = v) + ind (v ∈ l)) := List.map_congr_left fun v _ => by rw [split]
    rw [e, sum_add, ih, sum_one (av_nd hs r)]
    unfold ind
    by_cases c : w ∈ r
    · rw [if_neg (fun z => noav w z c), if_neg (fun z => z (p.cl w c u h)), if_neg (fun z => z c)]; rfl
    · by_cases cu : u ∈ r
      · rw [if_pos (av_mem.mpr ⟨hl, c, fun u' e => by rw [h] at e; cases e; exact cu⟩), if_neg (fun z => z cu), if_pos c]; rfl
      · rw [if_neg (fun z => cu ((av_mem.mp z).2.2 u h)), if_pos cu, if_pos c]; rfl
/-- the sizes of what can be next come to what is left -/
theorem av_sum {hs : Hs} (fo : Fo hs) {r : List Nat} (p : Pre hs r) : ((av hs r).map fun v => (szL hs).getD v 0).sum = (hs.length : Int) - (r.length : Int) := by
  have e1 : (av hs r).map (fun v => (szL hs).getD v 0) = (av hs r).map fun v => ((List.range hs.length).map fun w => ind (w = v) + ind (v ∈ up hs w)).sum := List.map_congr_left fun v hv => by
    have hl := (av_mem.mp hv).1
    rw [(szL_wt hs).2 v hl, sum_add]
    have z : ((List.range hs.length).map fun w => ind (w = v)).sum = 1 := by
      have z1 : (List.range hs.length).map (fun w => ind (w = v)) = (List.range hs.length).map fun w => ind (v = w) := List.map_congr_left fun w _ => by
        unfold ind
        by_cases e : w = v
        · rw [if_pos e, if_pos e.symm]
        · rw [if_neg e, if_neg fun z => e z.symm]
      rw [z1, sum_one List.nodup_range]
      unfold ind
      rw [if_pos (List.mem_range.mpr hl)]
    rw [z]; rfl
  rw [e1, sum_swap]
  have e2 : (List.range hs.length).map (fun w => ((av hs r).map fun v => ind (w = v) + ind (v ∈ up hs w)).sum) = (List.range hs.length).map fun w => 1 + (-1) * ((r.map fun x => ind (w = x)).sum) := List.map_congr_left fun w hw => by
    rw [av_one p (fo.ups (List.mem_range.mp hw)), sum_one p.nd]
    unfold ind
    by_cases c : w ∈ r
    · rw [if_neg (fun z => z c), if_pos c]; rfl
    · rw [if_pos c, if_neg c]; rfl
  rw [e2, sum_add, sum_const, sum_mul, sum_swap]
  have e3 : (r.map fun x => ((List.range hs.length).map fun w => ind (w = x)).sum) = r.map fun _ => (1 : Int) := List.map_congr_left fun x hx => by
    have z1 : (List.range hs.length).map (fun w => ind (w = x)) = (List.range hs.length).map fun w => ind (x = w) := List.map_congr_left fun w _ => by
      unfold ind
      by_cases e : w = x
      · rw [if_pos e, if_pos e.symm]
      · rw [if_neg e, if_neg fun z => e z.symm]
    rw [z1, sum_one List.nodup_range]
    unfold ind
    rw [if_pos (List.mem_range.mpr (p.lt x hx))]
  rw [e3, sum_const, List.length_range]
  omega
theorem Pre.nil (hs : Hs) : Pre hs [] := ⟨List.nodup_nil, fun _ h => absurd h List.not_mem_nil, fun _ h => absurd h List.not_mem_nil⟩
theorem Pre.snoc {hs : Hs} {r : List Nat} {v : Nat} (p : Pre hs r) (h : v ∈ av hs r) : Pre hs (r ++ [v]) := by
  obtain ⟨h1, h2, h3⟩ := av_mem.mp h
  refine ⟨List.nodup_append.mpr ⟨p.nd, List.nodup_cons.mpr ⟨List.not_mem_nil, List.nodup_nil⟩, fun a ha b hb => ?_⟩, fun x hx => ?_, fun x hx u e => ?_⟩
  · rw [List.mem_singleton.mp hb]
    intro z; subst z; exact h2 ha
  · rcases List.mem_append.mp hx with hx | hx
    · exact p.lt x hx
    · rw [List.mem_singleton.mp hx]; exact h1
  · rcases List.mem_append.mp hx with hx | hx
    · exact List.mem_append_left _ (p.cl x hx u e)
    · rw [List.mem_singleton.mp hx] at e
      exact List.mem_append_left _ (h3 u e)

/-! ### how many ways there are on behind a beginning -/
def ext (hs : Hs) (r : List Nat) : List (List Nat) := (av hs r).map fun v => r ++ [v]
def rowsAt (hs : Hs) : Nat → List (List Nat)
  | 0 => [[]]
  | k + 1 => (rowsAt hs k).flatMap (ext hs)
def more (hs : Hs) : Nat → List Nat → Int
  | 0, _ => 1
  | k + 1, r => ((av hs r).map fun v => more hs k (r ++ [v])).sum
def facs (hs : Hs) (r : List Nat) (cs : List Nat) : List Int := cs.map fun w => if w ∈ r then 1 else (szL hs).getD w 0
def rest (hs : Hs) (r : List Nat) : Int := (facs hs r (List.range hs.length)).prod
theorem facs_same {hs : Hs} {r : List Nat} {v : Nat} : ∀ {cs : List Nat}, v ∉ cs → facs hs (r ++ [v]) cs = facs hs r cs := fun {cs} hv => List.map_congr_left fun w hw => by
  have e : w ∈ r ++ [v] ↔ w ∈ r := by
    rw [List.mem_append, List.mem_singleton]
    exact ⟨fun h => h.elim id fun z => absurd (z ▸ hw) hv, .inl⟩
  by_cases c : w ∈ r
  · rw [if_pos c, if_pos (e.mpr c)]
  · rw [if_neg c, if_neg fun z => c (e.mp z)]
theorem facs_prod {hs : Hs} {r : List Nat} {v : Nat} (hr : v ∉ r) : ∀ {cs : List Nat}, cs.Nodup → v ∈ cs → (facs hs r cs).prod = (facs hs (r ++ [v]) cs).prod * (szL hs).getD v 0
  | c :: cs, nd, hv => by
    obtain ⟨n1, n2⟩ := List.nodup_cons.mp nd
    show ((if c ∈ r then 1 else (szL hs).getD c 0) :: facs hs r cs).prod = ((if c ∈ r ++ [v] then 1 else (szL hs).getD c 0) :: facs hs (r ++ [v]) cs).prod * _
    rw [List.prod_cons, List.prod_cons]
    by_cases e : v = c
    · subst e
      rw [if_neg hr, if_pos (List.mem_append_right _ List.mem_cons_self), facs_same n1, Int.one_mul, Int.mul_comm]
    · have hv2 : v ∈ cs := (List.mem_cons.mp hv).resolve_left e
      rw [facs_prod hr n2 hv2]
      have e2 : c ∈ r ++ [v] ↔ c ∈ r := by
        rw [List.mem_append, List.mem_singleton]
        exact ⟨fun h => h.elim id fun z => absurd z.symm e, .inl⟩
      by_cases m : c ∈ r
      · rw [if_pos m, if_pos (e2.mpr m), Int.mul_assoc]
      · rw [if_neg m, if_neg (fun z => m (e2.mp z)), Int.mul_assoc]
theorem rest_pos {hs : Hs} (fo : Fo hs) (r : List Nat) : 0 < rest hs r := by
  have key : ∀ cs : List Nat, (∀ c ∈ cs, c < hs.length) → 0 < (facs hs r cs).prod := fun cs => by
    induction cs with
    | nil => intro _; exact Int.one_pos
    | cons c cs ih =>
      intro h
      show 0 < ((if c ∈ r then 1 else (szL hs).getD c 0) :: facs hs r cs).prod
      rw [List.prod_cons]
      have p := ih fun x hx => h x (List.mem_cons_of_mem _ hx)
      have q := (szL_at fo (h c List.mem_cons_self)).1
      refine Int.mul_pos ?_ p
      split <;> omega
  exact key _ fun c hc => List.mem_range.mp hc
theorem rest_step {hs : Hs} {r : List Nat} {v : Nat} (h : v ∈ av hs r) : rest hs r = rest hs (r ++ [v]) * (szL hs).getD v 0 :=
  facs_prod (av_mem.mp h).2.1 List.nodup_range (List.mem_range.mpr (av_mem.mp h).1)
theorem more_rest {hs : Hs} (fo : Fo hs) : ∀ (k : Nat) (r : List Nat), Pre hs r → r.length + k = hs.length → more hs k r * rest hs r = ((fct k : Nat) : Int)
  | 0, r, p, h => by
    have full := mem_of_full hs.length r p.nd p.lt (by omega)
    have e : facs hs r (List.range hs.length) = (List.range hs.length).map fun _ => (1 : Int) := List.map_congr_left fun w hw => if_pos (full w (List.mem_range.mp hw))
    have z : ∀ cs : List Nat, (cs.map fun _ => (1 : Int)).prod = 1 := fun cs => by
      induction cs with
      | nil => rfl
      | cons c cs ih => rw [List.map_cons, List.prod_cons, ih]; rfl
    unfold rest
    rw [e, z]; rfl
  | k + 1, r, p, h => by
    show ((av hs r).map fun v => more hs k (r ++ [v])).sum * rest hs r = _
    have e : ∀ cs : List Nat, (∀ v ∈ cs, v ∈ av hs r) → (cs.map fun v => more hs k (r ++ [v])).sum * rest hs r = ((fct k : Nat) : Int) * (cs.map fun v => (szL hs).getD v 0).sum := fun cs => by
      induction cs with
      | nil => intro _; show (0 : Int) * _ = _ * 0; rw [Int.zero_mul, Int.mul_zero]
      | cons v cs ih =>
        intro hc
        have hv := hc v List.mem_cons_self
        rw [List.map_cons, List.sum_cons, List.map_cons, List.sum_cons, Int.add_mul, ih fun x hx => hc x (List.mem_cons_of_mem _ hx), Int.mul_add]
        congr 1
        rw [rest_step hv, ← Int.mul_assoc, more_rest fo k (r ++ [v]) (p.snoc hv) (by rw [List.length_append]; show _ + 1 + k = _; omega)]
    rw [e _ fun _ h => h, av_sum fo p]
    have z : (hs.length : Int) - (r.length : Int) = ((k + 1 : Nat) : Int) := by omega
    rw [z, fct]; rfl
theorem more_step {hs : Hs} (fo : Fo hs) {k : Nat} {r : List Nat} (p : Pre hs r) (h : r.length + (k + 1) = hs.length) {v : Nat} (hv : v ∈ av hs r) : more hs (k + 1) r * (szL hs).getD v 0 = ((k + 1 : Nat) : Int) * more hs k (r ++ [v]) := by
  have a := more_rest fo (k + 1) r p h
  have b := more_rest fo k (r ++ [v]) (p.snoc hv) (by rw [List.length_append]; show _ + 1 + k = _; omega)
  have c := rest_pos fo (r ++ [v])
  rw [rest_step hv, fct, Int.natCast_mul, ← b] at a
  refine Int.eq_of_mul_eq_mul_right (Int.ne_of_gt c) ?_
  have e1 : more hs (k + 1) r * (szL hs).getD v 0 * rest hs (r ++ [v]) = more hs (k + 1) r * (rest hs (r ++ [v]) * (szL hs).getD v 0) := by rw [Int.mul_assoc, Int.mul_comm ((szL hs).getD v 0)]
  have e2 : ((k + 1 : Nat) : Int) * more hs k (r ++ [v]) * rest hs (r ++ [v]) = more hs k (r ++ [v]) * rest hs (r ++ [v]) * ((k + 1 : Nat) : Int) := by rw [Int.mul_assoc, Int.mul_comm]
  rw [e1, e2, a]
/-- over all beginnings of so many -/
def over (hs : Hs) (j : Nat) (f : List Nat → Int) : Int := ((rowsAt hs j).map f).sum
theorem over_step (hs : Hs) (j : Nat) (f : List Nat → Int) : over hs (j + 1) f = over hs j fun r => ((av hs r).map fun v => f (r ++ [v])).sum := by
  show (((rowsAt hs j).flatMap (ext hs)).map f).sum = _
  unfold over
  generalize rowsAt hs j = rs
  induction rs with
  | nil => rfl
  | cons r rs ih =>
    rw [List.flatMap_cons, List.map_append, List.sum_append, ih, List.map_cons, List.sum_cons]
    congr 1
    unfold ext
    rw [List.map_map]; rfl
theorem rows_pre (hs : Hs) : ∀ (j : Nat) (r : List Nat), r ∈ rowsAt hs j → Pre hs r ∧ r.length = j
  | 0, r, h => by
    rw [List.mem_singleton.mp h]
    exact ⟨Pre.nil hs, rfl⟩
  | j + 1, r, h => by
    obtain ⟨q, hq, hr⟩ := List.mem_flatMap.mp h
    obtain ⟨v, hv, rfl⟩ := List.mem_map.mp hr
    obtain ⟨p, l⟩ := rows_pre hs j q hq
    exact ⟨p.snoc hv, by rw [List.length_append, l]; rfl⟩
theorem over_congr {hs : Hs} {j : Nat} {f g : List Nat → Int} (h : ∀ r, Pre hs r → r.length = j → f r = g r) : over hs j f = over hs j g := by
  unfold over
  congr 1
  exact List.map_congr_left fun r hr => h r (rows_pre hs j r hr).1 (rows_pre hs j r hr).2

theorem over_on {hs : Hs} {f : List Nat → Int} {j0 : Nat} (h : ∀ r v, j0 ≤ r.length → f (r ++ [v]) = f r) : ∀ d j : Nat, j + d = hs.length → j0 ≤ j → over hs hs.length f = over hs j fun r => f r * more hs d r
  | 0, j, e, _ => by
    have ej : j = hs.length := by omega
    subst ej
    refine over_congr fun r _ _ => ?_
    show f r = f r * 1
    rw [Int.mul_one]
  | d + 1, j, e, hj => by
    rw [over_on h d (j + 1) (by omega) (by omega), over_step]
    refine over_congr fun r _ hr => ?_
    have e1 : (av hs r).map (fun v => f (r ++ [v]) * more hs d (r ++ [v])) = (av hs r).map fun v => f r * more hs d (r ++ [v]) := List.map_congr_left fun v _ => by rw [h r v (by omega)]
    rw [e1, sum_mul]; rfl
theorem rows_many (hs : Hs) : ((rowsAt hs hs.length).length : Int) = more hs hs.length [] := by
  have h := over_on (hs := hs) (f := fun _ => 1) (j0 := 0) (fun _ _ _ => rfl) hs.length 0 (Nat.zero_add _) (Nat.le_refl 0)
  have e : over hs hs.length (fun _ => 1) = ((rowsAt hs hs.length).length : Int) := by
    unfold over
    generalize rowsAt hs hs.length = rs
    induction rs with
    | nil => rfl
    | cons r rs ih => rw [List.map_cons, List.sum_cons, ih, List.length_cons]; omega
  rw [← e, h]
  show 1 * more hs hs.length [] + 0 = _
  rw [Int.one_mul, Int.add_zero]

end My

namespace My
open PySem PySem.Spec PyProof.Rows L2
/-! ### the ways on behind a beginning, one by one -/
def exts (hs : Hs) : Nat → List Nat → List (List Nat)
  | 0, _ => [[]]
  | k + 1, r => (av hs r).flatMap fun v => (exts hs k (r ++ [v])).map fun p => v :: p
theorem exts_add (hs : Hs) : ∀ (j k : Nat) (r : List Nat), exts hs (j + k) r = (exts hs j r).flatMap fun p => (exts hs k (r ++ p)).map fun q => p ++ q
  | 0, k, r => by
    rw [Nat.zero_add]
    show _ = ([[]] : List (List Nat)).flatMap _
    rw [List.flatMap_cons, List.flatMap_nil, List.append_nil, List.append_nil]
    show _ = (exts hs k r).map fun q => q
    rw [List.map_id']
  | j + 1, k, r => by
    rw [show j + 1 + k = (j + k) + 1 by omega]
    show (av hs r).flatMap (fun v => (exts hs (j + k) (r ++ [v])).map fun p => v :: p) = ((av hs r).flatMap fun v => (exts hs j (r ++ [v])).map fun p => v :: p).flatMap _
    rw [List.flatMap_assoc]
    congr 1
    funext v
    rw [exts_add hs j k (r ++ [v]), List.map_flatMap, List.flatMap_map]
    congr 1
    funext p
    rw [List.map_map, List.append_assoc]; rfl
theorem rows_exts (hs : Hs) : ∀ k : Nat, rowsAt hs k = exts hs k []
  | 0 => rfl
  | k + 1 => by
    rw [exts_add hs k 1 []]
    show (rowsAt hs k).flatMap (ext hs) = _
    rw [rows_exts hs k]
    congr 1
    funext p
    show (av hs p).map (fun v => p ++ [v]) = ((av hs ([] ++ p)).flatMap fun v => ([[]] : List (List Nat)).map fun q => v :: q).map fun q => p ++ q
    rw [List.nil_append, List.map_flatMap]
    generalize av hs p = cs
    induction cs with
    | nil => rfl
    | cons c cs ih => rw [List.map_cons, ih, List.flatMap_cons]; rfl
theorem exts_pre {hs : Hs} : ∀ {k : Nat} {r q : List Nat}, Pre hs r → q ∈ exts hs k r → Pre hs (r ++ q) ∧ q.length = k
  | 0, r, q, p, h => by
    rw [List.mem_singleton.mp h, List.append_nil]; exact ⟨p, rfl⟩
  | k + 1, r, q, p, h => by
    obtain ⟨v, hv, h2⟩ := List.mem_flatMap.mp h
    obtain ⟨t, ht, rfl⟩ := List.mem_map.mp h2
    obtain ⟨p2, l2⟩ := exts_pre (p.snoc hv) ht
    rw [List.append_assoc] at p2
    exact ⟨p2, by rw [List.length_cons, l2]⟩
/-- how many of a list are so -/
def cI {α : Type} (p : α → Bool) (L : List α) : Int := ((L.countP p : Nat) : Int)
theorem cI_flat {α β : Type} (p : β → Bool) (L : List α) (f : α → List β) : cI p (L.flatMap f) = (L.map fun x => cI p (f x)).sum := by
  induction L with
  | nil => rfl
  | cons x L ih =>
    rw [List.flatMap_cons, List.map_cons, List.sum_cons, ← ih]
    unfold cI
    rw [List.countP_append]; omega
theorem cI_map {α β : Type} (p : β → Bool) (L : List α) (f : α → β) : cI p (L.map f) = cI (fun x => p (f x)) L := by
  unfold cI
  rw [List.countP_map]; rfl
theorem cI_congr {α : Type} {p q : α → Bool} {L : List α} (h : ∀ x ∈ L, p x = q x) : cI p L = cI q L := by
  unfold cI
  rw [List.countP_congr fun x hx => by rw [h x hx]]
theorem cI_if {α : Type} (b : Bool) (p : α → Bool) (L : List α) : cI (fun x => b && p x) L = if b = true then cI p L else 0 := by
  cases b with
  | true => rw [if_pos rfl]; exact cI_congr fun x _ => Bool.true_and _
  | false =>
    rw [if_neg (by intro z; cases z)]
    unfold cI
    have e : L.countP (fun x => false && p x) = 0 := List.countP_eq_zero.mpr fun x _ => by rw [Bool.false_and]; exact Bool.false_ne_true
    rw [e]; rfl
theorem perm_sum {a b : List Int} (h : a.Perm b) : a.sum = b.sum := by
  induction h with
  | nil => rfl
  | cons x _ ih => rw [List.sum_cons, List.sum_cons, ih]
  | swap x y l => rw [List.sum_cons, List.sum_cons, List.sum_cons, List.sum_cons]; omega
  | trans _ _ h1 h2 => exact h1.trans h2
theorem filter_sum {α : Type} (p : α → Bool) (f : α → Int) (L : List α) : ((L.filter p).map f).sum = (L.map fun x => if p x = true then f x else 0).sum := by
  induction L with
  | nil => rfl
  | cons x L ih =>
    rw [List.map_cons, List.sum_cons, ← ih]
    by_cases c : p x = true
    · rw [List.filter_cons_of_pos c, List.map_cons, List.sum_cons, if_pos c]
    · rw [List.filter_cons_of_neg c, if_neg c]; omega
theorem sum_congr {α : Type} {f g : α → Int} {L : List α} (h : ∀ x ∈ L, f x = g x) : (L.map f).sum = (L.map g).sum := by rw [List.map_congr_left h]
/-- those that lie in l -/
def subN (hs : Hs) (l : List Nat) (k : Nat) (r : List Nat) : Int := cI (fun t => t.all fun x => decide (x ∈ l)) (exts hs k r)
theorem subN_succ (hs : Hs) (l : List Nat) (k : Nat) (r : List Nat) : subN hs l (k + 1) r = ((av hs r).map fun v => if v ∈ l then subN hs l k (r ++ [v]) else 0).sum := by
  unfold subN
  show cI _ ((av hs r).flatMap _) = _
  rw [cI_flat]
  refine sum_congr fun v _ => ?_
  rw [cI_map]
  have e : (fun x : List Nat => (v :: x).all fun y => decide (y ∈ l)) = fun x => decide (v ∈ l) && x.all fun y => decide (y ∈ l) := by funext x; rw [List.all_cons]
  rw [e, cI_if]
  by_cases c : v ∈ l
  · rw [if_pos (decide_eq_true c), if_pos c]
  · rw [if_neg (by rw [decide_eq_false c]; exact Bool.false_ne_true), if_neg c]
theorem sum_over (n : Nat) {l : List Nat} (nd : l.Nodup) (lt : ∀ v ∈ l, v < n) (f : Nat → Int) : ((List.range n).map fun v => if v ∈ l then f v else 0).sum = (l.map f).sum := by
  have e := filter_sum (fun v => decide (v ∈ l)) f (List.range n)
  have e2 : ((List.range n).map fun v => if v ∈ l then f v else 0).sum = ((List.range n).map fun x => if decide (x ∈ l) = true then f x else 0).sum := sum_congr fun v _ => by
    by_cases c : v ∈ l
    · rw [if_pos c, if_pos (decide_eq_true c)]
    · rw [if_neg c, if_neg (by rw [decide_eq_false c]; exact Bool.false_ne_true)]
  rw [e2, ← e]
  refine perm_sum (List.Perm.map _ ((List.perm_ext_iff_of_nodup (List.nodup_range.filter _) nd).mpr fun v => ?_))
  rw [List.mem_filter, List.mem_range, decide_eq_true_eq]
  exact ⟨fun h => h.2, fun h => ⟨lt v h, h⟩⟩
theorem list_ix (l : List Nat) : l = (List.range l.length).map fun i => l.getD i 0 := by
  refine List.ext_getElem? fun i => ?_
  by_cases c : i < l.length
  · rw [List.getElem?_map, List.getElem?_range c, List.getElem?_eq_getElem c, Option.map_some, List.getD_eq_getElem?_getD, List.getElem?_eq_getElem c]; rfl
  · rw [List.getElem?_eq_none (by omega), List.getElem?_eq_none (by rw [List.length_map, List.length_range]; omega)]
/-- l's things have their holders in l or among those done -/
def NoWrong (hs : Hs) (r l : List Nat) : Prop := ∀ v ∈ l, ∀ u : Nat, hs[v]? = some (some u) → u ∈ r ∨ u ∈ l
theorem sub_more {hs : Hs} {l r0 : List Nat} (nd : l.Nodup) (lt : ∀ v ∈ l, v < hs.length) (dj : ∀ v ∈ l, v ∉ r0) (nw : NoWrong hs r0 l) : ∀ (k : Nat) (q : List Nat), (∀ i ∈ q, i < l.length) → subN hs l k (r0 ++ q.map fun i => l.getD i 0) = more (amongH hs l) k q
  | 0, q, _ => by
    show cI _ [[]] = 1
    rfl
  | k + 1, q, hq => by
    have gi : ∀ i, i < l.length → l[i]? = some (l.getD i 0) := fun i h => by rw [List.getD_eq_getElem?_getD, List.getElem?_eq_getElem h]; rfl
    have gm : ∀ i, i < l.length → l.getD i 0 ∈ l := fun i h => List.mem_of_getElem? (gi i h)
    have inq : ∀ i, i < l.length → (l.getD i 0 ∈ r0 ++ q.map (fun i => l.getD i 0) ↔ i ∈ q) := fun i h => by
      rw [List.mem_append]
      refine ⟨fun z => ?_, fun z => .inr (List.mem_map.mpr ⟨i, z, rfl⟩)⟩
      rcases z with z | z
      · exact absurd z (dj _ (gm i h))
      · obtain ⟨j, hj, e⟩ := List.mem_map.mp z
        have ej := gi j (hq j hj)
        rw [e] at ej
        rw [nodup_at nd (gi i h) ej]; exact hj
    have avs : ∀ i, i < l.length → avB hs (r0 ++ q.map fun i => l.getD i 0) (l.getD i 0) = avB (amongH hs l) q i := fun i h => by
      unfold avB
      rw [among_at (gi i h)]
      congr 1
      · exact decide_eq_decide.mpr (not_congr (inq i h))
      · obtain ⟨o, ho⟩ : ∃ o, hs[l.getD i 0]? = some o := ⟨_, List.getElem?_eq_getElem (lt _ (gm i h))⟩
        rw [ho]
        cases o with
        | none => rfl
        | some u =>
          show decide (u ∈ _) = match some (posOf l u) with
            | some none => true
            | some (some u) => decide (u ∈ q)
            | none => false
          by_cases m : u ∈ l
          · obtain ⟨j, ej⟩ := posOf_mem m
            have lj := posOf_some ej
            have hj := (List.getElem?_eq_some_iff.mp lj).1
            have eu : u = l.getD j 0 := by
              have z := gi j hj
              rw [lj] at z; exact Option.some.inj z
            rw [ej]
            show _ = decide (j ∈ q)
            rw [eu]
            exact decide_eq_decide.mpr (inq j hj)
          · rw [posOf_none m]
            show _ = true
            refine decide_eq_true (List.mem_append_left _ ?_)
            exact (nw _ (gm i h) u ho).resolve_right m
    rw [subN_succ]
    show _ = ((av (amongH hs l) q).map fun i => more (amongH hs l) k (q ++ [i])).sum
    unfold av
    rw [filter_sum, filter_sum]
    have e1 : ((List.range hs.length).map fun v => if avB hs (r0 ++ q.map fun i => l.getD i 0) v = true then (if v ∈ l then subN hs l k (r0 ++ (q.map fun i => l.getD i 0) ++ [v]) else 0) else 0).sum =
        ((List.range hs.length).map fun v => if v ∈ l then (if avB hs (r0 ++ q.map fun i => l.getD i 0) v = true then subN hs l k (r0 ++ (q.map fun i => l.getD i 0) ++ [v]) else 0) else 0).sum := sum_congr fun v _ => by
      by_cases a : avB hs (r0 ++ q.map fun i => l.getD i 0) v = true <;> by_cases b : v ∈ l <;> simp [a, b]
    rw [e1, sum_over hs.length nd lt]
    conv => lhs; arg 1; arg 2; rw [list_ix l]
    rw [List.map_map, among_len]
    refine sum_congr fun i hi => ?_
    have hil := List.mem_range.mp hi
    show (if avB hs _ (l.getD i 0) = true then subN hs l k (r0 ++ (q.map fun i => l.getD i 0) ++ [l.getD i 0]) else 0) = _
    rw [avs i hil]
    have e2 : r0 ++ (q.map fun i => l.getD i 0) ++ [l.getD i 0] = r0 ++ (q ++ [i]).map fun i => l.getD i 0 := by rw [List.map_append, List.append_assoc]; rfl
    rw [e2, sub_more nd lt dj nw k (q ++ [i]) fun j hj => by
      rcases List.mem_append.mp hj with z | z
      · exact hq j z
      · rw [List.mem_singleton.mp z]; exact hil]
/-! ### the number of sequences -/
theorem cntL_more {hs : Hs} (fo : Fo hs) : cntL hs = more hs hs.length [] := by
  have a := more_rest fo hs.length [] (Pre.nil hs) (by rw [List.length_nil, Nat.zero_add])
  have key : ∀ (F : List Int) (x : Int), (∀ y ∈ F, 1 ≤ y) → divAll (x * F.prod) F = x := fun F => by
    induction F with
    | nil => intro x _; show x * 1 = x; rw [Int.mul_one]
    | cons y F ih =>
      intro x h
      have hy := h y List.mem_cons_self
      show divAll (x * (y :: F).prod / y) F = x
      rw [List.prod_cons, show x * (y * F.prod) = (x * F.prod) * y by rw [Int.mul_comm y, Int.mul_assoc], Int.mul_ediv_cancel _ (by omega)]
      exact ih x fun z hz => h z (List.mem_cons_of_mem _ hz)
  have e : rest hs [] = (szL hs).prod := by
    unfold rest facs
    congr 1
    have lz : (szL hs).length = hs.length := (szL_ok fo).1
    refine List.ext_getElem (by rw [List.length_map, List.length_range, lz]) fun i h1 h2 => ?_
    rw [List.getElem_map, if_neg List.not_mem_nil, List.getElem_range, List.getD_eq_getElem?_getD, List.getElem?_eq_getElem h2]; rfl
  unfold cntL
  rw [← a, e]
  refine key _ _ fun y hy => ?_
  obtain ⟨i, ei⟩ := List.getElem?_of_mem hy
  have hi := (List.getElem?_eq_some_iff.mp ei).1
  have lz : (szL hs).length = hs.length := (szL_ok fo).1
  have b := szL_at fo (show i < hs.length by omega)
  rw [List.getD_eq_getElem?_getD, ei] at b
  exact b.1
theorem cntL_rows {hs : Hs} (fo : Fo hs) : cntL hs = ((rowsAt hs hs.length).length : Int) := by rw [rows_many, cntL_more fo]

end My

namespace My
open PySem PySem.Spec PyProof.Rows L2
/-! ### how many sequences keep stages -/
def keepsB : List Nat → List (List Nat) → Bool
  | _, [] => true
  | r, l :: ls => decide ((r.take l.length).Perm l) && keepsB (r.drop l.length) ls
theorem exts_more (hs : Hs) : ∀ (k : Nat) (r : List Nat), ((exts hs k r).length : Int) = more hs k r
  | 0, _ => rfl
  | k + 1, r => by
    show (((av hs r).flatMap fun v => (exts hs k (r ++ [v])).map fun p => v :: p).length : Int) = ((av hs r).map fun v => more hs k (r ++ [v])).sum
    generalize av hs r = cs
    induction cs with
    | nil => rfl
    | cons c cs ih => rw [List.flatMap_cons, List.length_append, List.length_map, List.map_cons, List.sum_cons, ← ih, ← exts_more hs k (r ++ [c])]; omega
theorem cI_all {α : Type} {p : α → Bool} {L : List α} (h : ∀ x ∈ L, p x = true) : cI p L = (L.length : Int) := by
  unfold cI
  rw [List.countP_eq_length.mpr h]
theorem cI_none {α : Type} {p : α → Bool} {L : List α} (h : ∀ x ∈ L, ¬ p x = true) : cI p L = 0 := by
  unfold cI
  rw [List.countP_eq_zero.mpr h]; rfl
/-- how many sequences go on so behind r -/
def nK (hs : Hs) (r : List Nat) (ls : List (List Nat)) : Int := cI (fun q => keepsB q ls) (exts hs (hs.length - r.length) r)
theorem nK_nil (hs : Hs) (r : List Nat) : nK hs r [] = more hs (hs.length - r.length) r := by
  unfold nK
  rw [cI_all (p := fun q => keepsB q []) fun _ _ => rfl, exts_more]
theorem nK_cons {hs : Hs} {r l : List Nat} {ls : List (List Nat)} (p : Pre hs r) (h : r.length + l.length ≤ hs.length) : nK hs r (l :: ls) = ((exts hs l.length r).map fun q => if q.Perm l then nK hs (r ++ q) ls else 0).sum := by
  unfold nK
  rw [show hs.length - r.length = l.length + (hs.length - r.length - l.length) by omega, exts_add, cI_flat]
  refine sum_congr fun q hq => ?_
  obtain ⟨_, lq⟩ := exts_pre p hq
  rw [cI_map, List.length_append, lq, show hs.length - (r.length + l.length) = hs.length - r.length - l.length by omega]
  have e : (fun x : List Nat => keepsB (q ++ x) (l :: ls)) = fun x => decide (q.Perm l) && keepsB x ls := by
    funext x
    show (decide (((q ++ x).take l.length).Perm l) && keepsB ((q ++ x).drop l.length) ls) = _
    rw [← lq, List.take_left, List.drop_left]
  rw [e, cI_if]
  by_cases c : q.Perm l
  · rw [if_pos (decide_eq_true c), if_pos c]
  · rw [if_neg (by rw [decide_eq_false c]; exact Bool.false_ne_true), if_neg c]
theorem perm_all {l t : List Nat} (nl : l.Nodup) (nt : t.Nodup) (h : t.length = l.length) : t.Perm l ↔ ∀ x ∈ t, x ∈ l := by
  refine ⟨fun p x hx => p.mem_iff.mp hx, fun sub => (List.perm_ext_iff_of_nodup nt nl).mpr fun x => ⟨sub x, fun hx => ?_⟩⟩
  by_cases c : x ∈ t
  · exact c
  · have z : (x :: t).length ≤ l.length := (List.nodup_cons.mpr ⟨c, nt⟩).length_le_of_subset fun y hy => by
      rcases List.mem_cons.mp hy with rfl | hy
      · exact hx
      · exact sub y hy
    rw [List.length_cons] at z; omega
theorem block_cnt {hs : Hs} {r l : List Nat} (p : Pre hs r) (nd : l.Nodup) (lt : ∀ v ∈ l, v < hs.length) (dj : ∀ v ∈ l, v ∉ r) :
    (NoWrong hs r l → cI (fun q => decide (q.Perm l)) (exts hs l.length r) = more (amongH hs l) l.length []) ∧ (¬ NoWrong hs r l → cI (fun q => decide (q.Perm l)) (exts hs l.length r) = 0) := by
  refine ⟨fun nw => ?_, fun wr => ?_⟩
  · rw [← sub_more nd lt dj nw l.length [] fun i hi => absurd hi List.not_mem_nil, List.map_nil, List.append_nil]
    unfold subN
    refine cI_congr fun q hq => ?_
    obtain ⟨pq, lq⟩ := exts_pre p hq
    have nq : q.Nodup := (List.nodup_append.mp pq.nd).2.1
    rw [Bool.eq_iff_iff, decide_eq_true_eq, perm_all nd nq lq, List.all_eq_true]
    exact ⟨fun h x hx => decide_eq_true (h x hx), fun h x hx => of_decide_eq_true (h x hx)⟩
  · refine cI_none fun q hq z => wr fun v hv1 u e => ?_
    have pm := of_decide_eq_true z
    obtain ⟨pq, _⟩ := exts_pre p hq
    rcases List.mem_append.mp (pq.cl v (List.mem_append_right _ (pm.mem_iff.mpr hv1)) u e) with m | m
    · exact .inl m
    · exact .inr (pm.mem_iff.mp m)
def restOf (n : Nat) (S : List Nat) : List Nat := (List.range n).filter fun v => decide (¬ v ∈ S)
theorem mem_restOf {n : Nat} {S : List Nat} {v : Nat} : v ∈ restOf n S ↔ v < n ∧ ¬ v ∈ S := by
  unfold restOf
  rw [List.mem_filter, List.mem_range, decide_eq_true_eq]
theorem restOf_nd (n : Nat) (S : List Nat) : (restOf n S).Nodup := List.nodup_range.filter _
theorem restOf_len {n : Nat} {S : List Nat} (nd : S.Nodup) (lt : ∀ v ∈ S, v < n) : S.length + (restOf n S).length = n := by
  have z : (S ++ restOf n S).Perm (List.range n) := by
    refine (List.perm_ext_iff_of_nodup ?_ List.nodup_range).mpr fun v => ?_
    · exact List.nodup_append.mpr ⟨nd, restOf_nd n S, fun x hx y hy e => (mem_restOf.mp hy).2 (e ▸ hx)⟩
    · rw [List.mem_append, mem_restOf, List.mem_range]
      refine ⟨fun h => h.elim (lt v) fun h => h.1, fun h => ?_⟩
      by_cases c : v ∈ S
      · exact .inl c
      · exact .inr ⟨h, c⟩
  have y := z.length_eq
  rw [List.length_append, List.length_range] at y; exact y
/-- the number of things in a block -/
def blockN (hs : Hs) (l : List Nat) : Int := if l = [] then 1 else cntL (amongH hs l)
theorem blockN_more {hs : Hs} {l : List Nat} (fo : Fo hs) (nd : l.Nodup) (lt : ∀ v ∈ l, v < hs.length) : more (amongH hs l) l.length [] = blockN hs l := by
  unfold blockN
  by_cases c : l = []
  · rw [if_pos c, c]; rfl
  · rw [if_neg c, cntL_more (fo_among fo c nd lt), among_len]
def valK (hs : Hs) : List Nat → List (List Nat) → Int
  | S, [] => blockN hs (restOf hs.length S)
  | S, l :: ls => if wrongIn hs (S ++ l) l = [] then blockN hs l * valK hs (S ++ l) ls else 0
theorem wrong_iff {hs : Hs} {r S l : List Nat} (pm : r.Perm S) : wrongIn hs (S ++ l) l = [] ↔ NoWrong hs r l := by
  unfold wrongIn NoWrong
  rw [List.filter_eq_nil_iff]
  refine ⟨fun h v hv1 u e => ?_, fun h v hv1 z => ?_⟩
  · have z := h v hv1
    rw [e] at z
    have y : u ∈ S ++ l := by
      by_cases c : u ∈ S ++ l
      · exact c
      · exact absurd (show (!decide (u ∈ S ++ l)) = true by rw [decide_eq_false c]; rfl) z
    exact (List.mem_append.mp y).imp (fun m => pm.mem_iff.mpr m) id
  · split at z
    · rename_i u e
      have y := h v hv1 u e
      have m : u ∈ S ++ l := List.mem_append.mpr (y.imp (fun m => pm.mem_iff.mp m) id)
      rw [decide_eq_true m] at z; cases z
    · cases z
theorem nK_val {hs : Hs} (fo : Fo hs) : ∀ (ls : List (List Nat)) (r S : List Nat), Pre hs r → r.Perm S → (S ++ ls.flatten).Nodup → (∀ v ∈ ls.flatten, v < hs.length) → nK hs r ls = valK hs S ls
  | [], r, S, p, pm, nd, lt => by
    rw [nK_nil]
    show _ = blockN hs (restOf hs.length S)
    rw [List.flatten_nil, List.append_nil] at nd
    have lS : ∀ v ∈ S, v < hs.length := fun v h => p.lt v (pm.mem_iff.mpr h)
    have len := restOf_len nd lS
    have lr := pm.length_eq
    have dj : ∀ v ∈ restOf hs.length S, v ∉ r := fun v h m => (mem_restOf.mp h).2 (pm.mem_iff.mp m)
    have nw : NoWrong hs r (restOf hs.length S) := fun v hv1 u e => by
      by_cases c : u ∈ S
      · exact .inl (pm.mem_iff.mpr c)
      · exact .inr (mem_restOf.mpr ⟨fo.inb v u e, c⟩)
    rw [show hs.length - r.length = (restOf hs.length S).length by omega, ← blockN_more fo (restOf_nd _ _) (fun v h => (mem_restOf.mp h).1), ← sub_more (restOf_nd _ _) (fun v h => (mem_restOf.mp h).1) dj nw _ [] fun i hi => absurd hi List.not_mem_nil, List.map_nil, List.append_nil]
    unfold subN
    rw [← exts_more, cI_all]
    intro q hq
    obtain ⟨pq, _⟩ := exts_pre p hq
    rw [List.all_eq_true]
    intro x hx
    refine decide_eq_true (mem_restOf.mpr ⟨pq.lt x (List.mem_append_right _ hx), fun z => ?_⟩)
    exact (List.nodup_append.mp pq.nd).2.2 x (pm.mem_iff.mpr z) x hx rfl
  | l :: ls, r, S, p, pm, nd, lt => by
    rw [List.flatten_cons, ← List.append_assoc] at nd
    have nd1 := (List.nodup_append.mp nd).1
    have ndl := (List.nodup_append.mp nd1).2.1
    have ltl : ∀ v ∈ l, v < hs.length := fun v h => lt v (by rw [List.flatten_cons]; exact List.mem_append_left _ h)
    have dj : ∀ v ∈ l, v ∉ r := fun v h m => (List.nodup_append.mp nd1).2.2 v (pm.mem_iff.mp m) v h rfl
    have size : r.length + l.length ≤ hs.length := by
      have z := nodup_len hs.length (r ++ l) (List.nodup_append.mpr ⟨p.nd, ndl, fun a ha b hb e => dj b hb (e ▸ ha)⟩) fun v h => (List.mem_append.mp h).elim (p.lt v) (ltl v)
      rw [List.length_append] at z; exact z
    rw [nK_cons p size]
    have e1 : ((exts hs l.length r).map fun q => if q.Perm l then nK hs (r ++ q) ls else 0).sum = ((exts hs l.length r).map fun q => (if decide (q.Perm l) = true then 1 else 0) * valK hs (S ++ l) ls).sum := sum_congr fun q hq => by
      obtain ⟨pq, _⟩ := exts_pre p hq
      by_cases c : q.Perm l
      · rw [if_pos c, if_pos (decide_eq_true c), Int.one_mul]
        exact nK_val fo ls (r ++ q) (S ++ l) pq (pm.append c) nd fun v h => lt v (by rw [List.flatten_cons]; exact List.mem_append_right _ h)
      · rw [if_neg c, if_neg (by rw [decide_eq_false c]; exact Bool.false_ne_true), Int.zero_mul]
    have e2 : ∀ (L : List (List Nat)) (x : Int), (L.map fun q => (if decide (q.Perm l) = true then 1 else 0) * x).sum = cI (fun q => decide (q.Perm l)) L * x := fun L x => by
      induction L with
      | nil => show (0 : Int) = _; unfold cI; rw [List.countP_nil]; show (0 : Int) = 0 * x; rw [Int.zero_mul]
      | cons q L ih =>
        rw [List.map_cons, List.sum_cons, ih]
        unfold cI
        rw [List.countP_cons]
        by_cases c : decide (q.Perm l) = true
        · rw [if_pos c, if_pos c, Int.natCast_add, Int.add_mul]
          show 1 * x + _ = _ + 1 * x
          omega
        · rw [if_neg c, if_neg c, Int.zero_mul]
          show 0 + _ = _
          rw [Int.zero_add]; rfl
    rw [e1, e2]
    show _ = if wrongIn hs (S ++ l) l = [] then blockN hs l * valK hs (S ++ l) ls else 0
    obtain ⟨b1, b2⟩ := block_cnt p ndl ltl dj
    by_cases c : wrongIn hs (S ++ l) l = []
    · rw [if_pos c, b1 ((wrong_iff pm).mp c), blockN_more fo ndl ltl]
    · rw [if_neg c, b2 (fun z => c ((wrong_iff pm).mpr z)), Int.zero_mul]
/-- the product of all blocks -/
def prodB (hs : Hs) : List (List Nat) → Int
  | [] => 1
  | l :: ls => blockN hs l * prodB hs ls
theorem valK_none {hs : Hs} : ∀ (ls : List (List Nat)) (S : List Nat), (∀ (i : Nat) (l : List Nat), ls[i]? = some l → wrongIn hs (S ++ (ls.take (i + 1)).flatten) l = []) → valK hs S ls = prodB hs ls * blockN hs (restOf hs.length (S ++ ls.flatten))
  | [], S, _ => by
    show _ = 1 * _
    rw [Int.one_mul, List.flatten_nil, List.append_nil]; rfl
  | l :: ls, S, h => by
    have h0 := h 0 l rfl
    have e0 : ((l :: ls).take (0 + 1)).flatten = l := by rw [List.take_succ_cons, List.take_zero, List.flatten_singleton]
    rw [e0] at h0
    show (if wrongIn hs (S ++ l) l = [] then blockN hs l * valK hs (S ++ l) ls else 0) = blockN hs l * prodB hs ls * _
    rw [if_pos h0, valK_none ls (S ++ l) fun i m e => ?_, Int.mul_assoc, List.flatten_cons, List.append_assoc]
    have z := h (i + 1) m e
    rw [List.take_succ_cons, List.flatten_cons, ← List.append_assoc] at z; exact z
theorem valK_some {hs : Hs} : ∀ (ls : List (List Nat)) (S : List Nat) (i : Nat) (l : List Nat), ls[i]? = some l → wrongIn hs (S ++ (ls.take (i + 1)).flatten) l ≠ [] → valK hs S ls = 0
  | l :: ls, S, 0, m, e, h => by
    cases e
    have e0 : ((l :: ls).take (0 + 1)).flatten = l := by rw [List.take_succ_cons, List.take_zero, List.flatten_singleton]
    rw [e0] at h
    show (if wrongIn hs (S ++ l) l = [] then blockN hs l * valK hs (S ++ l) ls else 0) = 0
    rw [if_neg h]
  | l :: ls, S, i + 1, m, e, h => by
    rw [List.take_succ_cons, List.flatten_cons, ← List.append_assoc] at h
    have z := valK_some ls (S ++ l) i m e h
    show (if wrongIn hs (S ++ l) l = [] then blockN hs l * valK hs (S ++ l) ls else 0) = 0
    rw [z, Int.mul_zero]
    split <;> rfl
theorem cwTo_prod (hs : Hs) : ∀ (bs : List (List Nat)), (∀ l ∈ bs, l ≠ []) → cwTo hs bs = prodB hs bs := by
  have key : ∀ (bs : List (List Nat)) (x : Int), (∀ l ∈ bs, l ≠ []) → bs.foldl (fun x l => x * cntL (amongH hs l)) x = x * prodB hs bs := fun bs => by
    induction bs with
    | nil => intro x _; show x = x * 1; rw [Int.mul_one]
    | cons l bs ih =>
      intro x h
      rw [List.foldl_cons, ih _ fun m hm => h m (List.mem_cons_of_mem _ hm), Int.mul_assoc]
      show x * (cntL (amongH hs l) * prodB hs bs) = x * (blockN hs l * prodB hs bs)
      unfold blockN
      rw [if_neg (h l List.mem_cons_self)]
  intro bs h
  unfold cwTo
  rw [key bs 1 h, Int.one_mul]
theorem prodB_snoc (hs : Hs) (bs : List (List Nat)) (l : List Nat) : prodB hs (bs ++ [l]) = prodB hs bs * blockN hs l := by
  induction bs with
  | nil => show blockN hs l * 1 = 1 * blockN hs l; rw [Int.mul_one, Int.one_mul]
  | cons b bs ih => show blockN hs b * prodB hs (bs ++ [l]) = blockN hs b * prodB hs bs * blockN hs l; rw [ih, Int.mul_assoc]
/-- the rows that keep stages are as many as the product tells -/
theorem keep_count {hs : Hs} (fo : Fo hs) {ls : List (List Nat)} (st : Stg hs.length ls) {r : Option (Nat × Nat)} (isf : IsFault hs ls r) : cI (fun q => keepsB q ls) (rowsAt hs hs.length) = if r.isSome = true then 0 else cwL hs ls := by
  have a := nK_val fo ls [] [] (Pre.nil hs) (List.Perm.refl _) (by rw [List.nil_append]; exact st.nd) fun v h => st.lt v h
  unfold nK at a
  rw [List.length_nil, Nat.sub_zero, ← rows_exts] at a
  rw [a]
  cases r with
  | some it =>
    obtain ⟨i, v⟩ := it
    obtain ⟨_, l, rest, e, w⟩ := isf
    show _ = (0 : Int)
    exact valK_some ls [] i l e (by rw [List.nil_append, w]; intro z; cases z)
  | none =>
    show _ = cwL hs ls
    rw [valK_none ls [] fun i l e => by rw [List.nil_append]; exact isf i l e, List.nil_append]
    have er : restOf hs.length ls.flatten = restL hs.length ls := rfl
    rw [er]
    unfold cwL blocksL
    by_cases c : (restL hs.length ls).length > 0
    · rw [if_pos c]
      show _ = cwTo hs _
      rw [cwTo_prod hs _ (fun l hl => ?_), prodB_snoc]
      rcases List.mem_append.mp hl with m | m
      · exact st.ne l m
      · rw [List.mem_singleton.mp m]
        intro z
        rw [z] at c; exact absurd c (Nat.lt_irrefl 0)
    · rw [if_neg c]
      show _ = cwTo hs _
      rw [cwTo_prod hs _ st.ne]
      have e0 : restL hs.length ls = [] := List.eq_nil_of_length_eq_zero (by omega)
      rw [e0]
      show _ * 1 = _
      rw [Int.mul_one]

end My

namespace My
open PySem PySem.Spec PyProof.Rows L2
/-! ### the law's own ways of some things -/
def spLWays : Sp := fun vs H Q _ => ∃ (a p : Addr) (hs : Hs) (l : List Nat), vs = [.ref a, .ref p] ∧ H a = some (.tup (hs.map hv)) ∧ H p = some (.lst (nv l)) ∧ Fo hs ∧ l.Nodup ∧ (∀ v ∈ l, v < hs.length) ∧ l.length ≤ 60 ∧ ∀ H', Same H H' → Q (.int (blockN hs l)) H'
def kvTo (l : List Nat) (i : Nat) : List (Key × V) := (List.range i).map fun j => ((Sum.inl ((l.getD j 0 : Nat) : Int) : Key), V.int (j : Int))
theorem kvTo_succ (l : List Nat) (i : Nat) : kvTo l (i + 1) = kvTo l i ++ [(Sum.inl ((l.getD i 0 : Nat) : Int), V.int (i : Int))] := by
  unfold kvTo
  rw [List.range_succ, List.map_append]; rfl
theorem kvTo_name {l : List Nat} (nd : l.Nodup) : ∀ i, i ≤ l.length → NameK (mergeK [] (kvTo l i)) (l.take i)
  | 0, _ => .nil
  | i + 1, h => by
    have z := kvTo_name nd i (by omega)
    have hi : i < l.length := by omega
    have tk : l.take (i + 1) = l.take i ++ [l[i]] := by rw [List.take_add_one, List.getElem?_eq_getElem hi]; rfl
    have ti : (l.take i).length = i := by rw [List.length_take]; omega
    have nm : ¬ l[i] ∈ l.take i := fun m => by
      have y : (l.take i ++ [l[i]]).Nodup := by rw [← tk]; exact (List.take_sublist _ _).nodup nd
      exact (List.nodup_append.mp y).2.2 _ m _ (List.mem_singleton.mpr rfl) rfl
    have ei : l.getD i 0 = l[i] := by rw [List.getD_eq_getElem?_getD, List.getElem?_eq_getElem hi]; rfl
    have y := z.put nm
    rw [ti] at y
    rw [kvTo_succ, tk, ei]
    unfold mergeK
    rw [List.foldl_append]
    exact y
section
variable {P : Program} {w : World} {K : PySem.W.Frag} {mg : Str → Option Value} {base : Heap}
abbrev st__law_ways : Stmt := topS 55
abbrev N__law_ways : List Str := ["plan", "some", "spots", "k", "one"]
theorem sc__law_ways : FnScope N__law_ways ["plan", "some"] (defScope st__law_ways) := ⟨rfl, rfl, rfl, by decide +kernel, rfl, by decide +kernel, by decide +kernel⟩
theorem ok__law_ways (D : Df K mg "_law_ways" st__law_ways ["plan", "some"]) (B : Bl mg) (K_law_many : Kn P w K mg base CX0 4 "_law_many" st__law_many ["plan"] spLMany) : Kn P w K mg base CX0 5 "_law_ways" st__law_ways ["plan", "some"] spLWays := by
  refine D.ok sc__law_ways (fun vs H Q E h => ?_) (fun f cdv A outer s H vs Q E hr h => ?_)
  · obtain ⟨a, p, hs, l, rfl, _⟩ := h; rfl
  obtain ⟨a, p, hs, l, rfl, ha, hp, fo, nd, hlt, hl, q⟩ := h
  refine ⟨_, ((pss_cons (ps_set (i := 2) sc__law_ways.nd rfl (Or.inr rfl) (pe_callTy (call_dictP rfl) (by rfl) B.dict (by decide +kernel) (pa_cons (pe_lc (own := [("k", 3), ("one", 4)]) (g := gTup K 2 (gCons (gName 3) (gCons (gName 4) gNil))) rfl sc__law_ways.nd (pi_enum (by rfl) B.enumerate (pa_cons (pv 1) pa_nil)) (blkOk_by (N := N__law_ways) (sc := defScope st__law_ways) (own := [("k", 3), ("one", 4)]) (by decide +kernel)) (fun _ _ _ _ _ => by (refine pg_tup (n := 2) ?hc ?h ?hn ?hst; (case hc => rfl); (case hn => rfl); (case hst => rfl); case h => (refine pgs_cons ?g1 ?g2; (case g1 => exact (pg_name (i := 3) sc__law_ways.nd rfl (Or.inl rfl))); case g2 => (refine pgs_cons ?g1 ?g2; (case g1 => exact (pg_name (i := 4) sc__law_ways.nd rfl (Or.inl rfl))); case g2 => (exact pgs_nil))))) (fun _ _ _ _ _ => by exact pts_nil) (fun _ _ _ _ _ => by exact (pe_tup (pa_cons (pv 4) (pa_cons (pv 3) pa_nil))))) pa_nil)))
      (pss_one (ps_ret (pe_callF K_law_many (hr.mono (by decide)) pass0 (pa_cons (pe_callTy call_tuple_of (by rfl) B.tuple (by decide +kernel) (pa_cons (pe_lc (own := [("one", 4)]) (g := gName 4) rfl sc__law_ways.nd (pi_list (pv 1)) (blkOk_by (N := N__law_ways) (sc := defScope st__law_ways) (own := [("one", 4)]) (by decide +kernel)) (fun _ _ _ _ _ => by (exact (pg_name (i := 4) sc__law_ways.nd rfl (Or.inl rfl)))) (fun _ _ _ _ _ => by exact pts_nil) (fun _ _ _ _ _ => by exact (pe_dgetO (hu_of hr) (pv 2) (pe_ix (ix_tupK K) (pv 0) (pv 4) (fun _ _ => rfl)) ⟨by rfl, by rfl, by rfl, by rfl⟩))) pa_nil)) pa_nil)))))), ?_⟩
  refine ⟨_, rfl, p, _, rfl, SqL.of hp, fun L hL => lc_it (walk_enum (xs := nv l)) (fun i H' => Same H H' ∧ ∃ ps : List Addr, ps.length = i ∧ H' L = some (.lst (ps.map V.ref)) ∧ Paired (fun t kv => t ≠ L ∧ H' t = some (.tup [kV kv.1, kv.2])) ps (kvTo l i)) ⟨(Same.refl H).new hL, [], rfl, upd_same, .nil⟩ (fun i H' _ z => SqL.of (z.1 _ _ hp)) ?_ ?_⟩
  · rintro i x H1 H2 hi ⟨s1, ps, lps, o1, pr⟩ ⟨T, x1, x2, rfl, hT, rfl, e1, e2⟩
    rw [nv_length] at hi
    have e1' := Option.some.inj e1; subst e1'
    have e2' : (nv l)[i]? = some x2 := e2
    rw [nv_get (List.getElem?_eq_getElem hi)] at e2'
    cases e2'
    have s2 : Same H1 (upd H1 T (.tup [.int (i : Int), .int ((l[i] : Nat) : Int)])) := (Same.refl H1).new hT
    refine ⟨T, _, rfl, SqT.of upd_same, rfl, _, _, rfl, _, _, rfl, rfl, rfl, _, rfl, _, rfl, ⟨by show 2 ≤ sizeLine; decide, fun Z hZ => ?_⟩⟩
    generalize upd H1 T (.tup [.int (i : Int), .int ((l[i] : Nat) : Int)]) = H2 at s2 hZ ⊢
    have s3 := s2.new (o := .tup [.int ((l[i] : Nat) : Int), .int (i : Int)]) hZ
    have z3 : upd H2 Z (.tup [.int ((l[i] : Nat) : Int), .int (i : Int)]) Z = some (.tup [.int ((l[i] : Nat) : Int), .int (i : Int)]) := upd_same
    generalize upd H2 Z (.tup [.int ((l[i] : Nat) : Int), .int (i : Int)]) = H3 at s3 z3 ⊢
    have o3 := s3 _ _ o1
    have nZ : Z ≠ L := fun z => by rw [z, o3] at z3; cases z3
    refine ⟨_, o3, by rw [List.length_map]; exact szl (by omega), (s1.trans s3).upd hL, ps ++ [Z], by rw [List.length_append, lps]; rfl, by rw [upd_same, List.map_append]; rfl, ?_⟩
    rw [kvTo_succ]
    have ei : l.getD i 0 = l[i] := by rw [List.getD_eq_getElem?_getD, List.getElem?_eq_getElem hi]; rfl
    rw [ei]
    refine Paired.snoc ?_ ⟨nZ, (upd_ne nZ).trans z3⟩
    have up : ∀ {ps : List Addr} {kvs : List (Key × V)}, Paired (fun t kv => t ≠ L ∧ H1 t = some (.tup [kV kv.1, kv.2])) ps kvs → ∀ o, Paired (fun t kv => t ≠ L ∧ upd H3 L o t = some (.tup [kV kv.1, kv.2])) ps kvs := fun {ps kvs} h o => by
      induction h with
      | nil => exact .nil
      | cons a _ ih => exact .cons ⟨a.1, (upd_ne a.1).trans (s3 _ _ a.2)⟩ ih
    exact up pr _
  · rintro H1 ⟨s1, ps, lps, o1, pr⟩
    rw [nv_length] at pr
    have pr2 : ∀ {ps : List Addr} {kvs : List (Key × V)}, Paired (fun t kv => t ≠ L ∧ H1 t = some (.tup [kV kv.1, kv.2])) ps kvs → Paired (fun t kv => SqT K H1 t [kV kv.1, kv.2]) ps kvs := fun {ps kvs} h => by
      induction h with
      | nil => exact .nil
      | cons a _ ih => exact .cons (SqT.of a.2) ih
    refine ⟨L, ps, kvTo l l.length, rfl, SqL.of o1, pr2 pr, fun d hd => ?_⟩
    have nk := kvTo_name nd l.length (Nat.le_refl _)
    rw [List.take_length] at nk
    generalize mergeK [] (kvTo l l.length) = kvs at nk
    have s2 := s1.new (o := .dK kvs) hd
    have hk : upd H1 d (.dK kvs) d = some (.dK kvs) := upd_same
    generalize upd H1 d (.dK kvs) = H2 at s2 hk ⊢
    refine ⟨_, rfl, p, rfl, ⟨_, SqL.of (s2 _ _ hp)⟩, fun G hG => lc_it (walk_list (xs := nv l)) (fun i H' => Same H2 H' ∧ H' G = some (.lst (((amongH hs l).take i).map hv))) ⟨(Same.refl H2).new hG, upd_same⟩ (fun i H' _ z => SqL.of (z.1 _ _ (s2 _ _ hp))) ?_ ?_⟩
    · rintro i x H3 H4 hi ⟨s3, o3⟩ ⟨rfl, e1⟩
      rw [nv_length] at hi
      rw [nv_get (List.getElem?_eq_getElem hi)] at e1
      cases e1
      obtain ⟨o, ho⟩ : ∃ o, hs[l[i]]? = some o := ⟨_, List.getElem?_eq_getElem (hlt _ (List.getElem_mem hi))⟩
      have hk3 := s3 _ _ hk
      have acc : ((((amongH hs l).take i).map hv).length : Nat) < sizeLine := by rw [List.length_map, List.length_take]; exact szl (by omega)
      refine ⟨rfl, _, rfl, d, rfl, .inl ⟨kvs, .inl hk3⟩, _, rfl, _, rfl, a, _, _, _, rfl, rfl, SqT.of (s3 _ _ (s2 _ _ ha)), atI_nat (hv_at ho), ?_⟩
      cases o with
      | none =>
        refine .inl ⟨rfl, ⟨kvs, hk3⟩, _, o3, acc, s3.upd hG, ?_⟩
        rw [upd_same, among_step hi, ho, List.map_append]; rfl
      | some u =>
        refine .inr ⟨_, DGet.k (k := Sum.inl (u : Int)) hk3, _, o3, acc, s3.upd hG, ?_⟩
        rw [upd_same, among_step hi, ho, List.map_append, nk.1 u]
        show some (HO.lst (_ ++ [_])) = some (HO.lst (_ ++ [hv (posOf l u)]))
        cases posOf l u <;> rfl
    · rintro H3 ⟨s3, o3⟩
      have et : (amongH hs l).take (nv l).length = amongH hs l := by rw [nv_length, ← among_len hs l, List.take_length]
      rw [et] at o3
      refine ⟨G, _, rfl, .inl ⟨SqL.of o3, fun t ht => ?_⟩⟩
      have s23 := s2.trans s3
      refine ⟨t, amongH hs l, rfl, upd_same, fun z => fo_among fo (fun e => z (by rw [e]; rfl)) nd hlt, by rw [among_len]; exact hl, fun H4 s4 => ?_⟩
      have eb : cntL (amongH hs l) = blockN hs l := by
        unfold blockN
        by_cases e : l = []
        · rw [if_pos e, e]; rfl
        · rw [if_neg e]
      rw [eb]
      exact q H4 ((s23.new ht).trans s4)
end

end My

namespace My
open PySem PySem.Spec PyProof.Rows L2
/-! ### the law's drawn stages -/
def spLFlat : Sp := fun vs H Q _ => ∃ (p : Addr) (ls : List (List Nat)), vs = [.ref p] ∧ Lots H p ls ∧ ls.flatten.length ≤ 1000 ∧ ∀ r H', Same H H' → H r = none → H' r = some (.lst (nv ls.flatten)) → Q (.ref r) H'
/-- a sequence of a forest, by the holders -/
def Behind (hs : Hs) (o : List Nat) : Prop := ∀ (i v u : Nat), o[i]? = some v → hs[v]? = some (some u) → u ∈ o.take i
def spLRow : Sp := fun vs H Q _ => ∃ (wl a : Addr) (n : Nat) (hs : Hs), vs = [.ref wl, .ref a] ∧ wl ≠ a ∧ Well H wl n ∧ n < 2 ^ 50 ∧ H a = some (.tup (hs.map hv)) ∧ Fo hs ∧ hs.length ≤ 60 ∧
  ∀ r o H', Keep wl H H' → Well H' wl (n + 60) → H r = none → o.Perm (List.range hs.length) → Behind hs o → H' r = some (.lst (nv o)) → Q (.ref r) H'
/-- a thing that can be next: its holder isn't left -/
def isFree (hs : Hs) (lf : List Nat) (v : Nat) : Bool := match hs[v]? with
  | some (some u) => !decide (u ∈ lf)
  | _ => true
theorem free_some {hs : Hs} (fo : Fo hs) {lf : List Nat} (hlt : ∀ v ∈ lf, v < hs.length) {v : Nat} (hv' : v ∈ lf) : ∃ x, x ∈ lf.filter (isFree hs lf) := by
  have key : ∀ v, Rch hs v → v ∈ lf → ∃ x, x ∈ lf.filter (isFree hs lf) := fun v r => by
    induction r with
    | root h => exact fun m => ⟨_, List.mem_filter.mpr ⟨m, by unfold isFree; rw [h]⟩⟩
    | @step v u h r ih =>
      intro m
      by_cases c : u ∈ lf
      · exact ih c
      · exact ⟨v, List.mem_filter.mpr ⟨m, by unfold isFree; rw [h]; simp [c]⟩⟩
  exact key v (fo.all v (hlt v hv')) hv'
theorem map_erase {α β : Type} (f : α → β) : ∀ (l : List α) (k : Nat), (l.eraseIdx k).map f = (l.map f).eraseIdx k
  | [], _ => rfl
  | _ :: _, 0 => rfl
  | x :: l, k + 1 => by
    show f x :: (l.eraseIdx k).map f = f x :: (l.map f).eraseIdx k
    rw [map_erase f l k]
theorem filter_take (p : Nat → Bool) (l : List Nat) (i : Nat) (h : i < l.length) : (l.take (i + 1)).filter p = (l.take i).filter p ++ (if p l[i] = true then [l[i]] else []) := by
  have tk : l.take (i + 1) = l.take i ++ [l[i]] := by rw [List.take_add_one, List.getElem?_eq_getElem h]; rfl
  rw [tk, List.filter_append]
  by_cases c : p l[i] = true <;> simp [c]
section
variable {P : Program} {w : World} {K : PySem.W.Frag} {mg : Str → Option Value} {base : Heap}
abbrev st__law_flat : Stmt := topS 52
abbrev N__law_flat : List Str := ["lots", "found", "lot"]
theorem sc__law_flat : FnScope N__law_flat ["lots"] (defScope st__law_flat) := ⟨rfl, rfl, rfl, by decide +kernel, rfl, by decide +kernel, by decide +kernel⟩
theorem ok__law_flat (D : Df K mg "_law_flat" st__law_flat ["lots"]) (B : Bl mg) : Kn P w K mg base CX0 1 "_law_flat" st__law_flat ["lots"] spLFlat := by
  refine D.ok sc__law_flat (fun vs H Q E h => ?_) (fun f cdv A outer s H vs Q E hr h => ?_)
  · obtain ⟨p, ls, rfl, _⟩ := h; rfl
  obtain ⟨p, ls, rfl, ⟨xs, hx, lx⟩, hl, q⟩ := h
  refine ⟨_, ((pss_cons (ps_set (i := 1) sc__law_flat.nd rfl (Or.inl rfl) (pe_lst pa_nil))
      (pss_cons (ps_for PassesOwn.never rfl (pi_list (pv 0)) (pg_name (i := 2) sc__law_flat.nd rfl (Or.inl rfl)) (pss_one (ps_expr (pe_bm PySem.F.plainAttrs_list PySem.F.slot_list_extend PySem.F.type_list_extend mt_extendT (pv 1) (pa_cons (pv 2) pa_nil)))))
      (pss_one (ps_ret (pv 1)))))), ?_⟩
  refine ⟨by show 0 ≤ sizeLine; decide, fun F hF => ?_⟩
  have s1 : Same H (upd H F (.lst [])) := (Same.refl H).new hF
  refine ⟨_, rfl, p, rfl, ⟨_, SqL.of (s1 _ _ hx)⟩, for_it (walk_list (xs := xs)) (fun i σ H' => ∃ v2, σ = [some (.ref p), some (.ref F), v2] ∧ Same H H' ∧ H' F = some (.lst (nv (ls.take i).flatten))) ⟨_, rfl, s1, upd_same⟩ (fun i σ H' _ z => ?_) ?_ ?_⟩
  · obtain ⟨_, _, z, _⟩ := z
    exact SqL.of (z _ _ hx)
  · rintro i x σ H1 H2 hi ⟨v2, rfl, s2, hF2⟩ ⟨rfl, e1⟩
    obtain ⟨t, l, el, rfl, ht⟩ := lx.at e1
    have le1 := flat_len (ls := ls) (i + 1)
    have et : (ls.take (i + 1)).flatten = (ls.take i).flatten ++ l := by rw [List.take_add_one, el]; simp
    rw [et, List.length_append] at le1
    refine ⟨_, rfl, .inl ⟨rfl, _, SqL.of hF2⟩, _, rfl, F, t, _, _, rfl, rfl, hF2, SqT.of (s2 _ _ ht), ?_, ⟨_, rfl, s2.upd hF, ?_⟩⟩
    · rw [nv_length, nv_length]; exact Nat.le_of_lt (szl (by omega))
    · rw [upd_same, et, nv_append]
  · rintro σ H1 ⟨v2, rfl, s2, hF2⟩
    rw [lx.1, List.take_length] at hF2
    exact ⟨_, rfl, q F H1 s2 hF hF2⟩
abbrev st__law_row : Stmt := topS 50
abbrev N__law_row : List Str := ["well", "plan", "row", "left", "some", "one"]
theorem sc__law_row : FnScope N__law_row ["well", "plan"] (defScope st__law_row) := ⟨rfl, rfl, rfl, by decide +kernel, rfl, by decide +kernel, by decide +kernel⟩
theorem ok__law_row (D : Df K mg "_law_row" st__law_row ["well", "plan"]) (B : Bl mg) (K_law_draw : Kn P w K mg base CX0 1 "_law_draw" st__law_draw ["well", "most"] spDraw) :
    Kn P w K mg base CX0 3 "_law_row" st__law_row ["well", "plan"] spLRow := by
  refine D.ok sc__law_row (fun vs H Q E h => ?_) (fun f cdv A outer s H vs Q E hr h => ?_)
  · obtain ⟨wl, a, n, hs, rfl, _⟩ := h; rfl
  obtain ⟨wl, a, n, hs, rfl, hwa, hw, hn, ha, fo, hl, q⟩ := h
  refine ⟨_, ((pss_cons (ps_asg (pe_tup (pa_cons (pe_lst pa_nil) (pa_cons (pe_listRg rfl (by rfl) B.list (prg_1 (by rfl) B.range (pe_callB call_len (by rfl) B.len (by decide +kernel) (pa_cons (pv 1) pa_nil)))) pa_nil))) (pg_tup rfl (pgs_cons (pg_name (i := 2) sc__law_row.nd rfl (Or.inl rfl)) (pgs_cons (pg_name (i := 3) sc__law_row.nd rfl (Or.inr rfl)) pgs_nil))))
      (pss_cons (ps_while PassesOwn.never (pt_cmpR (op_neD hr.units) (pv 3) (pe_lst pa_nil) (nomark _)) (pss_cons (ps_setLc (i := 4) (own := [("one", 5)]) (g := gName 5) rfl sc__law_row.nd rfl rfl (sw_true rfl rfl rfl (by decide +kernel)) (pi_list (pv 3)) (blkOk_by (N := N__law_row) (sc := defScope st__law_row) (own := [("one", 5)]) (by decide +kernel)) (fun _ _ _ _ _ => by (exact (pg_name (i := 5) sc__law_row.nd rfl (Or.inl rfl)))) (fun _ _ _ _ _ => by exact (pts_one (PW.pt (pw_or (pt_cmpR op_isN (pe_ix (ix_tupK K) (pv 1) (pv 5) (fun _ _ => rfl)) pe_non (nomark _)) (pw_or1 (pt_cmpR (op_notIn_seqK K) (pe_ix (ix_tupK K) (pv 1) (pv 5) (fun _ _ => rfl)) (pv 3) (by rfl))))))) (fun _ _ _ _ _ => by exact (pv 5)))
      (pss_cons (ps_set (i := 5) sc__law_row.nd rfl (Or.inl rfl) (pe_ix ix_list (pv 4) (pe_callF K_law_draw (hr.mono (by decide)) pass0 (pa_cons (pv 0) (pa_cons (pe_callB call_len (by rfl) B.len (by decide +kernel) (pa_cons (pv 4) pa_nil)) pa_nil))) (fun _ _ => rfl)))
      (pss_cons (ps_expr (pe_bm PySem.F.plainAttrs_list PySem.F.slot_list_append PySem.F.type_list_append mt_append (pv 2) (pa_cons (pv 5) pa_nil)))
      (pss_one (ps_expr (pe_bm PySem.F.plainAttrs_list PySem.F.slot_list_remove PySem.F.type_list_remove mt_remove (pv 3) (pa_cons (pv 5) pa_nil))))))))
      (pss_one (ps_ret (pv 2)))))), ?_⟩
  refine ⟨by show 0 ≤ sizeLine; decide, fun R hR => ?_⟩
  have s1 : Same H (upd H R (.lst [])) := (Same.refl H).new hR
  have r1 : upd H R (.lst []) R = some (.lst (nv [])) := upd_same
  generalize upd H R (.lst []) = H1 at s1 r1 ⊢
  refine ⟨_, rfl, _, _, rfl, .inr ⟨_, SqT.of (s1 _ _ ha), rfl⟩, ?_⟩
  rw [List.length_map]
  refine ⟨_, rfl, RgOk.of_le (by omega) (by omega) (by omega) (by omega), fun L hL => ?_⟩
  rw [nv_range]
  have s2 := s1.new (o := .lst (nv (List.range hs.length))) hL
  have r2 : upd H1 L (.lst (nv (List.range hs.length))) R = some (.lst (nv [])) := (upd_ne (ne_of_none r1 hL)).trans r1
  have l2 : upd H1 L (.lst (nv (List.range hs.length))) L = some (.lst (nv (List.range hs.length))) := upd_same
  generalize upd H1 L (.lst (nv (List.range hs.length))) = H2 at s2 r2 l2 ⊢
  refine ⟨by show 2 ≤ sizeLine; decide, fun T hT => ?_⟩
  have s3 := s2.new (o := .tup [.ref R, .ref L]) hT
  have r3 : upd H2 T (.tup [.ref R, .ref L]) R = some (.lst (nv [])) := (upd_ne (ne_of_none r2 hT)).trans r2
  have l3 : upd H2 T (.tup [.ref R, .ref L]) L = some (.lst (nv (List.range hs.length))) := (upd_ne (ne_of_none l2 hT)).trans l2
  refine ⟨T, _, rfl, SqT.of upd_same, rfl, _, _, rfl, _, _, rfl, rfl, ?_⟩
  generalize upd H2 T (.tup [.ref R, .ref L]) = H3 at s3 r3 l3 ⊢
  have hLn : H L = none := s1.free hL
  obtain ⟨wl0, hwl0⟩ := hw.here
  have nR : R ≠ wl := (ne_of_none hwl0 hR).symm
  have nL : L ≠ wl := (ne_of_none hwl0 hLn).symm
  have nRL : R ≠ L := ne_of_none r1 hL
  refine ⟨fun m σ H' => ∃ o lf v4 v5, σ = [some (.ref wl), some (.ref a), some (.ref R), some (.ref L), v4, v5] ∧ Keep wl H H' ∧ Well H' wl (n + o.length) ∧ H' R = some (.lst (nv o)) ∧ H' L = some (.lst (nv lf)) ∧ (o ++ lf).Perm (List.range hs.length) ∧ Behind hs o ∧ m = lf.length,
    ⟨_, [], List.range hs.length, _, _, rfl, s3.keep, hw.same s3, r3, l3, List.Perm.refl _, fun i v u e => (by cases e), rfl⟩, ?_⟩
  rintro m σ H4 ⟨o, lf, v4, v5, rfl, k4, w4, r4, l4, pm, bh, rfl⟩
  have plen := pm.length_eq
  rw [List.length_append, List.length_range] at plen
  refine ⟨_, rfl, ⟨by show 0 ≤ sizeLine; decide, fun Z hZ => ?_⟩⟩
  have s5 := (Same.refl H4).new (o := .lst []) hZ
  have z5 : upd H4 Z (.lst []) Z = some (.lst (nv [])) := upd_same
  generalize upd H4 Z (.lst []) = H5 at s5 z5 ⊢
  have k5 := k4.trans s5.keep
  have ha5 := k5 a _ hwa.symm ha
  refine ⟨_, _, dp_list (s5 _ _ l4), dp_list z5, shaped_nD lf, shaped_nD [], _, rfl, ?_⟩
  rw [eqv_list, eqv_nD]
  by_cases c : lf = []
  · subst c
    rw [decide_eq_true rfl]
    refine iteF ?_
    rw [List.append_nil] at pm
    exact ⟨_, rfl, q R o H5 k5 ((w4.same s5).mono (by omega)) hR pm bh (s5 _ _ r4)⟩
  · rw [decide_eq_false c]
    refine iteT ⟨fun σ' H' => ∃ o lf' v4 v5, σ' = [some (.ref wl), some (.ref a), some (.ref R), some (.ref L), v4, v5] ∧ Keep wl H H' ∧ Well H' wl (n + o.length) ∧ H' R = some (.lst (nv o)) ∧ H' L = some (.lst (nv lf')) ∧ (o ++ lf').Perm (List.range hs.length) ∧ Behind hs o ∧ lf'.length < lf.length,
      fun σ' H' ⟨o, lf', v4, v5, e1, e2, e3, e4, e5, e6, e7, e8⟩ => ⟨lf'.length, e8, o, lf', v4, v5, e1, e2, e3, e4, e5, e6, e7, rfl⟩, ?_⟩
    have l5 := s5 _ _ l4
    have r5 := s5 _ _ r4
    have w5 := w4.same s5
    have hlt : ∀ v ∈ lf, v < hs.length := fun v hv' => List.mem_range.mp (pm.mem_iff.mp (List.mem_append_right _ hv'))
    refine ⟨_, rfl, L, rfl, ⟨_, SqL.of l5⟩, fun S hS => lc_it (walk_list (xs := nv lf)) (fun i H' => Same H5 H' ∧ H' S = some (.lst (nv ((lf.take i).filter (isFree hs lf))))) ⟨(Same.refl H5).new hS, upd_same⟩ (fun i H' _ z => SqL.of (z.1 _ _ l5)) ?_ ?_⟩
    · rintro i x H6 H7 hi ⟨s6, f6⟩ ⟨rfl, e1⟩
      rw [nv_length] at hi
      rw [nv_get (List.getElem?_eq_getElem hi)] at e1
      cases e1
      obtain ⟨o2, ho⟩ : ∃ o, hs[lf[i]]? = some o := ⟨_, List.getElem?_eq_getElem (hlt _ (List.getElem_mem hi))⟩
      have ha6 := s6 _ _ ha5
      have lz : ((lf.take i).filter (isFree hs lf)).length ≤ lf.length := by
        have z := List.length_filter_le (isFree hs lf) (lf.take i)
        rw [List.length_take] at z; omega
      have yes : isFree hs lf lf[i] = true → ∃ acc, H7 S = some (.lst acc) ∧ acc.length < sizeLine ∧ (Same H5 (upd H7 S (.lst (acc ++ [V.int (lf[i] : Int)]))) ∧ upd H7 S (.lst (acc ++ [V.int (lf[i] : Int)])) S = some (.lst (nv ((lf.take (i + 1)).filter (isFree hs lf))))) := fun z => by
        refine ⟨_, f6, ?_, s6.upd hS, ?_⟩
        · rw [nv_length]; exact szl (by omega)
        · rw [upd_same, filter_take _ _ _ hi, if_pos z, nv_append]; rfl
      refine ⟨rfl, _, rfl, _, rfl, a, _, _, _, rfl, rfl, SqT.of ha6, atI_nat (hv_at ho), rfl, _, rfl, ?_⟩
      cases o2 with
      | none => exact iteT (iteT ⟨_, rfl, yes (by unfold isFree; rw [ho])⟩)
      | some u =>
        refine iteF ⟨_, rfl, _, rfl, a, _, _, _, rfl, rfl, SqT.of ha6, atI_nat (hv_at ho), _, rfl, L, _, rfl, .inl (SqL.of (s6 _ _ l5)), rfl, flat_nv lf, _, rfl, ?_⟩
        have ei : inV (hv (some u)) (nv lf) = decide (u ∈ lf) := inV_nv u lf
        rw [ei, if_pos rfl]
        by_cases m : u ∈ lf
        · rw [decide_eq_true m]
          refine iteF ⟨s6, ?_⟩
          have z : ¬ isFree hs lf lf[i] = true := by unfold isFree; rw [ho]; simp [m]
          rw [filter_take _ _ _ hi, if_neg z, List.append_nil]
          exact f6
        · rw [decide_eq_false m]
          exact iteT ⟨_, rfl, yes (by unfold isFree; rw [ho]; simp [m])⟩
    · rintro H6 ⟨s6, f6⟩
      rw [nv_length, List.take_length] at f6
      have k6 := k5.trans s6.keep
      have w6 := w5.same s6
      obtain ⟨v0, hv0⟩ := List.exists_mem_of_ne_nil lf c
      obtain ⟨x0, hx0⟩ := free_some fo hlt hv0
      have lz : (lf.filter (isFree hs lf)).length ≤ lf.length := List.length_filter_le _ _
      have lp : 0 < (lf.filter (isFree hs lf)).length := List.length_pos_of_mem hx0
      generalize hfr : lf.filter (isFree hs lf) = fr at f6 lz lp
      have p50 : (2 : Nat) ^ 50 = 1125899906842624 := by decide
      have p60 : (2 : Nat) ^ 60 = 1152921504606846976 := by decide
      have p100 : (2 : Nat) ^ 100 = 1267650600228229401496703205376 := by decide +kernel
      refine ⟨_, rfl, _, rfl, _, rfl, _, _, rfl, .inl ⟨_, SqL.of f6, rfl⟩, wl, n + o.length, _, rfl, w6, by omega, by rw [nv_length]; omega, by rw [nv_length]; omega, fun d H7 d0 d1 k7 w7 => ?_⟩
      rw [nv_length] at d1
      obtain ⟨dn, rfl⟩ : ∃ dn : Nat, d = (dn : Int) := ⟨d.toNat, by omega⟩
      have hdn : dn < fr.length := by omega
      have nS : S ≠ wl := (ne_of_none (w5.here.choose_spec) hS).symm
      have f7 := k7 S _ nS f6
      refine ⟨S, _, _, _, rfl, rfl, SqL.of f7, atI_nat (nv_get (List.getElem?_eq_getElem hdn)), ?_⟩
      have r7 := k7 R _ nR (s6 _ _ r5)
      have l7 := k7 L _ nL (s6 _ _ l5)
      refine ⟨_, rfl, .inl ⟨rfl, _, SqL.of r7⟩, _, rfl, R, _, _, rfl, rfl, r7, by rw [nv_length]; exact szl (by omega), ?_⟩
      have hm : fr[dn] ∈ lf ∧ isFree hs lf fr[dn] = true := by
        have z : fr[dn] ∈ lf.filter (isFree hs lf) := by rw [hfr]; exact List.getElem_mem hdn
        exact List.mem_filter.mp z
      generalize fr[dn] = v at hm ⊢
      obtain ⟨hm1, hm2⟩ := hm
      have k8 : Keep wl H (upd H7 R (.lst (nv o ++ [V.int (v : Int)]))) := fun b u hb e => by
        have nb : b ≠ R := fun z => by rw [z, hR] at e; cases e
        rw [upd_ne nb]; exact (k6.trans k7) b u hb e
      have l8 : upd H7 R (.lst (nv o ++ [V.int (v : Int)])) L = some (.lst (nv lf)) := (upd_ne nRL.symm).trans l7
      have r8 : upd H7 R (.lst (nv o ++ [V.int (v : Int)])) R = some (.lst (nv (o ++ [v]))) := by rw [upd_same, nv_append]; rfl
      have w8 : Well (upd H7 R (.lst (nv o ++ [V.int (v : Int)]))) wl (n + o.length + 1) := by
        obtain ⟨x, y, z, e, r⟩ := w7.ex
        exact ⟨x, y, z, (upd_ne nR.symm).trans e, r⟩
      generalize upd H7 R (.lst (nv o ++ [V.int (v : Int)])) = H8 at k8 l8 r8 w8 ⊢
      obtain ⟨j, ej⟩ := List.mem_iff_getElem?.mp hm1
      have hj : j < lf.length := (List.getElem?_eq_some_iff.mp ej).1
      have ej2 : lf[j] = v := (List.getElem?_eq_some_iff.mp ej).2
      have ndl : lf.Nodup := (List.nodup_append.mp (pm.nodup_iff.mpr List.nodup_range)).2.1
      refine ⟨_, rfl, .inl ⟨rfl, _, SqL.of l8⟩, _, rfl, L, lf.map fun v : Nat => (v : Int), (v : Int), j, rfl, rfl, by rw [List.map_map]; exact l8, by rw [List.getElem?_map, ej]; rfl, fun m hmj z => ?_, ?_⟩
      · rw [List.getElem?_map] at z
        obtain ⟨y, y1, y2⟩ := Option.map_eq_some_iff.mp z
        have y3 : y = v := by have := y2; omega
        rw [y3] at y1
        have := nodup_at ndl y1 ej
        omega
      have pe : (o ++ [v] ++ lf.eraseIdx j).Perm (List.range hs.length) := by
        refine List.Perm.trans ?_ pm
        rw [List.append_assoc]
        refine List.Perm.append_left o ?_
        have z := erase_perm lf j hj
        rw [ej2] at z
        exact z
      have el : (lf.eraseIdx j).length = lf.length - 1 := by rw [List.length_eraseIdx, if_pos hj]
      refine ⟨o ++ [v], lf.eraseIdx j, _, _, rfl, fun b u hb e => ?_, ?_, ?_, ?_, pe, ?_, by omega⟩
      · have nb : b ≠ L := fun z => by rw [z, hLn] at e; cases e
        rw [upd_ne nb]; exact k8 b u hb e
      · rw [List.length_append, List.length_singleton]
        obtain ⟨x, y, z, e, r⟩ := w8.ex
        exact ⟨x, y, z, (upd_ne nL.symm).trans e, by obtain ⟨r1, r2, r3, r4, r5⟩ := r; exact ⟨r1, r2, r3, r4, by omega⟩⟩
      · exact (upd_ne nRL).trans r8
      · rw [upd_same]
        rw [← map_erase, List.map_map]; rfl
      · intro i x u e1 e2
        by_cases ci : i < o.length
        · rw [List.getElem?_append_left ci] at e1
          rw [List.take_append_of_le_length (by omega)]
          exact bh i x u e1 e2
        · have z := (List.getElem?_eq_some_iff.mp e1).1
          rw [List.length_append, List.length_singleton] at z
          have ei : i = o.length := by omega
          subst ei
          rw [List.getElem?_append_right (Nat.le_refl _), Nat.sub_self] at e1
          cases e1
          rw [List.take_append_of_le_length (Nat.le_refl _), List.take_length]
          have mu := pm.mem_iff.mpr (List.mem_range.mpr (fo.inb _ _ e2))
          rcases List.mem_append.mp mu with mu | mu
          · exact mu
          · unfold isFree at hm2
            rw [e2] at hm2
            simp [mu] at hm2
end

/-! ### lots cut from the beginning of a row -/
structure LotOf (o : List Nat) (ls : List (List Nat)) : Prop where
  ne : ∀ l ∈ ls, l ≠ []
  up : ∀ l ∈ ls, l.Pairwise (· < ·)
  pre : ∀ i : Nat, (ls.take i).flatten.Perm (o.take (ls.take i).flatten.length)
theorem LotOf.pm {o : List Nat} {ls : List (List Nat)} (h : LotOf o ls) : ls.flatten.Perm (o.take ls.flatten.length) := by
  have z := h.pre ls.length
  rw [List.take_length] at z; exact z
theorem LotOf.nil {o : List Nat} : LotOf o [] := ⟨fun l h => absurd h List.not_mem_nil, fun l h => absurd h List.not_mem_nil, fun i => by rw [List.take_nil]; exact List.Perm.refl _⟩
theorem LotOf.snoc {o l : List Nat} {ls : List (List Nat)} (h : LotOf o ls) (ne : l ≠ []) (up : l.Pairwise (· < ·)) (pm : l.Perm ((o.drop ls.flatten.length).take l.length)) : LotOf o (ls ++ [l]) := by
  refine ⟨fun m hm => ?_, fun m hm => ?_, fun i => ?_⟩
  · rcases List.mem_append.mp hm with hm | hm
    · exact h.ne m hm
    · rw [List.mem_singleton.mp hm]; exact ne
  · rcases List.mem_append.mp hm with hm | hm
    · exact h.up m hm
    · rw [List.mem_singleton.mp hm]; exact up
  · by_cases c : i ≤ ls.length
    · rw [List.take_append_of_le_length c]; exact h.pre i
    · rw [List.take_of_length_le (by rw [List.length_append, List.length_singleton]; omega), List.flatten_append, List.flatten_singleton, List.length_append, List.take_add]
      exact h.pm.append pm
theorem LotOf.singles (o : List Nat) (d : Nat) : LotOf o ((o.take d).map fun v => [v]) := by
  have e : ∀ l : List Nat, (l.map fun v => [v]).flatten = l := fun l => by
    induction l with
    | nil => rfl
    | cons v l ih => rw [List.map_cons, List.flatten_cons, ih]; rfl
  refine ⟨fun l hl => ?_, fun l hl => ?_, fun i => ?_⟩
  · obtain ⟨v, _, rfl⟩ := List.mem_map.mp hl
    exact List.cons_ne_nil _ _
  · obtain ⟨v, _, rfl⟩ := List.mem_map.mp hl
    exact List.pairwise_singleton _ _
  · rw [← List.map_take, e, List.take_take, List.length_take]
    generalize min i d = d
    have z : o.take (min d o.length) = o.take d := by
      by_cases c : d ≤ o.length
      · rw [Nat.min_eq_left c]
      · rw [Nat.min_eq_right (by omega), List.take_of_length_le (Nat.le_refl _), List.take_of_length_le (by omega)]
    rw [z]
theorem LotOf.stg {n : Nat} {o : List Nat} {ls : List (List Nat)} (h : LotOf o ls) (nd : o.Nodup) (lt : ∀ v ∈ o, v < n) : Stg n ls :=
  ⟨h.ne, h.up, h.pm.nodup_iff.mpr ((List.take_sublist _ _).nodup nd), fun v hv => lt v (List.mem_of_mem_take (h.pm.mem_iff.mp hv))⟩
theorem cut_to (xs : List V) (d : Nat) : cutV xs none (some (d : Int)) = xs.take d := by
  unfold cutV
  rw [HT.sIx_nat, HT.sIx_none, List.drop_zero, Nat.sub_zero]
  by_cases c : d ≤ xs.length
  · rw [Nat.min_eq_left c]
  · rw [Nat.min_eq_right (by omega), List.take_of_length_le (Nat.le_refl _), List.take_of_length_le (by omega)]
theorem cut_from (xs : List V) (d : Nat) : cutV xs (some (d : Int)) none = xs.drop d := by
  unfold cutV
  rw [HT.sIx_nat, HT.sIx_none]
  by_cases c : d ≤ xs.length
  · rw [Nat.min_eq_left c, List.take_of_length_le (by rw [List.length_drop]; omega)]
  · rw [Nat.min_eq_right (by omega), List.drop_of_length_le (Nat.le_refl _), List.drop_of_length_le (by omega), List.take_nil]
theorem cut_mid (xs : List V) {i j : Nat} (h : i ≤ j) (hj : j ≤ xs.length) : cutV xs (some (i : Int)) (some (j : Int)) = (xs.drop i).take (j - i) := by
  unfold cutV
  rw [HT.sIx_nat, HT.sIx_nat, Nat.min_eq_left (by omega), Nat.min_eq_left (by omega)]
theorem nv_take (l : List Nat) (d : Nat) : (nv l).take d = nv (l.take d) := by unfold nv; rw [List.map_take]
theorem nv_drop (l : List Nat) (d : Nat) : (nv l).drop d = nv (l.drop d) := by unfold nv; rw [List.map_drop]
theorem LotsX.put {H : Hp} {xs ys : List V} {ls : List (List Nat)} {G : Addr} {o : HO} (h : LotsX H xs ls) (hG : H G = some (.lst ys)) : LotsX (upd H G o) xs ls := ⟨h.1, fun i x l e1 e2 => by
  obtain ⟨t, e, ht⟩ := h.2 i x l e1 e2
  have n : t ≠ G := fun z => by rw [z, hG] at ht; cases ht
  exact ⟨t, e, (upd_ne n).trans ht⟩⟩
theorem LotsX.keep {H H' : Hp} {xs : List V} {ls : List (List Nat)} {wl : Addr} (h : LotsX H xs ls) (k : Keep wl H H') {ys : List V} (hw : H wl = some (.lst ys)) : LotsX H' xs ls := ⟨h.1, fun i x l e1 e2 => by
  obtain ⟨t, e, ht⟩ := h.2 i x l e1 e2
  have n : t ≠ wl := fun z => by rw [z, hw] at ht; cases ht
  exact ⟨t, e, k t _ n ht⟩⟩
theorem keepNone {H H' : Hp} {wl G : Addr} {l : List V} (k : Keep wl H H') (hw : H' wl = some (.lst l)) (h : H' G = none) : H G = none := by
  cases e : H G with
  | none => rfl
  | some o =>
    have n : G ≠ wl := fun z => by rw [z, hw] at h; cases h
    have z := k G o n e
    rw [h] at z; cases z
theorem Well.put {H : Hp} {wl G : Addr} {n : Nat} {o : HO} (w : Well H wl n) (h : G ≠ wl) : Well (upd H G o) wl n := by
  obtain ⟨x, y, z, e, r⟩ := w.ex
  exact ⟨x, y, z, (upd_ne h.symm).trans e, r⟩
def spLLots : Sp := fun vs H Q _ => ∃ (wl r : Addr) (n : Nat) (o : List Nat), vs = [.ref wl, .ref r] ∧ wl ≠ r ∧ Well H wl n ∧ n < 2 ^ 50 ∧ H r = some (.lst (nv o)) ∧ o.Nodup ∧ 1 ≤ o.length ∧ o.length ≤ 60 ∧
  ∀ p ls H', Keep wl H H' → Well H' wl (n + 20) → H p = none → Lots H' p ls → LotOf o ls → Q (.ref p) H'
/-- ascending ints of naturals are naturals, ascending -/
theorem up_nat {ms : List Int} {l : List Nat} (pm : ms.Perm (l.map fun v : Nat => (v : Int))) (hs : ms.Pairwise (· ≤ ·)) (nd : l.Nodup) : ∃ ns : List Nat, ms = ns.map (fun v : Nat => (v : Int)) ∧ ns.Perm l ∧ ns.Pairwise (· < ·) := by
  have e : ms = (ms.map Int.toNat).map fun v : Nat => (v : Int) := by
    rw [List.map_map]
    conv => lhs; rw [← List.map_id ms]
    refine List.map_congr_left fun x hx => ?_
    obtain ⟨v, _, rfl⟩ := List.mem_map.mp (pm.mem_iff.mp hx)
    rfl
  have p2 : (ms.map Int.toNat).Perm l := by
    have z := pm.map Int.toNat
    rw [List.map_map] at z
    have y : l.map (Int.toNat ∘ fun v : Nat => (v : Int)) = l := by
      conv => rhs; rw [← List.map_id l]
      exact List.map_congr_left fun v _ => rfl
    rwa [y] at z
  refine ⟨ms.map Int.toNat, e, p2, ?_⟩
  generalize ms.map Int.toNat = ns at e p2
  rw [e] at hs
  have h1 : ns.Pairwise (· ≤ ·) := (List.pairwise_map.mp hs).imp fun {a b} h => by omega
  have h2 : ns.Nodup := p2.nodup_iff.mpr nd
  exact (h1.and h2).imp fun {a b} h => by have := h.1; have := h.2; omega

section
variable {P : Program} {w : World} {K : PySem.W.Frag} {mg : Str → Option Value} {base : Heap}
abbrev st__law_lots : Stmt := topS 51
abbrev N__law_lots : List Str := ["well", "row", "lots", "at", "k", "size", "one"]
theorem sc__law_lots : FnScope N__law_lots ["well", "row"] (defScope st__law_lots) := ⟨rfl, rfl, rfl, by decide +kernel, rfl, by decide +kernel, by decide +kernel⟩
theorem ok__law_lots (D : Df K mg "_law_lots" st__law_lots ["well", "row"]) (B : Bl mg) (K_law_draw : Kn P w K mg base CX0 1 "_law_draw" st__law_draw ["well", "most"] spDraw) :
    Kn P w K mg base CX0 3 "_law_lots" st__law_lots ["well", "row"] spLLots := by
  refine D.ok sc__law_lots (fun vs H Q E h => ?_) (fun f cdv A outer s H vs Q E hr h => ?_)
  · obtain ⟨wl, r, n, o, rfl, _⟩ := h; rfl
  obtain ⟨wl, r, n, o, rfl, hwr, hw, hn, ho, nd, hl1, hl2, q⟩ := h
  refine ⟨_, ((pss_cons (ps_par (i := 2) (j := 3) (by rfl) sc__law_lots.nd rfl rfl (by decide) rfl rfl (pa_cons (pe_lst pa_nil) (pa_cons pe_int pa_nil)) (by rfl))
      (pss_cons (ps_if (pt_cmpR op_eq (pe_callF K_law_draw (hr.mono (by decide)) pass0 (pa_cons (pv 0) (pa_cons pe_int pa_nil))) pe_int (nomark _)) (pss_one (ps_ret (pe_lc (own := [("one", 6)]) (g := gName 6) rfl sc__law_lots.nd (pi_list (pe_slice sl_list (pv 1) po_none (po_some (pe_callF K_law_draw (hr.mono (by decide)) pass0 (pa_cons (pv 0) (pa_cons (pe_op op_add (pe_callB call_len (by rfl) B.len (by decide +kernel) (pa_cons (pv 1) pa_nil)) pe_int) pa_nil)))))) (blkOk_by (N := N__law_lots) (sc := defScope st__law_lots) (own := [("one", 6)]) (by decide +kernel)) (fun _ _ _ _ _ => by (exact (pg_name (i := 6) sc__law_lots.nd rfl (Or.inl rfl)))) (fun _ _ _ _ _ => by exact pts_nil) (fun _ _ _ _ _ => by exact (pe_tup (pa_cons (pv 6) pa_nil)))))) pss_nil)
      (pss_cons (ps_for PassesOwn.never rfl (pi_range1 (by rfl) B.range (pa_cons (pe_callF K_law_draw (hr.mono (by decide)) pass0 (pa_cons (pv 0) (pa_cons pe_int pa_nil))) pa_nil)) (pg_name (i := 4) sc__law_lots.nd rfl (Or.inl rfl)) (pss_cons (ps_set (i := 5) sc__law_lots.nd rfl (Or.inl rfl) (pe_callB (call_min2 rfl) (by rfl) B.min (by decide +kernel) (pa_cons (pe_op op_sub (pe_callB call_len (by rfl) B.len (by decide +kernel) (pa_cons (pv 1) pa_nil)) (pv 3)) (pa_cons (pe_op op_add pe_int (pe_callF K_law_draw (hr.mono (by decide)) pass0 (pa_cons (pv 0) (pa_cons (pe_ix ix_list (pe_lst (pa_cons pe_int (pa_cons pe_int (pa_cons (pe_callB call_len (by rfl) B.len (by decide +kernel) (pa_cons (pv 1) pa_nil)) pa_nil)))) (pe_callF K_law_draw (hr.mono (by decide)) pass0 (pa_cons (pv 0) (pa_cons pe_int pa_nil))) (fun _ _ => rfl)) pa_nil)))) pa_nil))))
      (pss_one (ps_if (pt_cmpR op_gt (pv 5) pe_int (nomark _)) (pss_cons (ps_expr (pe_bm PySem.F.plainAttrs_list PySem.F.slot_list_append PySem.F.type_list_append mt_append (pv 2) (pa_cons (pe_callTy call_tuple_of (by rfl) B.tuple (by decide +kernel) (pa_cons (pe_callB cr_sorted (by rfl) B.sorted (by decide +kernel) (pa_cons (pe_slice sl_list (pv 1) (po_some (pv 3)) (po_some (pe_op op_add (pv 3) (pv 5)))) pa_nil)) pa_nil)) pa_nil)))
      (pss_one (ps_set (i := 3) sc__law_lots.nd rfl (Or.inl rfl) (pe_op op_add (pv 3) (pv 5))))) pss_nil))))
      (pss_one (ps_ret (pv 2))))))), ?_⟩
  have p50 : (2 : Nat) ^ 50 = 1125899906842624 := by decide
  have p60 : (2 : Nat) ^ 60 = 1152921504606846976 := by decide
  have p100 : (2 : Nat) ^ 100 = 1267650600228229401496703205376 := by decide +kernel
  obtain ⟨wl0, hwl0⟩ := hw.here
  refine ⟨by show 0 ≤ sizeLine; decide, fun F hF => ?_⟩
  have s1 : Same H (upd H F (.lst [])) := (Same.refl H).new hF
  have f1 : upd H F (.lst []) F = some (.lst []) := upd_same
  generalize upd H F (.lst []) = H1 at s1 f1 ⊢
  have nF : F ≠ wl := (ne_of_none hwl0 hF).symm
  -- if _law_draw(well, 6) == 0
  refine ⟨_, _, rfl, _, rfl, wl, n, _, rfl, hw.same s1, by omega, by omega, by omega, fun d H2 d0 d1 k2 w2 => ⟨rfl, _, rfl, ?_⟩⟩
  have k02 := s1.keep.trans k2
  have o2 := k02 r _ hwr.symm ho
  refine ite2 (fun c => ?_) (fun c => ?_)
  · refine ⟨_, rfl, ?_⟩
    dsimp only [tNoPart]
    refine ⟨_, rfl, _, rfl, _, _, rfl, .inl ⟨_, SqL.of o2, rfl⟩, _, _, rfl, rfl, wl, n + 1, _, rfl, w2, by omega, by rw [nv_length]; omega, by rw [nv_length]; omega, fun e H3 e0 e1 k3 w3 => ?_⟩
    obtain ⟨en, rfl⟩ : ∃ en : Nat, e = (en : Int) := ⟨e.toNat, by omega⟩
    have k03 := k02.trans k3
    have o3 := k03 r _ hwr.symm ho
    refine ⟨_, rfl, r, _, rfl, SqL.of o3, fun p hp => ?_⟩
    rw [cut_to, nv_take]
    have s4 := (Same.refl H3).new (o := .lst (nv (o.take en))) hp
    have p4 : upd H3 p (.lst (nv (o.take en))) p = some (.lst (nv (o.take en))) := upd_same
    generalize upd H3 p (.lst (nv (o.take en))) = H4 at s4 p4 ⊢
    refine ⟨p, rfl, ⟨_, SqL.of p4⟩, fun G hG => lc_it (walk_list (xs := nv (o.take en))) (fun i H' => Same H4 H' ∧ ∃ xs, H' G = some (.lst xs) ∧ LotsX H' xs (((o.take en).take i).map fun v => [v])) ⟨(Same.refl H4).new hG, [], upd_same, .nil⟩ (fun i H' _ z => SqL.of (z.1 _ _ p4)) ?_ ?_⟩
    · rintro i x H5 H6 hi ⟨s5, xs, g5, lx⟩ ⟨rfl, e1⟩
      rw [nv_length] at hi
      rw [nv_get (List.getElem?_eq_getElem hi)] at e1
      cases e1
      have hlen := lx.1
      rw [List.length_map, List.length_take] at hlen
      have hi2 := hi
      rw [List.length_take] at hi2
      refine ⟨rfl, _, rfl, ⟨by show 1 ≤ sizeLine; decide, fun T hT => ?_⟩⟩
      have s6 := s5.new (o := .tup [.int (((o.take en)[i] : Nat) : Int)]) hT
      have g6 : upd H6 T (.tup [.int (((o.take en)[i] : Nat) : Int)]) G = some (.lst xs) := (upd_ne (ne_of_none g5 hT)).trans g5
      have t6 : upd H6 T (.tup [.int (((o.take en)[i] : Nat) : Int)]) T = some (.tup (nv [(o.take en)[i]])) := upd_same
      have lx6 := lx.same ((Same.refl H6).new (o := .tup [.int (((o.take en)[i] : Nat) : Int)]) hT)
      generalize upd H6 T (.tup [.int (((o.take en)[i] : Nat) : Int)]) = H7 at s6 g6 t6 lx6 ⊢
      refine ⟨_, g6, szl (by omega), s6.upd hG, _, upd_same, ?_⟩
      have e2 : ((o.take en).take (i + 1)).map (fun v => [v]) = ((o.take en).take i).map (fun v => [v]) ++ [[(o.take en)[i]]] := by
        rw [List.take_add_one, List.getElem?_eq_getElem hi]; simp
      rw [e2]
      have nT : T ≠ G := fun z => by rw [z, g6] at t6; cases t6
      exact (lx6.put g6).snoc ⟨T, rfl, (upd_ne nT).trans t6⟩
    · rintro H5 ⟨s5, xs, g5, lx⟩
      rw [nv_length, List.take_length] at lx
      have k5 := (k03.trans s4.keep).trans s5.keep
      have w5 := (w3.same s4).same s5
      have hG0 : H G = none := keepNone (k03.trans s4.keep) ((w3.same s4).here.choose_spec) hG
      exact q G _ H5 k5 (w5.mono (by omega)) hG0 ⟨xs, g5, lx⟩ (.singles o en)
  · -- for k in range(_law_draw(well, 5))
    refine ⟨_, rfl, wl, n + 1, _, rfl, w2, by omega, by omega, by omega, fun e H3 e0 e1 k3 w3 => ?_⟩
    obtain ⟨en, rfl⟩ : ∃ en : Nat, e = (en : Int) := ⟨e.toNat, by omega⟩
    have k03 := k02.trans k3
    have f3 := k3 F _ nF (k2 F _ nF f1)
    refine ⟨_, rfl, by omega, by omega, for_it walk_range0 (fun i σ H' => ∃ v4 v5 at_ ls xs, σ = [some (.ref wl), some (.ref r), some (.ref F), some (.int ((at_ : Nat) : Int)), v4, v5, none] ∧ Keep wl H H' ∧ Well H' wl (n + 2 + 2 * i) ∧ H' F = some (.lst xs) ∧ LotsX H' xs ls ∧ LotOf o ls ∧ ls.flatten.length = at_ ∧ at_ ≤ o.length)
      ⟨_, _, 0, [], [], rfl, k03, w3, f3, .nil, .nil, rfl, Nat.zero_le _⟩ (fun _ _ _ _ _ => trivial) ?_ ?_⟩
    · rintro i x σ H4 H5 hi ⟨v4, v5, at_, ls, xs, rfl, k4, w4, f4, lx, lo, hat, hal⟩ ⟨rfl, rfl⟩
      have hi' : i < 5 := by omega
      have o4 := k4 r _ hwr.symm ho
      refine ⟨_, rfl, _, _, rfl, .inl ⟨_, SqL.of o4, rfl⟩, _, rfl, _, _, rfl, rfl, ?_⟩
      refine ⟨_, rfl, _, rfl, _, _, rfl, .inl ⟨_, SqL.of o4, rfl⟩, ⟨by show 3 ≤ sizeLine; decide, fun Z hZ => ?_⟩⟩
      have s5 := (Same.refl H5).new (o := .lst [.int 1, .int 3, .int ((nv o).length : Int)]) hZ
      have z5 : upd H5 Z (.lst [.int 1, .int 3, .int ((nv o).length : Int)]) Z = some (.lst [.int 1, .int 3, .int ((nv o).length : Int)]) := upd_same
      generalize upd H5 Z (.lst [.int 1, .int 3, .int ((nv o).length : Int)]) = H6 at s5 z5 ⊢
      have nZ : Z ≠ wl := (ne_of_none (w4.here.choose_spec) hZ).symm
      refine ⟨_, rfl, wl, n + 2 + 2 * i, _, rfl, w4.same s5, by omega, by omega, by omega, fun g H7 g0 g1 k7 w7 => ?_⟩
      have z7 := k7 Z _ nZ z5
      obtain ⟨mv, hm1, hm2⟩ := pick (xs := [V.int 1, .int 3, .int ((nv o).length : Int)]) g0 g1
      obtain ⟨m, rfl, hm3, hm4⟩ : ∃ m : Int, mv = .int m ∧ 1 ≤ m ∧ m ≤ 60 := by
        rcases List.mem_cons.mp hm1 with e | hm1
        · exact ⟨1, e, by omega, by omega⟩
        rcases List.mem_cons.mp hm1 with e | hm1
        · exact ⟨3, e, by omega, by omega⟩
        · exact ⟨_, List.mem_singleton.mp hm1, by rw [nv_length]; omega, by rw [nv_length]; omega⟩
      refine ⟨Z, _, _, _, rfl, rfl, SqL.of z7, hm2, wl, n + 2 + 2 * i + 1, _, rfl, w7, by omega, hm3, by omega, fun b H8 b0 b1 k8 w8 => ⟨_, _, rfl, rfl, _, _, rfl, ?_⟩⟩
      have k48 := (k4.trans s5.keep).trans (k7.trans k8)
      have o8 := k48 r _ hwr.symm ho
      have f8 := k8 F _ nF (k7 F _ nF (s5 _ _ f4))
      have lx8 := ((lx.same s5).keep k7 ((w4.same s5).here.choose_spec)).keep k8 (w7.here.choose_spec)
      rw [nv_length]
      obtain ⟨bn, rfl⟩ : ∃ bn : Nat, b = (bn : Int) := ⟨b.toNat, by omega⟩
      -- the size as a natural
      obtain ⟨sz, hsz, hsz2⟩ : ∃ sz : Nat, (if 1 + (bn : Int) < (o.length : Int) - (at_ : Int) then 1 + (bn : Int) else (o.length : Int) - (at_ : Int)) = (sz : Int) ∧ sz ≤ o.length - at_ := by
        refine ⟨min (1 + bn) (o.length - at_), ?_, by omega⟩
        split <;> omega
      rw [hsz]
      refine ⟨_, rfl, _, _, rfl, rfl, _, rfl, ?_⟩
      refine ite2 (fun c => ?_) (fun c => ?_)
      · have hpos : 0 < sz := by have := of_decide_eq_true c; omega
        have ec : cutV (nv o) (some (at_ : Int)) (some ((at_ : Int) + (sz : Int))) = nv ((o.drop at_).take sz) := by
          have z := cut_mid (nv o) (i := at_) (j := at_ + sz) (by omega) (by rw [nv_length]; omega)
          rw [show ((at_ : Int) + (sz : Int)) = ((at_ + sz : Nat) : Int) by omega, z, nv_drop, nv_take, Nat.add_sub_cancel_left]
        refine ⟨_, rfl, .inl ⟨rfl, _, SqL.of f8⟩, _, rfl, _, rfl, _, rfl, _, rfl, _, rfl, _, _, rfl, rfl, _, rfl, r, _, rfl, SqL.of o8, fun p hp => ?_⟩
        rw [ec]
        have s9 := (Same.refl H8).new (o := .lst (nv ((o.drop at_).take sz))) hp
        have p9 : upd H8 p (.lst (nv ((o.drop at_).take sz))) p = some (.lst (nv ((o.drop at_).take sz))) := upd_same
        generalize upd H8 p (.lst (nv ((o.drop at_).take sz))) = H9 at s9 p9 ⊢
        have hcl : ((o.drop at_).take sz).length = sz := by rw [List.length_take, List.length_drop]; omega
        have ndc : ((o.drop at_).take sz).Nodup := (List.take_sublist _ _).nodup ((List.drop_sublist _ _).nodup nd)
        refine ⟨p, ((o.drop at_).take sz).map fun v : Nat => (v : Int), rfl, by rw [List.map_map]; exact SqL.of p9, by rw [List.length_map]; omega, fun ms p2 pm rise hp2 => ?_⟩
        obtain ⟨ns, rfl, pn, up⟩ := up_nat pm rise ndc
        rw [List.map_map]
        have s10 := s9.new (o := .lst (nv ns)) hp2
        have p10 : upd H9 p2 (.lst (nv ns)) p2 = some (.lst (nv ns)) := upd_same
        generalize hH : upd H9 p2 (.lst (nv ns)) = H10 at s10 p10
        have hH' : upd H9 p2 (.lst (ns.map (V.int ∘ fun v : Nat => (v : Int)))) = H10 := hH
        rw [hH']
        refine ⟨p2, _, rfl, .inl ⟨SqL.of p10, fun t ht => ?_⟩⟩
        have s11 := s10.new (o := .tup (nv ns)) ht
        have t11 : upd H10 t (.tup (nv ns)) t = some (.tup (nv ns)) := upd_same
        generalize upd H10 t (.tup (nv ns)) = H11 at s11 t11 ⊢
        have f11 := s11 _ _ f8
        have nsl : ns.length = sz := pn.length_eq.trans hcl
        have lxl := lx8.1
        have lmany := flat_ge lo.ne
        refine ⟨F, _, _, rfl, rfl, f11, szl (by omega), ?_⟩
        have nT : t ≠ F := fun z => by rw [z, f11] at t11; cases t11
        refine ⟨_, rfl, _, rfl, _, _, rfl, rfl, ?_⟩
        refine ⟨_, _, at_ + sz, ls ++ [ns], xs ++ [.ref t], rfl, ?_, ((w8.same s11).put nF).mono (by omega), upd_same, ((lx8.same s11).put f11).snoc ⟨t, rfl, (upd_ne nT).trans t11⟩, lo.snoc ?_ up ?_, ?_, by omega⟩
        · intro b u hb e
          have nb : b ≠ F := fun z => by rw [z, hF] at e; cases e
          rw [upd_ne nb]; exact (k48.trans s11.keep) b u hb e
        · intro z; rw [z] at nsl; simp at nsl; omega
        · rw [hat, nsl]; exact pn
        · rw [List.flatten_append, List.flatten_singleton, List.length_append, hat, nsl]
      · exact ⟨_, _, at_, ls, xs, rfl, k48, w8.mono (by omega), f8, lx8, lo, hat, hal⟩
    · rintro σ H4 ⟨v4, v5, at_, ls, xs, rfl, k4, w4, f4, lx, lo, hat, hal⟩
      exact ⟨_, rfl, q F ls H4 k4 (w4.mono (by omega)) hF ⟨xs, f4, lx⟩ lo⟩
end

end My

namespace My
open PySem PySem.Spec PyProof.Rows L2
/-! ### lots that are bent: the mathematics -/
theorem flat_set {ls : List (List Nat)} {i : Nat} {l : List Nat} (h : ls[i]? = some l) : ls.flatten.Perm (l ++ (ls.eraseIdx i).flatten) ∧ ∀ m : List Nat, (ls.set i m).flatten.Perm (m ++ (ls.eraseIdx i).flatten) := by
  have hi := (List.getElem?_eq_some_iff.mp h).1
  have he := (List.getElem?_eq_some_iff.mp h).2
  have e1 : (ls.eraseIdx i).flatten = (ls.take i).flatten ++ (ls.drop (i + 1)).flatten := by rw [List.eraseIdx_eq_take_drop_succ, List.flatten_append]
  have key : ∀ (A B m : List Nat), (A ++ (m ++ B)).Perm (m ++ (A ++ B)) := fun A B m => by
    rw [← List.append_assoc, ← List.append_assoc]
    exact List.perm_append_comm.append_right B
  refine ⟨?_, fun m => ?_⟩
  · have e2 : ls.flatten = (ls.take i).flatten ++ (l ++ (ls.drop (i + 1)).flatten) := by
      conv => lhs; rw [← List.take_append_drop i ls, List.drop_eq_getElem_cons hi, List.flatten_append, List.flatten_cons, he]
    rw [e1, e2]
    exact key _ _ _
  · have e2 : (ls.set i m).flatten = (ls.take i).flatten ++ (m ++ (ls.drop (i + 1)).flatten) := by
      rw [List.set_eq_take_append_cons_drop, if_pos hi, List.flatten_append, List.flatten_cons]
    rw [e1, e2]
    exact key _ _ _
theorem Stg.setP {n i : Nat} {ls : List (List Nat)} {m : List Nat} (s : Stg n ls) (ne : m ≠ []) (up : m.Pairwise (· < ·)) (nd : (ls.set i m).flatten.Nodup) (lt : ∀ v ∈ (ls.set i m).flatten, v < n) : Stg n (ls.set i m) := by
  refine ⟨fun l hl => ?_, fun l hl => ?_, nd, lt⟩
  · rcases List.mem_or_eq_of_mem_set hl with h | h
    · exact s.ne l h
    · rw [h]; exact ne
  · rcases List.mem_or_eq_of_mem_set hl with h | h
    · exact s.up l h
    · rw [h]; exact up
theorem Stg.erase {n i : Nat} {ls : List (List Nat)} (s : Stg n ls) (hi : i < ls.length) : Stg n (ls.eraseIdx i) := by
  have p := (flat_set (List.getElem?_eq_getElem hi)).1
  refine ⟨fun l hl => s.ne l (List.mem_of_mem_eraseIdx hl), fun l hl => s.up l (List.mem_of_mem_eraseIdx hl), ?_, fun v hv => s.lt v (p.mem_iff.mpr (List.mem_append_right _ hv))⟩
  exact (List.nodup_append.mp (p.nodup_iff.mp s.nd)).2.1
theorem Stg.more {n i x : Nat} {ls : List (List Nat)} {l m : List Nat} (s : Stg n ls) (h : ls[i]? = some l) (hx : ¬ x ∈ ls.flatten) (hn : x < n) (pm : m.Perm (l ++ [x])) (up : m.Pairwise (· < ·)) : Stg n (ls.set i m) := by
  obtain ⟨p1, p2⟩ := flat_set h
  have p3 : (ls.set i m).flatten.Perm (x :: ls.flatten) := by
    refine (p2 m).trans ((pm.append_right _).trans ?_)
    rw [List.append_assoc, List.singleton_append]
    exact List.perm_middle.trans ((p1.symm).cons x)
  refine s.setP ?_ up (p3.nodup_iff.mpr (List.nodup_cons.mpr ⟨hx, s.nd⟩)) fun v hv => ?_
  · intro z; rw [z] at pm
    have := pm.length_eq
    rw [List.length_append] at this; simp at this
  · rcases List.mem_cons.mp (p3.mem_iff.mp hv) with e | e
    · rw [e]; exact hn
    · exact s.lt v e
theorem Stg.less {n i : Nat} {ls : List (List Nat)} {l m : List Nat} (s : Stg n ls) (h : ls[i]? = some l) (ne : m ≠ []) (sb : List.Sublist m l) : Stg n (ls.set i m) := by
  obtain ⟨p1, p2⟩ := flat_set h
  have sb2 := sb.append_right (ls.eraseIdx i).flatten
  refine s.setP ne ((s.up l (List.mem_of_getElem? h)).sublist sb) ((p2 m).nodup_iff.mpr (sb2.nodup (p1.nodup_iff.mp s.nd))) fun v hv => ?_
  exact s.lt v (p1.mem_iff.mpr (sb2.subset ((p2 m).mem_iff.mp hv)))
theorem Stg.swap {n i j : Nat} {ls : List (List Nat)} {l m : List Nat} (s : Stg n ls) (h : ls[i]? = some l) (h2 : ls[j]? = some m) : Stg n ((ls.set i m).set j l) := by
  have pf : ((ls.set i m).set j l).flatten.Perm ls.flatten := by
    by_cases c : i = j
    · subst c
      rw [h] at h2; cases h2
      rw [List.set_set]
      exact ((flat_set h).2 l).trans (flat_set h).1.symm
    · have h3 : (ls.set i m)[j]? = some m := by rw [List.getElem?_set_ne c]; exact h2
      obtain ⟨p1, p2⟩ := flat_set h
      obtain ⟨q1, q2⟩ := flat_set h3
      have r : ((ls.set i m).eraseIdx j).flatten.Perm (ls.eraseIdx i).flatten := (List.perm_append_left_iff m).mp (q1.symm.trans (p2 m))
      exact (q2 l).trans ((r.append_left l).trans p1.symm)
  have mem : ∀ x ∈ (ls.set i m).set j l, x ∈ ls := fun x hx => by
    rcases List.mem_or_eq_of_mem_set hx with e | e
    · rcases List.mem_or_eq_of_mem_set e with e | e
      · exact e
      · rw [e]; exact List.mem_of_getElem? h2
    · rw [e]; exact List.mem_of_getElem? h
  exact ⟨fun x hx => s.ne x (mem x hx), fun x hx => s.up x (mem x hx), pf.nodup_iff.mpr s.nd, fun v hv => s.lt v (pf.mem_iff.mp hv)⟩
theorem LotsX.set {H : Hp} {xs : List V} {ls : List (List Nat)} {x : V} {l : List Nat} (h : LotsX H xs ls) (i : Nat) (hx : Lot H x l) : LotsX H (xs.set i x) (ls.set i l) := by
  refine ⟨by rw [List.length_set, List.length_set, h.1], fun j y m e1 e2 => ?_⟩
  by_cases c : i = j
  · subst c
    have hi := (List.getElem?_eq_some_iff.mp e1).1
    have hi2 := (List.getElem?_eq_some_iff.mp e2).1
    rw [List.length_set] at hi hi2
    rw [List.getElem?_set_self hi] at e1
    rw [List.getElem?_set_self hi2] at e2
    cases e1; cases e2
    exact hx
  · rw [List.getElem?_set_ne c] at e1 e2
    exact h.2 j y m e1 e2
theorem LotsX.erase {H : Hp} {xs : List V} {ls : List (List Nat)} (h : LotsX H xs ls) (i : Nat) : LotsX H (xs.eraseIdx i) (ls.eraseIdx i) := by
  refine ⟨by rw [List.length_eraseIdx, List.length_eraseIdx, h.1], fun j y m e1 e2 => ?_⟩
  rw [List.getElem?_eraseIdx] at e1 e2
  by_cases c : j < i
  · rw [if_pos c] at e1 e2
    exact h.2 j y m e1 e2
  · rw [if_neg c] at e1 e2
    exact h.2 (j + 1) y m e1 e2
/-- lots as data -/
def lD (ls : List (List Nat)) : List PyData := ls.map fun l => PyData.tuple (nD l)
theorem dp_lots {K : PySem.W.Frag} {H : Hp} : ∀ {xs : List V} {ls : List (List Nat)}, LotsX H xs ls → DpAll K H xs (lD ls)
  | [], [], _ => .nil
  | [], _ :: _, h => by have := h.1; cases this
  | _ :: _, [], h => by have := h.1; cases this
  | x :: xs, l :: ls, h => by
    obtain ⟨t, e, ht⟩ := h.2 0 x l rfl rfl
    subst e
    exact .cons (.tup (SqT.of ht) (dp_nv l)) (dp_lots ⟨Nat.succ.inj h.1, fun i y m e1 e2 => h.2 (i + 1) y m e1 e2⟩)
theorem lay_lD : ∀ ls : List (List Nat), PyData.canLayAll0 (lD ls) = true
  | [] => rfl
  | l :: ls => by
    show PyData.canLayAll0 (PyData.tuple (nD l) :: lD ls) = true
    rw [PyData.canLayAll0, lay_lD ls, PyData.canLay0, lay_nD]; rfl
theorem deep_lD : ∀ ls : List (List Nat), PyData.depthAll (lD ls) ≤ 1
  | [] => Nat.zero_le _
  | l :: ls => by
    show PyData.depthAll (PyData.tuple (nD l) :: lD ls) ≤ 1
    rw [PyData.depthAll, PyData.depth, deep_nD]
    exact Nat.max_le.mpr ⟨Nat.le_refl _, deep_lD ls⟩
theorem shaped_lD (ls : List (List Nat)) : SeqAt.shaped (.list (lD ls)) = true := by
  unfold SeqAt.shaped
  have d := deep_lD ls
  rw [PyData.canLay0, lay_lD, PyData.depth, Bool.true_and, decide_eq_true_eq]
  omega
theorem eqv_lD (ls : List (List Nat)) : PyData.eqv (.list (lD ls)) (.list (nD [])) = decide (ls = []) := by
  rw [eqv_list]
  cases ls with
  | nil => rfl
  | cons l ls => rfl

end My

namespace My
open PySem PySem.Spec PyProof.Rows L2
/-! ### parts of tuples, tuples put together -/
theorem cut_whole (xs : List V) {lo hi : Option Int} (h : HT.sIx xs.length 0 lo = 0 ∧ HT.sIx xs.length xs.length hi = xs.length) : cutV xs lo hi = xs := by
  unfold cutV
  rw [h.1, h.2, List.drop_zero, Nat.sub_zero, List.take_length]
theorem cut_mem {xs : List V} {lo hi : Option Int} {y : V} (h : y ∈ cutV xs lo hi) : y ∈ xs := List.mem_of_mem_drop (List.mem_of_mem_take h)
theorem cut_lo (xs : List V) (d : Nat) : (cutV xs none (some (d : Int))).length ≤ d := by
  unfold cutV
  rw [HT.sIx_nat, HT.sIx_none, List.length_take]
  omega
theorem cut_hi (xs : List V) (d : Nat) : (cutV xs (some (d : Int)) none).length ≤ xs.length - d := by
  unfold cutV
  rw [HT.sIx_nat, HT.sIx_none, List.length_take, List.length_drop]
  omega
theorem slA {K : PySem.W.Frag} {H : Hp} {t : Addr} {xs : List V} {lo hi : Option Int} {Q : VK} (h : H t = some (.tup xs)) (q : ∀ p H', Same H H' → H' p = some (.tup (cutV xs lo hi)) → Q (.ref p) H') : rSlA K (.ref t) lo hi H Q :=
  ⟨t, xs, rfl, SqT.of h, fun c => q t H (Same.refl H) (by rw [cut_whole xs c]; exact h), fun _ p hp => q p _ ((Same.refl H).new hp) upd_same⟩
theorem catA {K : PySem.W.Frag} {H : Hp} {a b : Addr} {xs ys : List V} {Q : VK} (ha : H a = some (.tup xs)) (hb : H b = some (.tup ys)) (hz : xs.length + ys.length ≤ 1000) (q : ∀ p H', Same H H' → H' p = some (.tup (xs ++ ys)) → Q (.ref p) H') : rCatA K (.ref a) (.ref b) H Q := by
  refine ⟨a, b, xs, ys, rfl, rfl, SqT.of ha, SqT.of hb, Nat.le_of_lt (szl hz), fun e => ?_, fun _ e => ?_, fun _ _ p hp => q p _ ((Same.refl H).new hp) upd_same⟩
  · subst e; exact q b H (Same.refl H) hb
  · subst e; exact q a H (Same.refl H) (by rw [List.append_nil]; exact ha)

/-! ### lots that are bent -/
theorem notin_succ (S : List Nat) (i : Nat) : (List.range (i + 1)).filter (fun v => decide (¬ v ∈ S)) = (List.range i).filter (fun v => decide (¬ v ∈ S)) ++ (if i ∈ S then [] else [i]) := by
  rw [List.range_succ, List.filter_append]
  by_cases c : i ∈ S <;> simp [c]
def spLBent : Sp := fun vs H Q _ => ∃ (wl p : Addr) (n : Nat) (m : Nat) (ls : List (List Nat)), vs = [.ref wl, .ref p, .int (n : Int)] ∧ wl ≠ p ∧ Well H wl m ∧ m < 2 ^ 50 ∧ Lots H p ls ∧ Stg n ls ∧ n ≤ 60 ∧
  ∀ p' ls' H', Keep wl H H' → Well H' wl (m + 5) → H p' = none → Lots H' p' ls' → Stg n ls' → Q (.ref p') H'
section
variable {P : Program} {w : World} {K : PySem.W.Frag} {mg : Str → Option Value} {base : Heap}
abbrev st__law_bent : Stmt := topS 53
abbrev N__law_bent : List Str := ["well", "lots", "size", "way", "pick", "mate", "fresh", "found", "cut", "one"]
theorem sc__law_bent : FnScope N__law_bent ["well", "lots", "size"] (defScope st__law_bent) := ⟨rfl, rfl, rfl, by decide +kernel, rfl, by decide +kernel, by decide +kernel⟩
theorem ok__law_bent (D : Df K mg "_law_bent" st__law_bent ["well", "lots", "size"]) (B : Bl mg) (K_law_draw : Kn P w K mg base CX0 1 "_law_draw" st__law_draw ["well", "most"] spDraw)
    (K_law_flat : Kn P w K mg base CX0 1 "_law_flat" st__law_flat ["lots"] spLFlat) :
    Kn P w K mg base CX0 3 "_law_bent" st__law_bent ["well", "lots", "size"] spLBent := by
  refine D.ok sc__law_bent (fun vs H Q E h => ?_) (fun f cdv A outer s H vs Q E hr h => ?_)
  · obtain ⟨wl, p, n, m, ls, rfl, _⟩ := h; rfl
  obtain ⟨wl, p, n, m, ls, rfl, hwp, hw, hm, ⟨xs, hx, lx⟩, st, hn, q⟩ := h
  refine ⟨_, ((pss_cons (ps_if (pt_cmpR (op_eqD hr.units) (pv 1) (pe_lst pa_nil) (nomark _)) (pss_one (ps_ret (pe_lst pa_nil))) pss_nil)
      (pss_cons (ps_par3 (i := 3) (j := 4) (l := 5) (by rfl) sc__law_bent.nd rfl rfl rfl (by decide) (by decide) (by decide) rfl rfl rfl (pa_cons (pe_callF K_law_draw (hr.mono (by decide)) pass0 (pa_cons (pv 0) (pa_cons pe_int pa_nil))) (pa_cons (pe_callF K_law_draw (hr.mono (by decide)) pass0 (pa_cons (pv 0) (pa_cons (pe_callB call_len (by rfl) B.len (by decide +kernel) (pa_cons (pv 1) pa_nil)) pa_nil))) (pa_cons (pe_callF K_law_draw (hr.mono (by decide)) pass0 (pa_cons (pv 0) (pa_cons (pe_callB call_len (by rfl) B.len (by decide +kernel) (pa_cons (pv 1) pa_nil)) pa_nil))) pa_nil))) (by rfl))
      (pss_cons (ps_setLc (i := 6) (own := [("one", 9)]) (g := gName 9) rfl sc__law_bent.nd rfl rfl (sw_true rfl rfl rfl (by decide +kernel)) (pi_range1 (by rfl) B.range (pa_cons (pv 2) pa_nil)) (blkOk_by (N := N__law_bent) (sc := defScope st__law_bent) (own := [("one", 9)]) (by decide +kernel)) (fun _ _ _ _ _ => by (exact (pg_name (i := 9) sc__law_bent.nd rfl (Or.inl rfl)))) (fun _ _ _ _ _ => by exact (pts_one (pt_cmpR (op_notIn_seqK K) (pv 9) (pe_callF K_law_flat (hr.mono (by decide)) pass0 (pa_cons (pv 1) pa_nil)) (by rfl)))) (fun _ _ _ _ _ => by exact (pv 9)))
      (pss_cons (ps_set (i := 7) sc__law_bent.nd rfl (Or.inl rfl) (pe_callTy call_list_of (by rfl) B.list (by decide +kernel) (pa_cons (pv 1) pa_nil)))
      (pss_cons (ps_if (pt_cmpR op_eq (pv 3) pe_int (nomark _)) (pss_one (ps_ret (pe_op op_cat (pe_slice sl_list (pv 1) po_none (po_some (pv 4))) (pe_slice sl_list (pv 1) (po_some (pe_op op_add (pv 4) pe_int)) po_none)))) pss_nil)
      (C8.pss_cut (ps_if (pt_cmpR op_eq (pv 3) pe_int (nomark _)) (pss_cons (ps_asg (pe_ix ix_list (pv 1) (pv 5) (fun _ _ => rfl)) (pg_sub (pv 7) (pv 4) set_list))
      (pss_one (ps_asg (pe_ix ix_list (pv 1) (pv 4) (fun _ _ => rfl)) (pg_sub (pv 7) (pv 5) set_list)))) pss_nil)
      (C8.pss_cut (ps_if (PW.pt (pw_and (pt_cmpR op_eq (pv 3) pe_int (nomark _)) (pw_and1 (pt_cmpR (op_neD hr.units) (pv 6) (pe_lst pa_nil) (nomark _))))) (pss_one (ps_asg (pe_callTy call_tuple_of (by rfl) B.tuple (by decide +kernel) (pa_cons (pe_callB cr_sortedTup (by rfl) B.sorted (by decide +kernel) (pa_cons (pe_op op_catA (pe_ix ix_list (pv 1) (pv 4) (fun _ _ => rfl)) (pe_tup (pa_cons (pe_ix ix_list (pv 6) (pe_callF K_law_draw (hr.mono (by decide)) pass0 (pa_cons (pv 0) (pa_cons (pe_callB call_len (by rfl) B.len (by decide +kernel) (pa_cons (pv 6) pa_nil)) pa_nil))) (fun _ _ => rfl)) pa_nil))) pa_nil)) pa_nil)) (pg_sub (pv 7) (pv 4) set_list))) pss_nil)
      (C8.pss_cut (ps_if (PW.pt (pw_and (pt_cmpR op_eq (pv 3) pe_int (nomark _)) (pw_and1 (pt_cmpR op_gt (pe_callB call_len (by rfl) B.len (by decide +kernel) (pa_cons (pe_ix ix_list (pv 1) (pv 4) (fun _ _ => rfl)) pa_nil)) pe_int (nomark _))))) (pss_cons (ps_set (i := 8) sc__law_bent.nd rfl (Or.inl rfl) (pe_callF K_law_draw (hr.mono (by decide)) pass0 (pa_cons (pv 0) (pa_cons (pe_callB call_len (by rfl) B.len (by decide +kernel) (pa_cons (pe_ix ix_list (pv 1) (pv 4) (fun _ _ => rfl)) pa_nil)) pa_nil))))
      (pss_one (ps_asg (pe_op op_catA (pe_slice sl_tupA (pe_ix ix_list (pv 1) (pv 4) (fun _ _ => rfl)) po_none (po_some (pv 8))) (pe_slice sl_tupA (pe_ix ix_list (pv 1) (pv 4) (fun _ _ => rfl)) (po_some (pe_op op_add (pv 8) pe_int)) po_none)) (pg_sub (pv 7) (pv 4) set_list)))) pss_nil)
      (pss_one (ps_ret (pv 7)))))))))))), ?_⟩
  have p50 : (2 : Nat) ^ 50 = 1125899906842624 := by decide
  have p60 : (2 : Nat) ^ 60 = 1152921504606846976 := by decide
  have p100 : (2 : Nat) ^ 100 = 1267650600228229401496703205376 := by decide +kernel
  have size := st.size
  have many := st.many
  obtain ⟨wl0, hwl0⟩ := hw.here
  -- if lots == []: return []
  refine ⟨_, rfl, ⟨by show 0 ≤ sizeLine; decide, fun Z hZ => ?_⟩⟩
  have s1 := (Same.refl H).new (o := .lst []) hZ
  have z1 : upd H Z (.lst []) Z = some (.lst (nv [])) := upd_same
  generalize upd H Z (.lst []) = H1 at s1 z1 ⊢
  refine ⟨_, _, .lst (SqL.of (s1 _ _ hx)) (dp_lots (lx.same s1)), dp_list z1, shaped_lD ls, shaped_nD [], _, rfl, ?_⟩
  rw [eqv_lD]
  by_cases c0 : ls = []
  · rw [decide_eq_true c0]
    refine iteT ⟨by show 0 ≤ sizeLine; decide, fun Y hY => ?_⟩
    exact q Y [] _ (s1.keep.new hY) ((hw.same (s1.new hY)).mono (by omega)) (s1.free hY) ⟨[], upd_same, .nil⟩ ⟨fun l h => absurd h List.not_mem_nil, fun l h => absurd h List.not_mem_nil, List.nodup_nil, fun v h => absurd h List.not_mem_nil⟩
  rw [decide_eq_false c0]
  refine iteF ?_
  have pos : 0 < ls.length := List.length_pos_iff.mpr c0
  have hx1 := s1 _ _ hx
  -- way, pick, mate
  refine ⟨_, rfl, wl, m, _, rfl, hw.same s1, by omega, by omega, by omega, fun way H2 y0 y1 k2 w2 => ?_⟩
  have hx2 := k2 p _ hwp.symm hx1
  refine ⟨_, rfl, _, rfl, _, _, rfl, .inl ⟨_, SqL.of hx2, rfl⟩, wl, m + 1, _, rfl, w2, by omega, by rw [lx.1]; omega, by rw [lx.1]; omega, fun pick H3 i0 i1 k3 w3 => ?_⟩
  have hx3 := k3 p _ hwp.symm hx2
  refine ⟨_, rfl, _, rfl, _, _, rfl, .inl ⟨_, SqL.of hx3, rfl⟩, wl, m + 2, _, rfl, w3, by omega, by rw [lx.1]; omega, by rw [lx.1]; omega, fun mate H4 j0 j1 k4 w4 => ?_⟩
  have k04 : Keep wl H H4 := s1.keep.trans (k2.trans (k3.trans k4))
  rw [lx.1] at i1 j1
  obtain ⟨pk, rfl⟩ : ∃ pk : Nat, pick = (pk : Int) := ⟨pick.toNat, by omega⟩
  obtain ⟨mt, rfl⟩ : ∃ mt : Nat, mate = (mt : Int) := ⟨mate.toNat, by omega⟩
  have hpk : pk < ls.length := by omega
  have hmt : mt < ls.length := by omega
  have hx4 := k4 p _ hwp.symm hx3
  have lx4 := lx.keep k04 hwl0
  refine ⟨_, _, _, rfl, ?_⟩
  -- fresh
  refine ⟨_, rfl, _, rfl, by omega, by omega, fun L hL => lc_it walk_range0 (fun i H' => Same H4 H' ∧ H' L = some (.lst (nv ((List.range i).filter fun v => decide (¬ v ∈ ls.flatten))))) ⟨(Same.refl H4).new hL, upd_same⟩ (fun _ _ _ _ => trivial) ?_ ?_⟩
  · rintro i x H5 H6 hi ⟨s5, l5⟩ ⟨rfl, rfl⟩
    have lz := List.length_filter_le (fun v => decide (¬ v ∈ ls.flatten)) (List.range i)
    rw [List.length_range] at lz
    have hi2 : i < 60 := by omega
    refine ⟨rfl, _, rfl, _, rfl, p, ls, rfl, ⟨xs, s5 _ _ hx4, lx4.same s5⟩, by omega, fun r H7 s7 hr7 o7 => ⟨r, _, rfl, .inl (SqL.of o7), rfl, flat_nv _, _, rfl, ?_⟩⟩
    have ei : inV (.int (i : Int)) (nv ls.flatten) = decide (i ∈ ls.flatten) := inV_nv i _
    rw [ei, if_pos rfl]
    have er : (List.range (i + 1)).filter (fun v => decide (¬ v ∈ ls.flatten)) = (List.range i).filter (fun v => decide (¬ v ∈ ls.flatten)) ++ (if i ∈ ls.flatten then [] else [i]) := notin_succ _ _
    by_cases c : i ∈ ls.flatten
    · rw [decide_eq_true c]
      refine iteF ⟨s5.trans s7, ?_⟩
      rw [er, if_pos c, List.append_nil]
      exact s7 _ _ l5
    · rw [decide_eq_false c]
      refine iteT ⟨_, rfl, _, s7 _ _ l5, by rw [nv_length]; exact szl (by omega), (s5.trans s7).upd hL, ?_⟩
      rw [upd_same, er, if_neg c, nv_append]; rfl
  rintro H5 ⟨s5, l5⟩
  obtain ⟨fr, hfr⟩ : ∃ fr, (List.range n).filter (fun v => decide (¬ v ∈ ls.flatten)) = fr := ⟨_, rfl⟩
  replace l5 : H5 L = some (.lst (nv fr)) := by rw [← hfr]; exact l5
  have hfr1 : ∀ v ∈ fr, v < n ∧ ¬ v ∈ ls.flatten := fun v hv' => by
    rw [← hfr] at hv'
    have z := List.mem_filter.mp hv'
    exact ⟨List.mem_range.mp z.1, of_decide_eq_true z.2⟩
  have hfr2 : fr.length ≤ n := by
    rw [← hfr]
    have z := List.length_filter_le (fun v => decide (¬ v ∈ ls.flatten)) (List.range n)
    rw [List.length_range] at z; exact z
  have k05 := k04.trans s5.keep
  have w5 := w4.same s5
  have hx5 := s5 _ _ hx4
  have lx5 := lx4.same s5
  have nL : L ≠ wl := (ne_of_none (w4.here.choose_spec) hL).symm
  have hL0 : H L = none := keepNone k04 (w4.here.choose_spec) hL
  -- found = list(lots)
  refine ⟨_, rfl, p, _, rfl, .inl (SqL.of hx5), fun F hF => ?_⟩
  have s6 := (Same.refl H5).new (o := .lst xs) hF
  have f6 : upd H5 F (.lst xs) F = some (.lst xs) := upd_same
  have hF0 : H F = none := keepNone k05 (w5.here.choose_spec) hF
  have nF : F ≠ wl := (ne_of_none (w5.here.choose_spec) hF).symm
  generalize upd H5 F (.lst xs) = H6 at s6 f6 ⊢
  have k06 := k05.trans s6.keep
  have w6 := w5.same s6
  have hx6 := s6 _ _ hx5
  have lx6 := lx5.same s6
  have l6 := s6 _ _ l5
  have nFp : F ≠ p := (ne_of_none hx5 hF).symm
  have nFL : F ≠ L := (ne_of_none l5 hF).symm
  -- if way == 0: return lots[:pick] + lots[pick + 1:]
  refine ⟨_, rfl, rfl, _, rfl, ?_⟩
  refine ite2 (fun c => ?_) (fun c => ?_)
  · refine ⟨_, rfl, ?_⟩
    dsimp only [tNoPart]
    refine ⟨_, rfl, _, rfl, p, _, rfl, SqL.of hx6, fun A hA => ?_⟩
    rw [cut_to]
    have s7 := (Same.refl H6).new (o := .lst (xs.take pk)) hA
    have a7 : upd H6 A (.lst (xs.take pk)) A = some (.lst (xs.take pk)) := upd_same
    generalize upd H6 A (.lst (xs.take pk)) = H7 at s7 a7 ⊢
    refine ⟨_, rfl, _, rfl, _, _, rfl, rfl, _, rfl, p, _, rfl, SqL.of (s7 _ _ hx6), fun B' hB => ?_⟩
    rw [show ((pk : Int) + 1) = ((pk + 1 : Nat) : Int) by omega, cut_from]
    have s8 := s7.new (o := .lst (xs.drop (pk + 1))) hB
    have a8 : upd H7 B' (.lst (xs.drop (pk + 1))) A = some (.lst (xs.take pk)) := (upd_ne (ne_of_none a7 hB)).trans a7
    have b8 : upd H7 B' (.lst (xs.drop (pk + 1))) B' = some (.lst (xs.drop (pk + 1))) := upd_same
    generalize upd H7 B' (.lst (xs.drop (pk + 1))) = H8 at s8 a8 b8 ⊢
    refine ⟨A, B', _, _, rfl, rfl, a8, b8, Nat.le_of_lt (szl ?_), fun C hC => ?_⟩
    · rw [List.length_take, List.length_drop, lx.1]; omega
    have s9 := s8.new (o := .lst (xs.take pk ++ xs.drop (pk + 1))) hC
    rw [← List.eraseIdx_eq_take_drop_succ] at s9 ⊢
    refine q C (ls.eraseIdx pk) _ (k06.trans s9.keep) ((w6.same s9).mono (by omega)) (keepNone (k06.trans s8.keep) ((w6.same s8).here.choose_spec) hC) ⟨_, upd_same, ?_⟩ (st.erase hpk)
    exact (lx6.same s9).erase pk
  -- if way == 1
  have hgx : ∀ i : Nat, i < ls.length → ∃ t l, ls[i]? = some l ∧ xs[i]? = some (.ref t) ∧ H t = some (.tup (nv l)) := fun i hi => by
    obtain ⟨t, e1, e2⟩ := lx.of (List.getElem?_eq_getElem hi)
    exact ⟨t, _, List.getElem?_eq_getElem hi, e1, e2⟩
  obtain ⟨tp, lp, elp, exp', htp⟩ := hgx pk hpk
  obtain ⟨tm, lm, elm, exm, htm⟩ := hgx mt hmt
  have nwt : ∀ {t : Addr} {l : List V}, H t = some (.tup l) → t ≠ wl := fun h z => by rw [z, hwl0] at h; cases h
  refine ⟨fun σ' H' => ∃ v8 ys ls', σ' = [some (.ref wl), some (.ref p), some (.int (n : Int)), some (.int way), some (.int (pk : Int)), some (.int (mt : Int)), some (.ref L), some (.ref F), v8, none] ∧ Keep wl H H' ∧ Well H' wl (m + 3) ∧ H' F = some (.lst ys) ∧ H' L = some (.lst (nv fr)) ∧ LotsX H' ys ls' ∧ Stg n ls' ∧ (way = 1 ∨ (ys = xs ∧ ls' = ls)), ?_, ?_⟩
  · refine ⟨_, rfl, rfl, _, rfl, ?_⟩
    refine ite2 (fun c2 => ?_) (fun c2 => ?_)
    · have ew : way = 1 := V.int.inj (of_decide_eq_true c2)
      refine ⟨_, rfl, _, rfl, p, _, _, _, rfl, rfl, SqL.of hx6, atI_nat exm, _, rfl, _, rfl, F, _, _, pk, rfl, rfl, f6, ixN_nat (by rw [lx.1]; exact hpk), ?_⟩
      have s7k : Keep F H6 (upd H6 F (.lst (xs.set pk (.ref tm)))) := Keep.upd _ _ _
      have f7 : upd H6 F (.lst (xs.set pk (.ref tm))) F = some (.lst (xs.set pk (.ref tm))) := upd_same
      have w7 : Well (upd H6 F (.lst (xs.set pk (.ref tm)))) wl (m + 3) := w6.put nF
      have lx7 := lx6.put (o := .lst (xs.set pk (.ref tm))) f6
      generalize upd H6 F (.lst (xs.set pk (.ref tm))) = H7 at s7k f7 w7 lx7 ⊢
      refine ⟨_, rfl, _, rfl, p, _, _, _, rfl, rfl, SqL.of (s7k p _ nFp.symm hx6), atI_nat exp', _, rfl, _, rfl, F, _, _, mt, rfl, rfl, f7, ixN_nat (by rw [List.length_set, lx.1]; exact hmt), ?_⟩
      have lx8 := lx7.put (o := .lst ((xs.set pk (.ref tm)).set mt (.ref tp))) f7
      have hput : ∀ (t : Addr) (l : List Nat), H t = some (.tup (nv l)) → Lot (upd H7 F (.lst ((xs.set pk (.ref tm)).set mt (.ref tp)))) (.ref t) l := fun t l ht => by
        have n1 : t ≠ F := fun z => by rw [z, hF0] at ht; cases ht
        exact ⟨t, rfl, (upd_ne n1).trans (s7k t _ n1 (k06 t _ (nwt ht) ht))⟩
      refine ⟨_, _, (ls.set pk lm).set mt lp, rfl, ?_, w7.put nF, upd_same, (upd_ne nFL.symm).trans (s7k L _ nFL.symm l6), (lx8.set pk (hput tm lm htm)).set mt (hput tp lp htp), st.swap elp elm, .inl ew⟩
      intro b u hb e
      have nb : b ≠ F := fun z => by rw [z, hF0] at e; cases e
      rw [upd_ne nb]; exact s7k b u nb (k06 b u hb e)
    · exact ⟨_, xs, ls, rfl, k06, w6, f6, l6, lx6, st, .inr ⟨rfl, rfl⟩⟩
  rintro σ' H7 ⟨v8, ys, ls', rfl, k7, w7, f7, l7, lx7, st7, alt⟩
  -- if way == 2 and fresh != []
  refine ⟨fun σ' H' => ∃ v8 ys ls', σ' = [some (.ref wl), some (.ref p), some (.int (n : Int)), some (.int way), some (.int (pk : Int)), some (.int (mt : Int)), some (.ref L), some (.ref F), v8, none] ∧ Keep wl H H' ∧ Well H' wl (m + 4) ∧ H' F = some (.lst ys) ∧ LotsX H' ys ls' ∧ Stg n ls' ∧ (way = 1 ∨ way = 2 ∨ (ys = xs ∧ ls' = ls)), ?_, ?_⟩
  · refine ⟨_, rfl, rfl, _, rfl, ?_⟩
    refine ite2 (fun c2 => ?_) (fun c2 => ?_)
    · have ew : way = 2 := V.int.inj (of_decide_eq_true c2)
      obtain ⟨rfl, rfl⟩ : ys = xs ∧ ls' = ls := by
        rcases alt with e | e
        · omega
        · exact e
      refine ⟨_, rfl, ⟨by show 0 ≤ sizeLine; decide, fun Y hY => ?_⟩⟩
      have s8 := (Same.refl H7).new (o := .lst []) hY
      have y8 : upd H7 Y (.lst []) Y = some (.lst (nv [])) := upd_same
      generalize upd H7 Y (.lst []) = H8 at s8 y8 ⊢
      refine ⟨_, _, dp_list (s8 _ _ l7), dp_list y8, shaped_nD fr, shaped_nD [], _, rfl, ?_⟩
      rw [eqv_list, eqv_nD]
      have k8 := k7.trans s8.keep
      have w8 := w7.same s8
      have f8 := s8 _ _ f7
      have l8 := s8 _ _ l7
      by_cases cf : fr = []
      · rw [decide_eq_true cf]
        exact iteF ⟨_, _, _, rfl, k8, w8.mono (by omega), f8, lx7.same s8, st7, .inr (.inr ⟨rfl, rfl⟩)⟩
      rw [decide_eq_false cf]
      have fpos : 0 < fr.length := List.length_pos_iff.mpr cf
      have hx8 := k8 p _ hwp.symm hx
      refine iteT ⟨_, rfl, _, rfl, p, _, _, _, rfl, rfl, SqL.of hx8, atI_nat exp', _, rfl, _, rfl, _, rfl, _, _, rfl, .inl ⟨_, SqL.of l8, rfl⟩, wl, m + 3, _, rfl, w8, by omega, by rw [nv_length]; omega, by rw [nv_length]; omega, fun d H9 d0 d1 k9 w9 => ?_⟩
      obtain ⟨dn, rfl⟩ : ∃ dn : Nat, d = (dn : Int) := ⟨d.toNat, by omega⟩
      rw [nv_length] at d1
      have hdn : dn < fr.length := by omega
      have k09 := k8.trans k9
      have l9 := k9 L _ nL l8
      have f9 := k9 F _ nF f8
      have lx9 := (lx7.same s8).keep k9 (w8.here.choose_spec)
      obtain ⟨hx1', hx2'⟩ := hfr1 _ (List.getElem_mem hdn)
      refine ⟨L, _, _, _, rfl, rfl, SqL.of l9, atI_nat (nv_get (List.getElem?_eq_getElem hdn)), ⟨by show 1 ≤ sizeLine; decide, fun T hT => ?_⟩⟩
      generalize fr[dn] = x at hx1' hx2' ⊢
      have s10 := (Same.refl H9).new (o := .tup [.int (x : Int)]) hT
      have t10 : upd H9 T (.tup [.int (x : Int)]) T = some (.tup (nv [x])) := upd_same
      generalize upd H9 T (.tup [.int (x : Int)]) = H10 at s10 t10 ⊢
      have htp10 := s10 _ _ (k09 tp _ (nwt htp) htp)
      have mlp := List.mem_of_getElem? elp
      have llp := st.one mlp
      refine catA htp10 t10 (by rw [nv_length, nv_length]; simp; omega) (fun c H11 s11 hc => ?_)
      rw [← nv_append] at hc
      have ndx : (lp ++ [x]).Nodup := by
        refine List.nodup_append.mpr ⟨(st.up lp mlp).imp (fun {a b} h => by omega), by simp, fun a ha b hb => ?_⟩
        rw [List.mem_singleton.mp hb]
        intro z
        rw [z] at ha
        exact hx2' (List.mem_flatten.mpr ⟨lp, mlp, ha⟩)
      refine ⟨c, (lp ++ [x]).map fun v : Nat => (v : Int), rfl, by rw [List.map_map]; exact SqT.of hc, fun ms p2 pm rise hp2 => ?_⟩
      obtain ⟨ns, rfl, pn, up⟩ := up_nat pm rise ndx
      rw [List.map_map]
      have s12 := s11.new (o := .lst (nv ns)) hp2
      have p12 : upd H11 p2 (.lst (nv ns)) p2 = some (.lst (nv ns)) := upd_same
      generalize hH : upd H11 p2 (.lst (nv ns)) = H12 at s12 p12
      have hH' : upd H11 p2 (.lst (ns.map (V.int ∘ fun v : Nat => (v : Int)))) = H12 := hH
      rw [hH']
      refine ⟨p2, _, rfl, .inl ⟨SqL.of p12, fun t ht => ?_⟩⟩
      have s13 := s12.new (o := .tup (nv ns)) ht
      have t13 : upd H12 t (.tup (nv ns)) t = some (.tup (nv ns)) := upd_same
      generalize upd H12 t (.tup (nv ns)) = H13 at s13 t13 ⊢
      have s913 := s10.trans s13
      have f13 := s913 _ _ f9
      refine ⟨_, rfl, _, rfl, F, _, _, pk, rfl, rfl, f13, ixN_nat (by rw [lx.1]; exact hpk), ?_⟩
      have nT : t ≠ F := fun z => by rw [z, f13] at t13; cases t13
      refine ⟨_, _, _, rfl, ?_, ((w9.same s913).put nF).mono (by omega), upd_same, ((lx9.same s913).put f13).set pk ⟨t, rfl, (upd_ne nT).trans t13⟩, st.more elp hx2' hx1' pn up, .inr (.inl ew)⟩
      intro b u hb e
      have nb : b ≠ F := fun z => by rw [z, hF0] at e; cases e
      rw [upd_ne nb]; exact s913 b u (k09 b u hb e)
    · refine ⟨_, ys, ls', rfl, k7, w7.mono (by omega), f7, lx7, st7, ?_⟩
      rcases alt with e | e
      · exact .inl e
      · exact .inr (.inr e)
  rintro σ' H8 ⟨v8, ys2, ls2, rfl, k8, w8, f8, lx8, st8, alt2⟩
  -- if way == 3 and len(lots[pick]) > 1
  refine ⟨fun σ' H' => ∃ v8 ys ls', σ' = [some (.ref wl), some (.ref p), some (.int (n : Int)), some (.int way), some (.int (pk : Int)), some (.int (mt : Int)), some (.ref L), some (.ref F), v8, none] ∧ Keep wl H H' ∧ Well H' wl (m + 5) ∧ H' F = some (.lst ys) ∧ LotsX H' ys ls' ∧ Stg n ls', ?_, ?_⟩
  · refine ⟨_, rfl, rfl, _, rfl, ?_⟩
    refine ite2 (fun c2 => ?_) (fun c2 => ?_)
    · have ew : way = 3 := V.int.inj (of_decide_eq_true c2)
      obtain ⟨rfl, rfl⟩ : ys2 = xs ∧ ls2 = ls := by
        rcases alt2 with e | e | e
        · omega
        · omega
        · exact e
      have hx8 := k8 p _ hwp.symm hx
      have htp8 := k8 tp _ (nwt htp) htp
      have mlp := List.mem_of_getElem? elp
      have llp := st.one mlp
      refine ⟨_, rfl, _, rfl, p, _, _, _, rfl, rfl, SqL.of hx8, atI_nat exp', _, _, rfl, .inr ⟨_, SqT.of htp8, rfl⟩, _, _, rfl, rfl, _, rfl, ?_⟩
      rw [nv_length]
      refine ite2 (fun c3 => ?_) (fun c3 => ?_)
      · have hlen : (1 : Int) < (lp.length : Int) := of_decide_eq_true c3
        refine ⟨_, rfl, _, rfl, _, rfl, p, _, _, _, rfl, rfl, SqL.of hx8, atI_nat exp', _, _, rfl, .inr ⟨_, SqT.of htp8, rfl⟩, wl, m + 4, _, rfl, w8, by omega, by rw [nv_length]; omega, by rw [nv_length]; omega, fun d H9 d0 d1 k9 w9 => ?_⟩
        rw [nv_length] at d1
        obtain ⟨dn, rfl⟩ : ∃ dn : Nat, d = (dn : Int) := ⟨d.toNat, by omega⟩
        have hdn : dn < lp.length := by omega
        have k09 := k8.trans k9
        have hx9 := k9 p _ hwp.symm hx8
        have htp9 := k9 tp _ (nwt htp) htp8
        have f9 := k9 F _ nF f8
        have lx9 := lx8.keep k9 (w8.here.choose_spec)
        dsimp only [tNoPart]
        refine ⟨_, rfl, _, rfl, p, _, _, _, rfl, rfl, SqL.of hx9, atI_nat exp', _, rfl, _, rfl, ?_⟩
        refine slA htp9 (fun a1 H10 s10 h10 => ?_)
        rw [cut_to, nv_take] at h10
        refine ⟨_, rfl, _, rfl, p, _, _, _, rfl, rfl, SqL.of (s10 _ _ hx9), atI_nat exp', _, rfl, _, _, rfl, rfl, _, rfl, ?_⟩
        dsimp only [tNoPart]
        refine slA (s10 _ _ htp9) (fun a2 H11 s11 h11 => ?_)
        rw [show ((dn : Int) + 1) = ((dn + 1 : Nat) : Int) by omega, cut_from, nv_drop] at h11
        have elen : (lp.take dn).length + (lp.drop (dn + 1)).length = lp.length - 1 := by rw [List.length_take, List.length_drop]; omega
        refine catA (s11 _ _ h10) h11 (by rw [nv_length, nv_length]; omega) (fun t H12 s12 t12 => ?_)
        rw [← nv_append, ← List.eraseIdx_eq_take_drop_succ] at t12
        have s912 := (s10.trans s11).trans s12
        have f12 := s912 _ _ f9
        refine ⟨_, rfl, _, rfl, F, _, _, pk, rfl, rfl, f12, ixN_nat (by rw [lx.1]; exact hpk), ?_⟩
        have nT : t ≠ F := fun z => by rw [z, f12] at t12; cases t12
        refine ⟨_, _, _, rfl, ?_, (w9.same s912).put nF, upd_same, ((lx9.same s912).put f12).set pk ⟨t, rfl, (upd_ne nT).trans t12⟩, st.less elp ?_ (List.eraseIdx_sublist _ _)⟩
        · intro b u hb e
          have nb : b ≠ F := fun z => by rw [z, hF0] at e; cases e
          rw [upd_ne nb]; exact s912 b u (k09 b u hb e)
        · intro z
          have z2 := congrArg List.length z
          rw [List.length_eraseIdx, if_pos hdn] at z2
          simp at z2; omega
      · exact ⟨_, _, _, rfl, k8, w8.mono (by omega), f8, lx8, st8⟩
    · exact ⟨_, ys2, ls2, rfl, k8, w8.mono (by omega), f8, lx8, st8⟩
  rintro σ' H9 ⟨v9, ys3, ls3, rfl, k9, w9, f9, lx9, st9⟩
  exact ⟨_, rfl, q F ls3 H9 k9 w9 hF0 ⟨ys3, f9, lx9⟩ st9⟩
end

end My

namespace My
open PySem PySem.Spec PyProof.Rows L2
/-! ### what a value reads as, further on -/
theorem tupAt_sameV {H H' : Hp} {x : V} (v : Vd H x) (s : Same H H') : tupAt H' x = tupAt H x := by
  cases v with
  | lst h => rw [tupAt_lst h, tupAt_lst (s _ _ h)]
  | tup h => rw [tupAt_tup h, tupAt_tup (s _ _ h)]
  | dK h => rw [tupAt_dK h, tupAt_dK (s _ _ h)]
  | _ => rfl
theorem Askd.sameV {H H' : Hp} {x : V} (k : Askd H x) (s : Same H H') : Askd H' x :=
  ⟨k.vd.same s, fun xs e => by
    rw [tupAt_sameV k.vd s] at e
    exact ⟨(k.items xs e).1, fun y hy => ((k.items xs e).2 y hy).same s⟩⟩
theorem isF_same {H H' : Hp} {x : V} (v : Vd H x) (s : Same H H') : IsF H' x ↔ IsF H x := by
  unfold IsF
  rw [tupAt_sameV v s]
mutual
theorem Rp.same {z : Bool} {H H' : Hp} (s : Same H H') : ∀ (d : PyData) (x : V), Rp z H x d → Rp z H' x d
  | .none, _, h => by cases h; exact .non
  | .bool b, _, h => by cases h; exact .bl b
  | .int i, _, h => by cases h; exact .int i
  | .str x, _, h => by cases h; exact .str x
  | .list ds, _, h => by
    cases h with
    | lst e n r => exact .lst (s _ _ e) n (Rps.same s ds _ r)
  | .tuple ds, _, h => by
    cases h with
    | tup e r => exact .tup (s _ _ e) (Rps.same s ds _ r)
  | .dict _, _, h => by
    cases h with
    | dct y e => exact .dct y (s _ _ e)
theorem Rps.same {z : Bool} {H H' : Hp} (s : Same H H') : ∀ (ds : List PyData) (xs : List V), Rps z H xs ds → Rps z H' xs ds
  | [], _, h => by cases h; exact .nil
  | d :: ds, _, h => by
    cases h with
    | cons a r => exact .cons (Rp.same s d _ a) (Rps.same s ds _ r)
end
theorem shows_of {d : PyData} (h1 : d.showable = true) (h2 : d.leavesShort 100 = true) (h3 : d.bulk ≤ 100000) (h4 : d.depth ≤ 60) : Shows d := by
  refine ⟨h1, ?_, h4⟩
  have z := PyData.shown_le_bulk 100 (by decide) d h2
  rw [sizeLine_eq]
  omega
structure Small (d : PyData) : Prop where
  ok : d.showable = true
  short : d.leavesShort 100 = true
  bulk : d.bulk ≤ 10
  deep : d.depth ≤ 3
theorem small_all : ∀ ds : List PyData, (∀ d ∈ ds, Small d) → PyData.showableAll ds = true ∧ PyData.leavesShortAll 100 ds = true ∧ PyData.bulkAll ds ≤ 11 * ds.length ∧ PyData.depthAll ds ≤ 3
  | [], _ => ⟨rfl, rfl, Nat.le_refl _, Nat.zero_le _⟩
  | d :: ds, h => by
    obtain ⟨a, b, c, e⟩ := small_all ds fun x hx => h x (List.mem_cons_of_mem _ hx)
    have k := h d List.mem_cons_self
    refine ⟨by rw [PyData.showableAll, k.ok, a]; rfl, by rw [PyData.leavesShortAll, k.short, b]; rfl, ?_, ?_⟩
    · rw [PyData.bulkAll, List.length_cons]
      have := k.bulk
      omega
    · rw [PyData.depthAll]
      exact Nat.max_le.mpr ⟨k.deep, e⟩
theorem shows_tuple {ds : List PyData} (h : ∀ d ∈ ds, Small d) (hl : ds.length ≤ 1000) : Shows (.tuple ds) := by
  obtain ⟨a, b, c, e⟩ := small_all ds h
  exact shows_of (by rw [PyData.showable]; exact a) (by rw [PyData.leavesShort]; exact b) (by rw [PyData.bulk]; omega) (by rw [PyData.depth]; omega)
theorem shows_list {ds : List PyData} (h : ∀ d ∈ ds, Small d) (hl : ds.length ≤ 1000) : Shows (.list ds) := by
  obtain ⟨a, b, c, e⟩ := small_all ds h
  exact shows_of (by rw [PyData.showable]; exact a) (by rw [PyData.leavesShort]; exact b) (by rw [PyData.bulk]; omega) (by rw [PyData.depth]; omega)
theorem small_int {i : Int} (h : i.natAbs < 10 ^ 12) : Small (.int i) := by
  refine ⟨?_, ?_, Nat.zero_le _, Nat.zero_le _⟩
  · have z : i.natAbs < 2 ^ 1920 := Nat.lt_trans h (by decide +kernel)
    exact decide_eq_true (PySem.Flt.log2_lt_of (by decide) z)
  · exact decide_eq_true (Nat.le_trans (PyData.shown_int_le h) (by decide))
theorem small_non : Small .none := ⟨rfl, rfl, Nat.zero_le _, Nat.zero_le _⟩
theorem small_bl (b : Bool) : Small (.bool b) := ⟨rfl, rfl, Nat.zero_le _, Nat.zero_le _⟩

def hD : Option Nat → PyData
  | none => .none
  | some u => .int (u : Int)
theorem rps_hv {z : Bool} {H : Hp} : ∀ hs : Hs, Rps z H (hs.map hv) (hs.map hD)
  | [] => .nil
  | none :: hs => .cons .non (rps_hv hs)
  | some u :: hs => .cons (.int (u : Int)) (rps_hv hs)
theorem small_hD {hs : Hs} (ib : InB hs) (hl : hs.length ≤ 60) : ∀ d ∈ hs.map hD, Small d := fun d hd => by
  obtain ⟨o, ho, rfl⟩ := List.mem_map.mp hd
  obtain ⟨v, e⟩ := List.getElem?_of_mem ho
  cases o with
  | none => exact small_non
  | some u =>
    have q := ib v u e
    exact small_int (by have z : (10 : Nat) ^ 12 = 1000000000000 := by decide
                        omega)

def spLaw (K : PySem.W.Frag) : Sp := fun vs H Q _ => ∃ (a : Addr) (ns : List Int), vs = [.ref a] ∧ SqL K H a (ns.map V.int) ∧ ns.length ≤ 63 ∧ ∀ H', Q (.bl true) H'
theorem Well.ne {H : Hp} {wl p : Addr} {n : Nat} (w : Well H wl n) (h : H p = none) : p ≠ wl := by
  obtain ⟨l, e⟩ := w.here
  exact (ne_of_none e h).symm
theorem thenK {H H1 H2 : Hp} {wl : Addr} (s : Same H H1) (hn : H wl = none) (k : Keep wl H1 H2) : Same H H2 := fun b o e => k b o (ne_of_none e hn) (s b o e)
theorem isF_fo {H : Hp} {x : V} {hs : Hs} (e : tupAt H x = some (hs.map hv)) (h : IsF H x) : Fo hs := by
  obtain ⟨hs', e', fo⟩ := h
  rw [e] at e'
  rw [hv_inj (Option.some.inj e')]; exact fo
/-- values that are no forests: by what their tuple is -/
theorem noF_none {H : Hp} {x : V} (h : tupAt H x = none) : ¬ IsF H x := fun ⟨hs, e, _⟩ => by rw [h] at e; cases e
theorem noF_nil {H : Hp} {x : V} (h : tupAt H x = some []) : ¬ IsF H x := fun ⟨hs, e, fo⟩ => by
  rw [h] at e
  have z := Option.some.inj e
  cases hs with
  | nil => exact fo.ne rfl
  | cons o r => cases z
theorem noF_odd {H : Hp} {x : V} {xs : List V} {y : V} (h : tupAt H x = some (xs ++ [y])) (hy : ∀ o, y ≠ hv o) : ¬ IsF H x := fun ⟨hs, e, fo⟩ => by
  rw [h] at e
  have z := Option.some.inj e
  have hm : y ∈ hs.map hv := by rw [← z]; simp
  obtain ⟨o, _, ho⟩ := List.mem_map.mp hm
  exact hy o ho.symm
theorem snoc_hs {hs hs' : Hs} {o : Option Nat} (h : hs.map hv ++ [hv o] = hs'.map hv) : hs' = hs ++ [o] := by
  have e : (hs ++ [o]).map hv = hs'.map hv := by rw [List.map_append]; exact h
  exact (hv_inj e).symm
theorem noF_self {H : Hp} {x : V} {hs : Hs} (h : tupAt H x = some (hs.map hv ++ [.int (hs.length : Int)])) : ¬ IsF H x := fun ⟨hs', e, fo⟩ => by
  rw [h] at e
  have z := snoc_hs (o := some hs.length) (Option.some.inj e)
  subst z
  have hat : (hs ++ [some hs.length])[hs.length]? = some (some hs.length) := by
    rw [List.getElem?_append_right (Nat.le_refl _), Nat.sub_self]; rfl
  have no : ∀ v, Rch (hs ++ [some hs.length]) v → v ≠ hs.length := fun v r => by
    induction r with
    | root h1 => intro e1; rw [e1, hat] at h1; cases h1
    | step h1 _ ih =>
      intro e1
      rw [e1, hat] at h1
      cases h1
      exact ih rfl
  exact no hs.length (fo.all hs.length (by rw [List.length_append]; exact Nat.lt_succ_self _)) rfl
theorem noF_far {H : Hp} {x : V} {hs : Hs} (h : tupAt H x = some (hs.map hv ++ [.int ((hs.length : Int) + 1)])) : ¬ IsF H x := fun ⟨hs', e, fo⟩ => by
  rw [h] at e
  have z := snoc_hs (o := some (hs.length + 1)) (Option.some.inj e)
  subst z
  have hat : (hs ++ [some (hs.length + 1)])[hs.length]? = some (some (hs.length + 1)) := by
    rw [List.getElem?_append_right (Nat.le_refl _), Nat.sub_self]; rfl
  have q := fo.inb _ _ hat
  rw [List.length_append] at q
  exact Nat.lt_irrefl _ q
theorem askd_tup {H : Hp} {a : Addr} {xs : List V} (h : H a = some (.tup xs)) (hl : xs.length ≤ 1000) (hv' : ∀ y ∈ xs, Vd H y) : Askd H (.ref a) :=
  ⟨.tup h, fun ys e => by rw [tupAt_tup h] at e; cases e; exact ⟨hl, hv'⟩⟩
theorem askd_no {H : Hp} {x : V} (v : Vd H x) (h : tupAt H x = none) : Askd H x := ⟨v, fun ys e => by rw [h] at e; cases e⟩
theorem hv_ne_str (z : Str) (o : Option Nat) : V.str z ≠ hv o := by cases o <;> (intro e; cases e)
theorem hv_ne_bl (z : Bool) (o : Option Nat) : V.bl z ≠ hv o := by cases o <;> (intro e; cases e)
abbrev slL (a t : Addr) (at' : Int) (wl : Addr) (x : V) (way : Int) (y : V) (due : Str) (v7 v8 : Option V) : L2.St := [some (.ref a), some (.int at'), some (.ref wl), some x, some (.int way), some y, some (.str due), v7, v8]

/-! ### equal values of the same kinds -/
theorem ix_seqK {X : Cx} (K : PySem.W.Frag) (e : X.K = K := by rfl) : IxR X (rIx K) := by subst e; exact ix_seq
theorem Rps.len {z : Bool} {H : Hp} : ∀ {xs : List V} {ds : List PyData}, Rps z H xs ds → xs.length = ds.length
  | _, _, .nil => rfl
  | _, _, .cons _ r => by rw [List.length_cons, List.length_cons, Rps.len r]
theorem Rps.at {z : Bool} {H : Hp} : ∀ {xs : List V} {ds : List PyData} {k : Nat} {x : V}, Rps z H xs ds → xs[k]? = some x → ∃ d, ds[k]? = some d ∧ Rp z H x d
  | _, _, 0, x, .cons h _, e => by cases e; exact ⟨_, rfl, h⟩
  | _, _, k + 1, x, .cons _ r, e => by
    have z := Rps.at (k := k) (x := x) r e
    exact z
theorem depth_at : ∀ {ds : List PyData} {k : Nat} {d : PyData}, ds[k]? = some d → d.depth ≤ PyData.depthAll ds
  | d :: _, 0, _, e => by cases e; rw [PyData.depthAll]; exact Nat.le_max_left _ _
  | _ :: ds, k + 1, _, e => by rw [PyData.depthAll]; exact Nat.le_trans (depth_at (ds := ds) e) (Nat.le_max_right _ _)
mutual
def shortD : PyData → Bool
  | .list ds => decide (ds.length ≤ 1000) && shortDs ds
  | .tuple ds => decide (ds.length ≤ 1000) && shortDs ds
  | .none => true
  | .bool _ => true
  | .int _ => true
  | .str _ => true
  | .dict _ => false
def shortDs : List PyData → Bool
  | [] => true
  | d :: ds => shortD d && shortDs ds
end
theorem short_at : ∀ {ds : List PyData} {k : Nat} {d : PyData}, shortDs ds = true → ds[k]? = some d → shortD d = true
  | d :: _, 0, _, h, e => by
    cases e
    rw [shortDs, Bool.and_eq_true] at h
    exact h.1
  | _ :: ds, k + 1, _, h, e => by
    rw [shortDs, Bool.and_eq_true] at h
    exact short_at (ds := ds) h.2 e
def spSame (n : Nat) : Sp := fun vs H Q _ => ∃ (x y : V) (d : PyData), vs = [x, y] ∧ Rp false H x d ∧ Rp false H y d ∧ d.depth < n ∧ shortD d = true ∧ ∀ H', Same H H' → Q (.bl true) H'
section
variable {P : Program} {w : World} {K : PySem.W.Frag} {mg : Str → Option Value} {base : Heap}
abbrev st__law_same : Stmt := topS 44
abbrev N__law_same : List Str := ["found", "due", "k"]
theorem sc__law_same : FnScope N__law_same ["found", "due"] (defScope st__law_same) := ⟨rfl, rfl, rfl, by decide +kernel, rfl, by decide +kernel, by decide +kernel⟩
theorem ok__law_same (D : Df K mg "_law_same" st__law_same ["found", "due"]) (B : Bl mg) : ∀ n : Nat, Kn P w K mg base CX0 n "_law_same" st__law_same ["found", "due"] (spSame n)
  | 0 => by
    obtain ⟨f, fd, F, g, b, e⟩ := D.ex
    exact ⟨f, fd, ⟨fun _ _ _ _ h => (by obtain ⟨_, _, _, _, _, _, h, _⟩ := h; omega), fun _ _ _ _ _ _ _ _ _ _ _ _ _ h => (by obtain ⟨_, _, _, _, _, _, h, _⟩ := h; omega)⟩, g, F.kp, b, e⟩
  | n + 1 => by
    have K_law_same := ok__law_same D B n
    refine D.ok sc__law_same (fun vs H Q E h => ?_) (fun f cdv A outer s H vs Q E hr h => ?_)
    · obtain ⟨x, y, d, rfl, _⟩ := h; rfl
    obtain ⟨x, y, d, rfl, hx, hy, hd, hs, q⟩ := h
    refine ⟨_, ((pss_cons (ps_if (PW.pt (pw_or (pt_val (pe_callB call_isi (by rfl) B.isinstance (by decide +kernel) (pa_cons (pv 0) (pa_cons (pe_bltn (v := .ty "bool") (u := .type "bool") (by rfl) B.bool (by decide +kernel) rfl) pa_nil)))) (pw_or1 (pt_val (pe_callB call_isi (by rfl) B.isinstance (by decide +kernel) (pa_cons (pv 1) (pa_cons (pe_bltn (v := .ty "bool") (u := .type "bool") (by rfl) B.bool (by decide +kernel) rfl) pa_nil))))))) (pss_one (ps_ret (pe_and (pe_callB call_isi (by rfl) B.isinstance (by decide +kernel) (pa_cons (pv 0) (pa_cons (pe_bltn (v := .ty "bool") (u := .type "bool") (by rfl) B.bool (by decide +kernel) rfl) pa_nil))) (pe_and (pe_callB call_isi (by rfl) B.isinstance (by decide +kernel) (pa_cons (pv 1) (pa_cons (pe_bltn (v := .ty "bool") (u := .type "bool") (by rfl) B.bool (by decide +kernel) rfl) pa_nil))) (pe_one (pe_cmpR op_eq (pv 0) (pv 1) (nomark _))))))) pss_nil)
      (pss_cons (ps_if (pt_cmpR op_ne (pe_callB call_isi (by rfl) B.isinstance (by decide +kernel) (pa_cons (pv 0) (pa_cons (pe_bltn (v := .ty "list") (u := .type "list") (by rfl) B.list (by decide +kernel) rfl) pa_nil))) (pe_callB call_isi (by rfl) B.isinstance (by decide +kernel) (pa_cons (pv 1) (pa_cons (pe_bltn (v := .ty "list") (u := .type "list") (by rfl) B.list (by decide +kernel) rfl) pa_nil))) (nomark _)) (pss_one (ps_ret pe_bl)) pss_nil)
      (pss_cons (ps_if (PW.pt (pw_and (pt_val (pe_callB call_isiT (by rfl) B.isinstance (by decide +kernel) (pa_cons (pv 0) (pa_cons (pe_tup (pa_cons (pe_bltn (v := .ty "list") (u := .type "list") (by rfl) B.list (by decide +kernel) rfl) (pa_cons (pe_bltn (v := .ty "tuple") (u := .type "tuple") (by rfl) B.tuple (by decide +kernel) rfl) pa_nil))) pa_nil)))) (pw_and1 (pt_val (pe_callB call_isiT (by rfl) B.isinstance (by decide +kernel) (pa_cons (pv 1) (pa_cons (pe_tup (pa_cons (pe_bltn (v := .ty "list") (u := .type "list") (by rfl) B.list (by decide +kernel) rfl) (pa_cons (pe_bltn (v := .ty "tuple") (u := .type "tuple") (by rfl) B.tuple (by decide +kernel) rfl) pa_nil))) pa_nil))))))) (pss_cons (ps_if (pt_cmpR op_ne (pe_callB call_len (by rfl) B.len (by decide +kernel) (pa_cons (pv 0) pa_nil)) (pe_callB call_len (by rfl) B.len (by decide +kernel) (pa_cons (pv 1) pa_nil)) (nomark _)) (pss_one (ps_ret pe_bl)) pss_nil)
      (pss_one (ps_ret (pe_cmpR (op_eqD hr.units) (pe_lc (own := [("k", 2)]) (g := gName 2) rfl sc__law_same.nd (pi_range1 (by rfl) B.range (pa_cons (pe_callB call_len (by rfl) B.len (by decide +kernel) (pa_cons (pv 1) pa_nil)) pa_nil)) (blkOk_by (N := N__law_same) (sc := defScope st__law_same) (own := [("k", 2)]) (by decide +kernel)) (fun _ _ _ _ _ => by (exact (pg_name (i := 2) sc__law_same.nd rfl (Or.inl rfl)))) (fun _ _ _ _ _ => by exact (pts_one (pt_not (pt_val (pe_callF K_law_same hr pass0 (pa_cons (pe_ix (ix_seqK K) (pv 0) (pv 2) (fun _ _ => rfl)) (pa_cons (pe_ix (ix_seqK K) (pv 1) (pv 2) (fun _ _ => rfl)) pa_nil))))))) (fun _ _ _ _ _ => by exact (pv 2))) (pe_lst pa_nil) (nomark _))))) pss_nil)
      (pss_one (ps_ret (pe_and (pe_cmpR op_eq (pv 0) (pv 1) (nomark _)) (pe_one (pe_cmpR op_eq (pe_callB call_isi (by rfl) B.isinstance (by decide +kernel) (pa_cons (pv 0) (pa_cons (pe_bltn (v := .ty "int") (u := .type "int") (by rfl) B.int (by decide +kernel) rfl) pa_nil))) (pe_callB call_isi (by rfl) B.isinstance (by decide +kernel) (pa_cons (pv 1) (pa_cons (pe_bltn (v := .ty "int") (u := .type "int") (by rfl) B.int (by decide +kernel) rfl) pa_nil))) (nomark _)))))))))), ?_⟩
    obtain ⟨t, tx, ty, bi, bb, bl, bt, k1, k2, k3, k4, hk⟩ : ∃ t : String, (∀ H', Same H H' → TyX K H' x (.type t)) ∧ (∀ H', Same H H' → TyX K H' y (.type t)) ∧ ∃ bi bb bl bt : Bool, kitB t "int" = some bi ∧ kitB t "bool" = some bb ∧ kitB t "list" = some bl ∧ kitB t "tuple" = some bt ∧
        ((bb = true ∧ x = y ∧ scal x y = true) ∨ (bb = false ∧ bl = false ∧ bt = false ∧ x = y ∧ scal x y = true) ∨
          (bb = false ∧ (bl || bt) = true ∧ ∃ (a b : Addr) (xs ys : List V) (ds : List PyData), x = .ref a ∧ y = .ref b ∧ ((H a = some (.lst xs) ∧ H b = some (.lst ys)) ∨ (H a = some (.tup xs) ∧ H b = some (.tup ys))) ∧
            Rps false H xs ds ∧ Rps false H ys ds ∧ PyData.depthAll ds < n ∧ shortDs ds = true ∧ ds.length ≤ 1000)) := by
      cases hx with
      | non =>
        cases hy
        exact ⟨_, fun _ _ => .base .non, fun _ _ => .base .non, _, _, _, _, (by decide +kernel : kitB "NoneType" "int" = some false), (by decide +kernel : kitB "NoneType" "bool" = some false), (by decide +kernel : kitB "NoneType" "list" = some false), (by decide +kernel : kitB "NoneType" "tuple" = some false), .inr (.inl ⟨rfl, rfl, rfl, rfl, rfl⟩)⟩
      | bl b =>
        cases hy
        exact ⟨_, fun _ _ => .base (.bl b), fun _ _ => .base (.bl b), _, _, _, _, (by decide +kernel : kitB "bool" "int" = some true), (by decide +kernel : kitB "bool" "bool" = some true), (by decide +kernel : kitB "bool" "list" = some false), (by decide +kernel : kitB "bool" "tuple" = some false), .inl ⟨rfl, rfl, rfl⟩⟩
      | int i =>
        cases hy
        exact ⟨_, fun _ _ => .base (.int i), fun _ _ => .base (.int i), _, _, _, _, (by decide +kernel : kitB "int" "int" = some true), (by decide +kernel : kitB "int" "bool" = some false), (by decide +kernel : kitB "int" "list" = some false), (by decide +kernel : kitB "int" "tuple" = some false), .inr (.inl ⟨rfl, rfl, rfl, rfl, rfl⟩)⟩
      | str z =>
        cases hy
        exact ⟨_, fun _ _ => .base (.str z), fun _ _ => .base (.str z), _, _, _, _, (by decide +kernel : kitB "str" "int" = some false), (by decide +kernel : kitB "str" "bool" = some false), (by decide +kernel : kitB "str" "list" = some false), (by decide +kernel : kitB "str" "tuple" = some false), .inr (.inl ⟨rfl, rfl, rfl, rfl, rfl⟩)⟩
      | lst ea _ r1 =>
        cases hy with
        | lst eb _ r2 =>
          rw [shortD, Bool.and_eq_true, decide_eq_true_eq] at hs
          rw [PyData.depth] at hd
          exact ⟨_, fun _ s => .base (.lst (s _ _ ea)), fun _ s => .base (.lst (s _ _ eb)), _, _, _, _, (by decide +kernel : kitB "list" "int" = some false), (by decide +kernel : kitB "list" "bool" = some false), (by decide +kernel : kitB "list" "list" = some true), (by decide +kernel : kitB "list" "tuple" = some false),
            .inr (.inr ⟨rfl, rfl, _, _, _, _, _, rfl, rfl, .inl ⟨ea, eb⟩, r1, r2, by omega, hs.2, hs.1⟩)⟩
      | tup ea r1 =>
        cases hy with
        | tup eb r2 =>
          rw [shortD, Bool.and_eq_true, decide_eq_true_eq] at hs
          rw [PyData.depth] at hd
          exact ⟨_, fun _ s => .base (.tup (s _ _ ea)), fun _ s => .base (.tup (s _ _ eb)), _, _, _, _, (by decide +kernel : kitB "tuple" "int" = some false), (by decide +kernel : kitB "tuple" "bool" = some false), (by decide +kernel : kitB "tuple" "list" = some false), (by decide +kernel : kitB "tuple" "tuple" = some true),
            .inr (.inr ⟨rfl, rfl, _, _, _, _, _, rfl, rfl, .inr ⟨ea, eb⟩, r1, r2, by omega, hs.2, hs.1⟩)⟩
      | dct z _ => cases z
    have r0 := Same.refl H
    refine ⟨_, rfl, _, _, _, _, _, rfl, .ty _, tx _ r0, kit_ty k2, _, rfl, ?_⟩
    rcases hk with ⟨rfl, rfl, sc⟩ | ⟨rfl, rfl, rfl, rfl, sc⟩ | ⟨rfl, hb, a, b, xs, ys, ds, rfl, rfl, hab, r1, r2, dn, sh, ln⟩
    · -- two bools
      refine iteT (iteT ⟨_, rfl, _, _, _, _, _, rfl, .ty _, tx _ r0, kit_ty k2, _, rfl, iteT ⟨_, rfl, _, _, _, _, _, rfl, .ty _, ty _ r0, kit_ty k2, _, rfl, iteT ⟨_, rfl, _, rfl, sc, ?_⟩⟩⟩)
      rw [decide_eq_true rfl]
      exact q H r0
    · -- values without parts
      refine iteF ⟨_, rfl, _, _, _, _, _, rfl, .ty _, ty _ r0, kit_ty k2, _, rfl, iteF ?_⟩
      refine ⟨_, rfl, _, _, _, _, _, rfl, .ty _, tx _ r0, kit_ty k3, _, rfl, _, _, _, _, _, rfl, .ty _, ty _ r0, kit_ty k3, rfl, _, rfl, iteF ?_⟩
      refine ⟨_, rfl, by show 2 ≤ sizeLine; decide, fun p hp => ⟨_, p, _, _, _, _, rfl, upd_same, .cons (.ty _) (.cons (.ty _) .nil), tx _ (r0.new hp), kitAny_cons (kit_ty k3) (fun _ => kitAny_cons (kit_ty k4) (fun _ => kitAny_nil) (fun z => Bool.noConfusion z)) (fun z => Bool.noConfusion z), _, rfl, iteF (iteF ?_)⟩⟩
      have s1 := r0.new (o := .tup [.ty "list", .ty "tuple"]) hp
      refine ⟨_, rfl, _, rfl, sc, true, by rw [decide_eq_true rfl], iteT ⟨_, rfl, _, _, _, _, _, rfl, .ty _, tx _ s1, kit_ty k1, _, rfl, _, _, _, _, _, rfl, .ty _, ty _ s1, kit_ty k1, rfl, ?_⟩⟩
      rw [decide_eq_true rfl]
      exact q _ s1
    · -- two lists, two tuples
      refine iteF ⟨_, rfl, _, _, _, _, _, rfl, .ty _, ty _ r0, kit_ty k2, _, rfl, iteF ?_⟩
      refine ⟨_, rfl, _, _, _, _, _, rfl, .ty _, tx _ r0, kit_ty k3, _, rfl, _, _, _, _, _, rfl, .ty _, ty _ r0, kit_ty k3, ?_⟩
      refine ⟨by cases bl <;> rfl, false, by rw [decide_eq_true rfl]; rfl, iteF ?_⟩
      have any : PySem.W.kitAny K (.type t) [.type "list", .type "tuple"] = some true := by
        refine kitAny_cons (kit_ty k3) (fun z => ?_) (fun _ => rfl)
        subst z
        have z2 : bt = true := hb
        subst z2
        exact kitAny_cons (kit_ty k4) (fun z => Bool.noConfusion z) (fun _ => rfl)
      refine ⟨_, rfl, by show 2 ≤ sizeLine; decide, fun p hp => ?_⟩
      have s1 := r0.new (o := .tup [.ty "list", .ty "tuple"]) hp
      have op : upd H p (.tup [.ty "list", .ty "tuple"]) p = some (.tup [.ty "list", .ty "tuple"]) := upd_same
      generalize upd H p (.tup [.ty "list", .ty "tuple"]) = H1 at s1 op ⊢
      refine ⟨_, p, _, _, _, _, rfl, op, .cons (.ty _) (.cons (.ty _) .nil), tx _ s1, any, _, rfl, iteT ?_⟩
      refine ⟨_, rfl, by show 2 ≤ sizeLine; decide, fun p2 hp2 => ?_⟩
      have s2 := s1.new (o := .tup [.ty "list", .ty "tuple"]) hp2
      have op2 : upd H1 p2 (.tup [.ty "list", .ty "tuple"]) p2 = some (.tup [.ty "list", .ty "tuple"]) := upd_same
      generalize upd H1 p2 (.tup [.ty "list", .ty "tuple"]) = H2 at s2 op2 ⊢
      refine ⟨_, p2, _, _, _, _, rfl, op2, .cons (.ty _) (.cons (.ty _) .nil), ty _ s2, any, _, rfl, iteT ?_⟩
      have l1 := Rps.len r1
      have l2 := Rps.len r2
      have lenA : ∀ H', Same H H' → LenV K (.ref a) H' ds.length := fun H' s' => by
        rcases hab with ⟨ea, eb⟩ | ⟨ea, eb⟩
        · exact .inl ⟨xs, SqL.of (s' _ _ ea), l1.symm⟩
        · exact .inr ⟨xs, SqT.of (s' _ _ ea), l1.symm⟩
      have lenB : ∀ H', Same H H' → LenV K (.ref b) H' ds.length := fun H' s' => by
        rcases hab with ⟨ea, eb⟩ | ⟨ea, eb⟩
        · exact .inl ⟨ys, SqL.of (s' _ _ eb), l2.symm⟩
        · exact .inr ⟨ys, SqT.of (s' _ _ eb), l2.symm⟩
      have ixA : ∀ (H' : Hp) (k : Nat) (v : V) (Q' : VK), Same H H' → xs[k]? = some v → Q' v H' → rIx K (.ref a) (.int (k : Int)) H' Q' := fun H' k v Q' s' e z => by
        rcases hab with ⟨ea, eb⟩ | ⟨ea, eb⟩
        · exact .inl ⟨a, xs, _, v, rfl, rfl, SqL.of (s' _ _ ea), atI_nat e, z⟩
        · exact .inr (.inl ⟨a, xs, _, v, rfl, rfl, SqT.of (s' _ _ ea), atI_nat e, z⟩)
      have ixB : ∀ (H' : Hp) (k : Nat) (v : V) (Q' : VK), Same H H' → ys[k]? = some v → Q' v H' → rIx K (.ref b) (.int (k : Int)) H' Q' := fun H' k v Q' s' e z => by
        rcases hab with ⟨ea, eb⟩ | ⟨ea, eb⟩
        · exact .inl ⟨b, ys, _, v, rfl, rfl, SqL.of (s' _ _ eb), atI_nat e, z⟩
        · exact .inr (.inl ⟨b, ys, _, v, rfl, rfl, SqT.of (s' _ _ eb), atI_nat e, z⟩)
      refine ⟨_, rfl, _, _, rfl, lenA _ s2, _, rfl, _, _, rfl, lenB _ s2, rfl, false, by rw [decide_eq_true rfl]; rfl, iteF ?_⟩
      refine ⟨_, rfl, _, _, rfl, lenB _ s2, _, rfl, by omega, by omega, fun D hD => lc_it walk_range0 (fun k H' => Same H H' ∧ H' D = some (.lst [])) ⟨s2.new hD, upd_same⟩ (fun _ _ _ _ => trivial) ?_ ?_⟩
      · rintro k x' Ha Hb hk ⟨sa, hD1⟩ ⟨rfl, rfl⟩
        have hk' : k < ds.length := hk
        obtain ⟨x1, e1⟩ : ∃ x1, xs[k]? = some x1 := ⟨_, List.getElem?_eq_getElem (by omega)⟩
        obtain ⟨y1, e2⟩ : ∃ y1, ys[k]? = some y1 := ⟨_, List.getElem?_eq_getElem (by omega)⟩
        obtain ⟨d1, e3, h1⟩ := Rps.at r1 e1
        obtain ⟨d2, e4, h2⟩ := Rps.at r2 e2
        have e5 : d2 = d1 := Option.some.inj (e4.symm.trans e3)
        subst e5
        refine ⟨rfl, _, rfl, _, rfl, ixA _ _ _ _ sa e1 ⟨_, rfl, _, rfl, ixB _ _ _ _ sa e2 ⟨x1, y1, d2, rfl, Rp.same sa _ _ h1, Rp.same sa _ _ h2, Nat.lt_of_le_of_lt (depth_at e3) dn, short_at sh e3, fun Hc sc => ⟨_, rfl, iteF ⟨sa.trans sc, sc _ _ hD1⟩⟩⟩⟩⟩
      · rintro Hb ⟨sb, hD1⟩
        refine ⟨by show 0 ≤ sizeLine; decide, fun M hM => ⟨.list [], .list [], .lst (SqL.of (by rw [upd_ne (ne_of_none hD1 hM)]; exact hD1)) .nil, .lst (SqL.of upd_same) .nil, by decide +kernel, by decide +kernel, ?_⟩⟩
        exact q _ (sb.new hM)
end

end My

namespace My
open PySem PySem.Spec PyProof.Rows L2
theorem iteT' {b : Bool} {A B : Prop} (e : b = true) (h : A) : if b = true then A else B := by rw [if_pos e]; exact h
theorem iteF' {b : Bool} {A B : Prop} (e : b = false) (h : B) : if b = true then A else B := by rw [if_neg (by rw [e]; exact Bool.false_ne_true)]; exact h

/-! ### faults as data; the law's test of one forest -/
def faultD : Option (Nat × Nat) → PyData
  | none => .none
  | some (i, t) => .tuple [.int (i : Int), .int (t : Int)]
theorem fault_rp {H : Hp} {v : V} : ∀ {r : Option (Nat × Nat)}, FaultV H r v → Rp false H v (faultD r)
  | none, h => by
    have e : v = .non := h
    rw [e]; exact .non
  | some (i, t), h => by
    obtain ⟨a, e, ha⟩ := h
    rw [e]; exact .tup ha (.cons (.int _) (.cons (.int _) .nil))
theorem faultV_same {H H' : Hp} {v : V} (s : Same H H') : ∀ {r : Option (Nat × Nat)}, FaultV H r v → FaultV H' r v
  | none, h => h
  | some (i, t), h => by
    obtain ⟨a, e, ha⟩ := h
    exact ⟨a, e, s _ _ ha⟩
theorem fault_deep : ∀ r : Option (Nat × Nat), (faultD r).depth < 3
  | none => by show 0 < 3; decide
  | some (i, t) => by show 1 < 3; decide
theorem fault_short : ∀ r : Option (Nat × Nat), shortD (faultD r) = true
  | none => rfl
  | some (i, t) => rfl
structure Mid (d : PyData) : Prop where
  ok : d.showable = true
  short : d.leavesShort 100 = true
  bulk : d.bulk ≤ 700
  deep : d.depth ≤ 10
theorem mid_all : ∀ ds : List PyData, (∀ d ∈ ds, Mid d) → PyData.showableAll ds = true ∧ PyData.leavesShortAll 100 ds = true ∧ PyData.bulkAll ds ≤ 701 * ds.length ∧ PyData.depthAll ds ≤ 10
  | [], _ => ⟨rfl, rfl, Nat.le_refl _, Nat.zero_le _⟩
  | d :: ds, h => by
    obtain ⟨a, b, c, e⟩ := mid_all ds fun x hx => h x (List.mem_cons_of_mem _ hx)
    have k := h d List.mem_cons_self
    have kb := k.bulk
    have kd := k.deep
    refine ⟨by rw [PyData.showableAll, k.ok, a]; rfl, by rw [PyData.leavesShortAll, k.short, b]; rfl, ?_, ?_⟩
    · rw [PyData.bulkAll, List.length_cons]; omega
    · rw [PyData.depthAll]; omega
theorem mid_tuple {ds : List PyData} (h : ∀ d ∈ ds, Small d) (hl : ds.length ≤ 60) : Mid (.tuple ds) := by
  obtain ⟨a, b, c, e⟩ := small_all ds h
  exact ⟨by rw [PyData.showable]; exact a, by rw [PyData.leavesShort]; exact b, by rw [PyData.bulk]; omega, by rw [PyData.depth]; omega⟩
theorem shows_two {hs : Hs} {ls : List (List Nat)} (ib : InB hs) (hl : hs.length ≤ 60) (st : Stg hs.length ls) : Shows (.list [.tuple (hs.map hD), .list (lD ls)]) := by
  have m1 : Mid (.tuple (hs.map hD)) := mid_tuple (small_hD ib hl) (by rw [List.length_map]; exact hl)
  have m2 : ∀ d ∈ lD ls, Mid d := fun d hd => by
    obtain ⟨l, ml, rfl⟩ := List.mem_map.mp hd
    refine mid_tuple (fun x hx => ?_) (by unfold nD; rw [List.length_map]; have := st.one ml; omega)
    obtain ⟨v, mv, rfl⟩ := List.mem_map.mp hx
    have := st.lt v (List.mem_flatten.mpr ⟨l, ml, mv⟩)
    refine small_int ?_
    have e : (10 : Nat) ^ 12 = 1000000000000 := by decide
    rw [e, Int.natAbs_natCast]; omega
  obtain ⟨a, b, c, e⟩ := mid_all _ m2
  have many := st.many
  have ll : (lD ls).length = ls.length := List.length_map _
  have b1 := m1.bulk
  have d1 := m1.deep
  refine shows_of ?_ ?_ ?_ ?_
  · rw [PyData.showable, PyData.showableAll, PyData.showableAll, PyData.showableAll, m1.ok, PyData.showable, a]; rfl
  · rw [PyData.leavesShort, PyData.leavesShortAll, PyData.leavesShortAll, PyData.leavesShortAll, m1.short, PyData.leavesShort, b]; rfl
  · have b2 : (PyData.list (lD ls)).bulk = PyData.bulkAll (lD ls) := by rw [PyData.bulk]
    rw [PyData.bulk, PyData.bulkAll, PyData.bulkAll, PyData.bulkAll, b2]
    omega
  · rw [PyData.depth, PyData.depthAll, PyData.depthAll, PyData.depthAll]
    have e2 : (PyData.list (lD ls)).depth = 1 + PyData.depthAll (lD ls) := by rw [PyData.depth]; omega
    omega
theorem rps_nv {z : Bool} {H : Hp} : ∀ l : List Nat, Rps z H (nv l) (nD l)
  | [] => .nil
  | v :: l => .cons (.int (v : Int)) (rps_nv l)
theorem rps_lots {H : Hp} : ∀ {xs : List V} {ls : List (List Nat)}, LotsX H xs ls → Rps false H xs (lD ls)
  | [], [], _ => .nil
  | [], _ :: _, h => by have := h.1; cases this
  | _ :: _, [], h => by have := h.1; cases this
  | x :: xs, l :: ls, h => by
    obtain ⟨t, e, ht⟩ := h.2 0 x l rfl rfl
    subst e
    exact .cons (.tup ht (rps_nv l)) (rps_lots ⟨Nat.succ.inj h.1, fun i y m e1 e2 => h.2 (i + 1) y m e1 e2⟩)

/-! ### the law's own rows -/
def extTo (hs : Hs) (r : List Nat) (j : Nat) : List (List Nat) := ((List.range j).filter (avB hs r)).map fun v => r ++ [v]
theorem extTo_succ (hs : Hs) (r : List Nat) (j : Nat) : extTo hs r (j + 1) = extTo hs r j ++ (if avB hs r j then [r ++ [j]] else []) := by
  unfold extTo
  rw [List.range_succ, List.filter_append, List.map_append]
  congr 1
  by_cases c : avB hs r j = true
  · rw [if_pos c, List.filter_cons_of_pos c]; rfl
  · rw [if_neg c, List.filter_cons_of_neg c]; rfl
theorem extTo_all (hs : Hs) (r : List Nat) : extTo hs r hs.length = ext hs r := rfl
theorem rows_bound {hs : Hs} : ∀ k : Nat, (rowsAt hs k).length ≤ hs.length ^ k
  | 0 => Nat.le_refl _
  | k + 1 => by
    have ih := rows_bound (hs := hs) k
    show ((rowsAt hs k).flatMap (ext hs)).length ≤ _
    have z : ∀ rs : List (List Nat), (rs.flatMap (ext hs)).length ≤ rs.length * hs.length := fun rs => by
      induction rs with
      | nil => exact Nat.zero_le _
      | cons r rs ih =>
        rw [List.flatMap_cons, List.length_append, List.length_cons, Nat.add_mul, Nat.one_mul]
        have q : (ext hs r).length ≤ hs.length := by
          unfold ext av
          rw [List.length_map]
          have := List.length_filter_le (avB hs r) (List.range hs.length)
          rw [List.length_range] at this; exact this
        omega
    exact Nat.le_trans (z _) (by rw [Nat.pow_succ]; exact Nat.mul_le_mul_right _ ih)
structure Rws (H : Hp) (as : List Addr) (rs : List (List Nat)) : Prop where
  len : as.length = rs.length
  at_ : ∀ (i : Nat) (p : Addr) (r : List Nat), as[i]? = some p → rs[i]? = some r → H p = some (.lst (nv r))
theorem Rws.same {H H' : Hp} {as : List Addr} {rs : List (List Nat)} (h : Rws H as rs) (s : Same H H') : Rws H' as rs := ⟨h.len, fun i p r e1 e2 => s _ _ (h.at_ i p r e1 e2)⟩
theorem Rws.but {H : Hp} {as : List Addr} {rs : List (List Nat)} (h : Rws H as rs) {a : Addr} {o : HO} (n : a ∉ as) : Rws (upd H a o) as rs := ⟨h.len, fun i p r e1 e2 => by
  rw [upd_ne (fun z : p = a => n (by rw [← z]; exact List.mem_of_getElem? e1))]; exact h.at_ i p r e1 e2⟩
theorem Rws.grow {H : Hp} {as : List Addr} {rs : List (List Nat)} {p : Addr} {r : List Nat} (h : Rws H as rs) (hp : H p = some (.lst (nv r))) : Rws H (as ++ [p]) (rs ++ [r]) := by
  refine ⟨by rw [List.length_append, List.length_append, h.len]; rfl, fun i q y e1 e2 => ?_⟩
  by_cases c : i < as.length
  · rw [List.getElem?_append_left c] at e1
    rw [List.getElem?_append_left (by rw [← h.len]; exact c)] at e2
    exact h.at_ i q y e1 e2
  · have c2 : as.length ≤ i := by omega
    rw [List.getElem?_append_right c2] at e1
    rw [List.getElem?_append_right (by rw [← h.len]; exact c2), ← h.len] at e2
    rcases hz : i - as.length with _ | m
    · rw [hz] at e1 e2
      cases e1; cases e2; exact hp
    · rw [hz] at e1; cases e1

def spRows : Sp := fun vs H Q _ => ∃ (t : Addr) (hs : Hs), vs = [.ref t] ∧ H t = some (.tup (hs.map hv)) ∧ Fo hs ∧ hs.length ≤ 6 ∧ ∀ p as H', Same H H' → H p = none → H' p = some (.lst (as.map V.ref)) → Rws H' as (rowsAt hs hs.length) → Q (.ref p) H'
def spRowsN : Sp := fun vs H Q _ => ∃ (t : Addr) (hs : Hs), vs = [.ref t] ∧ H t = some (.tup (hs.map hv)) ∧ Fo hs ∧ hs.length ≤ 6 ∧ ∀ p as H', Same H H' → H p = none → H' p = some (.lst (as.map V.ref)) → Rws H' as (rowsAt hs hs.length) → (∀ q ∈ as, H q = none) → Q (.ref p) H'
section
variable {P : Program} {w : World} {K : PySem.W.Frag} {mg : Str → Option Value} {base : Heap}
abbrev st__law_rows : Stmt := topS 49
abbrev N__law_rows : List Str := ["plan", "rows", "k", "fresh", "row", "one"]
theorem sc__law_rows : FnScope N__law_rows ["plan"] (defScope st__law_rows) := ⟨rfl, rfl, rfl, by decide +kernel, rfl, by decide +kernel, by decide +kernel⟩
theorem ok__law_rowsN (D : Df K mg "_law_rows" st__law_rows ["plan"]) (B : Bl mg) : Kn P w K mg base CX0 1 "_law_rows" st__law_rows ["plan"] spRowsN := by
  refine D.ok sc__law_rows (fun vs H Q E h => ?_) (fun f cdv A outer s H vs Q E hr h => ?_)
  · obtain ⟨t, hs, rfl, _⟩ := h; rfl
  obtain ⟨t, hs, rfl, ht, fo, h6, q⟩ := h
  refine ⟨_, ((pss_cons (ps_set (i := 1) sc__law_rows.nd rfl (Or.inl rfl) (pe_lst (pa_cons (pe_lst pa_nil) pa_nil)))
      (pss_cons (ps_for PassesOwn.never rfl (pi_range1 (by rfl) B.range (pa_cons (pe_callB call_len (by rfl) B.len (by decide +kernel) (pa_cons (pv 0) pa_nil)) pa_nil)) (pg_name (i := 2) sc__law_rows.nd rfl (Or.inl rfl)) (pss_cons (ps_set (i := 3) sc__law_rows.nd rfl (Or.inl rfl) (pe_lst pa_nil))
      (pss_cons (ps_for PassesOwn.never rfl (pi_list (pv 1)) (pg_name (i := 4) sc__law_rows.nd rfl (Or.inl rfl)) (pss_one (ps_for PassesOwn.never rfl (pi_range1 (by rfl) B.range (pa_cons (pe_callB call_len (by rfl) B.len (by decide +kernel) (pa_cons (pv 0) pa_nil)) pa_nil)) (pg_name (i := 5) sc__law_rows.nd rfl (Or.inl rfl)) (pss_one (ps_if (PW.pt (pw_and (pt_cmpR op_notIn_seq (pv 5) (pv 4) (by rfl)) (pw_and1 (PW.pt (pw_or (pt_cmpR op_isN (pe_ix ix_tup (pv 0) (pv 5) (fun _ _ => rfl)) pe_non (nomark _)) (pw_or1 (pt_cmpR op_in_seq (pe_ix ix_tup (pv 0) (pv 5) (fun _ _ => rfl)) (pv 4) (by rfl)))))))) (pss_one (ps_expr (pe_bm PySem.F.plainAttrs_list PySem.F.slot_list_append PySem.F.type_list_append mt_append (pv 3) (pa_cons (pe_op op_cat (pv 4) (pe_lst (pa_cons (pv 5) pa_nil))) pa_nil)))) pss_nil)))))
      (pss_one (ps_set (i := 1) sc__law_rows.nd rfl (Or.inl rfl) (pv 3))))))
      (pss_one (ps_ret (pv 1)))))), ?_⟩
  have hlm : (hs.map hv).length = hs.length := List.length_map _
  have sq : ∀ {H' : Hp}, Same H H' → SqT K H' t (hs.map hv) := fun s' => SqT.of (s' _ _ ht)
  have big : ∀ k, k ≤ 6 → (rowsAt hs k).length ≤ 46656 := fun k hk => Nat.le_trans (rows_bound k) (Nat.le_trans (Nat.pow_le_pow_left h6 k) (Nat.le_trans (Nat.pow_le_pow_right (by decide) hk) (by decide)))
  -- rows = [[]]
  refine ⟨by show 0 ≤ sizeLine; decide, fun Z hZ => ?_⟩
  have s0 := (Same.refl H).new (o := .lst []) hZ
  have oZ : upd H Z (.lst []) Z = some (.lst []) := upd_same
  generalize upd H Z (.lst []) = H0 at s0 oZ ⊢
  refine ⟨by show 1 ≤ sizeLine; decide, fun R hR => ?_⟩
  have s1 := s0.new (o := .lst [.ref Z]) hR
  have hRn : H R = none := s0.free hR
  have oR : upd H0 R (.lst [.ref Z]) R = some (.lst ([Z].map V.ref)) := upd_same
  have oZ1 := (upd_ne (H := H0) (a := R) (o := .lst [.ref Z]) (ne_of_none oZ hR)).trans oZ
  generalize upd H0 R (.lst [.ref Z]) = H1 at s1 oR oZ1 ⊢
  have w0 : Rws H1 [Z] (rowsAt hs 0) := ⟨rfl, fun i p r e1 e2 => by
    rcases i with _ | i
    · cases e1; cases e2; exact oZ1
    · cases e1⟩
  refine ⟨_, rfl, _, _, rfl, .inr ⟨_, sq s1, rfl⟩, _, rfl, by omega, by omega, for_it walk_range0 (fun k σ H' => ∃ R as v2 v3 v4 v5, σ = [some (.ref t), some (.ref R), v2, v3, v4, v5] ∧ Same H H' ∧ H R = none ∧ H' R = some (.lst (as.map V.ref)) ∧ Rws H' as (rowsAt hs k) ∧ ∀ q ∈ as, H q = none) ⟨R, [Z], _, _, _, _, rfl, s1, hRn, oR, w0, fun q h => by rw [List.mem_singleton.mp h]; exact hZ⟩ (fun _ _ _ _ _ => trivial) ?_ ?_⟩
  · rintro k x σ Ha Hb hk ⟨R, as, v2, v3, v4, v5, rfl, sa, hRn, oR, hw, _⟩ ⟨rfl, rfl⟩
    have hk' : k < hs.length := by omega
    -- fresh = []
    refine ⟨by show 0 ≤ sizeLine; decide, fun Fr hF => ?_⟩
    have hFn : H Fr = none := sa.free hF
    have s2 := sa.new (o := .lst []) hF
    have nas : Fr ∉ as := fun z => by
      obtain ⟨i, e⟩ := List.getElem?_of_mem z
      have hi := (List.getElem?_eq_some_iff.mp e).1
      have q1 := hw.at_ i Fr _ e (List.getElem?_eq_getElem (by rw [← hw.len]; exact hi))
      rw [hF] at q1; cases q1
    have oF : upd Hb Fr (.lst []) Fr = some (.lst []) := upd_same
    have oR2 := (upd_ne (H := Hb) (a := Fr) (o := .lst []) (ne_of_none oR hF)).trans oR
    have nRF : R ≠ Fr := ne_of_none oR hF
    have hw2 := hw.same ((Same.refl Hb).new (o := .lst []) hF)
    generalize upd Hb Fr (.lst []) = H2 at s2 oF oR2 hw2 ⊢
    clear oR hw sa hF
    -- for row in rows
    refine ⟨_, rfl, R, rfl, ⟨_, SqL.of oR2⟩, for_it (walk_list (xs := as.map V.ref)) (fun i σ H' => ∃ v4 v5 fs, σ = [some (.ref t), some (.ref R), some (.int (k : Int)), some (.ref Fr), v4, v5] ∧ Same H H' ∧ H' R = some (.lst (as.map V.ref)) ∧ Rws H' as (rowsAt hs k) ∧ H' Fr = some (.lst (fs.map V.ref)) ∧ Rws H' fs (((rowsAt hs k).take i).flatMap (ext hs)) ∧ Fr ∉ fs ∧ ∀ q ∈ fs, H q = none)
      ⟨_, _, [], rfl, s2, oR2, hw2, oF, ⟨rfl, fun i p r e1 _ => by cases e1⟩, List.not_mem_nil, fun q h => absurd h List.not_mem_nil⟩ (fun i σ H' _ p => by obtain ⟨_, _, _, _, _, z, _⟩ := p; exact SqL.of z) ?_ ?_⟩
    · rintro i x σ Hc Hd hi ⟨v4, v5, fs, rfl, sc, oR, hw, oF, hf, nfs, nnf⟩ ⟨rfl, e1⟩
      rw [List.getElem?_map] at e1
      obtain ⟨qa, eq, rfl⟩ : ∃ qa, as[i]? = some qa ∧ x = V.ref qa := by
        cases e : as[i]? with
        | none => rw [e] at e1; cases e1
        | some qa => rw [e] at e1; exact ⟨qa, rfl, (Option.some.inj e1).symm⟩
      have hil := (List.getElem?_eq_some_iff.mp eq).1
      obtain ⟨row, er⟩ : ∃ row, (rowsAt hs k)[i]? = some row := ⟨_, List.getElem?_eq_getElem (by rw [← hw.len]; exact hil)⟩
      have hrp := rows_pre hs k row (List.mem_of_getElem? er)
      have etake : (rowsAt hs k).take (i + 1) = (rowsAt hs k).take i ++ [row] := by rw [List.take_add_one, er]; rfl
      have lpre : (((rowsAt hs k).take (i + 1)).flatMap (ext hs)).length ≤ 46656 := by
        have z : (((rowsAt hs k).take (i + 1)).flatMap (ext hs)).length ≤ (rowsAt hs (k + 1)).length := by
          show _ ≤ ((rowsAt hs k).flatMap (ext hs)).length
          rw [← List.take_append_drop (i + 1) (rowsAt hs k), List.flatMap_append, List.length_append, List.take_append_drop]
          exact Nat.le_add_right _ _
        exact Nat.le_trans z (big (k + 1) (by omega))
      rw [etake, List.flatMap_append, List.length_append] at lpre
      generalize hpref : ((rowsAt hs k).take i).flatMap (ext hs) = pref at hf lpre
      -- for one in range(len(plan))
      refine ⟨_, rfl, _, _, rfl, .inr ⟨_, sq sc, rfl⟩, _, rfl, by omega, by omega, for_it walk_range0 (fun j σ H' => ∃ v5 fs, σ = [some (.ref t), some (.ref R), some (.int (k : Int)), some (.ref Fr), some (.ref qa), v5] ∧ Same H H' ∧ H' R = some (.lst (as.map V.ref)) ∧ Rws H' as (rowsAt hs k) ∧ H' Fr = some (.lst (fs.map V.ref)) ∧ Rws H' fs (pref ++ extTo hs row j) ∧ Fr ∉ fs ∧ ∀ q ∈ fs, H q = none)
        ⟨_, fs, rfl, sc, oR, hw, oF, by show Rws _ _ (pref ++ []); rw [List.append_nil]; exact hf, nfs, nnf⟩ (fun _ _ _ _ _ => trivial) ?_ ?_⟩
      · rintro j x σ He Hf hj ⟨v5, fs, rfl, se, oR, hw, oF, hf, nfs, nnf⟩ ⟨rfl, rfl⟩
        have hj' : j < hs.length := by omega
        have hq := hw.at_ i qa row eq er
        obtain ⟨o, ho⟩ : ∃ o, hs[j]? = some o := ⟨_, List.getElem?_eq_getElem hj'⟩
        have skip : ¬ avB hs row j = true → ∃ v5 fs, [some (V.ref t), some (V.ref R), some (V.int (k : Int)), some (V.ref Fr), some (V.ref qa), some (V.int (j : Int))] = [some (.ref t), some (.ref R), some (.int (k : Int)), some (.ref Fr), some (.ref qa), v5] ∧ Same H Hf ∧ Hf R = some (.lst (as.map V.ref)) ∧ Rws Hf as (rowsAt hs k) ∧ Hf Fr = some (.lst (fs.map V.ref)) ∧ Rws Hf fs (pref ++ extTo hs row (j + 1)) ∧ Fr ∉ fs ∧ (∀ q ∈ fs, H q = none) := fun c =>
          ⟨_, fs, rfl, se, oR, hw, oF, by rw [extTo_succ, if_neg c, List.append_nil]; exact hf, nfs, nnf⟩
        have lfs : fs.length ≤ 46656 := by
          have z1 := hf.len
          rw [List.length_append] at z1
          have z2 : (extTo hs row j).length ≤ (ext hs row).length := by
            rw [← extTo_all]
            unfold extTo
            rw [List.length_map, List.length_map]
            have z3 : List.range hs.length = List.range j ++ (List.range hs.length).drop j := by
              have z4 := List.take_append_drop j (List.range hs.length)
              rw [List.take_range, Nat.min_eq_left (Nat.le_of_lt hj')] at z4
              exact z4.symm
            rw [z3, List.filter_append, List.length_append]
            exact Nat.le_add_right _ _
          have z5 : ([row].flatMap (ext hs)).length = (ext hs row).length := by rw [List.flatMap_cons, List.flatMap_nil, List.append_nil]
          omega
        have sz : (46656 : Nat) < sizeLine := by decide
        have hrow : row.length ≤ 60 := by rw [hrp.2]; omega
        have nqF : qa ≠ Fr := fun z => nas (by rw [← z]; exact List.mem_of_getElem? eq)
        refine ⟨_, rfl, _, rfl, qa, _, rfl, .inl (SqL.of hq), rfl, flat_nv row, !decide (j ∈ row), by show V.bl (!inV _ _) = _; rw [inV_nv], ?_⟩
        by_cases hjr : j ∈ row
        · rw [decide_eq_true hjr]
          exact iteF (iteF (skip (by unfold avB; rw [decide_eq_false (fun z => z hjr), Bool.false_and]; exact Bool.false_ne_true)))
        · rw [decide_eq_false hjr]
          refine iteT ⟨_, rfl, _, rfl, t, _, _, hv o, rfl, rfl, sq se, atI_nat (hv_at ho), rfl, decide (hv o = V.non), rfl, ?_⟩
          rcases o with _ | u
          · have hav : avB hs row j = true := by unfold avB; rw [ho, decide_eq_true hjr]; rfl
            refine iteT (iteT ?_)
            refine ⟨_, rfl, .inl ⟨rfl, _, SqL.of oF⟩, _, rfl, _, rfl, by show 1 ≤ sizeLine; decide, fun L hL => ?_⟩
            have sL := se.new (o := .lst [.int (j : Int)]) hL
            have oL : upd Hf L (.lst [.int (j : Int)]) L = some (.lst [.int (j : Int)]) := upd_same
            have kL := (Same.refl Hf).new (o := .lst [.int (j : Int)]) hL
            generalize upd Hf L (.lst [.int (j : Int)]) = Hg at sL oL kL ⊢
            refine ⟨qa, L, _, _, rfl, rfl, kL _ _ hq, oL, by rw [nv_length]; exact Nat.le_of_lt (szl (by show _ + 1 ≤ 1000; omega)), fun N hN => ?_⟩
            have eN : nv row ++ [V.int (j : Int)] = nv (row ++ [j]) := by rw [nv_append]; rfl
            rw [eN]
            have sN := sL.new (o := .lst (nv (row ++ [j]))) hN
            have kN := kL.trans ((Same.refl Hg).new (o := .lst (nv (row ++ [j]))) hN)
            have oN : upd Hg N (.lst (nv (row ++ [j]))) N = some (.lst (nv (row ++ [j]))) := upd_same
            have nNF : Fr ≠ N := ne_of_none (kL _ _ oF) hN
            generalize upd Hg N (.lst (nv (row ++ [j]))) = Hh at sN kN oN ⊢
            refine ⟨Fr, _, _, rfl, rfl, kN _ _ oF, by rw [List.length_map]; omega, ?_⟩
            refine ⟨_, fs ++ [N], rfl, sN.upd hFn, by rw [upd_ne nRF]; exact kN _ _ oR, (hw.same kN).but nas, by rw [upd_same, List.map_append]; rfl, ?_, fun z => (List.mem_append.mp z).elim nfs fun z => nNF (List.mem_singleton.mp z), fun q hq => (List.mem_append.mp hq).elim (nnf q) fun z => by rw [List.mem_singleton.mp z]; exact sL.free hN⟩
            rw [extTo_succ, if_pos hav, ← List.append_assoc]
            exact ((hf.same kN).but nfs).grow (by rw [upd_ne nNF.symm]; exact oN)
          · refine iteF ⟨_, rfl, _, rfl, t, _, _, hv (some u), rfl, rfl, sq se, atI_nat (hv_at ho), _, rfl, qa, _, rfl, .inl (SqL.of hq), rfl, flat_nv row, decide (u ∈ row), congrArg V.bl (inV_nv u row), ?_⟩
            by_cases hur : u ∈ row
            · have hav : avB hs row j = true := by unfold avB; rw [ho, decide_eq_true hjr]; exact decide_eq_true hur
              rw [decide_eq_true hur]
              refine iteT ?_
              refine ⟨_, rfl, .inl ⟨rfl, _, SqL.of oF⟩, _, rfl, _, rfl, by show 1 ≤ sizeLine; decide, fun L hL => ?_⟩
              have sL := se.new (o := .lst [.int (j : Int)]) hL
              have oL : upd Hf L (.lst [.int (j : Int)]) L = some (.lst [.int (j : Int)]) := upd_same
              have kL := (Same.refl Hf).new (o := .lst [.int (j : Int)]) hL
              generalize upd Hf L (.lst [.int (j : Int)]) = Hg at sL oL kL ⊢
              refine ⟨qa, L, _, _, rfl, rfl, kL _ _ hq, oL, by rw [nv_length]; exact Nat.le_of_lt (szl (by show _ + 1 ≤ 1000; omega)), fun N hN => ?_⟩
              have eN : nv row ++ [V.int (j : Int)] = nv (row ++ [j]) := by rw [nv_append]; rfl
              rw [eN]
              have sN := sL.new (o := .lst (nv (row ++ [j]))) hN
              have kN := kL.trans ((Same.refl Hg).new (o := .lst (nv (row ++ [j]))) hN)
              have oN : upd Hg N (.lst (nv (row ++ [j]))) N = some (.lst (nv (row ++ [j]))) := upd_same
              have nNF : Fr ≠ N := ne_of_none (kL _ _ oF) hN
              generalize upd Hg N (.lst (nv (row ++ [j]))) = Hh at sN kN oN ⊢
              refine ⟨Fr, _, _, rfl, rfl, kN _ _ oF, by rw [List.length_map]; omega, ?_⟩
              refine ⟨_, fs ++ [N], rfl, sN.upd hFn, by rw [upd_ne nRF]; exact kN _ _ oR, (hw.same kN).but nas, by rw [upd_same, List.map_append]; rfl, ?_, fun z => (List.mem_append.mp z).elim nfs fun z => nNF (List.mem_singleton.mp z), fun q hq => (List.mem_append.mp hq).elim (nnf q) fun z => by rw [List.mem_singleton.mp z]; exact sL.free hN⟩
              rw [extTo_succ, if_pos hav, ← List.append_assoc]
              exact ((hf.same kN).but nfs).grow (by rw [upd_ne nNF.symm]; exact oN)
            · rw [decide_eq_false hur]
              exact iteF (skip (by unfold avB; rw [ho, decide_eq_true hjr, Bool.true_and]; show ¬ decide (u ∈ row) = true; rw [decide_eq_false hur]; exact Bool.false_ne_true))
      · rintro σ He ⟨v5, fs, rfl, se, oR, hw, oF, hf, nfs, nnf⟩
        have eN : ((((hs.map hv).length : Nat) : Int)).toNat = hs.length := by omega
        rw [eN, extTo_all] at hf
        refine ⟨_, _, fs, rfl, se, oR, hw, oF, ?_, nfs, nnf⟩
        rw [etake, List.flatMap_append, List.flatMap_cons, List.flatMap_nil, List.append_nil, hpref]
        exact hf
    · rintro σ Hc ⟨v4, v5, fs, rfl, sc, oR, hw, oF, hf, nfs, nnf⟩
      have lr := hw.len
      rw [List.length_map, lr, List.take_length] at hf
      exact ⟨_, rfl, Fr, fs, _, _, _, _, rfl, sc, hFn, oF, hf, nnf⟩
  · rintro σ Ha ⟨R, as, v2, v3, v4, v5, rfl, sa, hRn, oR, hw, nnw⟩
    have eN : ((((hs.map hv).length : Nat) : Int)).toNat = hs.length := by omega
    rw [eN] at hw
    exact ⟨_, rfl, q R as Ha sa hRn oR hw nnw⟩
theorem ok__law_rows (D : Df K mg "_law_rows" st__law_rows ["plan"]) (B : Bl mg) : Kn P w K mg base CX0 1 "_law_rows" st__law_rows ["plan"] spRows :=
  Kn.imp (ok__law_rowsN D B) fun _ _ _ _ ⟨t, hs, e, ht, fo, h6, q⟩ => ⟨t, hs, e, ht, fo, h6, fun p as H' s hp ho wr _ => q p as H' s hp ho wr⟩
end

def rwD (rs : List (List Nat)) : List PyData := rs.map fun r => PyData.list (nD r)
theorem dp_rows {K : PySem.W.Frag} {H : Hp} : ∀ {as : List Addr} {rs : List (List Nat)}, Rws H as rs → DpAll K H (as.map V.ref) (rwD rs)
  | [], [], _ => .nil
  | [], _ :: _, h => by have := h.len; cases this
  | _ :: _, [], h => by have := h.len; cases this
  | a :: as, r :: rs, h => .cons (.lst (SqL.of (h.at_ 0 a r rfl rfl)) (dp_nv r)) (dp_rows ⟨Nat.succ.inj h.len, fun i p q e1 e2 => h.at_ (i + 1) p q e1 e2⟩)
theorem lay_rwD : ∀ rs : List (List Nat), PyData.canLayAll0 (rwD rs) = true
  | [] => rfl
  | r :: rs => by
    show PyData.canLayAll0 (PyData.list (nD r) :: rwD rs) = true
    rw [PyData.canLayAll0, PyData.canLay0, lay_nD, lay_rwD rs]; rfl
theorem deep_rwD : ∀ rs : List (List Nat), PyData.depthAll (rwD rs) = 0 ∨ PyData.depthAll (rwD rs) = 1
  | [] => .inl rfl
  | r :: rs => by
    refine .inr ?_
    show PyData.depthAll (PyData.list (nD r) :: rwD rs) = 1
    rw [PyData.depthAll, PyData.depth, deep_nD]
    rcases deep_rwD rs with z | z <;> rw [z] <;> rfl
theorem shaped_rwD (rs : List (List Nat)) : SeqAt.shaped (.list (rwD rs)) = true := by
  unfold SeqAt.shaped
  rw [PyData.canLay0, lay_rwD, PyData.depth]
  rcases deep_rwD rs with z | z <;> rw [z] <;> rfl
theorem Rws.get {H : Hp} {as : List Addr} {rs : List (List Nat)} (h : Rws H as rs) {i : Nat} {q : Addr} (e : as[i]? = some q) : ∃ r, rs[i]? = some r ∧ H q = some (.lst (nv r)) := by
  have hi := (List.getElem?_eq_some_iff.mp e).1
  have e2 : rs[i]? = some (rs[i]'(by rw [← h.len]; exact hi)) := List.getElem?_eq_getElem _
  exact ⟨_, e2, h.at_ i q _ e e2⟩
theorem ref_at {as : List Addr} {i : Nat} {x : V} (e : (as.map V.ref)[i]? = some x) : ∃ q, as[i]? = some q ∧ x = .ref q := by
  rw [List.getElem?_map] at e
  cases h : as[i]? with
  | none => rw [h] at e; cases e
  | some q => rw [h] at e; exact ⟨q, rfl, (Option.some.inj e).symm⟩

theorem cnt_pos {hs : Hs} (fo : Fo hs) : 1 ≤ cntL hs := by
  rw [cntL_more fo]
  have a := more_rest fo hs.length [] (Pre.nil hs) (by rw [List.length_nil, Nat.zero_add])
  have b := rest_pos fo []
  have f : (0 : Int) < ((fct hs.length : Nat) : Int) := by
    have key : ∀ n, 0 < fct n := fun n => by
      induction n with
      | zero => exact Nat.one_pos
      | succ n ih => rw [fct]; exact Nat.mul_pos ih (Nat.succ_pos n)
    exact Int.ofNat_lt.mpr (key _)
  by_cases c : 1 ≤ more hs hs.length []
  · exact c
  · have z : more hs hs.length [] * rest hs [] ≤ 0 := Int.mul_nonpos_of_nonpos_of_nonneg (by omega) (Int.le_of_lt b)
    omega

theorem prodB_bd {hs : Hs} (fo : Fo hs) {bs : List (List Nat)} (h : ∀ l ∈ bs, l.Nodup ∧ ∀ v ∈ l, v < hs.length) : 0 ≤ prodB hs bs ∧ prodB hs bs ≤ ((fct bs.flatten.length : Nat) : Int) := by
  induction bs with
  | nil => exact ⟨by show (0 : Int) ≤ 1; decide, by show (1 : Int) ≤ 1; decide⟩
  | cons l bs ih =>
    obtain ⟨i1, i2⟩ := ih fun m hm => h m (List.mem_cons_of_mem _ hm)
    obtain ⟨n1, n2⟩ := h l List.mem_cons_self
    have c : 0 ≤ blockN hs l ∧ blockN hs l ≤ ((fct l.length : Nat) : Int) := by
      unfold blockN
      by_cases e : l = []
      · rw [if_pos e, e]; exact ⟨by decide, by decide⟩
      · rw [if_neg e]
        have z := cnt_bd (fo_among fo e n1 n2)
        rw [among_len] at z; exact z
    show 0 ≤ blockN hs l * prodB hs bs ∧ blockN hs l * prodB hs bs ≤ _
    refine ⟨Int.mul_nonneg c.1 i1, ?_⟩
    have z : blockN hs l * prodB hs bs ≤ ((fct l.length : Nat) : Int) * ((fct bs.flatten.length : Nat) : Int) := Int.mul_le_mul c.2 i2 i1 (by omega)
    have y := fct_mul l.length bs.flatten.length
    rw [List.flatten_cons, List.length_append]
    refine Int.le_trans z ?_
    rw [← Int.natCast_mul]
    exact Int.ofNat_le.mpr y

theorem rest_succ' (n i : Nat) (S : List Nat) : restOf (i + 1) S = restOf i S ++ (if i ∈ S then [] else [i]) := by
  unfold restOf
  rw [List.range_succ, List.filter_append]
  by_cases c : i ∈ S <;> simp [c]
theorem restOf_le (n : Nat) (S : List Nat) : (restOf n S).length ≤ n := by
  have z := List.length_filter_le (fun v => decide (¬ v ∈ S)) (List.range n)
  rw [List.length_range] at z; exact z

theorem asc_ext : ∀ {a b : List Nat}, a.Pairwise (· < ·) → b.Pairwise (· < ·) → (∀ v, v ∈ a ↔ v ∈ b) → a = b
  | [], [], _, _, _ => rfl
  | [], y :: b, _, _, h => absurd ((h y).mpr List.mem_cons_self) List.not_mem_nil
  | x :: a, [], _, _, h => absurd ((h x).mp List.mem_cons_self) List.not_mem_nil
  | x :: a, y :: b, ha, hb, h => by
    obtain ⟨a1, a2⟩ := List.pairwise_cons.mp ha
    obtain ⟨b1, b2⟩ := List.pairwise_cons.mp hb
    have e : x = y := by
      have p := (h x).mp List.mem_cons_self
      have q := (h y).mpr List.mem_cons_self
      rcases List.mem_cons.mp p with p | p
      · exact p
      rcases List.mem_cons.mp q with q | q
      · exact q.symm
      have := b1 x p
      have := a1 y q
      omega
    subst e
    rw [asc_ext a2 b2 fun v => ?_]
    have z := h v
    rw [List.mem_cons, List.mem_cons] at z
    refine ⟨fun m => ?_, fun m => ?_⟩
    · rcases z.mp (.inr m) with rfl | k
      · exact absurd (a1 _ m) (Nat.lt_irrefl _)
      · exact k
    · rcases z.mpr (.inr m) with rfl | k
      · exact absurd (b1 _ m) (Nat.lt_irrefl _)
      · exact k

theorem asc_same {a b : List Nat} (ha : a.Pairwise (· < ·)) (hb : b.Pairwise (· < ·)) (pm : a.Perm b) : a = b := asc_ext ha hb fun _ => pm.mem_iff
def spLKeeps : Sp := fun vs H Q _ => ∃ (a p : Addr) (n : Nat) (o : List Nat) (ls : List (List Nat)), vs = [.ref a, .ref p] ∧ H a = some (.lst (nv o)) ∧ o.Nodup ∧ o.length = n ∧ n ≤ 60 ∧ Lots H p ls ∧ Stg n ls ∧ ∀ H', Same H H' → Q (.bl (keepsB o ls)) H'
section
variable {P : Program} {w : World} {K : PySem.W.Frag} {mg : Str → Option Value} {base : Heap}
abbrev st__law_keeps : Stmt := topS 54
abbrev N__law_keeps : List Str := ["row", "lots", "at", "lot"]
theorem sc__law_keeps : FnScope N__law_keeps ["row", "lots"] (defScope st__law_keeps) := ⟨rfl, rfl, rfl, by decide +kernel, rfl, by decide +kernel, by decide +kernel⟩
theorem ok__law_keeps (D : Df K mg "_law_keeps" st__law_keeps ["row", "lots"]) (B : Bl mg) : Kn P w K mg base CX0 1 "_law_keeps" st__law_keeps ["row", "lots"] spLKeeps := by
  refine D.ok sc__law_keeps (fun vs H Q E h => ?_) (fun f cdv A outer s H vs Q E hr h => ?_)
  · obtain ⟨a, p, n, o, ls, rfl, _⟩ := h; rfl
  obtain ⟨a, p, n, o, ls, rfl, ha, nd, ln, hn, hp, st, q⟩ := h
  refine ⟨_, ((pss_cons (ps_set (i := 2) sc__law_keeps.nd rfl (Or.inl rfl) pe_int)
      (pss_cons (ps_for PassesOwn.never rfl (pi_list (pv 1)) (pg_name (i := 3) sc__law_keeps.nd rfl (Or.inl rfl)) (pss_cons (ps_if (pt_cmpR (op_neD hr.units) (pe_callB cr_sorted (by rfl) B.sorted (by decide +kernel) (pa_cons (pe_slice sl_list (pv 0) (po_some (pv 2)) (po_some (pe_op op_add (pv 2) (pe_callB call_len (by rfl) B.len (by decide +kernel) (pa_cons (pv 3) pa_nil))))) pa_nil)) (pe_callTy call_list_of (by rfl) B.list (by decide +kernel) (pa_cons (pv 3) pa_nil)) (nomark _)) (pss_one (ps_ret pe_bl)) pss_nil)
      (pss_one (ps_set (i := 2) sc__law_keeps.nd rfl (Or.inl rfl) (pe_op op_add (pv 2) (pe_callB call_len (by rfl) B.len (by decide +kernel) (pa_cons (pv 3) pa_nil)))))))
      (pss_one (ps_ret pe_bl))))), ?_⟩
  obtain ⟨xs, hx, lx⟩ := hp
  have sz := st.size
  refine ⟨_, rfl, p, rfl, ⟨_, SqL.of hx⟩, for_it (walk_list (xs := xs)) (fun i σ H' => ∃ v3, σ = [some (.ref a), some (.ref p), some (.int ((((ls.take i).flatten.length : Nat) : Int))), v3] ∧ Same H H' ∧ keepsB o ls = keepsB (o.drop (ls.take i).flatten.length) (ls.drop i)) ⟨_, rfl, Same.refl H, rfl⟩ (fun i σ H' _ z => ?_) ?_ ?_⟩
  · obtain ⟨_, _, z, _⟩ := z
    exact SqL.of (z _ _ hx)
  · rintro i x σ H1 H2 hi ⟨v3, rfl, s1, ek⟩ ⟨rfl, e1⟩
    obtain ⟨t, l, el, rfl, ht⟩ := lx.at e1
    have ml := List.mem_of_getElem? el
    have tk : ls.take (i + 1) = ls.take i ++ [l] := by rw [List.take_add_one, el]; rfl
    have dr : ls.drop i = l :: ls.drop (i + 1) := by
      have il := (List.getElem?_eq_some_iff.mp el).1
      rw [List.drop_eq_getElem_cons il]
      rw [List.getElem?_eq_getElem il] at el
      rw [Option.some.inj el]
    have fl := flat_len (ls := ls) (i + 1)
    rw [tk, List.flatten_append, List.flatten_singleton, List.length_append] at fl
    rw [tk, List.flatten_append, List.flatten_singleton, List.length_append]
    generalize (ls.take i).flatten.length = d at ek fl ⊢
    rw [dr] at ek
    have ek2 : keepsB o ls = (decide (((o.drop d).take l.length).Perm l) && keepsB ((o.drop d).drop l.length) (ls.drop (i + 1))) := ek
    rw [List.drop_drop] at ek2
    have ht1 := s1 _ _ ht
    have ha1 := s1 _ _ ha
    refine ⟨_, rfl, _, rfl, _, rfl, _, rfl, _, rfl, _, _, rfl, .inr ⟨_, SqT.of ht1, rfl⟩, _, _, rfl, rfl, _, rfl, a, _, rfl, SqL.of ha1, fun S hS => ?_⟩
    have es : cutV (nv o) (some (d : Int)) (some ((d : Int) + ((nv l).length : Int))) = nv ((o.drop d).take l.length) := by
      rw [nv_length, show (d : Int) + (l.length : Int) = ((d + l.length : Nat) : Int) by omega, cut_mid (nv o) (by omega) (by rw [nv_length]; omega), show d + l.length - d = l.length by omega, nv_drop, nv_take]
    rw [es]
    have s3 := s1.new (o := .lst (nv ((o.drop d).take l.length))) hS
    have oS : upd H2 S (.lst (nv ((o.drop d).take l.length))) S = some (.lst (iv (((o.drop d).take l.length).map fun v : Nat => (v : Int)))) := by
      rw [upd_same]
      unfold nv iv
      rw [List.map_map]; rfl
    generalize upd H2 S (.lst (nv ((o.drop d).take l.length))) = H3 at s3 oS ⊢
    have ll : ((o.drop d).take l.length).length ≤ 60 := by rw [List.length_take, List.length_drop]; omega
    have ndt : ((o.drop d).take l.length).Nodup := (List.take_sublist _ _).nodup ((List.drop_sublist _ _).nodup nd)
    refine ⟨S, _, rfl, SqL.of oS, by rw [List.length_map]; omega, fun ns p2 pm pw hp2 => ?_⟩
    obtain ⟨ks, rfl, pk, pwk⟩ := up_nat pm pw ndt
    have eiv : (ks.map fun v : Nat => (v : Int)).map V.int = nv ks := by unfold nv; rw [List.map_map]; rfl
    rw [eiv]
    have s4 := s3.new (o := .lst (nv ks)) hp2
    have o4 : upd H3 p2 (.lst (nv ks)) p2 = some (.lst (nv ks)) := upd_same
    generalize upd H3 p2 (.lst (nv ks)) = H4 at s4 o4 ⊢
    refine ⟨_, rfl, t, _, rfl, .inr (SqT.of (s4 _ _ ht)), fun L hL => ?_⟩
    have s5 := s4.new (o := .lst (nv l)) hL
    have oL : upd H4 L (.lst (nv l)) L = some (.lst (nv l)) := upd_same
    have o5 := ((Same.refl H4).new (o := .lst (nv l)) hL) _ _ o4
    generalize upd H4 L (.lst (nv l)) = H5 at s5 oL o5 ⊢
    refine ⟨_, _, .lst (SqL.of o5) (dp_nv ks), .lst (SqL.of oL) (dp_nv l), shaped_nD ks, shaped_nD l, !decide (ks = l), by rw [eqv_list, eqv_nD], ?_⟩
    by_cases c : ks = l
    · have pm2 : ((o.drop d).take l.length).Perm l := by
        have z := pk.symm
        rw [c] at z; exact z
      refine iteF' (by rw [decide_eq_true c]; rfl) ⟨_, rfl, _, rfl, _, _, rfl, .inr ⟨_, SqT.of (s5 _ _ ht), rfl⟩, _, _, rfl, rfl, some (.ref t), ?_, s5, ?_⟩
      · rw [show (((d + l.length : Nat)) : Int) = (d : Int) + ((nv l).length : Int) by rw [nv_length]; omega]; rfl
      · rw [ek2, decide_eq_true pm2, Bool.true_and]
    · have npm : ¬ ((o.drop d).take l.length).Perm l := fun z => c (asc_same pwk (st.up l ml) (pk.trans z))
      refine iteT' (by rw [decide_eq_false c]; rfl) ?_
      have z := q H5 s5
      rw [ek2, decide_eq_false npm, Bool.false_and] at z
      exact z
  · rintro σ H1 ⟨v3, rfl, s1, ek⟩
    have lxl := lx.1
    rw [lxl, List.drop_length] at ek
    have z := q H1 s1
    rw [ek] at z
    exact z
end

end My

namespace My
open PySem PySem.Spec PyProof.Rows L2
/-- those of l whose holder isn't in l -/
def canN (hs : Hs) (l : List Nat) : List Nat := l.filter (isFree hs l)
theorem free_iff {hs : Hs} {l : List Nat} {v : Nat} (h : v < hs.length) : isFree hs l v = true ↔ ∀ u : Nat, hs[v]? = some (some u) → ¬ u ∈ l := by
  unfold isFree
  obtain ⟨o, ho⟩ : ∃ o, hs[v]? = some o := ⟨_, List.getElem?_eq_getElem h⟩
  rw [ho]
  cases o with
  | none => simp
  | some u =>
    show (!decide (u ∈ l)) = true ↔ _
    rw [Bool.not_eq_true', decide_eq_false_iff_not]
    exact ⟨fun z u' e => by cases e; exact z, fun z => z u rfl⟩
theorem canN_len (hs : Hs) (l : List Nat) : (canN hs l).length ≤ l.length := List.length_filter_le _ _
theorem can_step {hs : Hs} {l : List Nat} {i v : Nat} (e : l[i]? = some v) : (l.take (i + 1)).filter (isFree hs l) = (l.take i).filter (isFree hs l) ++ (if isFree hs l v = true then [v] else []) := by
  rw [List.take_add_one, e, List.filter_append]
  congr 1
  by_cases c : isFree hs l v = true
  · rw [if_pos c]
    show [v].filter _ = _
    rw [List.filter_cons_of_pos c]; rfl
  · rw [if_neg c]
    show [v].filter _ = _
    rw [List.filter_cons_of_neg c]; rfl

/-! ### sequences in their order, block by block: the mathematics -/
theorem av_congr {hs : Hs} {r r' : List Nat} (h : ∀ v, v ∈ r ↔ v ∈ r') : av hs r = av hs r' := by
  unfold av
  refine List.filter_congr fun v _ => ?_
  unfold avB
  congr 1
  · exact decide_eq_decide.mpr (not_congr (h v))
  · rcases hs[v]? with _ | _ | u
    · rfl
    · rfl
    · exact decide_eq_decide.mpr (h u)
theorem exts_congr {hs : Hs} : ∀ (k : Nat) {r r' : List Nat}, (∀ v, v ∈ r ↔ v ∈ r') → exts hs k r = exts hs k r'
  | 0, _, _, _ => rfl
  | k + 1, r, r', h => by
    show (av hs r).flatMap _ = (av hs r').flatMap _
    rw [av_congr h]
    congr 1
    funext v
    rw [exts_congr k (r := r ++ [v]) (r' := r' ++ [v]) fun x => by rw [List.mem_append, List.mem_append, h x]]
def inL (l q : List Nat) : Bool := q.all fun x => decide (x ∈ l)
theorem inL_iff {l q : List Nat} : inL l q = true ↔ ∀ x ∈ q, x ∈ l := by
  unfold inL
  rw [List.all_eq_true]
  exact ⟨fun h x hx => of_decide_eq_true (h x hx), fun h x hx => decide_eq_true (h x hx)⟩
/-- the sequences of a block behind r, in their order -/
def wE (hs : Hs) (r l : List Nat) : List (List Nat) := (exts hs l.length r).filter (inL l)
structure Bok (hs : Hs) (r l : List Nat) : Prop where
  up : l.Pairwise (· < ·)
  lt : ∀ v ∈ l, v < hs.length
  dj : ∀ v ∈ l, ¬ v ∈ r
  nw : NoWrong hs r l
theorem Bok.nd {hs : Hs} {r l : List Nat} (b : Bok hs r l) : l.Nodup := b.up.imp fun {a b} h => by omega
def minus (l : List Nat) (v : Nat) : List Nat := l.filter fun x => decide (x ≠ v)
theorem mem_minus {l : List Nat} {v x : Nat} : x ∈ minus l v ↔ x ∈ l ∧ x ≠ v := by
  unfold minus
  rw [List.mem_filter, decide_eq_true_eq]
theorem minus_len : ∀ {l : List Nat} {v : Nat}, l.Nodup → v ∈ l → (minus l v).length + 1 = l.length
  | a :: l, v, nd, h => by
    obtain ⟨n1, n2⟩ := List.nodup_cons.mp nd
    by_cases c : a = v
    · subst c
      have e : minus (a :: l) a = l := by
        unfold minus
        rw [List.filter_cons_of_neg (by simp)]
        exact List.filter_eq_self.mpr fun x hx => decide_eq_true fun z => n1 (z ▸ hx)
      rw [e, List.length_cons]
    · have m : v ∈ l := (List.mem_cons.mp h).resolve_left fun z => c z.symm
      have e : minus (a :: l) v = a :: minus l v := by
        unfold minus
        rw [List.filter_cons_of_pos (by simpa using c)]
      rw [e, List.length_cons, List.length_cons, minus_len n2 m]
theorem wE_mem {hs : Hs} {r l q : List Nat} (p : Pre hs r) (b : Bok hs r l) (h : q ∈ wE hs r l) : Pre hs (r ++ q) ∧ q.Perm l := by
  obtain ⟨h1, h2⟩ := List.mem_filter.mp h
  obtain ⟨pq, lq⟩ := exts_pre p h1
  exact ⟨pq, (perm_all b.nd (List.nodup_append.mp pq.nd).2.1 lq).mpr (inL_iff.mp h2)⟩
theorem wE_len {hs : Hs} {r l : List Nat} (fo : Fo hs) (p : Pre hs r) (b : Bok hs r l) : ((wE hs r l).length : Int) = blockN hs l := by
  have z := (block_cnt p b.nd b.lt b.dj).1 b.nw
  rw [blockN_more fo b.nd b.lt] at z
  rw [← z]
  unfold wE cI
  rw [← List.countP_eq_length_filter]
  congr 1
  refine List.countP_congr fun q hq => ?_
  obtain ⟨pq, lq⟩ := exts_pre p hq
  rw [inL_iff, decide_eq_true_eq, perm_all b.nd (List.nodup_append.mp pq.nd).2.1 lq]
theorem wE_nil (hs : Hs) (r : List Nat) : wE hs r [] = [[]] := rfl
theorem flat_if {α β : Type} (p : α → Bool) (f : α → List β) : ∀ L : List α, L.flatMap (fun v => if p v = true then f v else []) = (L.filter p).flatMap f
  | [] => rfl
  | x :: L => by
    rw [List.flatMap_cons, flat_if p f L]
    by_cases c : p x = true
    · rw [if_pos c, List.filter_cons_of_pos c, List.flatMap_cons]
    · rw [if_neg c, List.filter_cons_of_neg c, List.nil_append]
theorem Bok.minus {hs : Hs} {r l : List Nat} (b : Bok hs r l) {v : Nat} (hv1 : v ∈ l) : Bok hs (r ++ [v]) (minus l v) where
  up := b.up.filter _
  lt := fun x hx => b.lt x (mem_minus.mp hx).1
  dj := fun x hx z => (List.mem_append.mp z).elim (b.dj x (mem_minus.mp hx).1) fun y => (mem_minus.mp hx).2 (List.mem_singleton.mp y)
  nw := fun x hx u e => by
    rcases b.nw x (mem_minus.mp hx).1 u e with m | m
    · exact .inl (List.mem_append_left _ m)
    · by_cases c : u = v
      · exact .inl (List.mem_append_right _ (List.mem_singleton.mpr c))
      · exact .inr (mem_minus.mpr ⟨m, c⟩)
theorem can_av {hs : Hs} {r l : List Nat} (b : Bok hs r l) : (av hs r).filter (fun v => decide (v ∈ l)) = canN hs l := by
  refine asc_ext ((List.pairwise_lt_range.filter _).filter _) (b.up.filter _) fun v => ?_
  unfold canN
  rw [List.mem_filter, List.mem_filter, decide_eq_true_eq, av_mem]
  constructor
  · rintro ⟨⟨h1, h2, h3⟩, h4⟩
    exact ⟨h4, (free_iff h1).mpr fun u e m => b.dj u m (h3 u e)⟩
  · rintro ⟨h4, h5⟩
    have h1 := b.lt v h4
    exact ⟨⟨h1, b.dj v h4, fun u e => (b.nw v h4 u e).resolve_right ((free_iff h1).mp h5 u e)⟩, h4⟩
theorem can_mem_av {hs : Hs} {r l : List Nat} (b : Bok hs r l) {v : Nat} (h : v ∈ canN hs l) : v ∈ av hs r ∧ v ∈ l := by
  rw [← can_av b] at h
  exact ⟨(List.mem_filter.mp h).1, of_decide_eq_true (List.mem_filter.mp h).2⟩
theorem wE_cons {hs : Hs} {r l : List Nat} (p : Pre hs r) (b : Bok hs r l) (ne : l ≠ []) : wE hs r l = (canN hs l).flatMap fun v => (wE hs (r ++ [v]) (minus l v)).map fun t => v :: t := by
  obtain ⟨k, ek⟩ : ∃ k, l.length = k + 1 := ⟨l.length - 1, by have := List.length_pos_iff.mpr ne; omega⟩
  rw [← can_av b, ← flat_if]
  unfold wE
  rw [ek]
  show ((av hs r).flatMap fun v => (exts hs k (r ++ [v])).map fun t => v :: t).filter _ = _
  rw [List.filter_flatMap]
  have go : ∀ L : List Nat, (∀ v ∈ L, v ∈ av hs r) → L.flatMap (fun v => ((exts hs k (r ++ [v])).map fun t => v :: t).filter (inL l)) = L.flatMap fun v => if decide (v ∈ l) = true then ((exts hs (minus l v).length (r ++ [v])).filter (inL (minus l v))).map (fun t => v :: t) else [] := fun L => by
    induction L with
    | nil => intro _; rfl
    | cons v L ih =>
      intro h
      rw [List.flatMap_cons, List.flatMap_cons, ih fun x hx => h x (List.mem_cons_of_mem _ hx)]
      congr 1
      rw [List.filter_map]
      by_cases c : v ∈ l
      · rw [if_pos (decide_eq_true c), show (minus l v).length = k by have := minus_len b.nd c; omega]
        congr 1
        refine List.filter_congr fun t ht => ?_
        have nt := (exts_pre (p.snoc (h v List.mem_cons_self)) ht).1.nd
        show inL l (v :: t) = inL (minus l v) t
        rw [Bool.eq_iff_iff, inL_iff, inL_iff]
        refine ⟨fun z x hx => mem_minus.mpr ⟨z x (List.mem_cons_of_mem _ hx), fun e => ?_⟩, fun z x hx => ?_⟩
        · exact (List.nodup_append.mp nt).2.2 v (List.mem_append_right _ List.mem_cons_self) x hx e.symm
        · rcases List.mem_cons.mp hx with rfl | hx
          · exact c
          · exact (mem_minus.mp (z x hx)).1
      · rw [if_neg (by rw [decide_eq_false c]; exact Bool.false_ne_true)]
        have e : (exts hs k (r ++ [v])).filter (inL l ∘ fun t => v :: t) = [] := List.filter_eq_nil_iff.mpr fun t _ z => c (inL_iff.mp z v List.mem_cons_self)
        rw [e]; rfl
  exact go _ fun _ h => h
/-- the things of a block by their places in it -/
def bk (l q : List Nat) : List Nat := q.map fun i => l.getD i 0
theorem exts_sub {hs : Hs} {l r0 : List Nat} (b : Bok hs r0 l) : ∀ (k : Nat) (q : List Nat), (∀ i ∈ q, i < l.length) → (exts hs k (r0 ++ bk l q)).filter (inL l) = (exts (amongH hs l) k q).map (bk l)
  | 0, q, _ => rfl
  | k + 1, q, hq => by
    have nd := b.nd
    have gi : ∀ i, i < l.length → l[i]? = some (l.getD i 0) := fun i h => by rw [List.getD_eq_getElem?_getD, List.getElem?_eq_getElem h]; rfl
    have gm : ∀ i, i < l.length → l.getD i 0 ∈ l := fun i h => List.mem_of_getElem? (gi i h)
    have inq : ∀ i, i < l.length → (l.getD i 0 ∈ r0 ++ bk l q ↔ i ∈ q) := fun i h => by
      rw [List.mem_append]
      refine ⟨fun z => ?_, fun z => .inr (List.mem_map.mpr ⟨i, z, rfl⟩)⟩
      rcases z with z | z
      · exact absurd z (b.dj _ (gm i h))
      · obtain ⟨j, hj, e⟩ := List.mem_map.mp z
        have ej := gi j (hq j hj)
        rw [e] at ej
        rw [nodup_at nd (gi i h) ej]; exact hj
    have avs : ∀ i, i < l.length → avB hs (r0 ++ bk l q) (l.getD i 0) = avB (amongH hs l) q i := fun i h => by
      unfold avB
      rw [among_at (gi i h)]
      congr 1
      · exact decide_eq_decide.mpr (not_congr (inq i h))
      · obtain ⟨o, ho⟩ : ∃ o, hs[l.getD i 0]? = some o := ⟨_, List.getElem?_eq_getElem (b.lt _ (gm i h))⟩
        rw [ho]
        cases o with
        | none => rfl
        | some u =>
          show decide (u ∈ _) = match some (posOf l u) with
            | some none => true
            | some (some u) => decide (u ∈ q)
            | none => false
          by_cases m : u ∈ l
          · obtain ⟨j, ej⟩ := posOf_mem m
            have lj := posOf_some ej
            have hj := (List.getElem?_eq_some_iff.mp lj).1
            have eu : u = l.getD j 0 := by
              have z := gi j hj
              rw [lj] at z; exact Option.some.inj z
            rw [ej]
            show _ = decide (j ∈ q)
            rw [eu]
            exact decide_eq_decide.mpr (inq j hj)
          · rw [posOf_none m]
            show _ = true
            refine decide_eq_true (List.mem_append_left _ ?_)
            exact (b.nw _ (gm i h) u ho).resolve_right m
    show ((av hs (r0 ++ bk l q)).flatMap fun v => (exts hs k (r0 ++ bk l q ++ [v])).map fun t => v :: t).filter (inL l) = ((av (amongH hs l) q).flatMap fun i => (exts (amongH hs l) k (q ++ [i])).map fun t => i :: t).map (bk l)
    rw [List.filter_flatMap, List.map_flatMap]
    have e1 : (av hs (r0 ++ bk l q)).flatMap (fun v => ((exts hs k (r0 ++ bk l q ++ [v])).map fun t => v :: t).filter (inL l)) = (av hs (r0 ++ bk l q)).flatMap fun v => if decide (v ∈ l) = true then ((exts hs k (r0 ++ bk l q ++ [v])).filter (inL l)).map (fun t => v :: t) else [] := by
      congr 1
      funext v
      rw [List.filter_map]
      by_cases c : v ∈ l
      · rw [if_pos (decide_eq_true c)]
        congr 1
        refine List.filter_congr fun t _ => ?_
        show inL l (v :: t) = inL l t
        unfold inL
        rw [List.all_cons, decide_eq_true c, Bool.true_and]
      · rw [if_neg (by rw [decide_eq_false c]; exact Bool.false_ne_true)]
        have e : (exts hs k (r0 ++ bk l q ++ [v])).filter (inL l ∘ fun t => v :: t) = [] := List.filter_eq_nil_iff.mpr fun t _ z => c (inL_iff.mp z v List.mem_cons_self)
        rw [e]; rfl
    have e2 : (av hs (r0 ++ bk l q)).filter (fun v => decide (v ∈ l)) = (av (amongH hs l) q).map fun i => l.getD i 0 := by
      have e3 : (av hs (r0 ++ bk l q)).filter (fun v => decide (v ∈ l)) = l.filter (avB hs (r0 ++ bk l q)) := by
        refine asc_ext ((List.pairwise_lt_range.filter _).filter _) (b.up.filter _) fun v => ?_
        unfold av
        rw [List.mem_filter, List.mem_filter, List.mem_filter, decide_eq_true_eq, List.mem_range]
        exact ⟨fun h => ⟨h.2, h.1.2⟩, fun h => ⟨⟨b.lt v h.1, h.2⟩, h.1⟩⟩
      rw [e3]
      conv => lhs; rw [list_ix l]
      rw [List.filter_map]
      congr 1
      unfold av
      rw [among_len]
      exact List.filter_congr fun i hi => by
        have e4 := avs i (List.mem_range.mp hi)
        rw [← list_ix l]
        exact e4
    rw [e1, flat_if, e2, List.flatMap_map]
    have go : ∀ L : List Nat, (∀ i ∈ L, i < l.length) → L.flatMap (fun i => ((exts hs k (r0 ++ bk l q ++ [l.getD i 0])).filter (inL l)).map fun t => l.getD i 0 :: t) = L.flatMap fun i => ((exts (amongH hs l) k (q ++ [i])).map fun t => i :: t).map (bk l) := fun L => by
      induction L with
      | nil => intro _; rfl
      | cons i L ih =>
        intro h
        rw [List.flatMap_cons, List.flatMap_cons, ih fun x hx => h x (List.mem_cons_of_mem _ hx)]
        congr 1
        have e5 : r0 ++ bk l q ++ [l.getD i 0] = r0 ++ bk l (q ++ [i]) := by unfold bk; rw [List.map_append, List.append_assoc]; rfl
        rw [e5, exts_sub b k (q ++ [i]) fun j hj => by
          rcases List.mem_append.mp hj with z | z
          · exact hq j z
          · rw [List.mem_singleton.mp z]; exact h i List.mem_cons_self]
        rw [List.map_map, List.map_map]; rfl
    exact go _ fun i hi => by
      have z := (av_mem.mp hi).1
      rw [among_len] at z; exact z
theorem wE_block {hs : Hs} {r l : List Nat} (b : Bok hs r l) : wE hs r l = (exts (amongH hs l) l.length []).map (bk l) := by
  have z := exts_sub b l.length [] fun i hi => absurd hi List.not_mem_nil
  show (exts hs l.length r).filter (inL l) = _
  rw [← z, show r ++ bk l [] = r from List.append_nil r]

/-! ### block behind block -/
def allE (hs : Hs) : List Nat → List (List Nat) → List (List Nat)
  | _, [] => [[]]
  | r, l :: ls => (wE hs r l).flatMap fun p => (allE hs (r ++ l) ls).map fun q => p ++ q
def Oks (hs : Hs) : List Nat → List (List Nat) → Prop
  | _, [] => True
  | r, l :: ls => Bok hs r l ∧ Oks hs (r ++ l) ls
theorem Pre.block {hs : Hs} {r l : List Nat} (p : Pre hs r) (b : Bok hs r l) : Pre hs (r ++ l) where
  nd := List.nodup_append.mpr ⟨p.nd, b.nd, fun x hx y hy e => b.dj y hy (e ▸ hx)⟩
  lt := fun v hv1 => (List.mem_append.mp hv1).elim (p.lt v) (b.lt v)
  cl := fun v hv1 u e => (List.mem_append.mp hv1).elim (fun m => List.mem_append_left _ (p.cl v m u e)) fun m => (b.nw v m u e).elim (List.mem_append_left _) (List.mem_append_right _)
theorem keep_all {hs : Hs} : ∀ (ls : List (List Nat)) (r m : List Nat), Pre hs r → Oks hs r (ls ++ [m]) → (∀ v, v < hs.length → v ∈ r ∨ v ∈ ls.flatten ∨ v ∈ m) → (exts hs (hs.length - r.length) r).filter (fun q => keepsB q ls) = allE hs r (ls ++ [m])
  | [], r, m, p, ok, all => by
    have b : Bok hs r m := ok.1
    have pb := p.block b
    have pm : (r ++ m).Perm (List.range hs.length) := (List.perm_ext_iff_of_nodup pb.nd List.nodup_range).mpr fun x => by
      rw [List.mem_range]
      refine ⟨fun h => pb.lt x h, fun h => List.mem_append.mpr ((all x h).imp id fun z => z.resolve_left ?_)⟩
      intro y; cases y
    have ln := pm.length_eq
    rw [List.length_append, List.length_range] at ln
    show (exts hs (hs.length - r.length) r).filter (fun _ => true) = (wE hs r m).flatMap fun p => ([[]] : List (List Nat)).map fun q => p ++ q
    rw [List.filter_eq_self.mpr fun _ _ => rfl, show hs.length - r.length = m.length by omega]
    have e1 : wE hs r m = exts hs m.length r := List.filter_eq_self.mpr fun q hq => inL_iff.mpr fun x hx => by
      obtain ⟨pq, _⟩ := exts_pre p hq
      have h1 := pq.lt x (List.mem_append_right _ hx)
      rcases all x h1 with h | h | h
      · exact absurd rfl ((List.nodup_append.mp pq.nd).2.2 x h x hx)
      · cases h
      · exact h
    rw [e1]
    generalize exts hs m.length r = L
    induction L with
    | nil => rfl
    | cons x L ih =>
      rw [List.flatMap_cons, ← ih]
      show _ = [x ++ []] ++ _
      rw [List.append_nil]; rfl
  | l :: ls, r, m, p, ok, all => by
    obtain ⟨b, ok2⟩ : Bok hs r l ∧ Oks hs (r ++ l) (ls ++ [m]) := ok
    have pb := p.block b
    have ln := nodup_len hs.length _ pb.nd pb.lt
    rw [List.length_append] at ln
    have ih := keep_all ls (r ++ l) m pb ok2 fun v h => by
      rcases all v h with z | z | z
      · exact .inl (List.mem_append_left _ z)
      · rw [List.flatten_cons] at z
        exact (List.mem_append.mp z).elim (fun y => .inl (List.mem_append_right _ y)) fun y => .inr (.inl y)
      · exact .inr (.inr z)
    rw [List.length_append] at ih
    rw [show hs.length - r.length = l.length + (hs.length - (r.length + l.length)) by omega, exts_add, List.filter_flatMap]
    show _ = (wE hs r l).flatMap fun p => (allE hs (r ++ l) (ls ++ [m])).map fun q => p ++ q
    unfold wE
    rw [← flat_if]
    have go : ∀ L : List (List Nat), (∀ q ∈ L, q ∈ exts hs l.length r) → L.flatMap (fun q => ((exts hs (hs.length - (r.length + l.length)) (r ++ q)).map fun t => q ++ t).filter fun q => keepsB q (l :: ls)) = L.flatMap fun q => if inL l q = true then (allE hs (r ++ l) (ls ++ [m])).map (fun t => q ++ t) else [] := fun L => by
      induction L with
      | nil => intro _; rfl
      | cons q L ih2 =>
        intro h
        rw [List.flatMap_cons, List.flatMap_cons, ih2 fun x hx => h x (List.mem_cons_of_mem _ hx)]
        congr 1
        obtain ⟨pq, lq⟩ := exts_pre p (h q List.mem_cons_self)
        have nq := (List.nodup_append.mp pq.nd).2.1
        have kb : ∀ t, keepsB (q ++ t) (l :: ls) = (decide (q.Perm l) && keepsB t ls) := fun t => by
          show (decide (((q ++ t).take l.length).Perm l) && keepsB ((q ++ t).drop l.length) ls) = _
          rw [← lq, List.take_left, List.drop_left]
        rw [List.filter_map]
        by_cases c : q.Perm l
        · rw [if_pos (inL_iff.mpr ((perm_all b.nd nq lq).mp c))]
          congr 1
          rw [← ih, exts_congr _ (r := r ++ q) (r' := r ++ l) fun v => by rw [List.mem_append, List.mem_append, c.mem_iff]]
          refine List.filter_congr fun t _ => ?_
          show keepsB (q ++ t) (l :: ls) = keepsB t ls
          rw [kb, decide_eq_true c, Bool.true_and]
        · rw [if_neg fun z => c ((perm_all b.nd nq lq).mpr (inL_iff.mp z))]
          have e : (exts hs (hs.length - (r.length + l.length)) (r ++ q)).filter ((fun q => keepsB q (l :: ls)) ∘ fun t => q ++ t) = [] := List.filter_eq_nil_iff.mpr fun t _ z => by
            have y : keepsB (q ++ t) (l :: ls) = true := z
            rw [kb, decide_eq_false c] at y
            exact Bool.false_ne_true y
          rw [e]; rfl
    exact go _ fun _ h => h
/-! ### indexes -/
theorem flat_at {f : Nat → List (List Nat)} : ∀ {L : List Nat}, L.Pairwise (· < ·) → ∀ {i : Nat} {y : List Nat}, (L.flatMap f)[i]? = some y →
    ∃ (v j : Nat), v ∈ L ∧ (f v)[j]? = some y ∧ (i : Int) = ((L.filter fun m => decide (m < v)).map fun m => ((f m).length : Int)).sum + (j : Int)
  | [], _, i, y, h => by cases h
  | x :: L, up, i, y, h => by
    rw [List.flatMap_cons] at h
    obtain ⟨u1, u2⟩ := List.pairwise_cons.mp up
    by_cases c : i < (f x).length
    · rw [List.getElem?_append_left c] at h
      refine ⟨x, i, List.mem_cons_self, h, ?_⟩
      have e : (x :: L).filter (fun m => decide (m < x)) = [] := List.filter_eq_nil_iff.mpr fun m hm z => by
        have z := of_decide_eq_true z
        rcases List.mem_cons.mp hm with rfl | hm
        · exact Nat.lt_irrefl _ z
        · have := u1 m hm; omega
      rw [e]
      show (i : Int) = 0 + (i : Int)
      omega
    · rw [List.getElem?_append_right (by omega)] at h
      obtain ⟨v, j, m, e, s⟩ := flat_at u2 h
      have xv := u1 v m
      refine ⟨v, j, List.mem_cons_of_mem _ m, e, ?_⟩
      rw [List.filter_cons_of_pos (p := fun m => decide (m < v)) (decide_eq_true xv), List.map_cons, List.sum_cons]
      omega
theorem flat_const {f : List Nat → List (List Nat)} {P : Nat} : ∀ {L : List (List Nat)}, (∀ x ∈ L, (f x).length = P) → ∀ {i : Nat} {y : List Nat}, (L.flatMap f)[i]? = some y → ∃ (a j : Nat) (x : List Nat), L[a]? = some x ∧ (f x)[j]? = some y ∧ i = a * P + j
  | [], _, i, y, h => by cases h
  | x :: L, hl, i, y, h => by
    rw [List.flatMap_cons] at h
    have lx := hl x List.mem_cons_self
    by_cases c : i < (f x).length
    · rw [List.getElem?_append_left c] at h
      exact ⟨0, i, x, rfl, h, by omega⟩
    · rw [List.getElem?_append_right (by omega)] at h
      obtain ⟨a, j, z, e1, e2, e3⟩ := flat_const (fun x hx => hl x (List.mem_cons_of_mem _ hx)) h
      exact ⟨a + 1, j, z, e1, e2, by rw [Nat.succ_mul]; omega⟩
theorem flat_put {f : List Nat → List (List Nat)} {P : Nat} : ∀ {L : List (List Nat)}, (∀ x ∈ L, (f x).length = P) → ∀ {a j : Nat} {x y : List Nat}, L[a]? = some x → (f x)[j]? = some y → (L.flatMap f)[a * P + j]? = some y
  | [], _, _, _, _, _, e, _ => by cases e
  | z :: L, hl, 0, j, x, y, e, h => by
    cases e
    rw [List.flatMap_cons, Nat.zero_mul, Nat.zero_add, List.getElem?_append_left (List.getElem?_eq_some_iff.mp h).1, h]
  | z :: L, hl, a + 1, j, x, y, e, h => by
    have lz := hl z List.mem_cons_self
    rw [List.flatMap_cons, List.getElem?_append_right (by rw [lz, Nat.succ_mul]; omega), lz, show (a + 1) * P + j - P = a * P + j by rw [Nat.succ_mul]; omega]
    exact flat_put (fun x hx => hl x (List.mem_cons_of_mem _ hx)) e h
theorem allE_len {hs : Hs} (fo : Fo hs) : ∀ (bs : List (List Nat)) (r : List Nat), Pre hs r → Oks hs r bs → ((allE hs r bs).length : Int) = prodB hs bs
  | [], _, _, _ => rfl
  | l :: bs, r, p, ok => by
    obtain ⟨b, ok2⟩ : Bok hs r l ∧ Oks hs (r ++ l) bs := ok
    have ih := allE_len fo bs (r ++ l) (p.block b) ok2
    have wl := wE_len fo p b
    show ((((wE hs r l).flatMap fun p => (allE hs (r ++ l) bs).map fun q => p ++ q).length : Nat) : Int) = blockN hs l * prodB hs bs
    rw [← ih, ← wl, ← Int.natCast_mul]
    congr 1
    generalize wE hs r l = L
    induction L with
    | nil => simp
    | cons x L ih => rw [List.flatMap_cons, List.length_append, ih, List.length_map, List.length_cons, Nat.succ_mul]; omega
theorem allE_step {hs : Hs} {r l t p : List Nat} {bs : List (List Nat)} {x : Nat} (ht : (allE hs (r ++ l) bs)[x % (allE hs (r ++ l) bs).length]? = some t) (hp : (wE hs r l)[x / (allE hs (r ++ l) bs).length % (wE hs r l).length]? = some p) :
    (allE hs r (l :: bs))[x % ((allE hs (r ++ l) bs).length * (wE hs r l).length)]? = some (p ++ t) := by
  rw [Nat.mod_mul, Nat.add_comm, Nat.mul_comm]
  refine flat_put (P := (allE hs (r ++ l) bs).length) (fun q _ => List.length_map _) hp ?_
  rw [List.getElem?_map, ht]; rfl
/-! ### ranks -/
def rankW (hs : Hs) : List Nat → List Nat → Int
  | _, [] => 0
  | left, v :: p => (((left.filter fun m => decide (m < v)).filter (isFree hs left)).map fun m => blockN hs (minus left m)).sum + rankW hs (minus left v) p
theorem rankW_at {hs : Hs} (fo : Fo hs) : ∀ (k : Nat) (r l p : List Nat) (i : Nat), l.length = k → Pre hs r → Bok hs r l → (wE hs r l)[i]? = some p → rankW hs l p = (i : Int)
  | 0, r, l, p, i, hk, pr, b, h => by
    have e := List.eq_nil_of_length_eq_zero hk
    subst e
    have h : ([[]] : List (List Nat))[i]? = some p := h
    have hi := (List.getElem?_eq_some_iff.mp h).1
    have i0 : i = 0 := by simpa using hi
    subst i0
    cases h
    rfl
  | k + 1, r, l, p, i, hk, pr, b, h => by
    have ne : l ≠ [] := fun z => by rw [z] at hk; cases hk
    rw [wE_cons pr b ne] at h
    obtain ⟨v, j, mv, e, s⟩ := flat_at (b.up.filter _) h
    rw [List.getElem?_map] at e
    cases et : (wE hs (r ++ [v]) (minus l v))[j]? with
    | none => rw [et] at e; cases e
    | some t =>
      rw [et] at e
      have ep : p = v :: t := (Option.some.inj e).symm
      subst ep
      obtain ⟨ma, ml⟩ := can_mem_av b mv
      have mlen := minus_len b.nd ml
      have ih := rankW_at fo k (r ++ [v]) (minus l v) t j (by omega) (pr.snoc ma) (b.minus ml) et
      show (((l.filter fun m => decide (m < v)).filter (isFree hs l)).map fun m => blockN hs (minus l m)).sum + rankW hs (minus l v) t = _
      rw [ih, s]
      congr 1
      have e2 : (l.filter fun m => decide (m < v)).filter (isFree hs l) = (canN hs l).filter fun m => decide (m < v) := by
        unfold canN
        rw [List.filter_filter, List.filter_filter]
        exact List.filter_congr fun x _ => Bool.and_comm _ _
      rw [e2]
      congr 1
      refine List.map_congr_left fun m hm => ?_
      obtain ⟨ma2, ml2⟩ := can_mem_av b (List.mem_filter.mp hm).1
      rw [List.length_map, wE_len fo (pr.snoc ma2) (b.minus ml2)]
def rankA (hs : Hs) : List (List Nat) → List Nat → Int
  | [], _ => 0
  | l :: ls, row => rankW hs l (row.take l.length) * prodB hs ls + rankA hs ls (row.drop l.length)
theorem rankA_at {hs : Hs} (fo : Fo hs) : ∀ (bs : List (List Nat)) (r row : List Nat) (i : Nat), Pre hs r → Oks hs r bs → (allE hs r bs)[i]? = some row → rankA hs bs row = (i : Int)
  | [], r, row, i, pr, ok, h => by
    have h : ([[]] : List (List Nat))[i]? = some row := h
    have hi := (List.getElem?_eq_some_iff.mp h).1
    have i0 : i = 0 := by simpa using hi
    subst i0
    rfl
  | l :: bs, r, row, i, pr, ok, h => by
    obtain ⟨b, ok2⟩ : Bok hs r l ∧ Oks hs (r ++ l) bs := ok
    obtain ⟨a, j, p, e1, e2, e3⟩ := flat_const (P := (allE hs (r ++ l) bs).length) (fun q _ => List.length_map _) (show ((wE hs r l).flatMap fun p => (allE hs (r ++ l) bs).map fun q => p ++ q)[i]? = some row from h)
    rw [List.getElem?_map] at e2
    cases et : (allE hs (r ++ l) bs)[j]? with
    | none => rw [et] at e2; cases e2
    | some t =>
      rw [et] at e2
      have ep : row = p ++ t := (Option.some.inj e2).symm
      subst ep
      have lp : p.length = l.length := (wE_mem pr b (List.mem_of_getElem? e1)).2.length_eq
      have i1 := rankW_at fo l.length r l p a rfl pr b e1
      have i2 := rankA_at fo bs (r ++ l) t j (pr.block b) ok2 et
      show rankW hs l ((p ++ t).take l.length) * prodB hs bs + rankA hs bs ((p ++ t).drop l.length) = _
      rw [← lp, List.take_left, List.drop_left, i1, i2, ← allE_len fo bs (r ++ l) (pr.block b) ok2, e3]
      rw [Int.natCast_add, Int.natCast_mul]
/-! ### the first and the last one -/
def endPick (hs : Hs) (side : Bool) (left : List Nat) : Option Nat := if side = true then (canN hs left).getLast? else (canN hs left).head?
def endW (hs : Hs) (side : Bool) : Nat → List Nat → List Nat
  | 0, _ => []
  | k + 1, left => match endPick hs side left with
    | some v => v :: endW hs side k (minus left v)
    | none => []
theorem head_flat {α : Type} {L : List α} {f : α → List (List Nat)} {x : α} {y : List Nat} (h : L.head? = some x) (h2 : (f x).head? = some y) : (L.flatMap f).head? = some y := by
  cases L with
  | nil => cases h
  | cons z L =>
    cases h
    rw [List.flatMap_cons, List.head?_append, h2]; rfl
theorem last_flat {α : Type} {L : List α} {f : α → List (List Nat)} {x : α} {y : List Nat} (h : L.getLast? = some x) (h2 : (f x).getLast? = some y) : (L.flatMap f).getLast? = some y := by
  obtain ⟨L', e⟩ := List.getLast?_eq_some_iff.mp h
  rw [e, List.flatMap_append, List.getLast?_append, List.flatMap_cons, List.flatMap_nil, List.append_nil, h2]; rfl
theorem pick_some {hs : Hs} (fo : Fo hs) {side : Bool} {left : List Nat} (lt : ∀ v ∈ left, v < hs.length) (ne : left ≠ []) : ∃ v, endPick hs side left = some v ∧ v ∈ canN hs left := by
  obtain ⟨v0, hv0⟩ := List.exists_mem_of_ne_nil _ ne
  obtain ⟨x, hx⟩ := free_some fo lt hv0
  have hx : x ∈ canN hs left := hx
  cases side with
  | true =>
    unfold endPick
    rw [if_pos rfl]
    cases e : (canN hs left).getLast? with
    | none => rw [List.getLast?_eq_none_iff] at e; rw [e] at hx; cases hx
    | some v => exact ⟨v, rfl, List.mem_of_getLast? e⟩
  | false =>
    unfold endPick
    rw [if_neg Bool.false_ne_true]
    cases e : (canN hs left).head? with
    | none => rw [List.head?_eq_none_iff] at e; rw [e] at hx; cases hx
    | some v => exact ⟨v, rfl, List.mem_of_head? e⟩
def sideOf {α : Type} (side : Bool) (L : List α) : Option α := if side = true then L.getLast? else L.head?
theorem side_flat {α : Type} {side : Bool} {L : List α} {f : α → List (List Nat)} {x : α} {y : List Nat} (h : sideOf side L = some x) (h2 : sideOf side (f x) = some y) : sideOf side (L.flatMap f) = some y := by
  cases side with
  | true => exact last_flat h h2
  | false => exact head_flat h h2
theorem side_map {α β : Type} {side : Bool} {L : List α} {f : α → β} {x : α} (h : sideOf side L = some x) : sideOf side (L.map f) = some (f x) := by
  cases side with
  | true =>
    show (L.map f).getLast? = _
    rw [List.getLast?_map, show L.getLast? = some x from h]; rfl
  | false =>
    show (L.map f).head? = _
    rw [List.head?_map, show L.head? = some x from h]; rfl
theorem wE_end {hs : Hs} (fo : Fo hs) (side : Bool) : ∀ (k : Nat) (r l : List Nat), l.length = k → Pre hs r → Bok hs r l → sideOf side (wE hs r l) = some (endW hs side k l)
  | 0, r, l, hk, pr, b => by
    have e := List.eq_nil_of_length_eq_zero hk
    subst e
    cases side <;> rfl
  | k + 1, r, l, hk, pr, b => by
    have ne : l ≠ [] := fun z => by rw [z] at hk; cases hk
    obtain ⟨v, e, mv⟩ := pick_some fo (side := side) b.lt ne
    obtain ⟨ma, ml⟩ := can_mem_av b mv
    have mlen := minus_len b.nd ml
    rw [wE_cons pr b ne]
    show _ = some (match endPick hs side l with
      | some v => v :: endW hs side k (minus l v)
      | none => [])
    rw [e]
    exact side_flat e (side_map (wE_end fo side k (r ++ [v]) (minus l v) (by omega) (pr.snoc ma) (b.minus ml)))
def endA (hs : Hs) (side : Bool) (bs : List (List Nat)) : List Nat := (bs.map fun l => endW hs side l.length l).flatten
theorem allE_end {hs : Hs} (fo : Fo hs) (side : Bool) : ∀ (bs : List (List Nat)) (r : List Nat), Pre hs r → Oks hs r bs → sideOf side (allE hs r bs) = some (endA hs side bs)
  | [], _, _, _ => by cases side <;> rfl
  | l :: bs, r, pr, ok => by
    obtain ⟨b, ok2⟩ : Bok hs r l ∧ Oks hs (r ++ l) bs := ok
    exact side_flat (wE_end fo side l.length r l rfl pr b) (side_map (allE_end fo side bs (r ++ l) (pr.block b) ok2))

end My

namespace My
open PySem PySem.Spec PyProof.Rows L2
/-! ### heldbehind.left: what is left, as an object -/
def dkv (l : List Nat) : List (Key × V) := l.map fun v : Nat => ((Sum.inl ((v : Nat) : Int) : Key), V.bl true)
theorem dkv_len (l : List Nat) : (dkv l).length = l.length := List.length_map _
theorem dkv_at {l : List Nat} {i v : Nat} (h : l[i]? = some v) : (dkv l)[i]? = some (Sum.inl (v : Int), .bl true) := by
  unfold dkv
  rw [List.getElem?_map, h]; rfl
theorem key_eq (v u : Nat) : decide ((Sum.inl ((v : Nat) : Int) : Key) = Sum.inl ((u : Nat) : Int)) = decide (v = u) :=
  decide_eq_decide.mpr ⟨fun z => by have := Sum.inl.inj z; omega, fun z => by rw [z]⟩
theorem dkv_in : ∀ (l : List Nat) (u : Nat), (valV (dkv l) (Sum.inl (u : Int) : Key)).isSome = decide (u ∈ l)
  | [], _ => rfl
  | v :: l, u => by
    have ih := dkv_in l u
    unfold valV at ih ⊢
    show (((Sum.inl ((v : Nat) : Int), V.bl true) :: dkv l).find? _ |>.map _).isSome = _
    by_cases c : v = u
    · rw [List.find?_cons_of_pos (by rw [key_eq]; exact decide_eq_true c)]
      rw [decide_eq_true (by rw [c]; exact List.mem_cons_self)]; rfl
    · rw [List.find?_cons_of_neg (by rw [key_eq, decide_eq_false c]; exact Bool.false_ne_true), ih]
      exact decide_eq_decide.mpr ⟨fun z => List.mem_cons_of_mem _ z, fun z => (List.mem_cons.mp z).resolve_left fun y => c y.symm⟩
theorem dkv_drop (l : List Nat) (v : Nat) : dropK (dkv l) (Sum.inl (v : Int) : Key) = dkv (minus l v) := by
  unfold dropK dkv minus
  rw [List.filter_map]
  congr 1
  refine List.filter_congr fun x _ => ?_
  show decide (¬ (Sum.inl ((x : Nat) : Int) : Key) = Sum.inl ((v : Nat) : Int)) = decide (¬ x = v)
  exact decide_eq_decide.mpr (not_congr ⟨fun z => by have := Sum.inl.inj z; omega, fun z => by rw [z]⟩)
theorem dkv_put {l : List Nat} {v : Nat} (h : ¬ v ∈ l) : putK (dkv l) (Sum.inl (v : Int) : Key) (.bl true) = dkv (l ++ [v]) := by
  have e : valV (dkv l) (Sum.inl (v : Int) : Key) = none := by
    have z := dkv_in l v
    rw [decide_eq_false h] at z
    cases y : valV (dkv l) (Sum.inl (v : Int) : Key) with
    | none => rfl
    | some x => rw [y] at z; cases z
  rw [putK_new _ e]
  unfold dkv
  rw [List.map_append]; rfl
theorem putF_two (f : Str) (x y : V) : ∀ fs : List (Str × V), putF f y (putF f x fs) = putF f y fs
  | [] => by
    show (if f = f then [(f, y)] else _) = [(f, y)]
    rw [if_pos rfl]
  | (g, z) :: r => by
    by_cases c : g = f
    · rw [show putF f x ((g, z) :: r) = (g, x) :: r from if_pos c, show putF f y ((g, z) :: r) = (g, y) :: r from if_pos c]
      exact if_pos c
    · rw [show putF f x ((g, z) :: r) = (g, z) :: putF f x r from if_neg c, show putF f y ((g, z) :: r) = (g, z) :: putF f y r from if_neg c]
      rw [show putF f y ((g, z) :: putF f x r) = (g, z) :: putF f y (putF f x r) from if_neg c, putF_two f x y r]
theorem putF_len (f : Str) (y : V) : ∀ fs : List (Str × V), (putF f y fs).length ≤ fs.length + 1
  | [] => Nat.le_refl _
  | (g, z) :: r => by
    by_cases c : g = f
    · rw [show putF f y ((g, z) :: r) = (g, y) :: r from if_pos c]
      exact Nat.le_succ _
    · rw [show putF f y ((g, z) :: r) = (g, z) :: putF f y r from if_neg c]
      exact Nat.succ_le_succ (putF_len f y r)
def alF (a z d : Addr) (m : Int) : List (Str × V) := putF "many" (.int m) (putF "things" (.ref d) (putF "size_of" (.ref z) (putF "forest" (.ref a) [])))
theorem alF_many (a z d : Addr) (m : Int) : (alF a z d m).lookup ("many" : Str) = some (.int m) := by
  unfold alF
  rw [lookup_putF, if_pos rfl]
theorem alF_things (a z d : Addr) (m : Int) : (alF a z d m).lookup ("things" : Str) = some (.ref d) := by
  unfold alF
  rw [lookup_putF, if_neg (by decide +kernel), lookup_putF, if_pos rfl]
theorem alF_size (a z d : Addr) (m : Int) : (alF a z d m).lookup ("size_of" : Str) = some (.ref z) := by
  unfold alF
  rw [lookup_putF, if_neg (by decide +kernel), lookup_putF, if_neg (by decide +kernel), lookup_putF, if_pos rfl]
theorem alF_forest (a z d : Addr) (m : Int) : (alF a z d m).lookup ("forest" : Str) = some (.ref a) := by
  unfold alF
  rw [lookup_putF, if_neg (by decide +kernel), lookup_putF, if_neg (by decide +kernel), lookup_putF, if_neg (by decide +kernel), lookup_putF, if_pos rfl]
theorem alF_no (a z d : Addr) (m : Int) {f : Str} (h1 : ¬ f = "many") (h2 : ¬ f = "things") (h3 : ¬ f = "size_of") (h4 : ¬ f = "forest") : (alF a z d m).lookup f = none := by
  unfold alF
  rw [lookup_putF, if_neg h1, lookup_putF, if_neg h2, lookup_putF, if_neg h3, lookup_putF, if_neg h4]; rfl
theorem alF_put (a z d : Addr) (m y : Int) : putF "many" (.int y) (alF a z d m) = alF a z d y := by
  unfold alF
  rw [putF_two]
theorem alF_len (a z d : Addr) (m : Int) : (alF a z d m).length < 1000 := by
  unfold alF
  have h1 := putF_len "forest" (.ref a) []
  have h2 := putF_len "size_of" (.ref z) (putF "forest" (.ref a) [])
  have h3 := putF_len "things" (.ref d) (putF "size_of" (.ref z) (putF "forest" (.ref a) []))
  have h4 := putF_len "many" (.int m) (putF "things" (.ref d) (putF "size_of" (.ref z) (putF "forest" (.ref a) [])))
  simp only [List.length_nil] at h1
  omega
/-- the object that keeps what is left behind r -/
structure Alf (C : Addr) (H : Hp) (p a z d : Addr) (hs : Hs) (r : List Nat) : Prop where
  ob : ∃ dx, H p = some (.ins C dx (alF a z d (more hs (hs.length - r.length) r)))
  fa : H a = some (.tup (hs.map hv))
  sz : H z = some (.lst (iv (szL hs)))
  dc : H d = some (.dK (dkv (restOf hs.length r)))
structure AlT (K : PySem.W.Frag) (mg : Str → Option Value) (C : Addr) : Prop where
  cl : Cls K C
  g : mg "AllLeft" = some (.ref C)
  nF : NoAttr K C "forest"
  nS : NoAttr K C "size_of"
  nT : NoAttr K C "things"
  nM : NoAttr K C "many"
theorem rest_minus (n : Nat) (r : List Nat) (v : Nat) : restOf n (r ++ [v]) = minus (restOf n r) v := by
  unfold restOf minus
  rw [List.filter_filter]
  refine List.filter_congr fun x _ => ?_
  rw [Bool.eq_iff_iff, Bool.and_eq_true, decide_eq_true_eq, decide_eq_true_eq, decide_eq_true_eq, List.mem_append, List.mem_singleton]
  exact ⟨fun h => ⟨fun e => h (.inr e), fun e => h (.inl e)⟩, fun h e => e.elim h.2 h.1⟩
theorem rest_nil (n : Nat) : restOf n [] = List.range n := List.filter_eq_self.mpr fun x _ => decide_eq_true List.not_mem_nil
theorem more_bd {hs : Hs} (fo : Fo hs) {r : List Nat} (p : Pre hs r) : 0 ≤ more hs (hs.length - r.length) r ∧ more hs (hs.length - r.length) r ≤ ((fct (hs.length - r.length) : Nat) : Int) := by
  have ln := nodup_len hs.length _ p.nd p.lt
  have e := more_rest fo (hs.length - r.length) r p (by omega)
  have rp := rest_pos fo r
  have h0 : 0 ≤ more hs (hs.length - r.length) r := by rw [← exts_more]; omega
  refine ⟨h0, ?_⟩
  rw [← e]
  have z := Int.mul_le_mul_of_nonneg_left (show (1 : Int) ≤ rest hs r by omega) h0
  omega
theorem more_next {hs : Hs} (fo : Fo hs) {r : List Nat} (p : Pre hs r) {v : Nat} (hv1 : v ∈ av hs r) : 0 < hs.length - r.length ∧ more hs (hs.length - r.length) r * (szL hs).getD v 0 / ((hs.length - r.length : Nat) : Int) = more hs (hs.length - (r ++ [v]).length) (r ++ [v]) := by
  have p2 := p.snoc hv1
  have ln := nodup_len hs.length _ p2.nd p2.lt
  rw [List.length_append, List.length_singleton] at ln
  obtain ⟨k, ek⟩ : ∃ k, hs.length - r.length = k + 1 := ⟨hs.length - r.length - 1, by omega⟩
  have e := more_step fo p (k := k) (by omega) hv1
  refine ⟨by omega, ?_⟩
  rw [ek, e, List.length_append, List.length_singleton, show hs.length - (r.length + 1) = k by omega]
  exact Int.mul_ediv_cancel_left _ (by omega)
def spCanD : Sp := fun vs H Q _ => ∃ (a d : Addr) (hs : Hs) (l : List Nat), vs = [.ref a, .ref d] ∧ H a = some (.tup (hs.map hv)) ∧ H d = some (.dK (dkv l)) ∧ (∀ v ∈ l, v < hs.length) ∧ l.length ≤ 60 ∧ ∀ r H', Same H H' → H r = none → H' r = some (.lst (nv (canN hs l))) → Q (.ref r) H'
section
variable {P : Program} {w : World} {K : PySem.W.Frag} {mg : Str → Option Value} {base : Heap}
abbrev st_can_be_next : Stmt := topS 23
abbrev N_can_be_next : List Str := ["forest", "things", "thing"]
theorem sc_can_be_next : FnScope N_can_be_next ["forest", "things"] (defScope st_can_be_next) := ⟨rfl, rfl, rfl, by decide +kernel, rfl, by decide +kernel, by decide +kernel⟩
theorem ok_can_be_next (D : Df K mg "can_be_next" st_can_be_next ["forest", "things"]) (B : Bl mg) : Kn P w K mg base CX0 1 "can_be_next" st_can_be_next ["forest", "things"] spCanD := by
  refine D.ok sc_can_be_next (fun vs H Q E h => ?_) (fun f cdv A outer s H vs Q E hr h => ?_)
  · obtain ⟨a, d, hs, l, rfl, _⟩ := h; rfl
  obtain ⟨a, d, hs, l, rfl, ha, hd, lt, hl, q⟩ := h
  refine ⟨_, ((pss_one (ps_ret (pe_lock (pe_lc (own := [("thing", 2)]) (g := gName 2) rfl sc_can_be_next.nd (pi_keys (pv 1)) (blkOk_by (N := N_can_be_next) (sc := defScope st_can_be_next) (own := [("thing", 2)]) (by decide +kernel)) (fun _ _ _ _ _ => by (exact (pg_name (i := 2) sc_can_be_next.nd rfl (Or.inl rfl)))) (fun _ _ _ _ _ => by exact (pts_one (pt_cmp (pc_dnotinN (hu_of hr) (pe_ix (ix_tupK K) (pv 0) (pv 2) (fun _ _ => rfl)) (pv 1))))) (fun _ _ _ _ _ => by exact (pv 2))))))), ?_⟩
  refine ⟨d, .dK (dkv l), hd, trivial, fun od => ?_⟩
  have nad : a ≠ d := fun z => by rw [z, hd] at ha; cases ha
  have ha1 : upd H d (.frz od (.dK (dkv l))) a = some (.tup (hs.map hv)) := (upd_ne nad).trans ha
  have hd1 : upd H d (.frz od (.dK (dkv l))) d = some (.frz od (.dK (dkv l))) := upd_same
  have back : ∀ b o, H b = some o → b ≠ d → upd H d (.frz od (.dK (dkv l))) b = some o := fun b o e n => (upd_ne n).trans e
  have nx : ∀ b, upd H d (.frz od (.dK (dkv l))) b = none → H b = none := fun b e => by
    by_cases c : b = d
    · rw [c, hd1] at e; cases e
    · rw [upd_ne c] at e; exact e
  generalize upd H d (.frz od (.dK (dkv l))) = H1 at ha1 hd1 back nx ⊢
  refine ⟨_, rfl, d, od, rfl, .inl ⟨dkv l, hd1, fun D hD => lc_it (walk_keys (kvs := dkv l)) (fun i H' => Same H1 H' ∧ H' D = some (.lst (nv ((l.take i).filter (isFree hs l))))) ⟨(Same.refl H1).new hD, upd_same⟩ (fun i H' _ z => z.1 _ _ hd1) ?_ ?_⟩⟩
  · rintro i x H2 H3 hi ⟨s2, f2⟩ ⟨rfl, k, v, e, rfl⟩
    rw [dkv_len] at hi
    have el : l[i]? = some l[i] := List.getElem?_eq_getElem hi
    rw [dkv_at el] at e
    cases e
    obtain ⟨o2, ho⟩ : ∃ o, hs[l[i]]? = some o := ⟨_, List.getElem?_eq_getElem (lt _ (List.getElem_mem hi))⟩
    have hd2 := s2 _ _ hd1
    have lz : ((l.take i).filter (isFree hs l)).length ≤ l.length := by
      have z := List.length_filter_le (isFree hs l) (l.take i)
      rw [List.length_take] at z; omega
    have yes : isFree hs l l[i] = true → ∃ acc, H3 D = some (.lst acc) ∧ acc.length < sizeLine ∧ (Same H1 (upd H3 D (.lst (acc ++ [V.int (l[i] : Int)]))) ∧ upd H3 D (.lst (acc ++ [V.int (l[i] : Int)])) D = some (.lst (nv ((l.take (i + 1)).filter (isFree hs l))))) := fun z => by
      refine ⟨_, f2, ?_, s2.upd hD, ?_⟩
      · rw [nv_length]; exact szl (by omega)
      · rw [upd_same, can_step el, if_pos z, nv_append]; rfl
    refine ⟨rfl, _, rfl, _, rfl, a, _, _, _, rfl, rfl, SqT.of (s2 _ _ ha1), atI_nat (hv_at ho), _, rfl, ?_⟩
    cases o2 with
    | none => exact .inr ⟨d, dkv l, rfl, rfl, .inr ⟨od, hd2⟩, _, rfl, iteT ⟨_, rfl, yes (by unfold isFree; rw [ho])⟩⟩
    | some u =>
      refine .inl ⟨d, _, rfl, .inl ⟨dkv l, Sum.inl (u : Int), .inr ⟨od, hd2⟩, rfl, rfl⟩, _, rfl, ?_⟩
      rw [dkv_in]
      have fe : isFree hs l l[i] = !decide (u ∈ l) := by unfold isFree; rw [ho]
      by_cases c : u ∈ l
      · rw [decide_eq_true c]
        rw [decide_eq_true c] at fe
        refine iteF ⟨s2, ?_⟩
        rw [can_step el, if_neg (by rw [fe]; exact Bool.false_ne_true), List.append_nil]; exact f2
      · rw [decide_eq_false c]
        rw [decide_eq_false c] at fe
        exact iteT ⟨_, rfl, yes fe⟩
  · rintro H2 ⟨s2, f2⟩
    rw [dkv_len, List.take_length] at f2
    refine ⟨s2 _ _ hd1, q D _ (fun b o e => ?_) (nx D hD) ?_⟩
    · by_cases c : b = d
      · subst c
        rw [hd] at e
        rw [← e]; exact upd_same
      · exact (upd_ne c).trans (s2 _ _ (back b o e c))
    · exact (upd_ne (ne_of_none hd1 hD).symm).trans f2
end

end My

namespace My
open PySem PySem.Spec PyProof.Rows L2
/-! ### AllLeft's methods -/
def waysL (hs : Hs) (r : List Nat) : List (Nat × Int) := (av hs r).map fun v => (v, more hs (hs.length - (r ++ [v]).length) (r ++ [v]))
structure WpX (H : Hp) (xs : List V) (ws : List (Nat × Int)) : Prop where
  len : xs.length = ws.length
  at_ : ∀ (i : Nat) (x : V) (d : Nat × Int), xs[i]? = some x → ws[i]? = some d → ∃ t, x = .ref t ∧ H t = some (.tup [.int (d.1 : Int), .int d.2])
theorem WpX.nil {H : Hp} : WpX H [] [] := ⟨rfl, fun i x d e _ => by cases e⟩
theorem WpX.same {H H' : Hp} {xs : List V} {ws : List (Nat × Int)} (h : WpX H xs ws) (s : Same H H') : WpX H' xs ws := ⟨h.len, fun i x d e1 e2 => by
  obtain ⟨t, r, h1⟩ := h.at_ i x d e1 e2
  exact ⟨t, r, s _ _ h1⟩⟩
theorem WpX.put {H : Hp} {xs ys : List V} {ws : List (Nat × Int)} {G : Addr} {o : HO} (h : WpX H xs ws) (hG : H G = some (.lst ys)) : WpX (upd H G o) xs ws := ⟨h.len, fun i x d e1 e2 => by
  obtain ⟨t, r, h1⟩ := h.at_ i x d e1 e2
  have n1 : t ≠ G := fun z => by rw [z, hG] at h1; cases h1
  exact ⟨t, r, (upd_ne n1).trans h1⟩⟩
theorem WpX.snoc {H : Hp} {xs : List V} {ws : List (Nat × Int)} {t : Addr} {v : Nat} {m : Int} (h : WpX H xs ws) (ht : H t = some (.tup [.int (v : Int), .int m])) : WpX H (xs ++ [.ref t]) (ws ++ [(v, m)]) := by
  refine ⟨by rw [List.length_append, List.length_append, h.len]; rfl, fun i x d e1 e2 => ?_⟩
  by_cases c : i < xs.length
  · rw [List.getElem?_append_left c] at e1
    rw [List.getElem?_append_left (by rw [← h.len]; exact c)] at e2
    exact h.at_ i x d e1 e2
  · have il := (List.getElem?_eq_some_iff.mp e1).1
    rw [List.length_append, List.length_singleton] at il
    have ei : i = xs.length := by omega
    subst ei
    rw [List.getElem?_append_right (Nat.le_refl _), Nat.sub_self] at e1
    rw [h.len, List.getElem?_append_right (Nat.le_refl _), Nat.sub_self] at e2
    cases e1; cases e2
    exact ⟨t, rfl, ht⟩
def spWaysW (C : Addr) : Sp := fun vs H Q _ => ∃ (p a z d : Addr) (hs : Hs) (r : List Nat) (v : Nat), vs = [.ref p, .int (v : Int)] ∧ Alf C H p a z d hs r ∧ Fo hs ∧ hs.length ≤ 60 ∧ Pre hs r ∧ v ∈ av hs r ∧ Q (.int (more hs (hs.length - (r ++ [v]).length) (r ++ [v]))) H
def spNextW (C : Addr) : Sp := fun vs H Q _ => ∃ (p a z d : Addr) (hs : Hs) (r : List Nat), vs = [.ref p] ∧ Alf C H p a z d hs r ∧ Fo hs ∧ hs.length ≤ 60 ∧ Pre hs r ∧ ∀ R xs H', Same H H' → H R = none → H' R = some (.lst xs) → WpX H' xs (waysL hs r) → Q (.ref R) H'
def spTake (C : Addr) : Sp := fun vs H Q _ => ∃ (p a z d : Addr) (hs : Hs) (r : List Nat) (v : Nat), vs = [.ref p, .int (v : Int)] ∧ Alf C H p a z d hs r ∧ Fo hs ∧ hs.length ≤ 60 ∧ Pre hs r ∧ v ∈ av hs r ∧
  ∀ H', Alf C H' p a z d hs (r ++ [v]) → (∀ b o, H b = some o → b ≠ p → b ≠ d → H' b = some o) → Q .non H'
def spMkAl (C : Addr) : Sp := fun vs H Q _ => ∃ (p dx a : Addr) (hs : Hs), vs = [.ref p, .ref a, .int (more hs hs.length [])] ∧ H p = some (.ins C dx []) ∧ H a = some (.tup (hs.map hv)) ∧ Fo hs ∧ hs.length ≤ 60 ∧
  ∀ z d H', H d = none → Alf C H' p a z d hs [] → (∀ b o, H b = some o → b ≠ p → H' b = some o) → Q .non H'
theorem Alf.ne {C : Addr} {H : Hp} {p a z d : Addr} {hs : Hs} {r : List Nat} (h : Alf C H p a z d hs r) : p ≠ d ∧ a ≠ p ∧ a ≠ d ∧ z ≠ p ∧ z ≠ d := by
  obtain ⟨dx, e⟩ := h.ob
  refine ⟨fun q => ?_, fun q => ?_, fun q => ?_, fun q => ?_, fun q => ?_⟩
  · rw [q, h.dc] at e; cases e
  · have y := h.fa; rw [q, e] at y; cases y
  · have y := h.fa; rw [q, h.dc] at y; cases y
  · have y := h.sz; rw [q, e] at y; cases y
  · have y := h.sz; rw [q, h.dc] at y; cases y
theorem Alf.same {C : Addr} {H H' : Hp} {p a z d : Addr} {hs : Hs} {r : List Nat} (h : Alf C H p a z d hs r) (s : Same H H') : Alf C H' p a z d hs r :=
  ⟨h.ob.imp fun _ e => s _ _ e, s _ _ h.fa, s _ _ h.sz, s _ _ h.dc⟩
theorem rest_pre_len {hs : Hs} {r : List Nat} (p : Pre hs r) : (restOf hs.length r).length = hs.length - r.length := by
  have z := restOf_len p.nd p.lt
  omega
theorem av_free {hs : Hs} (fo : Fo hs) {r : List Nat} (p : Pre hs r) : av hs r = canN hs (restOf hs.length r) := by
  have b : Bok hs r (restOf hs.length r) := ⟨List.pairwise_lt_range.filter _, fun v h => (mem_restOf.mp h).1, fun v h => (mem_restOf.mp h).2, fun v h u e => by
    by_cases c : u ∈ r
    · exact .inl c
    · exact .inr (mem_restOf.mpr ⟨fo.inb v u e, c⟩)⟩
  rw [← can_av b]
  exact (List.filter_eq_self.mpr fun v h => decide_eq_true (mem_restOf.mpr ⟨(av_mem.mp h).1, (av_mem.mp h).2.1⟩)).symm
def sumW (ws : List (Nat × Int)) : Int := (ws.map fun w => w.2).sum
theorem sumW_snoc (ws : List (Nat × Int)) (v : Nat) (m : Int) : sumW (ws ++ [(v, m)]) = sumW ws + m := by
  unfold sumW
  rw [List.map_append, List.sum_append]
  show _ + (m + 0) = _
  omega
theorem sumW_cut (ws : List (Nat × Int)) (i : Nat) : sumW ws = sumW (ws.take i) + sumW (ws.drop i) := by
  unfold sumW
  rw [← List.sum_append, ← List.map_append, List.take_append_drop]
def spNextFor : Sp := fun vs H Q _ => ∃ (R : Addr) (idx : Int) (xs : List V) (ws : List (Nat × Int)), vs = [.ref R, .int idx] ∧ H R = some (.lst xs) ∧ WpX H xs ws ∧ 0 ≤ idx ∧ idx < sumW ws ∧
  ∀ (i v : Nat) (m : Int) (T : Addr) (H' : Hp), ws[i]? = some (v, m) → 0 ≤ idx - sumW (ws.take i) → idx - sumW (ws.take i) < m → Same H H' → H T = none → H' T = some (.tup [.int (v : Int), .int (idx - sumW (ws.take i))]) → Q (.ref T) H'
section
variable {P : Program} {w : World} {K : PySem.W.Frag} {mg : Str → Option Value} {base : Heap} {CA CF : Addr}
abbrev st_AllLeft_ways_with : Stmt := inClass (topS 25) 2
abbrev N_AllLeft_ways_with : List Str := ["self", "thing"]
theorem sc_AllLeft_ways_with : FnScope N_AllLeft_ways_with ["self", "thing"] (defScope st_AllLeft_ways_with) := ⟨rfl, rfl, rfl, by decide +kernel, rfl, by decide +kernel, by decide +kernel⟩
theorem ok_AllLeft_ways_with (D : DfM K CA "ways_with" "AllLeft.ways_with" st_AllLeft_ways_with ["self", "thing"]) (TAllLeft : AlT K mg CA) (B : Bl mg) : KM P w K mg base CX0 1 CA "ways_with" ["self", "thing"] (spWaysW CA) := by
  refine D.ok sc_AllLeft_ways_with (fun vs H Q E h => ?_) (fun f cdv A outer s H vs Q E hr h => ?_)
  · obtain ⟨p, a, z, d, hs, r, v, rfl, _⟩ := h; rfl
  obtain ⟨p, a, z, d, hs, r, v, rfl, al, fo, hl, pr, hv1, q⟩ := h
  refine ⟨_, ((pss_one (ps_ret (pe_op op_fdivW (pe_op op_mulW (pe_fld (pv 0) rfl) (pe_ix ix_list (pe_fld (pv 0) rfl) (pv 1) (fun _ _ => rfl))) (pe_callB call_lenD (by rfl) B.len (by decide +kernel) (pa_cons (pe_fld (pv 0) rfl) pa_nil)))))), ?_⟩
  obtain ⟨dx, hp⟩ := al.ob
  have lt := (av_mem.mp hv1).1
  have lz : (szL hs).length = hs.length := (szL_ok fo).1
  have b := szL_at fo lt
  have mb := more_bd fo pr
  have mn := more_next fo pr hv1
  have big : fct 60 < 2 ^ 1000 := by decide +kernel
  have m1 := fct_mono (show hs.length - r.length ≤ 60 by omega)
  refine ⟨_, rfl, p, CA, dx, _, _, rfl, hp, TAllLeft.cl, TAllLeft.nM, alF_many _ _ _ _, ?_⟩
  refine ⟨_, rfl, p, CA, dx, _, _, rfl, hp, TAllLeft.cl, TAllLeft.nS, alF_size _ _ _ _, _, rfl, z, _, _, _, rfl, rfl, SqL.of al.sz, atI_nat (iv_get (by omega)), ?_⟩
  refine ⟨_, _, rfl, rfl, wide_mul (a := 1000) (b := 1000) (by omega) (Nat.lt_of_le_of_lt (show _ ≤ 100 by omega) (by decide +kernel)) (by decide) (by decide) (by decide), ?_⟩
  refine ⟨_, rfl, p, CA, dx, _, _, rfl, hp, TAllLeft.cl, TAllLeft.nT, alF_things _ _ _ _, d, _, rfl, al.dc, ?_⟩
  rw [dkv_len, rest_pre_len pr]
  refine ⟨_, _, rfl, rfl, wide_div (b := 64) (by omega) (Nat.lt_of_le_of_lt (show _ ≤ 100 by omega) (by decide)) (by decide) (by decide), ?_⟩
  show Q (.int (_ / _)) H
  rw [mn.2]
  exact q
abbrev st_AllLeft_next_ways : Stmt := inClass (topS 25) 1
abbrev N_AllLeft_next_ways : List Str := ["self", "thing"]
theorem sc_AllLeft_next_ways : FnScope N_AllLeft_next_ways ["self"] (defScope st_AllLeft_next_ways) := ⟨rfl, rfl, rfl, by decide +kernel, rfl, by decide +kernel, by decide +kernel⟩
theorem ok_AllLeft_next_ways (D : DfM K CA "next_ways" "AllLeft.next_ways" st_AllLeft_next_ways ["self"]) (TAllLeft : AlT K mg CA) (B : Bl mg) (Kcan_be_next : Kn P w K mg base CX0 1 "can_be_next" st_can_be_next ["forest", "things"] spCanD)
    (GAllLeft_ways_with : KM P w K mg base CX0 1 CA "ways_with" ["self", "thing"] (spWaysW CA)) : KM P w K mg base CX0 2 CA "next_ways" ["self"] (spNextW CA) := by
  refine D.ok sc_AllLeft_next_ways (fun vs H Q E h => ?_) (fun f cdv A outer s H vs Q E hr h => ?_)
  · obtain ⟨p, a, z, d, hs, r, rfl, _⟩ := h; rfl
  obtain ⟨p, a, z, d, hs, r, rfl, al, fo, hl, pr, q⟩ := h
  refine ⟨_, ((pss_one (ps_ret (pe_lc (own := [("thing", 1)]) (g := gName 1) rfl sc_AllLeft_next_ways.nd (pi_list (pe_callF Kcan_be_next (hr.mono (by decide)) pass0 (pa_cons (pe_fld (pv 0) rfl) (pa_cons (pe_fld (pv 0) rfl) pa_nil)))) (blkOk_by (N := N_AllLeft_next_ways) (sc := defScope st_AllLeft_next_ways) (own := [("thing", 1)]) (by decide +kernel)) (fun _ _ _ _ _ => by (exact (pg_name (i := 1) sc_AllLeft_next_ways.nd rfl (Or.inl rfl)))) (fun _ _ _ _ _ => by exact pts_nil) (fun _ _ _ _ _ => by exact (pe_tup (pa_cons (pv 1) (pa_cons (pe_methK GAllLeft_ways_with TAllLeft.cl (hr.mono (by decide)) pass0 (pv 0) (pa_cons (pv 1) pa_nil)) pa_nil)))))))), ?_⟩
  obtain ⟨dx, hp⟩ := al.ob
  have ln := rest_pre_len pr
  refine ⟨_, rfl, p, CA, dx, _, _, rfl, hp, TAllLeft.cl, TAllLeft.nF, alF_forest _ _ _ _, _, rfl, p, CA, dx, _, _, rfl, hp, TAllLeft.cl, TAllLeft.nT, alF_things _ _ _ _, ?_⟩
  refine ⟨a, d, hs, restOf hs.length r, rfl, al.fa, al.dc, fun v h => (mem_restOf.mp h).1, by omega, fun C H1 s1 hC0 hC => ?_⟩
  rw [← av_free fo pr] at hC
  have lav : (av hs r).length ≤ 60 := by
    rw [av_free fo pr]
    have z := canN_len hs (restOf hs.length r)
    omega
  refine ⟨C, rfl, ⟨_, SqL.of hC⟩, fun D hD => lc_it (walk_list (xs := nv (av hs r))) (fun i H' => Same H1 H' ∧ ∃ xs, H' D = some (.lst xs) ∧ WpX H' xs ((waysL hs r).take i)) ⟨(Same.refl H1).new hD, [], upd_same, .nil⟩ (fun i H' _ z => SqL.of (z.1 _ _ hC)) ?_ ?_⟩
  · rintro i x H5 H6 hi ⟨s5, xs, oD, wx⟩ ⟨rfl, e1⟩
    obtain ⟨v, ev, rfl⟩ := nv_at e1
    have mv := List.mem_of_getElem? ev
    have il := (List.getElem?_eq_some_iff.mp ev).1
    have lx := wx.len
    rw [List.length_take] at lx
    have al6 := (al.same s1).same s5
    refine ⟨rfl, _, rfl, _, rfl, p, dx, _, rfl, s5 _ _ (s1 _ _ hp), alF_no _ _ _ _ (by decide +kernel) (by decide +kernel) (by decide +kernel) (by decide +kernel), _, rfl, p, a, z, d, hs, r, v, rfl, al6, fo, hl, pr, mv, ?_⟩
    refine ⟨by show 2 ≤ sizeLine; decide, fun T hT => ?_⟩
    have s8 := s5.new (o := .tup [.int (v : Int), .int (more hs (hs.length - (r ++ [v]).length) (r ++ [v]))]) hT
    have k8 := (Same.refl H6).new (o := .tup [.int (v : Int), .int (more hs (hs.length - (r ++ [v]).length) (r ++ [v]))]) hT
    have oT : upd H6 T (.tup [.int (v : Int), .int (more hs (hs.length - (r ++ [v]).length) (r ++ [v]))]) T = some (.tup [.int (v : Int), .int (more hs (hs.length - (r ++ [v]).length) (r ++ [v]))]) := upd_same
    generalize upd H6 T (.tup [.int (v : Int), .int (more hs (hs.length - (r ++ [v]).length) (r ++ [v]))]) = H8 at s8 k8 oT ⊢
    have oD8 := k8 _ _ oD
    refine ⟨_, oD8, by rw [lx]; exact szl (by omega), s8.upd hD, xs ++ [.ref T], upd_same, ?_⟩
    have tk : (waysL hs r).take (i + 1) = (waysL hs r).take i ++ [(v, more hs (hs.length - (r ++ [v]).length) (r ++ [v]))] := by
      rw [List.take_add_one]
      unfold waysL
      rw [List.getElem?_map, ev]; rfl
    rw [tk]
    have nTD : T ≠ D := fun z => by rw [z, oD8] at oT; cases oT
    exact WpX.put (ys := xs) (WpX.snoc (wx.same k8) oT) oD8
  · rintro H5 ⟨s5, xs, oD, wx⟩
    have et : (waysL hs r).take (nv (av hs r)).length = waysL hs r := by
      rw [nv_length]
      exact List.take_of_length_le (by unfold waysL; rw [List.length_map]; exact Nat.le_refl _)
    rw [et] at wx
    exact q D xs H5 (s1.trans s5) (s1.free hD) oD wx
abbrev st_AllLeft_take : Stmt := inClass (topS 25) 3
abbrev N_AllLeft_take : List Str := ["self", "thing"]
theorem sc_AllLeft_take : FnScope N_AllLeft_take ["self", "thing"] (defScope st_AllLeft_take) := ⟨rfl, rfl, rfl, by decide +kernel, rfl, by decide +kernel, by decide +kernel⟩
theorem ok_AllLeft_take (D : DfM K CA "take" "AllLeft.take" st_AllLeft_take ["self", "thing"]) (TAllLeft : AlT K mg CA) (B : Bl mg) (GAllLeft_ways_with : KM P w K mg base CX0 1 CA "ways_with" ["self", "thing"] (spWaysW CA)) : KM P w K mg base CX0 2 CA "take" ["self", "thing"] (spTake CA) := by
  refine D.ok sc_AllLeft_take (fun vs H Q E h => ?_) (fun f cdv A outer s H vs Q E hr h => ?_)
  · obtain ⟨p, a, z, d, hs, r, v, rfl, _⟩ := h; rfl
  obtain ⟨p, a, z, d, hs, r, v, rfl, al, fo, hl, pr, hv1, q⟩ := h
  refine ⟨_, ((pss_cons (ps_fld (pv 0) (pe_methK GAllLeft_ways_with TAllLeft.cl (hr.mono (by decide)) pass0 (pv 0) (pa_cons (pv 1) pa_nil)) rfl)
      (pss_one (ps_ddel (pe_fld (pv 0) rfl) (pv 1))))), ?_⟩
  obtain ⟨dx, hp⟩ := al.ob
  obtain ⟨n1, n2, n3, n4, n5⟩ := al.ne
  refine ⟨_, rfl, p, dx, _, rfl, hp, alF_no _ _ _ _ (by decide +kernel) (by decide +kernel) (by decide +kernel) (by decide +kernel), _, rfl, p, a, z, d, hs, r, v, rfl, al, fo, hl, pr, hv1, ?_⟩
  refine ⟨_, rfl, p, CA, dx, _, rfl, hp, TAllLeft.cl, TAllLeft.nM, alF_len _ _ _ _, ?_⟩
  rw [alF_put]
  refine ⟨_, rfl, p, CA, dx, _, _, rfl, upd_same, TAllLeft.cl, TAllLeft.nT, alF_things _ _ _ _, _, rfl, d, dkv (restOf hs.length r), Sum.inl (v : Int), rfl, (upd_ne n1.symm).trans al.dc, rfl, ?_, ?_⟩
  · rw [dkv_in]
    exact decide_eq_true (mem_restOf.mpr ⟨(av_mem.mp hv1).1, (av_mem.mp hv1).2.1⟩)
  · rw [dkv_drop, ← rest_minus]
    refine q _ ⟨⟨dx, (upd_ne n1).trans upd_same⟩, (upd_ne n3).trans ((upd_ne n2).trans al.fa), (upd_ne n5).trans ((upd_ne n4).trans al.sz), upd_same⟩ fun b o e h1 h2 => ?_
    exact (upd_ne h2).trans ((upd_ne h1).trans e)
abbrev st_AllLeft_init : Stmt := inClass (topS 25) 0
abbrev N_AllLeft_init : List Str := ["self", "forest", "many", "thing"]
theorem sc_AllLeft_init : FnScope N_AllLeft_init ["self", "forest", "many"] (defScope st_AllLeft_init) := ⟨rfl, rfl, rfl, by decide +kernel, rfl, by decide +kernel, by decide +kernel⟩
theorem ok_AllLeft_init (D : DfI K CA "AllLeft.__init__" st_AllLeft_init ["self", "forest", "many"]) (TAllLeft : AlT K mg CA) (B : Bl mg)
    (Ksizes : Kn P w K mg base (L2.CX P w) 7 "sizes" st_sizes ["forest"] (spOf CF fun hs l => ∃ F, l = iv F ∧ SizeOk hs F)) : KMk P w K mg base CX0 8 CA ["self", "forest", "many"] (spMkAl CA) := by
  refine D.ok sc_AllLeft_init (fun vs H Q E h => ?_) (fun f cdv A outer s H vs Q E hr h => ?_)
  · obtain ⟨p, dx, a, hs, rfl, _⟩ := h; rfl
  obtain ⟨p, dx, a, hs, rfl, hp, ha, fo, hl, q⟩ := h
  refine ⟨_, ((pss_cons (ps_fld (pv 0) (pv 1) rfl)
      (pss_cons (ps_fld (pv 0) (pe_callF Ksizes (hr.mono (by decide)) passL (pa_cons (pv 1) pa_nil)) rfl)
      (pss_cons (ps_fld (pv 0) (pe_dc (own := [("thing", 3)]) (g := gName 3) rfl sc_AllLeft_init.nd (pi_range1 (by rfl) B.range (pa_cons (pe_callB call_len (by rfl) B.len (by decide +kernel) (pa_cons (pv 1) pa_nil)) pa_nil)) (blkOk_by (N := N_AllLeft_init) (sc := defScope st_AllLeft_init) (own := [("thing", 3)]) (by decide +kernel)) (fun _ _ _ _ _ => by (exact (pg_name (i := 3) sc_AllLeft_init.nd rfl (Or.inl rfl)))) (fun _ _ _ _ _ => by exact pts_nil) (fun _ _ _ _ _ => by exact (pv 3)) (fun _ _ _ _ _ => by exact pe_bl)) rfl)
      (pss_one (ps_fld (pv 0) (pv 2) rfl)))))), ?_⟩
  have nap : a ≠ p := fun z => by rw [z, hp] at ha; cases ha
  refine ⟨_, rfl, _, rfl, p, CA, dx, [], rfl, hp, TAllLeft.cl, TAllLeft.nF, by show 0 < 1000; decide, ?_⟩
  have p1 : upd H p (.ins CA dx (putF "forest" (.ref a) [])) p = some (.ins CA dx (putF "forest" (.ref a) [])) := upd_same
  have s1 : ∀ b o, H b = some o → b ≠ p → upd H p (.ins CA dx (putF "forest" (.ref a) [])) b = some o := fun b o e n => (upd_ne n).trans e
  have f1 : ∀ b, upd H p (.ins CA dx (putF "forest" (.ref a) [])) b = none → H b = none := fun b e => by
    by_cases c : b = p
    · rw [c, p1] at e; cases e
    · rw [upd_ne c] at e; exact e
  generalize upd H p (.ins CA dx (putF "forest" (.ref a) [])) = H1 at p1 s1 f1 ⊢
  have ha1 := s1 _ _ ha nap
  have e : tupAt H1 (.ref a) = some (hs.map hv) := tupAt_tup ha1
  have hb : ∀ hs' : Hs, tupAt H1 (.ref a) = some (hs'.map hv) → hs'.length ≤ 60 := fun hs' e' => by
    rw [e] at e'
    have z := congrArg List.length (Option.some.inj e')
    rw [List.length_map, List.length_map] at z
    omega
  refine ⟨_, rfl, .ref a, rfl, askdF ha1 hl, hb, fun n => absurd ⟨hs, e, fo⟩ n, fun hs' e' fo' z l H2 ⟨F, el, ok⟩ s2 hz0 hz => ?_⟩
  have eh : hs = hs' := by
    rw [e] at e'
    exact hv_inj (Option.some.inj e')
  subst eh
  subst el
  have eF : F = szL hs := size_one fo ok (szL_ok fo)
  subst eF
  have p2 := s2 _ _ p1
  have nzp : z ≠ p := (ne_of_none p1 hz0).symm
  refine ⟨_, rfl, p, CA, dx, _, rfl, p2, TAllLeft.cl, TAllLeft.nS, ?_, ?_⟩
  · have y := putF_len "forest" (.ref a) []
    simp only [List.length_nil] at y
    omega
  have p3 : upd H2 p (.ins CA dx (putF "size_of" (.ref z) (putF "forest" (.ref a) []))) p = some (.ins CA dx (putF "size_of" (.ref z) (putF "forest" (.ref a) []))) := upd_same
  have s3 : ∀ b o, H b = some o → b ≠ p → upd H2 p (.ins CA dx (putF "size_of" (.ref z) (putF "forest" (.ref a) []))) b = some o := fun b o e n => (upd_ne n).trans (s2 _ _ (s1 _ _ e n))
  have z3 : upd H2 p (.ins CA dx (putF "size_of" (.ref z) (putF "forest" (.ref a) []))) z = some (.lst (iv (szL hs))) := (upd_ne nzp).trans hz
  have f3 : ∀ b, upd H2 p (.ins CA dx (putF "size_of" (.ref z) (putF "forest" (.ref a) []))) b = none → H b = none := fun b e => by
    by_cases c : b = p
    · rw [c, p3] at e; cases e
    · rw [upd_ne c] at e; exact f1 b (s2.free e)
  generalize upd H2 p (.ins CA dx (putF "size_of" (.ref z) (putF "forest" (.ref a) []))) = H3 at p3 s3 z3 f3 ⊢
  have ha3 := s3 _ _ ha nap
  refine ⟨_, rfl, _, _, rfl, .inr ⟨_, SqT.of ha3, rfl⟩, _, rfl, by rw [List.length_map]; omega, by rw [List.length_map]; omega, fun D hD => dc_any walk_range0 (fun i H' => Same H3 H' ∧ H' D = some (.dK (dkv (List.range i)))) ⟨(Same.refl H3).new hD, upd_same⟩ (fun _ _ _ _ => trivial) ?_ ?_⟩
  · rintro i x H4 H5 hi ⟨s4, o4⟩ ⟨rfl, rfl⟩
    rw [List.length_map] at hi
    refine ⟨rfl, _, rfl, dkv (List.range i), Sum.inl ((i : Nat) : Int), ?_, o4, ?_, s4.upd hD, ?_⟩
    · rfl
    · rw [dkv_len, List.length_range]; exact szl (by omega)
    · rw [dkv_put (by simp), ← List.range_succ]; exact upd_same
  · rintro H4 ⟨s4, o4⟩
    rw [List.length_map] at o4
    have nDp : D ≠ p := (ne_of_none p3 hD).symm
    have p4 := s4 _ _ p3
    refine ⟨_, rfl, p, CA, dx, _, rfl, p4, TAllLeft.cl, TAllLeft.nT, ?_, ?_⟩
    · have y := putF_len "forest" (.ref a) []
      have y2 := putF_len "size_of" (.ref z) (putF "forest" (.ref a) [])
      simp only [List.length_nil] at y
      omega
    refine ⟨_, rfl, _, rfl, p, CA, dx, _, rfl, upd_same, TAllLeft.cl, TAllLeft.nM, ?_, ?_⟩
    · have y := putF_len "forest" (.ref a) []
      have y2 := putF_len "size_of" (.ref z) (putF "forest" (.ref a) [])
      have y3 := putF_len "things" (.ref D) (putF "size_of" (.ref z) (putF "forest" (.ref a) []))
      simp only [List.length_nil] at y
      omega
    refine q z D _ (f3 D hD) ⟨⟨dx, ?_⟩, ?_, ?_, ?_⟩ fun b o e n => ?_
    · exact upd_same
    · exact (upd_ne nap).trans ((upd_ne nap).trans (s4 _ _ ha3))
    · exact (upd_ne nzp).trans ((upd_ne nzp).trans (s4 _ _ z3))
    · rw [rest_nil]
      exact (upd_ne nDp).trans ((upd_ne nDp).trans o4)
    · exact (upd_ne n).trans ((upd_ne n).trans (s4 _ _ (s3 _ _ e n)))
end

end My

namespace My
open PySem PySem.Spec PyProof.Rows L2
/-! ### heldbehind.left.nth_by_ways, heldbehind.sequences.nth_sequence -/
def sumL (f : Nat → List (List Nat)) (L : List Nat) : Nat := (L.map fun v => (f v).length).sum
theorem flat_pick {f : Nat → List (List Nat)} : ∀ {L : List Nat} {i idx v : Nat} {y : List Nat}, L[i]? = some v → (L.flatMap f)[idx]? = some y → sumL f (L.take i) ≤ idx → idx < sumL f (L.take i) + (f v).length → (f v)[idx - sumL f (L.take i)]? = some y
  | [], i, _, _, _, e, _, _, _ => by cases e
  | x :: L, 0, idx, v, y, e, h, h1, h2 => by
    cases e
    have e0 : sumL f ((x :: L).take 0) = 0 := rfl
    rw [e0] at h1 h2 ⊢
    rw [List.flatMap_cons, List.getElem?_append_left (by omega)] at h
    exact h
  | x :: L, i + 1, idx, v, y, e, h, h1, h2 => by
    have e0 : sumL f ((x :: L).take (i + 1)) = (f x).length + sumL f (L.take i) := rfl
    rw [e0] at h1 h2 ⊢
    rw [List.flatMap_cons, List.getElem?_append_right (by omega)] at h
    have z := flat_pick (L := L) (i := i) e h (by omega) (by omega)
    rw [show idx - ((f x).length + sumL f (L.take i)) = idx - (f x).length - sumL f (L.take i) by omega]
    exact z
theorem ways_sum {hs : Hs} {r : List Nat} {k : Nat} (hk : hs.length - r.length = k + 1) (L : List Nat) : ((L.map fun v => ((v, more hs (hs.length - (r ++ [v]).length) (r ++ [v])) : Nat × Int)).map fun w => w.2).sum = ((sumL (fun v => (exts hs k (r ++ [v])).map fun t => v :: t) L : Nat) : Int) := by
  induction L with
  | nil => rfl
  | cons v L ih =>
    rw [List.map_cons, List.map_cons, List.sum_cons, ih]
    show more hs (hs.length - (r ++ [v]).length) (r ++ [v]) + _ = (((((exts hs k (r ++ [v])).map fun t => v :: t).length + sumL _ L : Nat)) : Int)
    rw [List.length_map, Int.natCast_add, exts_more, List.length_append, List.length_singleton, show hs.length - (r.length + 1) = k by omega]
def spNthBy (C : Addr) : Sp := fun vs H Q _ => ∃ (p a z d : Addr) (hs : Hs) (idx : Nat) (row : List Nat), vs = [.ref p, .int (idx : Int)] ∧ Alf C H p a z d hs [] ∧ Fo hs ∧ hs.length ≤ 60 ∧ (exts hs hs.length [])[idx]? = some row ∧
  ∀ R H', (∀ b o, H b = some o → b ≠ p → b ≠ d → H' b = some o) → H R = none → H' R = some (.lst (nv row)) → Q (.ref R) H'
def spNthS : Sp := fun vs H Q _ => ∃ (a : Addr) (hs : Hs) (idx : Nat) (row : List Nat), vs = [.ref a, .int (idx : Int)] ∧ H a = some (.tup (hs.map hv)) ∧ Fo hs ∧ hs.length ≤ 60 ∧ (exts hs hs.length [])[idx]? = some row ∧
  ∀ R H', Same H H' → H R = none → H' R = some (.lst (nv row)) → Q (.ref R) H'
section
variable {P : Program} {w : World} {K : PySem.W.Frag} {mg : Str → Option Value} {base : Heap} {CA CF CI : Addr}
abbrev st__next_for : Stmt := topS 26
abbrev N__next_for : List Str := ["next_ways", "index", "at"]
theorem sc__next_for : FnScope N__next_for ["next_ways", "index"] (defScope st__next_for) := ⟨rfl, rfl, rfl, by decide +kernel, rfl, by decide +kernel, by decide +kernel⟩
theorem ok__next_for (D : Df K mg "_next_for" st__next_for ["next_ways", "index"]) (B : Bl mg) : Kn P w K mg base CX0 1 "_next_for" st__next_for ["next_ways", "index"] spNextFor := by
  refine D.ok sc__next_for (fun vs H Q E h => ?_) (fun f cdv A outer s H vs Q E hr h => ?_)
  · obtain ⟨R, idx, xs, ws, rfl, _⟩ := h; rfl
  obtain ⟨R, idx, xs, ws, rfl, hR, wx, i0, is, q⟩ := h
  refine ⟨_, ((pss_cons (ps_set (i := 2) sc__next_for.nd rfl (Or.inl rfl) pe_int)
      (pss_cons (ps_while PassesOwn.never (pt_cmpR op_ge (pv 1) (pe_ix ix_tup (pe_ix ix_list (pv 0) (pv 2) (fun _ _ => rfl)) pe_int (fun _ _ => rfl)) (nomark _)) (pss_cons (ps_set (i := 1) sc__next_for.nd rfl (Or.inl rfl) (pe_op op_sub (pv 1) (pe_ix ix_tup (pe_ix ix_list (pv 0) (pv 2) (fun _ _ => rfl)) pe_int (fun _ _ => rfl))))
      (pss_one (ps_set (i := 2) sc__next_for.nd rfl (Or.inl rfl) (pe_op op_add (pv 2) pe_int)))))
      (pss_one (ps_ret (pe_tup (pa_cons (pe_ix ix_tup (pe_ix ix_list (pv 0) (pv 2) (fun _ _ => rfl)) pe_int (fun _ _ => rfl)) (pa_cons (pv 1) pa_nil)))))))), ?_⟩
  refine ⟨fun m σ H' => ∃ i, i + m = ws.length ∧ σ = [some (.ref R), some (.int (idx - sumW (ws.take i))), some (.int (i : Int))] ∧ H' = H ∧ 0 ≤ idx - sumW (ws.take i), ⟨ws.length, 0, by omega, ?_, rfl, ?_⟩, ?_⟩
  · have e0 : idx - sumW (ws.take 0) = idx := by show idx - 0 = idx; omega
    rw [e0]; rfl
  · show 0 ≤ idx - 0
    omega
  rintro m σ H1 ⟨i, hm, rfl, rfl, hi⟩
  have il : i < ws.length := by
    by_cases c : i < ws.length
    · exact c
    · rw [List.take_of_length_le (by omega)] at hi; omega
  have ew : ws[i]? = some ws[i] := List.getElem?_eq_getElem il
  generalize ws[i] = wv at ew
  obtain ⟨v, mm⟩ := wv
  have il2 : i < xs.length := by rw [wx.len]; exact il
  have exs : xs[i]? = some xs[i] := List.getElem?_eq_getElem il2
  generalize xs[i] = x at exs
  obtain ⟨t, rfl, ht⟩ := wx.at_ i x _ exs ew
  have tk : ws.take (i + 1) = ws.take i ++ [(v, mm)] := by rw [List.take_add_one, ew]; rfl
  have sm : sumW (ws.take (i + 1)) = sumW (ws.take i) + mm := by rw [tk, sumW_snoc]
  refine ⟨_, rfl, _, rfl, _, rfl, R, _, _, _, rfl, rfl, SqL.of hR, atI_nat exs, t, _, _, _, rfl, rfl, SqT.of ht, atI_nat (j := 1) rfl, _, _, rfl, rfl, _, rfl, ite2 (fun c => ?_) (fun c => ?_)⟩
  · have c := of_decide_eq_true c
    have c2 : mm ≤ idx - sumW (ws.take i) := c
    refine ⟨fun σ' H' => ∃ i', i' = i + 1 ∧ σ' = [some (.ref R), some (.int (idx - sumW (ws.take i'))), some (.int (i' : Int))] ∧ H' = H1 ∧ 0 ≤ idx - sumW (ws.take i'), fun σ' H' ⟨i', e1, e2, e3, e4⟩ => ⟨m - 1, by omega, i', by omega, e2, e3, e4⟩, ?_⟩
    refine ⟨_, rfl, _, rfl, _, rfl, R, _, _, _, rfl, rfl, SqL.of hR, atI_nat exs, t, _, _, _, rfl, rfl, SqT.of ht, atI_nat (j := 1) rfl, _, _, rfl, rfl, _, rfl, _, _, rfl, rfl, i + 1, rfl, ?_, rfl, by omega⟩
    rw [sm, show idx - (sumW (ws.take i) + mm) = idx - sumW (ws.take i) - mm by omega]; rfl
  · have c : ¬ mm ≤ idx - sumW (ws.take i) := fun z => c (decide_eq_true z)
    refine ⟨_, rfl, _, rfl, R, _, _, _, rfl, rfl, SqL.of hR, atI_nat exs, t, _, _, _, rfl, rfl, SqT.of ht, atI_nat (j := 0) rfl, _, rfl, by show 2 ≤ sizeLine; decide, fun T hT => ?_⟩
    exact q i v mm T _ ew hi (by omega) ((Same.refl H1).new hT) hT upd_same
abbrev st_nth_by_ways : Stmt := topS 24
abbrev N_nth_by_ways : List Str := ["left", "index", "found", "thing"]
theorem sc_nth_by_ways : FnScope N_nth_by_ways ["left", "index"] (defScope st_nth_by_ways) := ⟨rfl, rfl, rfl, by decide +kernel, rfl, by decide +kernel, by decide +kernel⟩
theorem ok_nth_by_ways (D : Df K mg "nth_by_ways" st_nth_by_ways ["left", "index"]) (B : Bl mg) (TAllLeft : AlT K mg CA) (K_next_for : Kn P w K mg base CX0 1 "_next_for" st__next_for ["next_ways", "index"] spNextFor)
    (GAllLeft_next_ways : KM P w K mg base CX0 2 CA "next_ways" ["self"] (spNextW CA)) (GAllLeft_take : KM P w K mg base CX0 2 CA "take" ["self", "thing"] (spTake CA)) :
    Kn P w K mg base CX0 3 "nth_by_ways" st_nth_by_ways ["left", "index"] (spNthBy CA) := by
  refine D.ok sc_nth_by_ways (fun vs H Q E h => ?_) (fun f cdv A outer s H vs Q E hr h => ?_)
  · obtain ⟨p, a, z, d, hs, idx, row, rfl, _⟩ := h; rfl
  obtain ⟨p, a, z, d, hs, idx0, row, rfl, al0, fo, hl, er, q⟩ := h
  refine ⟨_, ((pss_cons (ps_set (i := 2) sc_nth_by_ways.nd rfl (Or.inl rfl) (pe_lst pa_nil))
      (pss_cons (ps_while PassesOwn.never (pt_cmpR op_gt (pe_callB call_lenD (by rfl) B.len (by decide +kernel) (pa_cons (pe_fld (pv 0) rfl) pa_nil)) pe_int (nomark _)) (pss_cons (ps_asg (pe_callF K_next_for (hr.mono (by decide)) pass0 (pa_cons (pe_methK0 GAllLeft_next_ways TAllLeft.cl (hr.mono (by decide)) pass0 (pv 0)) (pa_cons (pv 1) pa_nil))) (pg_tup rfl (pgs_cons (pg_name (i := 3) sc_nth_by_ways.nd rfl (Or.inl rfl)) (pgs_cons (pg_name (i := 1) sc_nth_by_ways.nd rfl (Or.inl rfl)) pgs_nil))))
      (pss_cons (ps_expr (pe_methK GAllLeft_take TAllLeft.cl (hr.mono (by decide)) pass0 (pv 0) (pa_cons (pv 3) pa_nil)))
      (pss_one (ps_expr (pe_bm PySem.F.plainAttrs_list PySem.F.slot_list_append PySem.F.type_list_append mt_append (pv 2) (pa_cons (pv 3) pa_nil)))))))
      (pss_one (ps_ret (pv 2)))))), ?_⟩
  obtain ⟨dx0, hp0⟩ := al0.ob
  refine ⟨by show 0 ≤ sizeLine; decide, fun F hF => ?_⟩
  have s1 : Same H (upd H F (.lst [])) := (Same.refl H).new hF
  have f1 : upd H F (.lst []) F = some (.lst (nv [])) := upd_same
  generalize upd H F (.lst []) = H1 at s1 f1 ⊢
  have nFp : F ≠ p := (ne_of_none hp0 hF).symm
  have nFd : F ≠ d := (ne_of_none al0.dc hF).symm
  refine ⟨fun m σ H' => ∃ (o : List Nat) (idx : Nat) (t : List Nat) (v3 : Option V), o.length + m = hs.length ∧ σ = [some (.ref p), some (.int (idx : Int)), some (.ref F), v3] ∧ Alf CA H' p a z d hs o ∧ Pre hs o ∧ H' F = some (.lst (nv o)) ∧ (∀ b o', H b = some o' → b ≠ p → b ≠ d → H' b = some o') ∧ (exts hs m o)[idx]? = some t ∧ o ++ t = row,
    ⟨hs.length, [], idx0, row, none, by rw [List.length_nil, Nat.zero_add], rfl, al0.same s1, Pre.nil hs, f1, fun b o' e _ _ => s1 _ _ e, er, rfl⟩, ?_⟩
  rintro m σ H2 ⟨o, idx, t, v3, hm, rfl, al, pr, hF2, fr, et, eo⟩
  obtain ⟨dx, hp⟩ := al.ob
  have rl := rest_pre_len pr
  refine ⟨_, rfl, p, CA, dx, _, _, rfl, hp, TAllLeft.cl, TAllLeft.nT, alF_things _ _ _ _, d, _, rfl, al.dc, ?_⟩
  rw [dkv_len, rl]
  refine ⟨_, _, rfl, rfl, _, rfl, ?_⟩
  cases m with
  | zero =>
    have e0 : hs.length - o.length = 0 := by omega
    rw [e0]
    refine iteF ?_
    have et : ([[]] : List (List Nat))[idx]? = some t := et
    have ii := (List.getElem?_eq_some_iff.mp et).1
    have i0 : idx = 0 := by simpa using ii
    subst i0
    cases et
    rw [List.append_nil] at eo
    subst eo
    exact ⟨_, rfl, q F H2 fr hF hF2⟩
  | succ k =>
    have ek : hs.length - o.length = k + 1 := by omega
    rw [ek]
    refine iteT' (by show decide (((k + 1 : Nat) : Int) > 0) = true; exact decide_eq_true (by omega)) ?_
    refine ⟨fun σ' H' => ∃ (o : List Nat) (idx : Nat) (t : List Nat) (v3 : Option V), o.length + k = hs.length ∧ σ' = [some (.ref p), some (.int (idx : Int)), some (.ref F), v3] ∧ Alf CA H' p a z d hs o ∧ Pre hs o ∧ H' F = some (.lst (nv o)) ∧ (∀ b o', H b = some o' → b ≠ p → b ≠ d → H' b = some o') ∧ (exts hs k o)[idx]? = some t ∧ o ++ t = row,
      fun σ' H' h => ⟨k, Nat.lt_succ_self k, h⟩, ?_⟩
    have iw : sumW (waysL hs o) = (((exts hs (k + 1) o).length : Nat) : Int) := by
      rw [exts_more]
      unfold sumW waysL
      rw [List.map_map]
      show _ = ((av hs o).map fun v => more hs k (o ++ [v])).sum
      congr 1
      refine List.map_congr_left fun v _ => ?_
      show more hs (hs.length - (o ++ [v]).length) (o ++ [v]) = _
      rw [List.length_append, List.length_singleton, show hs.length - (o.length + 1) = k by omega]
    have ilt := (List.getElem?_eq_some_iff.mp et).1
    refine ⟨_, rfl, p, dx, _, rfl, hp, alF_no _ _ _ _ (by decide +kernel) (by decide +kernel) (by decide +kernel) (by decide +kernel), p, a, z, d, hs, o, rfl, al, fo, hl, pr, fun R xs H3 s3 hR0 hR wx => ?_⟩
    refine ⟨_, rfl, R, idx, xs, waysL hs o, rfl, hR, wx, by omega, by rw [iw]; omega, fun i v m T H4 ei g0 g1 s4 hT0 hT => ?_⟩
    refine ⟨T, _, rfl, SqT.of hT, rfl, _, _, rfl, _, _, rfl, rfl, ?_⟩
    have s34 := s3.trans s4
    -- which thing, and its index
    unfold waysL at ei
    rw [List.getElem?_map] at ei
    obtain ⟨v', ev, e2⟩ : ∃ v', (av hs o)[i]? = some v' ∧ (v', more hs (hs.length - (o ++ [v']).length) (o ++ [v'])) = (v, m) := by
      cases ea : (av hs o)[i]? with
      | none => rw [ea] at ei; cases ei
      | some v' => rw [ea] at ei; exact ⟨v', rfl, Option.some.inj ei⟩
    cases e2
    have mv := List.mem_of_getElem? ev
    have sw : sumW ((waysL hs o).take i) = ((sumL (fun v => (exts hs k (o ++ [v])).map fun t => v :: t) ((av hs o).take i) : Nat) : Int) := by
      unfold sumW waysL
      rw [← List.map_take]
      exact ways_sum ek _
    rw [sw] at g0 g1 ⊢
    have ml : more hs (hs.length - (o ++ [v]).length) (o ++ [v]) = (((exts hs k (o ++ [v])).length : Nat) : Int) := by
      rw [exts_more, List.length_append, List.length_singleton, show hs.length - (o.length + 1) = k by omega]
    rw [ml] at g1
    have pk := flat_pick (f := fun v => (exts hs k (o ++ [v])).map fun t => v :: t) ev et (by omega) (by rw [List.length_map]; omega)
    generalize sumL (fun v => (exts hs k (o ++ [v])).map fun t => v :: t) ((av hs o).take i) = S at g0 g1 pk ⊢
    rw [List.getElem?_map] at pk
    obtain ⟨t', et', e3⟩ : ∃ t', (exts hs k (o ++ [v]))[idx - S]? = some t' ∧ v :: t' = t := by
      cases ea : (exts hs k (o ++ [v]))[idx - S]? with
      | none => rw [ea] at pk; cases pk
      | some t' => rw [ea] at pk; exact ⟨t', rfl, Option.some.inj pk⟩
    subst e3
    have al4 := al.same s34
    obtain ⟨dx4, hp4⟩ := al4.ob
    refine ⟨_, rfl, p, dx4, _, rfl, hp4, alF_no _ _ _ _ (by decide +kernel) (by decide +kernel) (by decide +kernel) (by decide +kernel), _, rfl, p, a, z, d, hs, o, v, rfl, al4, fo, hl, pr, mv, fun H5 al5 fr5 => ?_⟩
    have hF5 : H5 F = some (.lst (nv o)) := fr5 _ _ (s34 _ _ hF2) nFp nFd
    have lo : o.length < 60 := by omega
    refine ⟨_, rfl, .inl ⟨rfl, _, SqL.of hF5⟩, _, rfl, F, _, _, rfl, rfl, hF5, by rw [nv_length]; exact szl (by omega), ?_⟩
    obtain ⟨n1, n2, n3, n4, n5⟩ := al5.ne
    have keepA : Alf CA (upd H5 F (.lst (nv o ++ [V.int (v : Int)]))) p a z d hs (o ++ [v]) := ⟨al5.ob.imp fun _ e => (upd_ne nFp.symm).trans e, ?_, ?_, (upd_ne nFd.symm).trans al5.dc⟩
    · refine ⟨o ++ [v], idx - S, t', some (.int (v : Int)), by rw [List.length_append, List.length_singleton]; omega, ?_, keepA, pr.snoc mv, ?_, fun b o' e h1 h2 => ?_, et', by rw [List.append_assoc]; exact eo⟩
      · rw [show ((idx - S : Nat) : Int) = (idx : Int) - (S : Int) by omega]; rfl
      · rw [upd_same, nv_append]; rfl
      · exact (upd_ne (ne_of_none e hF)).trans (fr5 _ _ (s34 _ _ (fr _ _ e h1 h2)) h1 h2)
    · exact (upd_ne (ne_of_none al0.fa hF)).trans al5.fa
    · exact (upd_ne (ne_of_none al0.sz hF)).trans al5.sz
abbrev st_nth_sequence : Stmt := topS 29
abbrev N_nth_sequence : List Str := ["forest", "index", "many"]
theorem sc_nth_sequence : FnScope N_nth_sequence ["forest", "index"] (defScope st_nth_sequence) := ⟨rfl, rfl, rfl, by decide +kernel, rfl, by decide +kernel, by decide +kernel⟩
theorem ok_nth_sequence (D : Df K mg "nth_sequence" st_nth_sequence ["forest", "index"]) (B : Bl mg) (TAllLeft : AlT K mg CA) (EInvalidIndex : Ex1 K mg "InvalidIndex" CI) (Kis_index : Kn P w K mg base CX0 3 "is_index" st_is_index ["value", "many"] spIsIndex)
    (Kcount_sequences : Kn P w K mg base (L2.CX P w) 8 "count_sequences" st_count_sequences ["forest"] spCnt) (Knth_by_ways : Kn P w K mg base CX0 3 "nth_by_ways" st_nth_by_ways ["left", "index"] (spNthBy CA)) (MAllLeft : KMk P w K mg base CX0 8 CA ["self", "forest", "many"] (spMkAl CA)) :
    Kn P w K mg base (L2.CX P w) 10 "nth_sequence" st_nth_sequence ["forest", "index"] spNthS := by
  refine D.okX sc_nth_sequence (fun vs H Q E h => ?_) (fun f cdv A outer s H vs Q E hr h => ?_)
  · obtain ⟨a, hs, idx, row, rfl, _⟩ := h; rfl
  obtain ⟨a, hs, idx, row, rfl, ha, fo, hl, er, q⟩ := h
  refine ⟨_, ((pss_cons (ps_set (i := 2) sc_nth_sequence.nd rfl (Or.inl rfl) (pe_callF Kcount_sequences (hr.mono (by decide)) (passX (takes_of rfl rfl rfl rfl)) (pa_cons (pv 0) pa_nil)))
      (pss_cons (ps_if (pt_not (pt_val (pe_callF Kis_index (hr.mono (by decide)) pass0 (pa_cons (pv 1) (pa_cons (pv 2) pa_nil))))) (pss_one (ps_raise rfl (takes_of rfl rfl rfl rfl) (pmk_own0 PySem.F.excBase_ValueError EInvalidIndex.x EInvalidIndex.g EInvalidIndex.k (raises_own EInvalidIndex.b EInvalidIndex.t) rfl))) pss_nil)
      (pss_one (ps_ret (pe_callF Knth_by_ways (hr.mono (by decide)) pass0 (pa_cons (pe_makeK MAllLeft (hr.mono (by decide)) TAllLeft.g pass0 (pa_cons (pv 0) (pa_cons (pv 2) pa_nil))) (pa_cons (pv 1) pa_nil)))))))), ?_⟩
  have ilt := (List.getElem?_eq_some_iff.mp er).1
  have em : cntL hs = (((exts hs hs.length []).length : Nat) : Int) := by rw [cntL_more fo, exts_more]
  refine ⟨_, rfl, a, hs, rfl, ha, fo, hl, fun H1 s1 => ?_⟩
  refine ⟨_, rfl, _, rfl, .int (idx : Int), cntL hs, rfl, .int _, _, rfl, ?_⟩
  refine iteF' (by
    show (!(decide (0 ≤ (idx : Int)) && decide ((idx : Int) < cntL hs))) = false
    rw [decide_eq_true (by omega), decide_eq_true (by omega)]; rfl) ?_
  refine ⟨_, rfl, _, rfl, fun x dx hx hdx ne => ?_⟩
  have ha1 := s1 _ _ ha
  have xd : upd (upd H1 dx (.own x)) x (.ins CA dx []) x = some (.ins CA dx []) := upd_same
  have sd : Same H1 (upd (upd H1 dx (.own x)) x (.ins CA dx [])) := fun b o e => (upd_ne (ne_of_none e hx)).trans ((upd_ne (ne_of_none e hdx)).trans e)
  generalize upd (upd H1 dx (.own x)) x (.ins CA dx []) = H2 at xd sd ⊢
  refine ⟨x, dx, a, hs, by rw [cntL_more fo]; rfl, xd, sd _ _ ha1, fo, hl, fun z d H3 hd0 al fr => ⟨rfl, ?_⟩⟩
  refine ⟨_, rfl, x, a, z, d, hs, idx, row, rfl, al, fo, hl, er, fun R H4 fr4 hR0 hR => ?_⟩
  have nx : ∀ b o, H1 b = some o → b ≠ x := fun b o e => ne_of_none e hx
  refine q R H4 (fun b o e => ?_) ?_ hR
  · have e1 := s1 _ _ e
    exact fr4 b o (fr b o (sd _ _ e1) (nx b o e1)) (nx b o e1) (ne_of_none (sd _ _ e1) hd0)
  · cases y : H R with
    | none => rfl
    | some o =>
      have e1 := s1 _ _ y
      have e3 := fr R o (sd _ _ e1) (nx R o e1)
      rw [e3] at hR0; cases hR0
end

end My

namespace My
open PySem PySem.Spec PyProof.Rows L2
def spSome (CN : Addr) : Sp := fun vs H Q E => ∃ (a p : Addr) (hs : Hs) (ls : List (List Nat)), vs = [.ref a, .ref p] ∧ H a = some (.tup (hs.map hv)) ∧ Fo hs ∧ hs.length ≤ 60 ∧ Lots H p ls ∧ Stg hs.length ls ∧
  (∀ i H', IsFault hs ls (some i) → Same H H' → E (.ref CN) none H') ∧ ∀ H', IsFault hs ls none → Same H H' → Q .non H'
section
variable {P : Program} {w : World} {K : PySem.W.Frag} {mg : Str → Option Value} {base : Heap} {CN : Addr}
abbrev st__check_some_keeps : Stmt := topS 38
abbrev N__check_some_keeps : List Str := ["forest", "stages"]
theorem sc__check_some_keeps : FnScope N__check_some_keeps ["forest", "stages"] (defScope st__check_some_keeps) := ⟨rfl, rfl, rfl, by decide +kernel, rfl, by decide +kernel, by decide +kernel⟩
theorem ok__check_some_keeps (D : Df K mg "_check_some_keeps" st__check_some_keeps ["forest", "stages"]) (B : Bl mg) (ENoSequence : Ex1 K mg "NoSequence" CN) (Kstage_fault : Kn P w K mg base (L2.CX P w) 7 "stage_fault" st_stage_fault ["forest", "stages"] spFault) :
    Kn P w K mg base (L2.CX P w) 8 "_check_some_keeps" st__check_some_keeps ["forest", "stages"] (spSome CN) := by
  refine D.okX sc__check_some_keeps (fun vs H Q E h => ?_) (fun f cdv A outer s H vs Q E hr h => ?_)
  · obtain ⟨a, p, hs, ls, rfl, _⟩ := h; rfl
  obtain ⟨a, p, hs, ls, rfl, ha, fo, hl, hp, st, q1, q⟩ := h
  refine ⟨_, ((pss_one (ps_if (pt_cmpR op_notN (pe_callF Kstage_fault (hr.mono (by decide)) (passX (takes_of rfl rfl rfl rfl)) (pa_cons (pv 0) (pa_cons (pv 1) pa_nil))) pe_non (nomark _)) (pss_one (ps_raise rfl (takes_of rfl rfl rfl rfl) (pmk_own0 PySem.F.excBase_ValueError ENoSequence.x ENoSequence.g ENoSequence.k (raises_own ENoSequence.b ENoSequence.t) rfl))) pss_nil))), ?_⟩
  refine ⟨_, rfl, _, rfl, a, p, hs, ls, rfl, ha, fo, hl, hp, st, fun r v H1 isf s1 fv => ?_⟩
  cases r with
  | some it =>
    obtain ⟨x, rfl, hx⟩ := fv
    exact ⟨rfl, _, rfl, iteT (q1 it H1 isf s1)⟩
  | none =>
    have ev : v = .non := fv
    subst ev
    exact ⟨rfl, _, rfl, iteF (q H1 isf s1)⟩
end

/-! ### heldbehind.stages.nth_with -/
theorem oks_at {hs : Hs} : ∀ (bs : List (List Nat)) (r : List Nat), Pre hs r → Oks hs r bs → ∀ k, Pre hs (r ++ (bs.take k).flatten) ∧ Oks hs (r ++ (bs.take k).flatten) (bs.drop k)
  | bs, r, pr, ok, 0 => by
    rw [List.take_zero, List.drop_zero, show r ++ ([] : List (List Nat)).flatten = r from List.append_nil r]
    exact ⟨pr, ok⟩
  | [], r, pr, ok, k + 1 => by
    show Pre hs (r ++ ([] : List Nat)) ∧ True
    rw [List.append_nil]; exact ⟨pr, trivial⟩
  | l :: bs, r, pr, ok, k + 1 => by
    obtain ⟨b, ok2⟩ : Bok hs r l ∧ Oks hs (r ++ l) bs := ok
    have z := oks_at bs (r ++ l) (pr.block b) ok2 k
    rw [List.take_succ_cons, List.drop_succ_cons, List.flatten_cons, ← List.append_assoc]
    exact z
theorem oks_of {hs : Hs} : ∀ (ls : List (List Nat)) (S : List Nat), (∀ l ∈ ls, l.Pairwise (· < ·)) → (S ++ ls.flatten).Nodup → (∀ v ∈ ls.flatten, v < hs.length) →
    (∀ (i : Nat) (l : List Nat), ls[i]? = some l → wrongIn hs (S ++ (ls.take (i + 1)).flatten) l = []) → ∀ m, (∀ v, v ∈ m ↔ v < hs.length ∧ ¬ v ∈ S ++ ls.flatten) → m.Pairwise (· < ·) → Fo hs → Oks hs S (ls ++ [m])
  | [], S, _, nd, lt, _, m, hm, um, fo => by
    rw [List.flatten_nil, List.append_nil] at hm
    refine ⟨⟨um, fun v h => ((hm v).mp h).1, fun v h => ((hm v).mp h).2, fun v h u e => ?_⟩, trivial⟩
    by_cases c : u ∈ S
    · exact .inl c
    · exact .inr ((hm u).mpr ⟨fo.inb v u e, c⟩)
  | l :: ls, S, up, nd, lt, wr, m, hm, um, fo => by
    rw [List.flatten_cons] at nd lt hm
    have w0 : wrongIn hs (S ++ l) l = [] := by
      have z := wr 0 l rfl
      rw [show ((l :: ls).take (0 + 1)).flatten = l from by show (l :: List.take 0 ls).flatten = l; rw [List.take_zero]; exact List.append_nil l] at z
      exact z
    refine ⟨⟨up l List.mem_cons_self, fun v h => lt v (List.mem_append_left _ h), fun v h m => ?_, (wrong_iff (List.Perm.refl S)).mp w0⟩, ?_⟩
    · exact (List.nodup_append.mp nd).2.2 v m v (List.mem_append_left _ h) rfl
    · refine oks_of ls (S ++ l) (fun x h => up x (List.mem_cons_of_mem _ h)) (by rw [List.append_assoc]; exact nd) (fun v h => lt v (List.mem_append_right _ h)) (fun i x e => ?_) m (fun v => by rw [List.append_assoc]; exact hm v) um fo
      have z := wr (i + 1) x e
      rw [List.take_succ_cons, List.flatten_cons, ← List.append_assoc] at z
      exact z
theorem exts_len {hs : Hs} : ∀ {k : Nat} {r q : List Nat}, q ∈ exts hs k r → q.length = k
  | 0, r, q, h => by rw [show q = [] from List.mem_singleton.mp h]; rfl
  | k + 1, r, q, h => by
    obtain ⟨v, _, h2⟩ := List.mem_flatMap.mp h
    obtain ⟨t, ht, rfl⟩ := List.mem_map.mp h2
    rw [List.length_cons, exts_len ht]
/-- the sequences that keep stages, in their order -/
def keepL (hs : Hs) (ls : List (List Nat)) : List (List Nat) := (rowsAt hs hs.length).filter fun q => keepsB q ls
theorem restL_eq (n : Nat) (ls : List (List Nat)) : restL n ls = restOf n ls.flatten := rfl
theorem oks_blocks {hs : Hs} (fo : Fo hs) {ls : List (List Nat)} (st : Stg hs.length ls) (isf : IsFault hs ls none) : Oks hs [] (ls ++ [restL hs.length ls]) ∧ Oks hs [] (blocksL hs.length ls) ∧ allE hs [] (blocksL hs.length ls) = keepL hs ls ∧ allE hs [] (ls ++ [restL hs.length ls]) = keepL hs ls := by
  have o1 : Oks hs [] (ls ++ [restL hs.length ls]) := oks_of ls [] st.up (by rw [List.nil_append]; exact st.nd) st.lt (fun i l e => by rw [List.nil_append]; exact isf i l e) _ (fun v => by
    rw [restL_eq, mem_restOf, List.nil_append]) (List.pairwise_lt_range.filter _) fo
  have k1 : allE hs [] (ls ++ [restL hs.length ls]) = keepL hs ls := by
    unfold keepL
    rw [rows_exts]
    have z := keep_all ls [] (restL hs.length ls) (Pre.nil hs) o1 fun v h => by
      by_cases c : v ∈ ls.flatten
      · exact .inr (.inl c)
      · exact .inr (.inr (by rw [restL_eq]; exact mem_restOf.mpr ⟨h, c⟩))
    rw [List.length_nil, Nat.sub_zero] at z
    exact z.symm
  refine ⟨o1, ?_, ?_, k1⟩
  · unfold blocksL
    split
    · exact o1
    · have cut : ∀ (bs : List (List Nat)) (r m : List Nat), Oks hs r (bs ++ [m]) → Oks hs r bs := fun bs => by
        induction bs with
        | nil => intro r m _; trivial
        | cons l bs ih => exact fun r m h => ⟨h.1, ih _ m h.2⟩
      exact cut _ _ _ o1
  · rw [← k1]
    unfold blocksL
    split
    · rfl
    · rename_i c
      have e : restL hs.length ls = [] := List.eq_nil_of_length_eq_zero (by omega)
      rw [e]
      have go : ∀ (bs : List (List Nat)) (r : List Nat), allE hs r bs = allE hs r (bs ++ [[]]) := fun bs => by
        induction bs with
        | nil => intro r; rfl
        | cons l bs ih =>
          intro r
          show (wE hs r l).flatMap _ = (wE hs r l).flatMap _
          rw [ih]; rfl
      exact go _ _
theorem allE_mem_len {hs : Hs} : ∀ {bs : List (List Nat)} {r q : List Nat}, q ∈ allE hs r bs → q.length ≤ bs.flatten.length
  | [], r, q, h => by
    rw [show q = [] from List.mem_singleton.mp h]; exact Nat.zero_le _
  | l :: bs, r, q, h => by
    obtain ⟨p, hp, h2⟩ := List.mem_flatMap.mp (show q ∈ (wE hs r l).flatMap fun p => (allE hs (r ++ l) bs).map fun q => p ++ q from h)
    obtain ⟨t, ht, rfl⟩ := List.mem_map.mp h2
    have z := allE_mem_len ht
    have y : p.length = l.length := exts_len (List.mem_filter.mp hp).1
    rw [List.flatten_cons, List.length_append, List.length_append]
    omega
theorem flat_drop_len (bs : List (List Nat)) (k : Nat) : (bs.drop k).flatten.length ≤ bs.flatten.length := by
  have e : bs.flatten = (bs.take k).flatten ++ (bs.drop k).flatten := by rw [← List.flatten_append, List.take_append_drop]
  rw [e, List.length_append]
  omega
def spNthW : Sp := fun vs H Q _ => ∃ (a p : Addr) (hs : Hs) (ls : List (List Nat)) (idx : Nat) (row : List Nat), vs = [.ref a, .ref p, .int (idx : Int)] ∧ H a = some (.tup (hs.map hv)) ∧ Fo hs ∧ hs.length ≤ 60 ∧ Lots H p ls ∧ Stg hs.length ls ∧ IsFault hs ls none ∧
  (keepL hs ls)[idx]? = some row ∧ ∀ R H', Same H H' → H R = none → H' R = some (.lst (nv row)) → Q (.ref R) H'
theorem bk_step {l q : List Nat} {i j : Nat} (e : q[i]? = some j) : bk l (q.take (i + 1)) = bk l (q.take i) ++ [l.getD j 0] := by
  rw [List.take_add_one, e]
  unfold bk
  rw [List.map_append]; rfl
theorem allE_cons_len {hs : Hs} {r l : List Nat} {bs : List (List Nat)} : (allE hs r (l :: bs)).length = (allE hs (r ++ l) bs).length * (wE hs r l).length := by
  show ((wE hs r l).flatMap fun p => (allE hs (r ++ l) bs).map fun q => p ++ q).length = _
  generalize wE hs r l = L
  induction L with
  | nil => simp
  | cons x L ih => rw [List.flatMap_cons, List.length_append, ih, List.length_map, List.length_cons, Nat.mul_succ]; omega
theorem wE_cnt {hs : Hs} {r l : List Nat} (fo : Fo hs) (b : Bok hs r l) (ne : l ≠ []) : cntL (amongH hs l) = (((wE hs r l).length : Nat) : Int) ∧ 0 < (wE hs r l).length := by
  have fa := fo_among fo ne b.nd b.lt
  have e : cntL (amongH hs l) = (((wE hs r l).length : Nat) : Int) := by
    rw [wE_block b, List.length_map, exts_more, cntL_more fa, among_len]
  have p := cnt_pos fa
  exact ⟨e, by omega⟩
section
variable {P : Program} {w : World} {K : PySem.W.Frag} {mg : Str → Option Value} {base : Heap} {CI CN : Addr}
abbrev st_nth_with : Stmt := topS 34
abbrev N_nth_with : List Str := ["forest", "stages", "index", "found", "things", "block", "block_index", "at"]
theorem sc_nth_with : FnScope N_nth_with ["forest", "stages", "index"] (defScope st_nth_with) := ⟨rfl, rfl, rfl, by decide +kernel, rfl, by decide +kernel, by decide +kernel⟩
theorem ok_nth_with (D : Df K mg "nth_with" st_nth_with ["forest", "stages", "index"]) (B : Bl mg) (Bdivmod : mg "divmod" = none) (EInvalidIndex : Ex1 K mg "InvalidIndex" CI) (Kis_index : Kn P w K mg base CX0 3 "is_index" st_is_index ["value", "many"] spIsIndex)
    (K_check_some_keeps : Kn P w K mg base (L2.CX P w) 8 "_check_some_keeps" st__check_some_keeps ["forest", "stages"] (spSome CN)) (Kcount_with : Kn P w K mg base (L2.CX P w) 9 "count_with" st_count_with ["forest", "stages"] (spCountW ()))
    (K_blocks : Kn P w K mg base CX0 3 "_blocks" st__blocks ["forest", "stages"] spBlocks) (Kforest_among : Kn P w K mg base CX0 1 "forest_among" st_forest_among ["forest", "things"] (spAmong K))
    (Kcount_sequences : Kn P w K mg base (L2.CX P w) 8 "count_sequences" st_count_sequences ["forest"] spCnt) (Knth_sequence : Kn P w K mg base (L2.CX P w) 10 "nth_sequence" st_nth_sequence ["forest", "index"] spNthS) :
    Kn P w K mg base (L2.CX P w) 11 "nth_with" st_nth_with ["forest", "stages", "index"] spNthW := by
  refine D.okX sc_nth_with (fun vs H Q E h => ?_) (fun f cdv A outer s H vs Q E hr h => ?_)
  · obtain ⟨a, p, hs, ls, idx, row, rfl, _⟩ := h; rfl
  obtain ⟨a, p, hs, ls, idx, row, rfl, ha, fo, hl, hp, st, isf0, er, q⟩ := h
  refine ⟨_, ((pss_cons (ps_expr (pe_callF K_check_some_keeps (hr.mono (by decide)) (passX (takes_of rfl rfl rfl rfl)) (pa_cons (pv 0) (pa_cons (pv 1) pa_nil))))
      (pss_cons (ps_if (pt_not (pt_val (pe_callF Kis_index (hr.mono (by decide)) pass0 (pa_cons (pv 2) (pa_cons (pe_callF Kcount_with (hr.mono (by decide)) (passX (takes_of rfl rfl rfl rfl)) (pa_cons (pv 0) (pa_cons (pv 1) pa_nil))) pa_nil))))) (pss_one (ps_raise rfl (takes_of rfl rfl rfl rfl) (pmk_own0 PySem.F.excBase_ValueError EInvalidIndex.x EInvalidIndex.g EInvalidIndex.k (raises_own EInvalidIndex.b EInvalidIndex.t) rfl))) pss_nil)
      (pss_cons (ps_set (i := 3) sc_nth_with.nd rfl (Or.inl rfl) (pe_lst pa_nil))
      (pss_cons (ps_for (passes_of rfl) rfl (pi_list (pe_revL (pe_callF K_blocks (hr.mono (by decide)) pass0 (pa_cons (pv 0) (pa_cons (pv 1) pa_nil))))) (pg_name (i := 4) sc_nth_with.nd rfl (Or.inr rfl)) (pss_cons (ps_set (i := 5) sc_nth_with.nd rfl (Or.inl rfl) (pe_callF Kforest_among (hr.mono (by decide)) pass0 (pa_cons (pv 0) (pa_cons (pv 4) pa_nil))))
      (pss_cons (ps_asg (pe_callB call_divmodW (by rfl) Bdivmod (by decide +kernel) (pa_cons (pv 2) (pa_cons (pe_callF Kcount_sequences (hr.mono (by decide)) (passX (takes_of rfl rfl rfl rfl)) (pa_cons (pv 5) pa_nil)) pa_nil))) (pg_tup rfl (pgs_cons (pg_name (i := 2) sc_nth_with.nd rfl (Or.inl rfl)) (pgs_cons (pg_name (i := 6) sc_nth_with.nd rfl (Or.inl rfl)) pgs_nil))))
      (pss_one (ps_set (i := 3) sc_nth_with.nd rfl (Or.inl rfl) (pe_op op_cat (pe_lc (own := [("at", 7)]) (g := gName 7) rfl sc_nth_with.nd (pi_list (pe_callF Knth_sequence (hr.mono (by decide)) (passX (takes_of rfl rfl rfl rfl)) (pa_cons (pv 5) (pa_cons (pv 6) pa_nil)))) (blkOk_by (N := N_nth_with) (sc := defScope st_nth_with) (own := [("at", 7)]) (by decide +kernel)) (fun _ _ _ _ _ => by (exact (pg_name (i := 7) sc_nth_with.nd rfl (Or.inl rfl)))) (fun _ _ _ _ _ => by exact pts_nil) (fun _ _ _ _ _ => by exact (pe_ix (ix_seqK K) (pv 4) (pv 7) (fun _ _ => rfl)))) (pv 3)))))))
      (pss_one (ps_ret (pv 3)))))))), ?_⟩
  obtain ⟨_, okb, ke, _⟩ := oks_blocks fo st isf0
  rw [← ke] at er
  have ilt := (List.getElem?_eq_some_iff.mp er).1
  have bl := blocks_ok st
  have alen : ((allE hs [] (blocksL hs.length ls)).length : Int) = cwL hs ls := by
    rw [allE_len fo _ _ (Pre.nil hs) okb]
    exact (cwTo_prod hs _ fun l h => (bl l h).1).symm
  refine ⟨_, rfl, _, rfl, a, p, hs, ls, rfl, ha, fo, hl, hp, st, fun i H' isf' _ => (by cases isf0.same isf'), fun H1 _ s1 => ?_⟩
  refine ⟨_, rfl, _, rfl, _, rfl, a, p, hs, ls, rfl, s1 _ _ ha, fo, hl, hp.same s1, st, fun r H2 isf2 s2 => ?_⟩
  have er0 := isf0.same isf2
  subst er0
  refine ⟨.int (idx : Int), cwL hs ls, rfl, .int _, _, rfl, ?_⟩
  refine iteF' (by
    show (!(decide (0 ≤ (idx : Int)) && decide ((idx : Int) < cwL hs ls))) = false
    rw [decide_eq_true (by omega), decide_eq_true (by omega)]; rfl) ?_
  have s12 := s1.trans s2
  refine ⟨by show 0 ≤ sizeLine; decide, fun F hF => ?_⟩
  have s3 := s12.new (o := .lst []) hF
  have f3 : upd H2 F (.lst []) F = some (.lst (nv [])) := upd_same
  generalize upd H2 F (.lst []) = H3 at s3 f3 ⊢
  have hFn := s12.free hF
  refine ⟨_, rfl, _, rfl, a, p, hs, ls, rfl, s3 _ _ ha, hl, hp.same s3, st, fun C xs H4 s4 hC hxl hx => ?_⟩
  refine ⟨C, xs, rfl, SqL.of hC, fun Z hZ => ?_⟩
  have s5 := (Same.refl H4).new (o := .lst xs.reverse) hZ
  have v5 : upd H4 Z (.lst xs.reverse) Z = some (.lst xs.reverse) := upd_same
  generalize upd H4 Z (.lst xs.reverse) = H5 at s5 v5 ⊢
  have s35 := (s3.trans s4).trans s5
  have f5 := s5 _ _ (s4 _ _ f3)
  have big : fct 120 < 2 ^ 1000 := by decide +kernel
  refine ⟨Z, rfl, ⟨_, SqL.of v5⟩, for_it (walk_list (xs := xs.reverse)) (fun i σ H' => ∃ (k : Nat) (G : Addr) (t : List Nat) (v4 v5 v6 v7 : Option V), k + i = (blocksL hs.length ls).length ∧
      σ = [some (.ref a), some (.ref p), some (.int ((idx / (allE hs ((blocksL hs.length ls).take k).flatten ((blocksL hs.length ls).drop k)).length : Nat) : Int)), some (.ref G), v4, v5, v6, v7] ∧ Same H5 H' ∧ H G = none ∧ H' G = some (.lst (nv t)) ∧
      (allE hs ((blocksL hs.length ls).take k).flatten ((blocksL hs.length ls).drop k))[idx % (allE hs ((blocksL hs.length ls).take k).flatten ((blocksL hs.length ls).drop k)).length]? = some t)
    ⟨(blocksL hs.length ls).length, F, [], none, none, none, none, rfl, ?_, Same.refl H5, hFn, f5, ?_⟩ (fun i σ H' _ z => ?_) ?_ ?_⟩
  · rw [List.drop_length]
    show _ = [some (V.ref a), some (V.ref p), some (V.int ((idx / 1 : Nat) : Int)), some (V.ref F), none, none, none, none]
    rw [Nat.div_one]; rfl
  · rw [List.drop_length]
    show ([[]] : List (List Nat))[idx % 1]? = some []
    rw [Nat.mod_one]; rfl
  · obtain ⟨_, _, _, _, _, _, _, _, _, z, _⟩ := z
    exact SqL.of (z _ _ v5)
  · rintro i x σ H6 H7 hi ⟨k, G, t, v4, v5', v6, v7, hk, rfl, s6, hGn, hG, et⟩ ⟨rfl, e1⟩
    have hxr := List.length_reverse (as := xs)
    have hi' : i < xs.length := by omega
    obtain ⟨k, rfl⟩ : ∃ k', k = k' + 1 := ⟨k - 1, by omega⟩
    rw [List.getElem?_reverse hi', show xs.length - 1 - i = k by omega] at e1
    have hkl : k < (blocksL hs.length ls).length := by omega
    have el : (blocksL hs.length ls)[k]? = some (blocksL hs.length ls)[k] := List.getElem?_eq_getElem hkl
    have ml := List.getElem_mem hkl
    have dr : (blocksL hs.length ls).drop k = (blocksL hs.length ls)[k] :: (blocksL hs.length ls).drop (k + 1) := List.drop_eq_getElem_cons hkl
    have tk : ((blocksL hs.length ls).take (k + 1)).flatten = ((blocksL hs.length ls).take k).flatten ++ (blocksL hs.length ls)[k] := by
      rw [List.take_add_one, el, List.flatten_append]
      congr 1
      exact List.append_nil _
    generalize (blocksL hs.length ls)[k] = l at el ml dr tk
    obtain ⟨n1, n2, n3, n4⟩ := bl l ml
    obtain ⟨T, rfl, hT⟩ := hx k x l e1 el
    obtain ⟨pk, ok⟩ := oks_at _ [] (Pre.nil hs) okb k
    rw [List.nil_append] at pk ok
    rw [dr] at ok
    obtain ⟨bk1, _⟩ : Bok hs ((blocksL hs.length ls).take k).flatten l ∧ Oks hs (((blocksL hs.length ls).take k).flatten ++ l) ((blocksL hs.length ls).drop (k + 1)) := ok
    rw [tk] at et ⊢
    have st1 := @allE_step hs ((blocksL hs.length ls).take k).flatten l t
    have al1 := allE_cons_len (hs := hs) (r := ((blocksL hs.length ls).take k).flatten) (l := l) (bs := (blocksL hs.length ls).drop (k + 1))
    obtain ⟨wc, wp⟩ := wE_cnt fo bk1 n1
    have wb := wE_block bk1
    have fa := fo_among fo n1 n2 n3
    have gl := among_len hs l
    have cb := cnt_bd fa
    rw [gl] at cb
    have m2 := fct_mono (show l.length ≤ 120 by omega)
    generalize er9 : ((blocksL hs.length ls).take k).flatten = r at et st1 al1 wc wp wb bk1 pk ⊢
    have hT4 : H7 T = some (.lst (nv l)) ∨ H7 T = some (.tup (nv l)) := hT.elim (fun z => .inl (s6 _ _ (s5 _ _ z))) fun z => .inr (s6 _ _ (s5 _ _ z))
    have ha7 := s6 _ _ (s35 _ _ ha)
    refine ⟨_, rfl, _, rfl, a, T, hs, l, rfl, ha7, hT4, n2, n3, by omega, fun r8 H8 s8 hr0 hr8 => ?_⟩
    refine ⟨_, rfl, _, rfl, r8, amongH hs l, rfl, hr8, fa, by omega, fun H9 s9 => ?_⟩
    refine ⟨_, _, rfl, wide_div (b := 1000) (by omega) (by omega) (by decide) (by decide), fun D hD => ?_⟩
    rw [wc]
    have s10 := (Same.refl H9).new (o := .tup [.int (((idx / (allE hs (r ++ l) ((blocksL hs.length ls).drop (k + 1))).length : Nat) : Int) / (((wE hs r l).length : Nat) : Int)), .int (((idx / (allE hs (r ++ l) ((blocksL hs.length ls).drop (k + 1))).length : Nat) : Int) % (((wE hs r l).length : Nat) : Int))]) hD
    refine ⟨D, _, rfl, SqT.of upd_same, rfl, _, _, rfl, _, _, rfl, rfl, ?_⟩
    generalize upd H9 D _ = H10 at s10 ⊢
    have s710 := (s8.trans s9).trans s10
    -- the block's row
    obtain ⟨rw', erw⟩ : ∃ rw', (exts (amongH hs l) l.length [])[idx / (allE hs (r ++ l) ((blocksL hs.length ls).drop (k + 1))).length % (wE hs r l).length]? = some rw' := by
      have y : (wE hs r l).length = (exts (amongH hs l) l.length []).length := by rw [wb, List.length_map]
      have z : idx / (allE hs (r ++ l) ((blocksL hs.length ls).drop (k + 1))).length % (wE hs r l).length < (exts (amongH hs l) l.length []).length := Nat.lt_of_lt_of_eq (Nat.mod_lt _ wp) y
      exact ⟨_, List.getElem?_eq_getElem z⟩
    have ewE : (wE hs r l)[idx / (allE hs (r ++ l) ((blocksL hs.length ls).drop (k + 1))).length % (wE hs r l).length]? = some (bk l rw') := by
      conv => lhs; arg 1; rw [wb]
      rw [List.getElem?_map, erw]; rfl
    obtain ⟨pw, lw⟩ := exts_pre (Pre.nil (amongH hs l)) (List.mem_of_getElem? erw)
    rw [List.nil_append] at pw
    have st2 := st1 et ewE
    rw [← al1] at st2
    refine ⟨_, rfl, _, rfl, r8, amongH hs l, idx / (allE hs (r ++ l) ((blocksL hs.length ls).drop (k + 1))).length % (wE hs r l).length, rw', rfl, s10 _ _ (s9 _ _ hr8), fa, by omega, by rw [gl]; exact erw, fun R H11 s11 hR0 hR => ?_⟩
    have s711 := s710.trans s11
    refine ⟨R, rfl, ⟨_, SqL.of hR⟩, fun M hM => lc_it (walk_list (xs := nv rw')) (fun j H' => Same H11 H' ∧ H' M = some (.lst (nv (bk l (rw'.take j))))) ⟨(Same.refl H11).new hM, upd_same⟩ (fun j H' _ z => SqL.of (z.1 _ _ hR)) ?_ ?_⟩
    · rintro j x H12 H13 hj ⟨s12', oM⟩ ⟨rfl, e1⟩
      obtain ⟨jv, ej, rfl⟩ := nv_at e1
      have jl : jv < l.length := by
        have z := pw.lt jv (List.mem_of_getElem? ej)
        omega
      have il := (List.getElem?_eq_some_iff.mp ej).1
      have gd : l[jv]? = some (l.getD jv 0) := by rw [List.getD_eq_getElem?_getD, List.getElem?_eq_getElem jl]; rfl
      have fin : ∃ acc, H13 M = some (.lst acc) ∧ acc.length < sizeLine ∧ (Same H11 (upd H13 M (.lst (acc ++ [V.int ((l.getD jv 0 : Nat) : Int)]))) ∧ upd H13 M (.lst (acc ++ [V.int ((l.getD jv 0 : Nat) : Int)])) M = some (.lst (nv (bk l (rw'.take (j + 1)))))) := by
        refine ⟨_, oM, ?_, s12'.upd hM, ?_⟩
        · rw [nv_length]
          unfold bk
          rw [List.length_map, List.length_take]
          exact szl (by omega)
        · rw [upd_same, bk_step ej, nv_append]; rfl
      rcases hT4 with z | z
      · exact ⟨rfl, _, rfl, _, rfl, .inl ⟨T, _, _, _, rfl, rfl, SqL.of (s12' _ _ (s711 _ _ z)), atI_nat (nv_get gd), fin⟩⟩
      · exact ⟨rfl, _, rfl, _, rfl, .inr (.inl ⟨T, _, _, _, rfl, rfl, SqT.of (s12' _ _ (s711 _ _ z)), atI_nat (nv_get gd), fin⟩)⟩
    · rintro H12 ⟨s12', oM⟩
      rw [nv_length, List.take_length] at oM
      have s712 := s711.trans s12'
      have hG12 := s712 _ _ hG
      have lt2 : t.length ≤ 200 := by
        have z := allE_mem_len (List.mem_of_getElem? et)
        have y := blocks_len st
        have y2 := flat_drop_len (blocksL hs.length ls) (k + 1)
        omega
      refine ⟨_, rfl, M, G, _, _, rfl, rfl, oM, hG12, ?_, fun S hS => ?_⟩
      · rw [nv_length, nv_length]
        unfold bk
        rw [List.length_map]
        exact Nat.le_of_lt (szl (by omega))
      · have s13 := s712.new (o := .lst (nv (bk l rw') ++ nv t)) hS
        refine ⟨k, S, bk l rw' ++ t, some (.ref T), some (.ref r8), some (.int (((idx / (allE hs (r ++ l) ((blocksL hs.length ls).drop (k + 1))).length : Nat) : Int) % (((wE hs r l).length : Nat) : Int))), v7, by omega, ?_, s6.trans s13, ?_, ?_, by rw [er9, dr]; exact st2⟩
        · rw [er9, dr, al1, ← Nat.div_div_eq_div_mul]; rfl
        · exact s35.free (s6.free (s712.free hS))
        · rw [upd_same, nv_append]
  · rintro σ H6 ⟨k, G, t, v4, v5', v6, v7, hk, rfl, s6, hGn, hG, et⟩
    rw [List.length_reverse, hxl] at hk
    have k0 : k = 0 := by omega
    subst k0
    rw [List.take_zero, List.drop_zero, List.flatten_nil, Nat.mod_eq_of_lt ilt] at et
    rw [er] at et
    cases et
    exact ⟨_, rfl, q G H6 (s35.trans s6) hGn hG⟩
end

end My

namespace My
open PySem PySem.Spec PyProof.Rows L2
/-! ### [x for x in xs if ..] over a list of naturals -/
theorem lc_nat {K : PySem.W.Frag} {L D : Addr} {l : List Nat} (pr : Nat → Bool) {k : Nat} {tt : TT} {te : TE} {vs : List Nat} {σ : L2.St} {H1 : Hp} {Qd : Hp → Prop} (hL : H1 L = some (.lst (nv l))) (hl : l.length ≤ 1000) (hD : H1 D = none)
    (wi : ∀ v : V, wipe ((wipe σ vs).set k (some v)) vs = wipe σ vs) (val : ∀ (v : V) (H : Hp) (Q : VK), Q v H → te ((wipe σ vs).set k (some v)) H Q)
    (test : ∀ (v : Nat) (H2 : Hp) (Q' : Bool → Hp → Prop), v ∈ l → Same H1 H2 → (∀ H4, Same H2 H4 → Q' (pr v) H4) → tt ((wipe σ vs).set k (some (.int (v : Int)))) H2 Q')
    (done : ∀ H2, Same H1 H2 → H2 D = some (.lst (nv (l.filter pr))) → Qd H2) :
    ∃ W : Nat → Nat → Hp → Prop, (∃ m, W 0 m (upd H1 D (.lst []))) ∧ ∀ i m H, W i m H →
      ((Itl K L).stop i H ∧ Qd H) ∨ ((Itl K L).go i H ∧ ∃ Nx : Hp → Prop, (∀ H', Nx H' → ∃ m', m' < m ∧ W (i + 1) m' H') ∧ ∀ x H', (Itl K L).yld i H x H' → gName k x (wipe σ vs) H' fun σ2 H2 => wipe σ2 vs = wipe σ vs ∧ tt σ2 H2 fun b H3 =>
        if b = true then te σ2 H3 fun y H4 => ∃ acc, H4 D = some (.lst acc) ∧ acc.length < sizeLine ∧ Nx (upd H4 D (.lst (acc ++ [y]))) else Nx H3) := by
  refine lc_it (walk_list (xs := nv l)) (fun i H' => Same H1 H' ∧ H' D = some (.lst (nv ((l.take i).filter pr)))) ⟨(Same.refl H1).new hD, upd_same⟩ (fun i H' _ z => SqL.of (z.1 _ _ hL)) ?_ ?_
  · rintro i x H2 H3 hi ⟨s2, oD⟩ ⟨rfl, e1⟩
    obtain ⟨v, ev, rfl⟩ := nv_at e1
    have mv := List.mem_of_getElem? ev
    have il := (List.getElem?_eq_some_iff.mp ev).1
    have lz : ((l.take i).filter pr).length ≤ i := by
      have z := List.length_filter_le pr (l.take i)
      rw [List.length_take] at z; omega
    have tk : (l.take (i + 1)).filter pr = (l.take i).filter pr ++ (if pr v = true then [v] else []) := by
      rw [List.take_add_one, ev, List.filter_append]
      congr 1
      by_cases c : pr v = true
      · rw [if_pos c]
        show [v].filter _ = _
        rw [List.filter_cons_of_pos c]; rfl
      · rw [if_neg c]
        show [v].filter _ = _
        rw [List.filter_cons_of_neg c]; rfl
    refine ⟨wi _, test v H3 _ mv s2 fun H4 s4 => ?_⟩
    have oD4 := s4 _ _ oD
    by_cases c : pr v = true
    · rw [if_pos c]
      refine val _ _ _ ⟨_, oD4, by rw [nv_length]; exact szl (by omega), (s2.trans s4).upd hD, ?_⟩
      rw [upd_same, tk, if_pos c, nv_append]; rfl
    · rw [if_neg c]
      refine ⟨s2.trans s4, ?_⟩
      rw [tk, if_neg c, List.append_nil]; exact oD4
  · rintro H2 ⟨s2, oD⟩
    rw [nv_length, List.take_length] at oD
    exact done H2 s2 oD
/-- x in xs, forest[x] in xs -/
theorem inV_hvN (o : Option Nat) (l : List Nat) : inV (hv o) (nv l) = (match o with
  | some u => decide (u ∈ l)
  | none => false) := by
  cases o with
  | some u => exact inV_nv u l
  | none =>
    unfold inV nv
    rw [List.any_map, List.any_eq_false]
    intro x _
    exact Bool.false_ne_true
theorem free_inV {hs : Hs} {l : List Nat} {v : Nat} {o : Option Nat} (h : hs[v]? = some o) : isFree hs l v = !inV (hv o) (nv l) := by
  rw [inV_hvN]
  unfold isFree
  rw [h]
  cases o <;> rfl
theorem minus_erase {l : List Nat} {j v : Nat} (nd : l.Nodup) (e : l[j]? = some v) : l.eraseIdx j = minus l v := by
  induction l generalizing j with
  | nil => cases e
  | cons a l ih =>
    obtain ⟨n1, n2⟩ := List.nodup_cons.mp nd
    cases j with
    | zero =>
      have ev : a = v := Option.some.inj e
      subst ev
      have e2 : l.filter (fun x => decide (x ≠ a)) = l := List.filter_eq_self.mpr fun x hx => decide_eq_true fun z => n1 (z ▸ hx)
      unfold minus
      rw [List.filter_cons_of_neg (by simp)]
      exact e2.symm
    | succ j =>
      have ne : a ≠ v := fun z => n1 (by rw [z]; exact List.mem_of_getElem? (show l[j]? = some v from e))
      unfold minus
      rw [List.filter_cons_of_pos (by simpa using ne)]
      show a :: l.eraseIdx j = _
      rw [ih n2 e]; rfl
/-- the list behind xs.remove(v) -/
theorem remove_nat {l : List Nat} {v : Nat} (nd : l.Nodup) (hm : v ∈ l) : ∃ j : Nat, (l.map fun v : Nat => (v : Int))[j]? = some (v : Int) ∧ (∀ m : Nat, m < j → ¬ (l.map fun v : Nat => (v : Int))[m]? = some (v : Int)) ∧ (((l.map fun v : Nat => (v : Int)).eraseIdx j).map V.int) = nv (minus l v) := by
  obtain ⟨j, ej⟩ := List.mem_iff_getElem?.mp hm
  refine ⟨j, by rw [List.getElem?_map, ej]; rfl, fun m hmj z => ?_, ?_⟩
  · rw [List.getElem?_map] at z
    obtain ⟨y, y1, y2⟩ := Option.map_eq_some_iff.mp z
    have y3 : y = v := by have := y2; omega
    rw [y3] at y1
    have := nodup_at nd y1 ej
    omega
  · rw [← map_erase, List.map_map, minus_erase nd ej]; rfl
theorem nv_ints (l : List Nat) : nv l = (l.map fun v : Nat => (v : Int)).map V.int := by unfold nv; rw [List.map_map]; rfl

/-! ### the law: blocks, ranks, the first and the last one -/
def spLRest : Sp := fun vs H Q _ => ∃ (a p : Addr) (hs : Hs) (ls : List (List Nat)), vs = [.ref a, .ref p] ∧ H a = some (.tup (hs.map hv)) ∧ hs.length ≤ 60 ∧ Lots H p ls ∧ Stg hs.length ls ∧
  ∀ r as H', Same H H' → H r = none → H' r = some (.lst (as.map V.ref)) → Rws H' as (ls ++ [restL hs.length ls]) → (∀ q ∈ as, H q = none) → Q (.ref r) H'
section
variable {P : Program} {w : World} {K : PySem.W.Frag} {mg : Str → Option Value} {base : Heap}
abbrev st__law_rest : Stmt := topS 56
abbrev N__law_rest : List Str := ["plan", "lots", "flat", "lot", "one"]
theorem sc__law_rest : FnScope N__law_rest ["plan", "lots"] (defScope st__law_rest) := ⟨rfl, rfl, rfl, by decide +kernel, rfl, by decide +kernel, by decide +kernel⟩
theorem ok__law_rest (D : Df K mg "_law_rest" st__law_rest ["plan", "lots"]) (B : Bl mg) (K_law_flat : Kn P w K mg base CX0 1 "_law_flat" st__law_flat ["lots"] spLFlat) : Kn P w K mg base CX0 2 "_law_rest" st__law_rest ["plan", "lots"] spLRest := by
  refine D.ok sc__law_rest (fun vs H Q E h => ?_) (fun f cdv A outer s H vs Q E hr h => ?_)
  · obtain ⟨a, p, hs, ls, rfl, _⟩ := h; rfl
  obtain ⟨a, p, hs, ls, rfl, ha, hl, hp, st, q⟩ := h
  refine ⟨_, ((pss_cons (ps_set (i := 2) sc__law_rest.nd rfl (Or.inr rfl) (pe_callF K_law_flat (hr.mono (by decide)) pass0 (pa_cons (pv 1) pa_nil)))
      (pss_one (ps_ret (pe_op op_cat (pe_lc (own := [("lot", 3)]) (g := gName 3) rfl sc__law_rest.nd (pi_list (pv 1)) (blkOk_by (N := N__law_rest) (sc := defScope st__law_rest) (own := [("lot", 3)]) (by decide +kernel)) (fun _ _ _ _ _ => by (exact (pg_name (i := 3) sc__law_rest.nd rfl (Or.inl rfl)))) (fun _ _ _ _ _ => by exact pts_nil) (fun _ _ _ _ _ => by exact (pe_callTy (call_list_ofK K) (by rfl) B.list (by decide +kernel) (pa_cons (pv 3) pa_nil)))) (pe_lst (pa_cons (pe_lc (own := [("one", 4)]) (g := gName 4) rfl sc__law_rest.nd (pi_range1 (by rfl) B.range (pa_cons (pe_callB call_len (by rfl) B.len (by decide +kernel) (pa_cons (pv 0) pa_nil)) pa_nil)) (blkOk_by (N := N__law_rest) (sc := defScope st__law_rest) (own := [("one", 4)]) (by decide +kernel)) (fun _ _ _ _ _ => by (exact (pg_name (i := 4) sc__law_rest.nd rfl (Or.inl rfl)))) (fun _ _ _ _ _ => by exact (pts_one (pt_cmpR (op_notIn_seqK K) (pv 4) (pv 2) (by rfl)))) (fun _ _ _ _ _ => by exact (pv 4))) pa_nil))))))), ?_⟩
  have sz := st.size
  have many := st.many
  refine ⟨_, rfl, p, ls, rfl, hp, by omega, fun F H1 s1 hF0 hF => ?_⟩
  obtain ⟨xs, hx, lx⟩ := hp.same s1
  have lxl := lx.1
  refine ⟨_, rfl, p, rfl, ⟨_, SqL.of hx⟩, fun C hC => lc_it (walk_list (xs := xs)) (fun i H' => Same H1 H' ∧ ∃ as : List Addr, H' C = some (.lst (as.map V.ref)) ∧ Rws H' as (ls.take i) ∧ ∀ q ∈ as, H1 q = none) ⟨(Same.refl H1).new hC, [], upd_same, ⟨rfl, fun i p r e _ => by cases e⟩, fun q h => absurd h List.not_mem_nil⟩ (fun i H' _ z => SqL.of (z.1 _ _ hx)) ?_ ?_⟩
  · rintro i x H2 H3 hi ⟨s2, as, oC, wr, nas⟩ ⟨rfl, e1⟩
    obtain ⟨t, l, el, rfl, ht⟩ := lx.at e1
    have la := wr.len
    rw [List.length_take] at la
    refine ⟨rfl, _, rfl, t, _, rfl, .inr (SqT.of (s2 _ _ ht)), fun G hG => ?_⟩
    have s3 := s2.new (o := .lst (nv l)) hG
    have k3 := (Same.refl H3).new (o := .lst (nv l)) hG
    have oG : upd H3 G (.lst (nv l)) G = some (.lst (nv l)) := upd_same
    have nGC : G ≠ C := (ne_of_none oC hG).symm
    generalize upd H3 G (.lst (nv l)) = H4 at s3 k3 oG ⊢
    have oC4 := k3 _ _ oC
    refine ⟨_, oC4, by rw [List.length_map, la]; exact szl (by omega), s3.upd hC, as ++ [G], ?_, ?_, fun q h => (List.mem_append.mp h).elim (nas q) fun m => by rw [List.mem_singleton.mp m]; exact s2.free hG⟩
    · rw [upd_same, List.map_append]; rfl
    · have tk : ls.take (i + 1) = ls.take i ++ [l] := by rw [List.take_add_one, el]; rfl
      rw [tk]
      refine Rws.but ((wr.same k3).grow oG) fun m => ?_
      rcases List.mem_append.mp m with m | m
      · obtain ⟨j, ej⟩ := List.getElem?_of_mem m
        have hj := (List.getElem?_eq_some_iff.mp ej).1
        rw [wr.len] at hj
        have z := wr.at_ j C _ ej (List.getElem?_eq_getElem hj)
        rw [oC] at z
        have z2 := HO.lst.inj (Option.some.inj z)
        cases as with
        | nil => cases ej
        | cons b bs =>
          have z3 := congrArg List.head? z2
          unfold nv at z3
          rw [List.head?_map, List.head?_map] at z3
          cases y : ((ls.take i)[j]).head? with
          | none => rw [y] at z3; cases z3
          | some n => rw [y] at z3; cases z3
      · exact nGC (List.mem_singleton.mp m).symm
  rintro H2 ⟨s2, as, oC, wr, nas⟩
  have et : ls.take xs.length = ls := by rw [lxl, List.take_length]
  rw [et] at wr
  have ha2 := s2 _ _ (s1 _ _ ha)
  have hF2 := s2 _ _ hF
  refine ⟨_, rfl, _, _, rfl, .inr ⟨_, SqT.of ha2, rfl⟩, _, rfl, by rw [List.length_map]; omega, by rw [List.length_map]; omega, fun G hG => lc_it walk_range0 (fun i H' => Same H2 H' ∧ H' G = some (.lst (nv (restOf i ls.flatten)))) ⟨(Same.refl H2).new hG, upd_same⟩ (fun _ _ _ _ => trivial) ?_ ?_⟩
  · rintro i x H4 H5 hi ⟨s4, oG⟩ ⟨rfl, rfl⟩
    rw [List.length_map] at hi
    have l4 := restOf_le i ls.flatten
    refine ⟨rfl, _, rfl, _, rfl, F, _, rfl, .inl (SqL.of (s4 _ _ hF2)), rfl, flat_nv _, !decide (i ∈ ls.flatten), by show V.bl (!inV _ _) = _; rw [inV_nv], ?_⟩
    by_cases c : i ∈ ls.flatten
    · refine iteF' (by rw [decide_eq_true c]; rfl) ⟨s4, ?_⟩
      rw [oG, rest_succ' i i, if_pos c, List.append_nil]
    · refine iteT' (by rw [decide_eq_false c]; rfl) ⟨_, rfl, _, oG, by rw [nv_length]; exact szl (by omega), s4.upd hG, ?_⟩
      rw [upd_same, rest_succ' i i, if_neg c, nv_append]; rfl
  rintro H4 ⟨s4, oG⟩
  rw [List.length_map] at oG
  have oG : H4 G = some (.lst (nv (restL hs.length ls))) := oG
  refine ⟨by show 1 ≤ sizeLine; decide, fun Z hZ => ?_⟩
  have s5 := s4.new (o := .lst [.ref G]) hZ
  have oZ : upd H4 Z (.lst [.ref G]) Z = some (.lst [.ref G]) := upd_same
  have oG5 := ((Same.refl H4).new (o := .lst [.ref G]) hZ) _ _ oG
  generalize upd H4 Z (.lst [.ref G]) = H5 at s5 oZ oG5 ⊢
  have la := wr.len
  refine ⟨C, Z, _, _, rfl, rfl, s5 _ _ oC, oZ, ?_, fun R hR => ?_⟩
  · rw [List.length_map, la]
    exact Nat.le_of_lt (szl (by show _ + 1 ≤ 1000; omega))
  have s6 := s5.new (o := .lst (as.map V.ref ++ [.ref G])) hR
  have oG6 := ((Same.refl H5).new (o := .lst (as.map V.ref ++ [.ref G])) hR) _ _ oG5
  refine q R (as ++ [G]) _ (s1.trans (s2.trans s6)) (s1.free (s2.free (s5.free hR))) ?_ ?_ fun q h => (List.mem_append.mp h).elim (fun m => s1.free (nas q m)) fun m => by rw [List.mem_singleton.mp m]; exact s1.free (s2.free hG)
  · rw [upd_same, List.map_append]; rfl
  · exact (wr.same s6).grow oG6
end

end My

namespace My
open PySem PySem.Spec PyProof.Rows L2
/-! ### the law's rank -/
theorem blockN_bd {hs : Hs} (fo : Fo hs) {l : List Nat} (nd : l.Nodup) (lt : ∀ v ∈ l, v < hs.length) : 1 ≤ blockN hs l ∧ blockN hs l ≤ ((fct l.length : Nat) : Int) := by
  unfold blockN
  by_cases e : l = []
  · rw [if_pos e, e]; exact ⟨by decide, by decide⟩
  · rw [if_neg e]
    have fa := fo_among fo e nd lt
    have z := cnt_bd fa
    rw [among_len] at z
    exact ⟨cnt_pos fa, z.2⟩
theorem prodB_cons (hs : Hs) (l : List Nat) (ls : List (List Nat)) : prodB hs (l :: ls) = blockN hs l * prodB hs ls := rfl
theorem allE_part {hs : Hs} : ∀ (bs : List (List Nat)) (r row : List Nat), Pre hs r → Oks hs r bs → row ∈ allE hs r bs → ∀ (i : Nat) (l : List Nat), bs[i]? = some l → ((row.drop (bs.take i).flatten.length).take l.length).Perm l
  | [], _, _, _, _, _, i, l, e => by cases e
  | b :: bs, r, row, pr, ok, h, i, l, e => by
    obtain ⟨bb, ok2⟩ : Bok hs r b ∧ Oks hs (r ++ b) bs := ok
    obtain ⟨p, hp, h2⟩ := List.mem_flatMap.mp (show row ∈ (wE hs r b).flatMap fun p => (allE hs (r ++ b) bs).map fun q => p ++ q from h)
    obtain ⟨t, ht, rfl⟩ := List.mem_map.mp h2
    have pm := (wE_mem pr bb hp).2
    have lp := pm.length_eq
    cases i with
    | zero =>
      cases e
      show ((p ++ t).drop 0 |>.take b.length).Perm b
      rw [List.drop_zero, ← lp, List.take_left]
      exact pm
    | succ i =>
      have ih := allE_part bs (r ++ b) t (pr.block bb) ok2 ht i l e
      rw [List.take_succ_cons, List.flatten_cons, List.length_append, ← lp, ← List.drop_drop, List.drop_left]
      exact ih
theorem rest_pre_all {n : Nat} {ls : List (List Nat)} (st : Stg n ls) : (ls ++ [restL n ls]).flatten.length = n := by
  have z := restOf_len st.nd st.lt
  rw [List.flatten_append, List.flatten_singleton, List.length_append]
  exact z
def spLRank : Sp := fun vs H Q _ => ∃ (a p rr : Addr) (hs : Hs) (ls : List (List Nat)) (row : List Nat) (spot : Nat), vs = [.ref a, .ref p, .ref rr] ∧ H a = some (.tup (hs.map hv)) ∧ Fo hs ∧ hs.length ≤ 60 ∧ Lots H p ls ∧ Stg hs.length ls ∧ IsFault hs ls none ∧
  H rr = some (.lst (nv row)) ∧ (keepL hs ls)[spot]? = some row ∧ ∀ H', Same H H' → Q (.int (spot : Int)) H'
section
variable {P : Program} {w : World} {K : PySem.W.Frag} {mg : Str → Option Value} {base : Heap}
abbrev st__law_rank : Stmt := topS 57
abbrev N__law_rank : List Str := ["plan", "lots", "row", "found", "at", "later", "parted", "lot", "left", "lap", "one", "some", "mate", "thing_here", "two"]
theorem sc__law_rank : FnScope N__law_rank ["plan", "lots", "row"] (defScope st__law_rank) := ⟨rfl, rfl, rfl, by decide +kernel, rfl, by decide +kernel, by decide +kernel⟩
theorem ok__law_rank (D : Df K mg "_law_rank" st__law_rank ["plan", "lots", "row"]) (B : Bl mg) (K_law_rest : Kn P w K mg base CX0 2 "_law_rest" st__law_rest ["plan", "lots"] spLRest) (K_law_ways : Kn P w K mg base CX0 5 "_law_ways" st__law_ways ["plan", "some"] spLWays) :
    Kn P w K mg base CX0 6 "_law_rank" st__law_rank ["plan", "lots", "row"] spLRank := by
  refine D.ok sc__law_rank (fun vs H Q E h => ?_) (fun f cdv A outer s H vs Q E hr h => ?_)
  · obtain ⟨a, p, rr, hs, ls, row, spot, rfl, _⟩ := h; rfl
  obtain ⟨a, p, rr, hs, ls, row, spot, rfl, ha, fo, hl, hp, st, isf, hrr, er, q⟩ := h
  refine ⟨_, ((pss_cons (ps_asg (pe_tup (pa_cons pe_int (pa_cons pe_int (pa_cons pe_int pa_nil)))) (pg_tup rfl (pgs_cons (pg_name (i := 3) sc__law_rank.nd rfl (Or.inl rfl)) (pgs_cons (pg_name (i := 4) sc__law_rank.nd rfl (Or.inl rfl)) (pgs_cons (pg_name (i := 5) sc__law_rank.nd rfl (Or.inl rfl)) pgs_nil)))))
      (pss_cons (ps_set (i := 6) sc__law_rank.nd rfl (Or.inl rfl) (pe_callF K_law_rest (hr.mono (by decide)) pass0 (pa_cons (pv 0) (pa_cons (pv 1) pa_nil))))
      (pss_cons (ps_for PassesOwn.never rfl (pi_list (pv 6)) (pg_name (i := 7) sc__law_rank.nd rfl (Or.inl rfl)) (pss_one (ps_set (i := 5) sc__law_rank.nd rfl (Or.inl rfl) (pe_op op_mulW (pv 5) (pe_callF K_law_ways (hr.mono (by decide)) pass0 (pa_cons (pv 0) (pa_cons (pv 7) pa_nil)))))))
      (pss_cons (ps_for PassesOwn.never rfl (pi_list (pv 6)) (pg_name (i := 7) sc__law_rank.nd rfl (Or.inl rfl)) (pss_cons (ps_asg (pe_tup (pa_cons (pe_callTy call_list_of (by rfl) B.list (by decide +kernel) (pa_cons (pv 7) pa_nil)) (pa_cons (pe_op op_fdivW (pv 5) (pe_callF K_law_ways (hr.mono (by decide)) pass0 (pa_cons (pv 0) (pa_cons (pv 7) pa_nil)))) pa_nil))) (pg_tup rfl (pgs_cons (pg_name (i := 8) sc__law_rank.nd rfl (Or.inr rfl)) (pgs_cons (pg_name (i := 5) sc__law_rank.nd rfl (Or.inl rfl)) pgs_nil))))
      (pss_one (ps_for PassesOwn.never rfl (pi_range1 (by rfl) B.range (pa_cons (pe_callB call_len (by rfl) B.len (by decide +kernel) (pa_cons (pv 7) pa_nil)) pa_nil)) (pg_name (i := 9) sc__law_rank.nd rfl (Or.inl rfl)) (pss_cons (ps_set (i := 10) sc__law_rank.nd rfl (Or.inr rfl) (pe_ix ix_list (pv 2) (pv 4) (fun _ _ => rfl)))
      (pss_cons (ps_setLc (i := 11) (own := [("mate", 12)]) (g := gName 12) rfl sc__law_rank.nd rfl rfl (sw_true rfl rfl rfl (by decide +kernel)) (pi_list (pv 8)) (blkOk_by (N := N__law_rank) (sc := defScope st__law_rank) (own := [("mate", 12)]) (by decide +kernel)) (fun _ _ _ _ _ => by (exact (pg_name (i := 12) sc__law_rank.nd rfl (Or.inl rfl)))) (fun _ _ _ _ _ => by exact (pts_one (pt_cmpR op_lt (pv 12) (pv 10) (nomark _)))) (fun _ _ _ _ _ => by exact (pv 12)))
      (pss_cons (ps_for PassesOwn.never rfl (pi_list (pe_lc (own := [("thing_here", 13)]) (g := gName 13) rfl sc__law_rank.nd (pi_list (pv 11)) (blkOk_by (N := N__law_rank) (sc := defScope st__law_rank) (own := [("thing_here", 13)]) (by decide +kernel)) (fun _ _ _ _ _ => by (exact (pg_name (i := 13) sc__law_rank.nd rfl (Or.inl rfl)))) (fun _ _ _ _ _ => by exact (pts_one (pt_cmpR (op_notIn_seqK K) (pe_ix (ix_tupK K) (pv 0) (pv 13) (fun _ _ => rfl)) (pv 8) (by rfl)))) (fun _ _ _ _ _ => by exact (pv 13)))) (pg_name (i := 12) sc__law_rank.nd rfl (Or.inr rfl)) (pss_one (ps_set (i := 3) sc__law_rank.nd rfl (Or.inl rfl) (pe_op op_add (pv 3) (pe_op op_mulW (pv 5) (pe_callF K_law_ways (hr.mono (by decide)) pass0 (pa_cons (pv 0) (pa_cons (pe_lc (own := [("two", 14)]) (g := gName 14) rfl sc__law_rank.nd (pi_list (pv 8)) (blkOk_by (N := N__law_rank) (sc := defScope st__law_rank) (own := [("two", 14)]) (by decide +kernel)) (fun _ _ _ _ _ => by (exact (pg_name (i := 14) sc__law_rank.nd rfl (Or.inl rfl)))) (fun _ _ _ _ _ => by exact (pts_one (pt_cmpR op_ne (pv 14) (pv 12) (nomark _)))) (fun _ _ _ _ _ => by exact (pv 14))) pa_nil))))))))
      (pss_cons (ps_expr (pe_bm PySem.F.plainAttrs_list PySem.F.slot_list_remove PySem.F.type_list_remove mt_remove (pv 8) (pa_cons (pv 10) pa_nil)))
      (pss_one (ps_set (i := 4) sc__law_rank.nd rfl (Or.inl rfl) (pe_op op_add (pv 4) pe_int)))))))))))
      (pss_one (ps_ret (pv 3)))))))), ?_⟩
  refine ⟨by show 3 ≤ sizeLine; decide, fun T hT => ⟨T, _, rfl, SqT.of upd_same, rfl, _, _, rfl, _, _, rfl, _, _, rfl, rfl, ?_⟩⟩
  have s1 := (Same.refl H).new (o := .tup [.int 0, .int 0, .int 1]) hT
  generalize upd H T (.tup [.int 0, .int 0, .int 1]) = H1 at s1 ⊢
  refine ⟨_, rfl, _, rfl, a, p, hs, ls, rfl, s1 _ _ ha, hl, hp.same s1, st, fun R as H2 s2 hR0 hR wr _ => ?_⟩
  have s12 := s1.trans s2
  have ha2 := s12 _ _ ha
  have hrr2 := s12 _ _ hrr
  obtain ⟨okb, _, _, ke⟩ := oks_blocks fo st isf
  rw [← ke] at er
  have part := allE_part _ [] row (Pre.nil hs) okb (List.mem_of_getElem? er)
  have rk := rankA_at fo _ [] row spot (Pre.nil hs) okb er
  have rlen : row.length ≤ 60 := by
    have z := allE_mem_len (List.mem_of_getElem? er)
    have r := rest_pre_all st
    omega
  have bok : ∀ l ∈ ls ++ [restL hs.length ls], l.Nodup ∧ (∀ v ∈ l, v < hs.length) ∧ l.length ≤ hs.length ∧ l.Pairwise (· < ·) := fun l h => by
    rcases List.mem_append.mp h with m | m
    · exact ⟨(st.up l m).imp fun {a b} h => by omega, fun v hv1 => st.lt v (List.mem_flatten.mpr ⟨l, m, hv1⟩), st.one m, st.up l m⟩
    · rw [List.mem_singleton.mp m]
      exact ⟨rest_nd _ _, fun v hv1 => rest_lt hv1, rest_len _ _, List.pairwise_lt_range.filter _⟩
  have flen : (ls ++ [restL hs.length ls]).flatten.length ≤ 60 := by
    have z := rest_pre_all st
    omega
  have lbs : row.length = (ls ++ [restL hs.length ls]).flatten.length := by
    rw [rest_pre_all st]
    rw [ke] at er
    have z := (List.mem_filter.mp (List.mem_of_getElem? er)).1
    exact (rows_pre hs hs.length row z).2
  generalize ls ++ [restL hs.length ls] = bs at okb er part rk bok flen wr lbs
  have lb := wr.len
  have big : fct 60 < 2 ^ 1000 := by decide +kernel
  have pbd : ∀ cs : List (List Nat), (∀ l ∈ cs, l ∈ bs) → cs.flatten.length ≤ 60 → 0 ≤ prodB hs cs ∧ (prodB hs cs).natAbs < 2 ^ 1000 := fun cs hc hl2 => by
    have z := prodB_bd fo (bs := cs) fun l h => ⟨(bok l (hc l h)).1, (bok l (hc l h)).2.1⟩
    have m := fct_mono hl2
    exact ⟨z.1, by omega⟩
  have bbd : ∀ l : List Nat, l.Nodup → (∀ v ∈ l, v < hs.length) → l.length ≤ 60 → 1 ≤ blockN hs l ∧ (blockN hs l).natAbs < 2 ^ 1000 := fun l nd lt hl2 => by
    have z := blockN_bd fo nd lt
    have m := fct_mono hl2
    exact ⟨z.1, by omega⟩
  have tkl : ∀ i, (bs.take i).flatten.length ≤ 60 := fun i => Nat.le_trans (flat_len i) flen
  have drl : ∀ i, (bs.drop i).flatten.length ≤ 60 := fun i => Nat.le_trans (flat_drop_len bs i) flen
  -- later
  refine ⟨_, rfl, R, rfl, ⟨_, SqL.of hR⟩, for_it (walk_list (xs := as.map V.ref)) (fun i σ H' => ∃ v7, σ = [some (.ref a), some (.ref p), some (.ref rr), some (.int 0), some (.int 0), some (.int (prodB hs (bs.take i))), some (.ref R), v7, none, none, none, none, none, none, none] ∧ Same H2 H') ⟨none, rfl, Same.refl H2⟩ (fun i σ H' _ z => ?_) ?_ ?_⟩
  · obtain ⟨_, _, z⟩ := z
    exact SqL.of (z _ _ hR)
  · rintro i x σ H3 H4 hi ⟨v7, rfl, s3⟩ ⟨rfl, e1⟩
    obtain ⟨qa, eq, rfl⟩ := ref_at e1
    have il : i < bs.length := by
      have z := (List.getElem?_eq_some_iff.mp eq).1
      omega
    have el : bs[i]? = some bs[i] := List.getElem?_eq_getElem il
    have hq := (wr.same s3).at_ i qa _ eq el
    have tk : bs.take (i + 1) = bs.take i ++ [bs[i]] := by rw [List.take_add_one, el]; rfl
    obtain ⟨b1, b2, b3, b4⟩ := bok _ (List.mem_of_getElem? el)
    generalize bs[i] = l at el hq tk b1 b2 b3 b4
    refine ⟨_, rfl, _, rfl, _, rfl, a, qa, hs, l, rfl, s3 _ _ ha2, hq, fo, b1, b2, by omega, fun H5 s5 => ?_⟩
    have c1 := pbd (bs.take i) (fun l h => List.mem_of_mem_take h) (tkl i)
    have c2 := bbd l b1 b2 (by omega)
    exact ⟨_, _, rfl, rfl, wide_mul (a := 1000) (b := 1000) c1.2 c2.2 (by decide) (by decide) (by decide), some (.ref qa), by rw [tk, prodB_snoc]; rfl, s3.trans s5⟩
  rintro σ H3 ⟨v7, rfl, s3⟩
  have et : bs.take (as.map V.ref).length = bs := by rw [List.length_map, lb, List.take_length]
  rw [et]
  have hR3 := s3 _ _ hR
  have ha3 := s3 _ _ ha2
  have hrr3 := s3 _ _ hrr2
  have wr3 := wr.same s3
  have s13 := s12.trans s3
  clear s2 s12 s3 hR ha2 hrr2 wr hR0
  -- block by block
  refine ⟨_, rfl, R, rfl, ⟨_, SqL.of hR3⟩, for_it (walk_list (xs := as.map V.ref)) (fun i σ H' => ∃ (F : Int) (v7 v8 v9 v10 v11 v12 : Option V), σ = [some (.ref a), some (.ref p), some (.ref rr), some (.int F), some (.int ((bs.take i).flatten.length : Nat)), some (.int (prodB hs (bs.drop i))), some (.ref R), v7, v8, v9, v10, v11, v12, none, none] ∧ Same H3 H' ∧ F + rankA hs (bs.drop i) (row.drop (bs.take i).flatten.length) = (spot : Int))
    ⟨0, v7, none, none, none, none, none, rfl, Same.refl H3, by rw [List.take_zero, List.drop_zero]; show 0 + rankA hs bs row = _; omega⟩ (fun i σ H' _ z => ?_) ?_ ?_⟩
  · obtain ⟨_, _, _, _, _, _, _, _, z, _⟩ := z
    exact SqL.of (z _ _ hR3)
  · rintro i x σ H4 H5 hi ⟨F, w7, v8, v9, v10, v11, v12, rfl, s4, eF⟩ ⟨rfl, e1⟩
    obtain ⟨qa, eq, rfl⟩ := ref_at e1
    have il : i < bs.length := by
      have z := (List.getElem?_eq_some_iff.mp eq).1
      omega
    have el : bs[i]? = some bs[i] := List.getElem?_eq_getElem il
    have hq := (wr3.same s4).at_ i qa _ eq el
    have tk : bs.take (i + 1) = bs.take i ++ [bs[i]] := by rw [List.take_add_one, el]; rfl
    have dr : bs.drop i = bs[i] :: bs.drop (i + 1) := List.drop_eq_getElem_cons il
    obtain ⟨b1, b2, b3, b4⟩ := bok _ (List.mem_of_getElem? el)
    have pt := part i _ el
    generalize bs[i] = l at el hq tk b1 b2 b3 b4 dr pt
    have at1 : (bs.take (i + 1)).flatten.length = (bs.take i).flatten.length + l.length := by rw [tk, List.flatten_append, List.flatten_singleton, List.length_append]
    have atl := Nat.le_trans (flat_len (ls := bs) (i + 1)) (Nat.le_refl _)
    rw [dr] at eF ⊢
    have eF : F + (rankW hs l ((row.drop (bs.take i).flatten.length).take l.length) * prodB hs (bs.drop (i + 1)) + rankA hs (bs.drop (i + 1)) ((row.drop (bs.take i).flatten.length).drop l.length)) = (spot : Int) := eF
    rw [List.drop_drop, ← at1] at eF
    rw [prodB_cons]
    generalize hat : (bs.take i).flatten.length = at0 at at1 pt eF ⊢
    have c1 := pbd (bs.drop (i + 1)) (fun l h => List.mem_of_mem_drop h) (drl (i + 1))
    have c2 := bbd l b1 b2 (by omega)
    generalize hP : prodB hs (bs.drop (i + 1)) = PP at c1 eF ⊢
    refine ⟨_, rfl, qa, _, rfl, .inl (SqL.of hq), fun Lf hLf => ?_⟩
    have nL3 : H3 Lf = none := s4.free hLf
    have s6 := s4.new (o := .lst (nv l)) hLf
    have oL6 : upd H5 Lf (.lst (nv l)) Lf = some (.lst (nv l)) := upd_same
    have hq6 := ((Same.refl H5).new (o := .lst (nv l)) hLf) _ _ hq
    generalize upd H5 Lf (.lst (nv l)) = H6 at s6 oL6 hq6 ⊢
    refine ⟨_, rfl, _, rfl, _, rfl, a, qa, hs, l, rfl, s6 _ _ ha3, hq6, fo, b1, b2, by omega, fun H7 s7 => ⟨_, _, rfl, rfl, wide_div (b := 1000) (by omega) c2.2 (by decide) (by decide), ?_⟩⟩
    have ed : V.int (blockN hs l * PP / blockN hs l) = V.int PP := by rw [Int.mul_ediv_cancel_left PP (show blockN hs l ≠ 0 by omega)]
    dsimp only
    rw [ed]
    refine ⟨by show 2 ≤ sizeLine; decide, fun T hT => ⟨T, _, rfl, SqT.of upd_same, rfl, _, _, rfl, _, _, rfl, rfl, ?_⟩⟩
    have s8 := (s6.trans s7).new (o := .tup [.ref Lf, .int PP]) hT
    have k8 := s7.new (o := .tup [.ref Lf, .int PP]) hT
    generalize upd H7 T (.tup [.ref Lf, .int PP]) = H8 at s8 k8 ⊢
    have oL8 := k8 _ _ oL6
    have hq8 := k8 _ _ hq6
    have pwl : ((row.drop at0).take l.length).length = l.length := pt.length_eq
    have row_at : ∀ j v, ((row.drop at0).take l.length)[j]? = some v → row[at0 + j]? = some v := fun j v e => by
      have hj := (List.getElem?_eq_some_iff.mp e).1
      rw [List.length_take] at hj
      rw [List.getElem?_take, if_pos (by omega), List.getElem?_drop] at e
      exact e
    generalize hpw : (row.drop at0).take l.length = pw at pt eF pwl row_at
    refine ⟨_, rfl, _, _, rfl, .inl ⟨_, SqL.of hq8, rfl⟩, _, rfl, by rw [nv_length]; omega, by rw [nv_length]; omega, for_it walk_range0 (fun j σ H' => ∃ (Fj : Int) (lf : List Nat) (v9 v10 v11 v12 : Option V), σ = [some (.ref a), some (.ref p), some (.ref rr), some (.int Fj), some (.int ((at0 + j : Nat) : Int)), some (.int PP), some (.ref R), some (.ref qa), some (.ref Lf), v9, v10, v11, v12, none, none] ∧ Same H3 H' ∧ H' Lf = some (.lst (nv lf)) ∧ lf.Pairwise (· < ·) ∧ (∀ v ∈ lf, v < hs.length) ∧ (pw.drop j).Perm lf ∧ Fj + PP * rankW hs lf (pw.drop j) = F + PP * rankW hs l pw)
      ⟨F, l, v9, v10, v11, v12, rfl, s8, oL8, b4, b2, pt, rfl⟩ (fun _ _ _ _ _ => trivial) ?_ ?_⟩
    · rintro j x σ H9 H9' hj ⟨Fj, lf, u9, u10, u11, u12, rfl, s9, oL, up, lt, pj, eFj⟩ ⟨rfl, rfl⟩
      rw [nv_length] at hj
      have hjl : j < pw.length := by omega
      have ev : pw[j]? = some pw[j] := List.getElem?_eq_getElem hjl
      have dv : pw.drop j = pw[j] :: pw.drop (j + 1) := List.drop_eq_getElem_cons hjl
      generalize pw[j] = v at ev dv
      rw [dv] at pj eFj
      have mv : v ∈ lf := pj.mem_iff.mp List.mem_cons_self
      have nd : lf.Nodup := up.imp fun {a b} h => by omega
      have lfl : lf.length ≤ 60 := by
        have z := pj.length_eq
        rw [← dv, List.length_drop] at z
        omega
      refine ⟨_, rfl, _, rfl, rr, _, _, _, rfl, rfl, SqL.of (s9 _ _ hrr3), atI_nat (nv_get (row_at j v ev)), ?_⟩
      refine ⟨_, rfl, Lf, rfl, ⟨_, SqL.of oL⟩, fun S hS => lc_nat (fun m : Nat => decide ((m : Int) < (v : Int))) oL (by omega) hS (fun _ => rfl) (fun _ _ _ q => ⟨_, rfl, q⟩) (fun m H2 Q' _ _ q => ⟨_, rfl, _, rfl, _, _, rfl, rfl, _, rfl, q _ (Same.refl _)⟩) (fun Ha sa oS => ?_)⟩
      have e1 : lf.filter (fun m : Nat => decide ((m : Int) < (v : Int))) = lf.filter fun m => decide (m < v) := List.filter_congr fun x _ => decide_eq_decide.mpr (by omega)
      rw [e1] at oS
      have s9a := s9.trans sa
      have oLa := sa _ _ oL
      have fl1 := List.length_filter_le (fun m => decide (m < v)) lf
      refine ⟨_, rfl, S, rfl, ⟨_, SqL.of oS⟩, fun G hG => lc_nat (isFree hs lf) oS (by omega) hG (fun _ => rfl) (fun _ _ _ q => ⟨_, rfl, q⟩) (fun m H2 Q' mm s2 q => ?_) (fun Hb sb oG => ?_)⟩
      · obtain ⟨o2, ho⟩ : ∃ o, hs[m]? = some o := ⟨_, List.getElem?_eq_getElem (lt m (List.mem_filter.mp mm).1)⟩
        refine ⟨_, rfl, _, rfl, a, _, _, _, rfl, rfl, SqT.of (s2 _ _ (s9a _ _ ha3)), atI_nat (hv_at ho), _, rfl, Lf, _, rfl, .inl (SqL.of (s2 _ _ oLa)), by cases o2 <;> rfl, flat_nv _, _, rfl, ?_⟩
        have z := q _ (Same.refl H2)
        rw [free_inV ho] at z
        exact z
      have s9b := s9a.trans sb
      have oLb := sb _ _ oLa
      have fl2 := List.length_filter_le (isFree hs lf) (lf.filter fun m => decide (m < v))
      have csm : ∀ m ∈ (lf.filter fun m => decide (m < v)).filter (isFree hs lf), m ∈ lf := fun m h => (List.mem_filter.mp (List.mem_filter.mp h).1).1
      have eFj : Fj + PP * (((((lf.filter fun m => decide (m < v)).filter (isFree hs lf)).map fun m => blockN hs (minus lf m)).sum) + rankW hs (minus lf v) (pw.drop (j + 1))) = F + PP * rankW hs l pw := eFj
      generalize (lf.filter fun m => decide (m < v)).filter (isFree hs lf) = cs at oG fl2 csm eFj
      refine ⟨G, rfl, ⟨_, SqL.of oG⟩, for_it (walk_list (xs := nv cs)) (fun k σ H' => ∃ (Fk : Int) (v12 : Option V), σ = [some (.ref a), some (.ref p), some (.ref rr), some (.int Fk), some (.int ((at0 + j : Nat) : Int)), some (.int PP), some (.ref R), some (.ref qa), some (.ref Lf), some (.int (j : Int)), some (.int (v : Int)), some (.ref S), v12, none, none] ∧ Same Hb H' ∧ Fk = Fj + PP * (((cs.take k).map fun m => blockN hs (minus lf m)).sum))
        ⟨Fj, u12, rfl, Same.refl Hb, ?_⟩ (fun k σ H' _ z => ?_) ?_ ?_⟩
      · show Fj = Fj + PP * 0
        rw [Int.mul_zero, Int.add_zero]
      · obtain ⟨_, _, _, z, _⟩ := z
        exact SqL.of (z _ _ oG)
      · rintro k x σ Hc Hd hk ⟨Fk, w12, rfl, sc, eFk⟩ ⟨rfl, e2⟩
        obtain ⟨m, em, rfl⟩ := nv_at e2
        have mm := csm m (List.mem_of_getElem? em)
        refine ⟨_, rfl, _, rfl, _, rfl, _, rfl, Lf, rfl, ⟨_, SqL.of (sc _ _ oLb)⟩, fun M hM => lc_nat (fun x : Nat => !decide (V.int (x : Int) = V.int (m : Int))) (sc _ _ oLb) (by omega) hM (fun _ => rfl) (fun _ _ _ q => ⟨_, rfl, q⟩) (fun y H2 Q' _ _ q => ⟨_, rfl, _, rfl, rfl, _, rfl, q _ (Same.refl _)⟩) (fun He se oM => ?_)⟩
        have e3 : lf.filter (fun x : Nat => !decide (V.int (x : Int) = V.int (m : Int))) = minus lf m := List.filter_congr fun x _ => by
          by_cases c : x = m
          · rw [c, decide_eq_true rfl, decide_eq_false (fun z => z rfl)]; rfl
          · rw [decide_eq_false (fun z => c (by have := V.int.inj z; omega)), decide_eq_true c]; rfl
        rw [e3] at oM
        have ml := minus_len nd mm
        have mnd : (minus lf m).Nodup := nd.filter _
        have mlt : ∀ v ∈ minus lf m, v < hs.length := fun x h => lt x (mem_minus.mp h).1
        refine ⟨a, M, hs, minus lf m, rfl, se _ _ (sc _ _ (s9b _ _ ha3)), oM, fo, mnd, mlt, by omega, fun Hf sf => ?_⟩
        have c3 := bbd (minus lf m) mnd mlt (by omega)
        refine ⟨_, _, rfl, rfl, wide_mul (a := 1000) (b := 1000) c1.2 c3.2 (by decide) (by decide) (by decide), _, _, rfl, rfl, Fk + PP * blockN hs (minus lf m), some (.int (m : Int)), rfl, (sc.trans se).trans sf, ?_⟩
        have tk2 : cs.take (k + 1) = cs.take k ++ [m] := by rw [List.take_add_one, em]; rfl
        rw [tk2, List.map_append, List.sum_append, eFk]
        show Fj + PP * _ + PP * blockN hs (minus lf m) = Fj + PP * (_ + (blockN hs (minus lf m) + 0))
        rw [Int.add_zero, Int.mul_add, Int.add_assoc]
      · rintro σ Hc ⟨Fk, w12, rfl, sc, eFk⟩
        rw [nv_length, List.take_length] at eFk
        have oLc := sc _ _ oLb
        obtain ⟨jj, r1, r2, r3⟩ := remove_nat nd mv
        refine ⟨_, rfl, .inl ⟨rfl, _, SqL.of oLc⟩, _, rfl, Lf, lf.map fun v : Nat => (v : Int), (v : Int), jj, rfl, rfl, by rw [← nv_ints]; exact oLc, r1, r2, ?_⟩
        rw [r3]
        refine ⟨_, rfl, _, _, rfl, rfl, Fk, minus lf v, some (.int (j : Int)), some (.int (v : Int)), some (.ref S), w12, ?_, (s9b.trans sc).upd nL3, upd_same, up.filter _, fun x h => lt x (mem_minus.mp h).1, ?_, ?_⟩
        · rfl
        · have z : (pw.drop (j + 1)).Perm (lf.erase v) := by
            have y := pj.erase v
            rw [List.erase_cons_head] at y
            exact y
          have e4 : lf.erase v = minus lf v := by
            unfold minus
            rw [nd.erase_eq_filter]
            exact List.filter_congr fun x _ => by
              by_cases c : x = v <;> simp [c]
          rw [e4] at z; exact z
        · rw [eFk, ← eFj, Int.mul_add, Int.add_assoc]
    · rintro σ H9 ⟨Fj, lf, u9, u10, u11, u12, rfl, s9, oL, up, lt, pj, eFj⟩
      have en : ((((nv l).length : Nat) : Int)).toNat = l.length := by rw [nv_length]; omega
      rw [en, ← pwl, List.drop_length] at eFj
      have eFj : Fj + PP * 0 = F + PP * rankW hs l pw := eFj
      rw [Int.mul_zero, Int.add_zero] at eFj
      refine ⟨Fj, some (.ref qa), some (.ref Lf), u9, u10, u11, u12, ?_, s9, ?_⟩
      · rw [en, ← at1]
      · rw [eFj, ← eF, Int.mul_comm PP, Int.add_assoc]
  · rintro σ H4 ⟨F, w7, v8, v9, v10, v11, v12, rfl, s4, eF⟩
    rw [List.length_map, lb, List.drop_length, List.take_length] at eF
    have eF : F + 0 = (spot : Int) := eF
    have e2 : F = (spot : Int) := by omega
    subst e2
    exact ⟨_, rfl, q H4 (s13.trans s4)⟩
end

end My

namespace My
open PySem PySem.Spec PyProof.Rows L2
/-! ### the law's first and last one, and what nth_with tells -/
theorem short_nD : ∀ l : List Nat, shortDs (nD l) = true
  | [] => rfl
  | v :: l => by
    show shortDs (PyData.int (v : Int) :: nD l) = true
    rw [shortDs, short_nD l]; rfl
theorem rp_nv {z : Bool} {H : Hp} {a : Addr} {l : List Nat} (h : H a = some (.lst (nv l))) (nz : z = true → a ≠ sysModules) : Rp z H (.ref a) (.list (nD l)) := .lst h nz (rps_nv l)
theorem nD_len (l : List Nat) : (nD l).length = l.length := List.length_map _
def sdV (side : Bool) : Int := if side = true then -1 else 0
theorem pick_at {hs : Hs} {side : Bool} {lf : List Nat} {v : Nat} (h : endPick hs side lf = some v) : atI (nv (canN hs lf)) (sdV side) = some (.int (v : Int)) := by
  cases side with
  | true =>
    have h : (canN hs lf).getLast? = some v := h
    obtain ⟨L, e⟩ := List.getLast?_eq_some_iff.mp h
    rw [e, nv_append]
    exact atI_last _ _
  | false =>
    have h : (canN hs lf).head? = some v := h
    refine atI_nat (j := 0) (nv_get ?_)
    rw [← List.head?_eq_getElem?]
    exact h
def spLEnd : Sp := fun vs H Q _ => ∃ (a p : Addr) (hs : Hs) (ls : List (List Nat)) (side : Bool), vs = [.ref a, .ref p, .int (sdV side)] ∧ H a = some (.tup (hs.map hv)) ∧ Fo hs ∧ hs.length ≤ 60 ∧ Lots H p ls ∧ Stg hs.length ls ∧ IsFault hs ls none ∧
  ∀ r H', Same H H' → H r = none → H' r = some (.lst (nv (endA hs side (ls ++ [restL hs.length ls])))) → Q (.ref r) H'
def spLTold17 : Sp := fun vs H Q _ => ∃ (a p d : Addr) (hs : Hs) (ls : List (List Nat)) (row : List Nat) (spot : Nat), vs = [.ref a, .ref p, .int (spot : Int), .ref d] ∧ H a = some (.tup (hs.map hv)) ∧ Fo hs ∧ hs.length ≤ 60 ∧ Lots H p ls ∧ Stg hs.length ls ∧ IsFault hs ls none ∧
  H d = some (.lst (nv row)) ∧ (keepL hs ls)[spot]? = some row ∧ ∀ H', Same H H' → Q (.bl true) H'
theorem keepL_len {hs : Hs} {ls : List (List Nat)} {row : List Nat} (h : row ∈ keepL hs ls) : row.length = hs.length ∧ Pre hs row := by
  obtain ⟨p, l⟩ := rows_pre hs hs.length row (List.mem_filter.mp h).1
  exact ⟨l, p⟩
section
variable {P : Program} {w : World} {K : PySem.W.Frag} {mg : Str → Option Value} {base : Heap}
abbrev st__law_end : Stmt := topS 62
abbrev N__law_end : List Str := ["plan", "lots", "side", "row", "lot", "left", "some", "one"]
theorem sc__law_end : FnScope N__law_end ["plan", "lots", "side"] (defScope st__law_end) := ⟨rfl, rfl, rfl, by decide +kernel, rfl, by decide +kernel, by decide +kernel⟩
theorem ok__law_end (D : Df K mg "_law_end" st__law_end ["plan", "lots", "side"]) (B : Bl mg) (K_law_rest : Kn P w K mg base CX0 2 "_law_rest" st__law_rest ["plan", "lots"] spLRest) :
    Kn P w K mg base CX0 3 "_law_end" st__law_end ["plan", "lots", "side"] spLEnd := by
  refine D.ok sc__law_end (fun vs H Q E h => ?_) (fun f cdv A outer s H vs Q E hr h => ?_)
  · obtain ⟨a, p, hs, ls, side, rfl, _⟩ := h; rfl
  obtain ⟨a, p, hs, ls, side, rfl, ha, fo, hl, hp, st, isf, q⟩ := h
  refine ⟨_, ((pss_cons (ps_set (i := 3) sc__law_end.nd rfl (Or.inl rfl) (pe_lst pa_nil))
      (pss_cons (ps_for PassesOwn.never rfl (pi_list (pe_callF K_law_rest (hr.mono (by decide)) pass0 (pa_cons (pv 0) (pa_cons (pv 1) pa_nil)))) (pg_name (i := 4) sc__law_end.nd rfl (Or.inl rfl)) (pss_cons (ps_set (i := 5) sc__law_end.nd rfl (Or.inr rfl) (pe_callTy call_list_of (by rfl) B.list (by decide +kernel) (pa_cons (pv 4) pa_nil)))
      (pss_one (ps_while PassesOwn.never (pt_cmpR (op_neD hr.units) (pv 5) (pe_lst pa_nil) (nomark _)) (pss_cons (ps_setLc (i := 6) (own := [("one", 7)]) (g := gName 7) rfl sc__law_end.nd rfl rfl (sw_true rfl rfl rfl (by decide +kernel)) (pi_list (pv 5)) (blkOk_by (N := N__law_end) (sc := defScope st__law_end) (own := [("one", 7)]) (by decide +kernel)) (fun _ _ _ _ _ => by (exact (pg_name (i := 7) sc__law_end.nd rfl (Or.inl rfl)))) (fun _ _ _ _ _ => by exact (pts_one (pt_cmpR (op_notIn_seqK K) (pe_ix (ix_tupK K) (pv 0) (pv 7) (fun _ _ => rfl)) (pv 5) (by rfl)))) (fun _ _ _ _ _ => by exact (pv 7)))
      (pss_cons (ps_expr (pe_bm PySem.F.plainAttrs_list PySem.F.slot_list_append PySem.F.type_list_append mt_append (pv 3) (pa_cons (pe_ix ix_list (pv 6) (pv 2) (fun _ _ => rfl)) pa_nil)))
      (pss_one (ps_expr (pe_bm PySem.F.plainAttrs_list PySem.F.slot_list_remove PySem.F.type_list_remove mt_remove (pv 5) (pa_cons (pe_ix ix_list (pv 6) (pv 2) (fun _ _ => rfl)) pa_nil))))))))))
      (pss_one (ps_ret (pv 3)))))), ?_⟩
  refine ⟨by show 0 ≤ sizeLine; decide, fun W0 hW => ?_⟩
  have s1 := (Same.refl H).new (o := .lst []) hW
  have oW1 : upd H W0 (.lst []) W0 = some (.lst (nv [])) := upd_same
  generalize upd H W0 (.lst []) = H1 at s1 oW1 ⊢
  refine ⟨_, rfl, _, rfl, a, p, hs, ls, rfl, s1 _ _ ha, hl, hp.same s1, st, fun R as H2 s2 hR0 hR wr nas => ?_⟩
  have s12 := s1.trans s2
  have naW : a ≠ W0 := ne_of_none ha hW
  have ha2 := s12 _ _ ha
  have oW2 := s2 _ _ oW1
  have bok : ∀ l ∈ ls ++ [restL hs.length ls], l.Nodup ∧ (∀ v ∈ l, v < hs.length) ∧ l.length ≤ hs.length ∧ l.Pairwise (· < ·) := fun l h => by
    rcases List.mem_append.mp h with m | m
    · exact ⟨(st.up l m).imp fun {a b} h => by omega, fun v hv1 => st.lt v (List.mem_flatten.mpr ⟨l, m, hv1⟩), st.one m, st.up l m⟩
    · rw [List.mem_singleton.mp m]
      exact ⟨rest_nd _ _, fun v hv1 => rest_lt hv1, rest_len _ _, List.pairwise_lt_range.filter _⟩
  have lbs0 : (ls ++ [restL hs.length ls]).length ≤ ls.length + 1 := by rw [List.length_append]; exact Nat.le_refl _
  generalize ls ++ [restL hs.length ls] = bs at bok wr q lbs0
  have flen : ∀ i, (bs.take i).flatten.length ≤ 60 * i := fun i => by
    have key : ∀ cs : List (List Nat), (∀ l ∈ cs, l.length ≤ 60) → cs.flatten.length ≤ 60 * cs.length := fun cs => by
      induction cs with
      | nil => intro _; exact Nat.zero_le _
      | cons c cs ih =>
        intro h
        have z := ih fun l hl => h l (List.mem_cons_of_mem _ hl)
        have y := h c List.mem_cons_self
        rw [List.flatten_cons, List.length_append, List.length_cons]
        omega
    have z := key (bs.take i) fun l h => by have := (bok l (List.mem_of_mem_take h)).2.2.1; omega
    rw [List.length_take] at z
    omega
  have lb := wr.len
  have eA : ∀ i l, bs[i]? = some l → endA hs side (bs.take (i + 1)) = endA hs side (bs.take i) ++ endW hs side l.length l := fun i l e => by
    have tk : bs.take (i + 1) = bs.take i ++ [l] := by rw [List.take_add_one, e]; rfl
    unfold endA
    rw [tk, List.map_append, List.flatten_append]
    congr 1
    exact List.append_nil _
  have lA : ∀ i, i ≤ bs.length → (endA hs side (bs.take i)).length ≤ 60 * i := fun i => by
    induction i with
    | zero => intro _; exact Nat.zero_le _
    | succ i ih =>
      intro hi
      have il : i < bs.length := by omega
      have e := eA i _ (List.getElem?_eq_getElem il)
      have b := (bok _ (List.getElem_mem il)).2.2.1
      have lw : ∀ k left, (endW hs side k left).length ≤ k := fun k => by
        induction k with
        | zero => intro _; exact Nat.le_refl _
        | succ k ih =>
          intro left
          show (match endPick hs side left with
            | some v => v :: endW hs side k (minus left v)
            | none => []).length ≤ k + 1
          cases endPick hs side left with
          | none => exact Nat.zero_le _
          | some v => exact Nat.succ_le_succ (ih _)
      have z := lw bs[i].length bs[i]
      rw [e, List.length_append]
      have y := ih (by omega)
      omega
  have lbs : bs.length ≤ 61 := by
    have z := st.many
    have y : bs.length ≤ ls.length + 1 := lbs0
    omega
  have hW1 : H W0 = none := hW
  refine ⟨R, rfl, ⟨_, SqL.of hR⟩, for_it (walk_list (xs := as.map V.ref)) (fun i σ H' => ∃ (v4 v5 v6 : Option V), σ = [some (.ref a), some (.ref p), some (.int (sdV side)), some (.ref W0), v4, v5, v6, none] ∧ (∀ b o, H2 b = some o → b ≠ W0 → H' b = some o) ∧ H' W0 = some (.lst (nv (endA hs side (bs.take i)))))
    ⟨none, none, none, rfl, fun _ _ e _ => e, oW2⟩ (fun i σ H' _ z => ?_) ?_ ?_⟩
  · obtain ⟨_, _, _, _, z, _⟩ := z
    exact SqL.of (z _ _ hR (ne_of_none oW1 hR0).symm)
  · rintro i x σ H3 H4 hi ⟨v4, v5, v6, rfl, k3, oW⟩ ⟨rfl, e1⟩
    obtain ⟨qa, eq, rfl⟩ := ref_at e1
    have il : i < bs.length := by
      have z := (List.getElem?_eq_some_iff.mp eq).1
      omega
    have el : bs[i]? = some bs[i] := List.getElem?_eq_getElem il
    have hq2 := wr.at_ i qa _ eq el
    have nqW : qa ≠ W0 := (ne_of_none oW1 (nas qa (List.mem_of_getElem? eq))).symm
    have hq := k3 _ _ hq2 nqW
    obtain ⟨b1, b2, b3, b4⟩ := bok _ (List.mem_of_getElem? el)
    have ea := eA i _ el
    have la := lA i (by omega)
    generalize bs[i] = l at el hq b1 b2 b3 b4 ea hq2
    refine ⟨_, rfl, qa, _, rfl, .inl (SqL.of hq), fun Lf hLf => ?_⟩
    have nLW : Lf ≠ W0 := (ne_of_none oW hLf).symm
    have nL2 : H2 Lf = none := by
      cases y : H2 Lf with
      | none => rfl
      | some o =>
        have z := k3 _ _ y nLW
        rw [z] at hLf; cases hLf
    have k5 : ∀ b o, H2 b = some o → b ≠ W0 → upd H4 Lf (.lst (nv l)) b = some o := fun b o e n => (upd_ne (ne_of_none (k3 _ _ e n) hLf)).trans (k3 _ _ e n)
    have oW5 : upd H4 Lf (.lst (nv l)) W0 = some (.lst (nv (endA hs side (bs.take i)))) := (upd_ne nLW.symm).trans oW
    have oL5 : upd H4 Lf (.lst (nv l)) Lf = some (.lst (nv l)) := upd_same
    generalize upd H4 Lf (.lst (nv l)) = H5 at k5 oW5 oL5 ⊢
    refine ⟨fun m σ H' => ∃ (o lf : List Nat) (v6 : Option V), m = lf.length ∧ σ = [some (.ref a), some (.ref p), some (.int (sdV side)), some (.ref W0), some (.ref qa), some (.ref Lf), v6, none] ∧ (∀ b u, H2 b = some u → b ≠ W0 → H' b = some u) ∧ H' W0 = some (.lst (nv o)) ∧ H' Lf = some (.lst (nv lf)) ∧ lf.Pairwise (· < ·) ∧ (∀ v ∈ lf, v < hs.length) ∧ o.length + lf.length ≤ 60 * i + 60 ∧ o ++ endW hs side lf.length lf = endA hs side (bs.take (i + 1)),
      ⟨l.length, endA hs side (bs.take i), l, v6, rfl, rfl, k5, oW5, oL5, b4, b2, by omega, ea.symm⟩, ?_⟩
    rintro m σ H6 ⟨o, lf, w6, rfl, rfl, k6, oW6, oL6, up, lt, ln, ee⟩
    have nd : lf.Nodup := up.imp fun {a b} h => by omega
    have lfl : lf.length ≤ 60 := by
      have z := nodup_len hs.length _ nd lt
      omega
    refine ⟨_, rfl, ⟨by show 0 ≤ sizeLine; decide, fun Z hZ => ?_⟩⟩
    have s7 := (Same.refl H6).new (o := .lst []) hZ
    have z7 : upd H6 Z (.lst []) Z = some (.lst (nv [])) := upd_same
    generalize upd H6 Z (.lst []) = H7 at s7 z7 ⊢
    have oW7 := s7 _ _ oW6
    have oL7 := s7 _ _ oL6
    refine ⟨_, _, dp_list oL7, dp_list z7, shaped_nD lf, shaped_nD [], _, rfl, ?_⟩
    rw [eqv_list, eqv_nD]
    by_cases c : lf = []
    · subst c
      rw [decide_eq_true rfl]
      refine iteF ?_
      have ee : o ++ [] = endA hs side (bs.take (i + 1)) := ee
      rw [List.append_nil] at ee
      subst ee
      exact ⟨some (.ref qa), some (.ref Lf), w6, rfl, fun b u e n => s7 _ _ (k6 b u e n), oW7⟩
    · rw [decide_eq_false c]
      obtain ⟨v, ep, mc⟩ := pick_some fo (side := side) lt c
      have mv : v ∈ lf := (List.mem_filter.mp mc).1
      have ml := minus_len nd mv
      have el2 : lf.length = (minus lf v).length + 1 := ml.symm
      have ee2 : o ++ v :: endW hs side (minus lf v).length (minus lf v) = endA hs side (bs.take (i + 1)) := by
        have e3 : ∀ k, endW hs side (k + 1) lf = v :: endW hs side k (minus lf v) := fun k => by
          show (match endPick hs side lf with
            | some x => x :: endW hs side k (minus lf x)
            | none => []) = _
          rw [ep]
        rw [← ee, el2, e3]
      refine iteT ⟨fun σ' H' => ∃ (o lf' : List Nat) (v6 : Option V), lf'.length < lf.length ∧ σ' = [some (.ref a), some (.ref p), some (.int (sdV side)), some (.ref W0), some (.ref qa), some (.ref Lf), v6, none] ∧ (∀ b u, H2 b = some u → b ≠ W0 → H' b = some u) ∧ H' W0 = some (.lst (nv o)) ∧ H' Lf = some (.lst (nv lf')) ∧ lf'.Pairwise (· < ·) ∧ (∀ v ∈ lf', v < hs.length) ∧ o.length + lf'.length ≤ 60 * i + 60 ∧ o ++ endW hs side lf'.length lf' = endA hs side (bs.take (i + 1)),
        fun σ' H' ⟨o, lf', v6, e1, e2, e3, e4, e5, e6, e7, e8, e9⟩ => ⟨lf'.length, e1, o, lf', v6, rfl, e2, e3, e4, e5, e6, e7, e8, e9⟩, ?_⟩
      refine ⟨_, rfl, Lf, rfl, ⟨_, SqL.of oL7⟩, fun S hS => lc_nat (isFree hs lf) oL7 (by omega) hS (fun _ => rfl) (fun _ _ _ q => ⟨_, rfl, q⟩) (fun m Hx Q' mm sx q => ?_) (fun H8 s8 oS => ?_)⟩
      · obtain ⟨o2, ho⟩ : ∃ o, hs[m]? = some o := ⟨_, List.getElem?_eq_getElem (lt m mm)⟩
        have hax := sx _ _ (s7 _ _ (k6 _ _ ha2 naW))
        refine ⟨_, rfl, _, rfl, a, _, _, _, rfl, rfl, SqT.of hax, atI_nat (hv_at ho), _, rfl, Lf, _, rfl, .inl (SqL.of (sx _ _ oL7)), by cases o2 <;> rfl, flat_nv _, _, rfl, ?_⟩
        have z := q _ (Same.refl Hx)
        rw [free_inV ho] at z
        exact z
      have oS : H8 S = some (.lst (nv (canN hs lf))) := oS
      have pa := pick_at ep
      have oW8 := s8 _ _ oW7
      have oL8 := s8 _ _ oL7
      have nSW : S ≠ W0 := (ne_of_none oW7 hS).symm
      have nSL : S ≠ Lf := (ne_of_none oL7 hS).symm
      refine ⟨_, rfl, .inl ⟨rfl, _, SqL.of oW8⟩, _, rfl, _, rfl, S, _, _, _, rfl, rfl, SqL.of oS, pa, W0, _, _, rfl, rfl, oW8, by rw [nv_length]; exact Nat.lt_of_lt_of_le (show _ < 5000 by omega) (by rw [sizeLine_eq]; decide), ?_⟩
      have oW9 : upd H8 W0 (.lst (nv o ++ [V.int (v : Int)])) W0 = some (.lst (nv (o ++ [v]))) := by rw [upd_same, nv_append]; rfl
      have oL9 : upd H8 W0 (.lst (nv o ++ [V.int (v : Int)])) Lf = some (.lst (nv lf)) := (upd_ne nLW).trans oL8
      have oS9 : upd H8 W0 (.lst (nv o ++ [V.int (v : Int)])) S = some (.lst (nv (canN hs lf))) := (upd_ne nSW).trans oS
      have k9 : ∀ b u, H2 b = some u → b ≠ W0 → upd H8 W0 (.lst (nv o ++ [V.int (v : Int)])) b = some u := fun b u e n => (upd_ne n).trans (s8 _ _ (s7 _ _ (k6 b u e n)))
      generalize upd H8 W0 (.lst (nv o ++ [V.int (v : Int)])) = H9 at oW9 oL9 oS9 k9 ⊢
      obtain ⟨jj, r1, r2, r3⟩ := remove_nat nd mv
      refine ⟨_, rfl, .inl ⟨rfl, _, SqL.of oL9⟩, _, rfl, _, rfl, S, _, _, _, rfl, rfl, SqL.of oS9, pa, Lf, lf.map fun v : Nat => (v : Int), (v : Int), jj, rfl, rfl, by rw [← nv_ints]; exact oL9, r1, r2, ?_⟩
      rw [r3]
      refine ⟨o ++ [v], minus lf v, some (.ref S), by omega, rfl, fun b u e n => ?_, (upd_ne nLW.symm).trans oW9, upd_same, up.filter _, fun x h => lt x (mem_minus.mp h).1, ?_, ?_⟩
      · have nb : b ≠ Lf := fun z => by rw [z, nL2] at e; cases e
        exact (upd_ne nb).trans (k9 b u e n)
      · rw [List.length_append, List.length_singleton]; omega
      · rw [List.append_assoc]; exact ee2
  · rintro σ H3 ⟨v4, v5, v6, rfl, k3, oW⟩
    have et : bs.take (as.map V.ref).length = bs := by rw [List.length_map, lb, List.take_length]
    rw [et] at oW
    exact ⟨_, rfl, q W0 H3 (fun b o e => k3 b o (s12 _ _ e) (ne_of_none e hW1)) hW1 oW⟩
abbrev st__law_told : Stmt := topS 58
abbrev N__law_told : List Str := ["plan", "lots", "spot", "due", "found"]
theorem sc__law_told : FnScope N__law_told ["plan", "lots", "spot", "due"] (defScope st__law_told) := ⟨rfl, rfl, rfl, by decide +kernel, rfl, by decide +kernel, by decide +kernel⟩
theorem kb_nth_with_index_stages_forest : KwB "nth_with" st_nth_with ["forest", "stages", "index"] ["index", "stages", "forest"] (fun us ws => us ++ ws.reverse) (fun us ws => us ++ ws.reverse) :=
  ⟨fun _ _ _ _ _ _ us ws hl => by
    rw [List.length_append, List.length_reverse] at hl
    have z : ([("forest" : Str), ("stages" : Str), ("index" : Str)]).length = 3 := rfl
    rcases us with _ | ⟨u1, _ | ⟨u2, _ | ⟨u3, us⟩⟩⟩
    · have h : ws.length = 3 := by rw [List.length_nil] at hl; omega
      exact match ws, h with | [_, _, _], _ => rfl
    · have h : ws.length = 2 := by rw [List.length_cons, List.length_nil] at hl; omega
      exact match ws, h with | [_, _], _ => rfl
    · have h : ws.length = 1 := by rw [List.length_cons, List.length_cons, List.length_nil] at hl; omega
      exact match ws, h with | [_], _ => rfl
    · rw [List.length_cons, List.length_cons, List.length_cons] at hl
      have h : ws.length = 0 := by omega
      have h2 : us.length = 0 := by omega
      exact match us, ws, h2, h with | [], [], _, _ => rfl, fun a b => a.append b.reverse⟩
theorem ok__law_told (D : Df K mg "_law_told" st__law_told ["plan", "lots", "spot", "due"]) (B : Bl mg) (Knth_with : Kn P w K mg base (L2.CX P w) 11 "nth_with" st_nth_with ["forest", "stages", "index"] spNthW)
    (K_law_same : Kn P w K mg base CX0 3 "_law_same" st__law_same ["found", "due"] (spSame 3)) : Kn P w K mg base CX0 12 "_law_told" st__law_told ["plan", "lots", "spot", "due"] spLTold17 := by
  refine D.ok sc__law_told (fun vs H Q E h => ?_) (fun f cdv A outer s H vs Q E hr h => ?_)
  · obtain ⟨a, p, d, hs, ls, row, spot, rfl, _⟩ := h; rfl
  obtain ⟨a, p, d, hs, ls, row, spot, rfl, ha, fo, hl, hp, st, isf, hd, er, q⟩ := h
  refine ⟨_, ((pss_cons (ps_set (i := 4) sc__law_told.nd rfl (Or.inl rfl) (pe_callF Knth_with (hr.mono (by decide)) passL (pa_cons (pv 0) (pa_cons (pv 1) (pa_cons (pv 2) pa_nil)))))
      (pss_cons (ps_if (pt_not (pt_val (pe_callF K_law_same (hr.mono (by decide)) pass0 (pa_cons (pv 4) (pa_cons (pv 3) pa_nil))))) (pss_one (ps_ret pe_bl)) pss_nil)
      (pss_cons (ps_expr (pe_bm PySem.F.plainAttrs_list PySem.F.slot_list_append PySem.F.type_list_append mt_append (pv 4) (pa_cons pe_int pa_nil)))
      (pss_one (ps_ret (pe_callF K_law_same (hr.mono (by decide)) pass0 (pa_cons (pe_callFK0 Knth_with (hr.mono (by decide)) kb_nth_with_index_stages_forest passL (pk_cons (pv 2) (pk_cons (pv 1) (pk_cons (pv 0) pk_nil)))) (pa_cons (pv 3) pa_nil))))))))), ?_⟩
  have lr := (keepL_len (List.mem_of_getElem? er)).1
  have sh : shortD (.list (nD row)) = true := by
    rw [shortD, short_nD, nD_len, decide_eq_true (by omega)]; rfl
  have dp : (PyData.list (nD row)).depth < 3 := by
    rw [PyData.depth, deep_nD]; decide
  refine ⟨_, rfl, _, rfl, _, rfl, a, p, hs, ls, spot, row, rfl, ha, fo, hl, hp, st, isf, er, fun R H1 s1 hR0 hR => ?_⟩
  refine ⟨_, rfl, _, rfl, .ref R, .ref d, _, rfl, rp_nv hR (fun z => by cases z), rp_nv (s1 _ _ hd) (fun z => by cases z), dp, sh, fun H2 s2 => ⟨_, rfl, iteF ?_⟩⟩
  have s12 := s1.trans s2
  have hR2 := s2 _ _ hR
  refine ⟨_, rfl, .inl ⟨rfl, _, SqL.of hR2⟩, R, _, _, rfl, rfl, hR2, by rw [nv_length]; exact szl (by omega), ?_⟩
  have s3 := s12.upd (o := .lst (nv row ++ [.int 0])) hR0
  generalize upd H2 R (.lst (nv row ++ [.int 0])) = H3 at s3 ⊢
  refine ⟨_, rfl, _, rfl, _, rfl, a, p, hs, ls, spot, row, rfl, s3 _ _ ha, fo, hl, hp.same s3, st, isf, er, fun S H4 s4 hS0 hS => ?_⟩
  refine ⟨_, rfl, .ref S, .ref d, _, rfl, rp_nv hS (fun z => by cases z), rp_nv (s4 _ _ (s3 _ _ hd)) (fun z => by cases z), dp, sh, fun H5 s5 => ?_⟩
  exact q H5 ((s3.trans s4).trans s5)
end

end My

namespace My
open PySem PySem.Spec PyProof.Rows L2
/-! ### the law's test of a small forest -/
theorem Lots.keepW {H H' : Hp} {p wl : Addr} {n : Nat} {ls : List (List Nat)} (h : Lots H p ls) (k : Keep wl H H') (np : p ≠ wl) (w : Well H wl n) : Lots H' p ls := by
  obtain ⟨xs, hx, lx⟩ := h
  obtain ⟨l, e⟩ := w.here
  exact ⟨xs, k _ _ np hx, lx.keep k e⟩
theorem fault_ex (hs : Hs) (ls : List (List Nat)) : ∃ r, IsFault hs ls r := by
  by_cases h : ∀ (i : Nat) (l : List Nat), ls[i]? = some l → wrongIn hs (ls.take (i + 1)).flatten l = []
  · exact ⟨none, h⟩
  · have key : ∀ n : Nat, (∀ (i : Nat) (l : List Nat), i < n → ls[i]? = some l → wrongIn hs (ls.take (i + 1)).flatten l = []) ∨ ∃ r, IsFault hs ls r := fun n => by
      induction n with
      | zero => exact .inl fun i l hi => absurd hi (Nat.not_lt_zero i)
      | succ n ih =>
        rcases ih with ih | ih
        · by_cases c : ∃ l, ls[n]? = some l ∧ wrongIn hs (ls.take (n + 1)).flatten l ≠ []
          · obtain ⟨l, e, ne⟩ := c
            cases w : wrongIn hs (ls.take (n + 1)).flatten l with
            | nil => exact absurd w ne
            | cons v rest => exact .inr ⟨some (n, v), fun j m hj e2 => ih j m hj e2, l, rest, e, w⟩
          · refine .inl fun i l hi e => ?_
            by_cases d : i < n
            · exact ih i l d e
            · have ei : i = n := by omega
              subst ei
              by_cases y : wrongIn hs (ls.take (i + 1)).flatten l = []
              · exact y
              · exact absurd ⟨l, e, y⟩ c
        · exact .inr ih
    rcases key ls.length with k | k
    · exact absurd (fun i l e => k i l (List.getElem?_eq_some_iff.mp e).1 e) h
    · exact k
theorem kept_none {hs : Hs} (fo : Fo hs) {ls : List (List Nat)} (st : Stg hs.length ls) (ne : keepL hs ls ≠ []) : IsFault hs ls none := by
  obtain ⟨r, isf⟩ := fault_ex hs ls
  cases r with
  | none => exact isf
  | some it =>
    have z := keep_count fo st isf
    rw [if_pos (show (some it).isSome = true from rfl)] at z
    unfold cI at z
    rw [List.countP_eq_length_filter] at z
    exact absurd (List.eq_nil_of_length_eq_zero (by unfold keepL; omega)) ne
theorem keepL_bound {hs : Hs} (h6 : hs.length ≤ 6) (ls : List (List Nat)) : (keepL hs ls).length ≤ 46656 := by
  have z := List.length_filter_le (fun q => keepsB q ls) (rowsAt hs hs.length)
  exact Nat.le_trans z (Nat.le_trans (rows_bound _) (Nat.le_trans (Nat.pow_le_pow_left h6 _) (Nat.le_trans (Nat.pow_le_pow_right (by decide) h6) (by decide))))
def spSmall17 : Sp := fun vs H Q _ => ∃ (wl t : Addr) (n : Nat) (hs : Hs), vs = [.ref wl, .ref t] ∧ t ≠ wl ∧ Well H wl n ∧ n < 2 ^ 40 ∧ H t = some (.tup (hs.map hv)) ∧ Fo hs ∧ hs.length ≤ 6 ∧ ∀ H', Keep wl H H' → Well H' wl (n + 1000) → Q (.bl true) H'
section
variable {P : Program} {w : World} {K : PySem.W.Frag} {mg : Str → Option Value} {base : Heap}
abbrev st__law_small_right : Stmt := topS 59
abbrev N__law_small_right : List Str := ["well", "plan", "rows", "lap", "lots", "some", "before", "spots", "spot", "row", "turn_here"]
theorem sc__law_small_right : FnScope N__law_small_right ["well", "plan"] (defScope st__law_small_right) := ⟨rfl, rfl, rfl, by decide +kernel, rfl, by decide +kernel, by decide +kernel⟩
theorem ok__law_small_right (D : Df K mg "_law_small_right" st__law_small_right ["well", "plan"]) (B : Bl mg) (K_law_draw : Kn P w K mg base CX0 1 "_law_draw" st__law_draw ["well", "most"] spDraw)
    (K_law_row : Kn P w K mg base CX0 3 "_law_row" st__law_row ["well", "plan"] spLRow) (K_law_rows : Kn P w K mg base CX0 1 "_law_rows" st__law_rows ["plan"] spRowsN)
    (K_law_lots : Kn P w K mg base CX0 3 "_law_lots" st__law_lots ["well", "row"] spLLots) (K_law_bent : Kn P w K mg base CX0 3 "_law_bent" st__law_bent ["well", "lots", "size"] spLBent)
    (K_law_keeps : Kn P w K mg base CX0 1 "_law_keeps" st__law_keeps ["row", "lots"] spLKeeps) (K_law_told : Kn P w K mg base CX0 12 "_law_told" st__law_told ["plan", "lots", "spot", "due"] spLTold17) :
    KnQ P w K mg base 13 "_law_small_right" st__law_small_right ["well", "plan"] spSmall17 := by
  refine D.okQ sc__law_small_right (fun vs H Q E h => ?_) (fun f cdv A outer s H vs Q E hr hq h => ?_)
  · obtain ⟨wl, t, n, hs, rfl, _⟩ := h; rfl
  obtain ⟨wl, t, n, hs, rfl, ntw, hw, hn, hT, fo, h6, q⟩ := h
  refine ⟨_, ((pss_cons (ps_set (i := 2) sc__law_small_right.nd rfl (Or.inl rfl) (pe_callF K_law_rows (hr.mono (by decide)) pass0 (pa_cons (pv 1) pa_nil)))
      (pss_cons (ps_for PassesOwn.never rfl (pi_range1 (by rfl) B.range (pa_cons pe_int pa_nil)) (pg_name (i := 3) sc__law_small_right.nd rfl (Or.inl rfl)) (pss_cons (ps_set (i := 4) sc__law_small_right.nd rfl (Or.inr rfl) (pe_callF K_law_lots (hr.mono (by decide)) pass0 (pa_cons (pv 0) (pa_cons (pe_callF K_law_row (hr.mono (by decide)) pass0 (pa_cons (pv 0) (pa_cons (pv 1) pa_nil))) pa_nil))))
      (C8.pss_cut (ps_if (pt_cmpR op_eq (pe_callF K_law_draw (hr.mono (by decide)) pass0 (pa_cons (pv 0) (pa_cons pe_int pa_nil))) pe_int (nomark _)) (pss_one (ps_set (i := 4) sc__law_small_right.nd rfl (Or.inr rfl) (pe_callF K_law_bent (hr.mono (by decide)) pass0 (pa_cons (pv 0) (pa_cons (pv 4) (pa_cons (pe_callB call_len (by rfl) B.len (by decide +kernel) (pa_cons (pv 1) pa_nil)) pa_nil)))))) pss_nil)
      (pss_cons (ps_asg (pe_tup (pa_cons (pe_lc (own := [("row", 9)]) (g := gName 9) rfl sc__law_small_right.nd (pi_list (pv 2)) (blkOk_by (N := N__law_small_right) (sc := defScope st__law_small_right) (own := [("row", 9)]) (by decide +kernel)) (fun _ _ _ _ _ => by (exact (pg_name (i := 9) sc__law_small_right.nd rfl (Or.inl rfl)))) (fun _ _ _ _ _ => by exact (pts_one (pt_val (pe_callF K_law_keeps (hr.mono (by decide)) pass0 (pa_cons (pv 9) (pa_cons (pv 4) pa_nil)))))) (fun _ _ _ _ _ => by exact (pv 9))) (pa_cons (pe_callB (call_repr hr hq) (by rfl) B.repr (by decide +kernel) (pa_cons (pe_lst (pa_cons (pv 1) (pa_cons (pv 4) pa_nil))) pa_nil)) pa_nil))) (pg_tup rfl (pgs_cons (pg_name (i := 5) sc__law_small_right.nd rfl (Or.inr rfl)) (pgs_cons (pg_name (i := 6) sc__law_small_right.nd rfl (Or.inl rfl)) pgs_nil))))
      (pss_one (ps_if (pt_cmpR (op_neD hr.units) (pv 5) (pe_lst pa_nil) (nomark _)) (pss_cons (ps_set (i := 7) sc__law_small_right.nd rfl (Or.inl rfl) (pe_op op_cat (pe_lst (pa_cons pe_int (pa_cons (pe_op op_sub (pe_callB call_len (by rfl) B.len (by decide +kernel) (pa_cons (pv 5) pa_nil)) pe_int) pa_nil))) (pe_lc (own := [("turn_here", 10)]) (g := gName 10) rfl sc__law_small_right.nd (pi_range1 (by rfl) B.range (pa_cons pe_int pa_nil)) (blkOk_by (N := N__law_small_right) (sc := defScope st__law_small_right) (own := [("turn_here", 10)]) (by decide +kernel)) (fun _ _ _ _ _ => by (exact (pg_name (i := 10) sc__law_small_right.nd rfl (Or.inl rfl)))) (fun _ _ _ _ _ => by exact pts_nil) (fun _ _ _ _ _ => by exact (pe_callF K_law_draw (hr.mono (by decide)) pass0 (pa_cons (pv 0) (pa_cons (pe_callB (call_lenK K) (by rfl) B.len (by decide +kernel) (pa_cons (pv 5) pa_nil)) pa_nil)))))))
      (pss_one (ps_for PassesOwn.never rfl (pi_list (pe_ifExp (pt_cmpR op_lt (pe_callB call_len (by rfl) B.len (by decide +kernel) (pa_cons (pv 5) pa_nil)) pe_int (nomark _)) (pe_listRg rfl (by rfl) B.list (prg_1 (by rfl) B.range (pe_callB call_len (by rfl) B.len (by decide +kernel) (pa_cons (pv 5) pa_nil)))) (pv 7))) (pg_name (i := 8) sc__law_small_right.nd rfl (Or.inl rfl)) (pss_one (ps_if (PW.pt (pw_or (pt_not (pt_val (pe_callF K_law_told (hr.mono (by decide)) pass0 (pa_cons (pv 1) (pa_cons (pv 4) (pa_cons (pv 8) (pa_cons (pe_ix ix_list (pv 5) (pv 8) (fun _ _ => rfl)) pa_nil))))))) (pw_or1 (pt_cmpR op_ne (pe_callB (call_repr hr hq) (by rfl) B.repr (by decide +kernel) (pa_cons (pe_lst (pa_cons (pv 1) (pa_cons (pv 4) pa_nil))) pa_nil)) (pv 6) (nomark _))))) (pss_one (ps_ret pe_bl)) pss_nil))))) pss_nil))))))
      (pss_one (ps_ret pe_bl))))), ?_⟩
  have p40 : (2 : Nat) ^ 40 = 1099511627776 := by decide
  have p50 : (2 : Nat) ^ 50 = 1125899906842624 := by decide
  have p60 : (2 : Nat) ^ 60 = 1152921504606846976 := by decide
  have p100 : (2 : Nat) ^ 100 = 1267650600228229401496703205376 := by decide +kernel
  have hn1 : 1 ≤ hs.length := by
    rcases hs with _ | ⟨_, _⟩
    · exact absurd rfl fo.ne
    · exact Nat.succ_le_succ (Nat.zero_le _)
  refine ⟨_, rfl, t, hs, rfl, hT, fo, h6, fun R as H1 s1 hR0 hR wr nn => ?_⟩
  have hT1 := s1 _ _ hT
  have w1 := hw.same s1
  have nRw : R ≠ wl := hw.ne hR0
  have nas : ∀ q ∈ as, q ≠ wl := fun q h => hw.ne (nn q h)
  have rin : ∀ {H' : Hp}, Keep wl H1 H' → Rws H' as (rowsAt hs hs.length) := fun {H'} k => ⟨wr.len, fun i p r e1 e2 => k _ _ (nas p (List.mem_of_getElem? e1)) (wr.at_ i p r e1 e2)⟩
  refine ⟨_, rfl, by decide, by decide, for_it walk_range0 (fun i σ H' => ∃ (v3 v4 v5 v6 v7 v8 : Option V), σ = [some (.ref wl), some (.ref t), some (.ref R), v3, v4, v5, v6, v7, v8, none, none] ∧ Keep wl H1 H' ∧ Well H' wl (n + 200 * i)) ⟨none, none, none, none, none, none, rfl, Keep.refl _ _, w1⟩ (fun _ _ _ _ _ => trivial) ?_ ?_⟩
  · rintro i x σ H5 H5' hi ⟨v3, v4, v5, v6, v7, v8, rfl, k5, w5⟩ ⟨rfl, rfl⟩
    have hi2 : i < 2 := hi
    have hT5 := k5 _ _ ntw hT1
    refine ⟨_, rfl, _, rfl, _, rfl, wl, t, _, hs, rfl, ntw.symm, w5, by omega, hT5, fo, by omega, fun r o H6 k6 w6 hr2 pm bh hr3 => ?_⟩
    have nrw : r ≠ wl := w5.ne hr2
    have ndo : o.Nodup := pm.nodup_iff.mpr List.nodup_range
    have lo := pm.length_eq
    rw [List.length_range] at lo
    refine ⟨wl, r, _, o, rfl, nrw.symm, w6, by omega, hr3, ndo, by omega, by omega, fun p ls H7 k7 w7 hp7 lots7 lof => ?_⟩
    have st7 : Stg hs.length ls := lof.stg ndo fun v hv' => List.mem_range.mp (pm.mem_iff.mp hv')
    have npw : p ≠ wl := w6.ne hp7
    have k17 := (k5.trans k6).trans k7
    -- bent, or not
    refine ⟨fun σ' H' => ∃ (p : Addr) (ls : List (List Nat)), σ' = [some (.ref wl), some (.ref t), some (.ref R), some (.int (i : Int)), some (.ref p), v5, v6, v7, v8, none, none] ∧ p ≠ wl ∧ Keep wl H1 H' ∧ Well H' wl (n + 200 * i + 100) ∧ Lots H' p ls ∧ Stg hs.length ls, ?_, ?_⟩
    · refine ⟨_, rfl, wl, _, 3, rfl, w7, by omega, by decide, by decide, fun d H8 d0 d1 k8 w8 => ?_⟩
      have lots8 := lots7.keepW k8 npw w7
      have hT8 := (k17.trans k8) _ _ ntw hT1
      refine ⟨rfl, _, rfl, ite2 (fun _ => ?_) (fun _ => ⟨p, ls, rfl, npw, k17.trans k8, w8.mono (by omega), lots8, st7⟩)⟩
      refine ⟨_, rfl, _, rfl, _, rfl, _, _, rfl, .inr ⟨_, SqT.of hT8, rfl⟩, wl, p, hs.length, _, ls, ?_, npw.symm, w8, by omega, lots8, st7, by omega, fun p' ls' Hc kc wc hpc lotsc stc => ⟨p', ls', rfl, w8.ne hpc, (k17.trans k8).trans kc, wc.mono (by omega), lotsc, stc⟩⟩
      rw [List.length_map]; rfl
    rintro σ H8 ⟨p, ls, rfl, npw, k8, w8, lots8, st⟩
    clear lots7 lof st7 k17 w7 k7 hp7
    have hT8 := k8 _ _ ntw hT1
    have hR8 := k8 _ _ nRw hR
    have wr8 := rin k8
    have kb := keepL_bound h6 ls
    -- the rows that keep them
    refine ⟨_, rfl, R, rfl, ⟨_, SqL.of hR8⟩, fun D hDn => lc_it (walk_list (xs := as.map V.ref)) (fun j H' => Same H8 H' ∧ ∃ bs : List Addr, H' D = some (.lst (bs.map V.ref)) ∧ Rws H' bs (((rowsAt hs hs.length).take j).filter fun q => keepsB q ls) ∧ ∀ q ∈ bs, q ∈ as) ⟨(Same.refl H8).new hDn, [], upd_same, ⟨rfl, fun i p r e _ => by cases e⟩, fun q h => absurd h List.not_mem_nil⟩ (fun j H' _ z => SqL.of (z.1 _ _ hR8)) ?_ ?_⟩
    · rintro j x Hd He hj ⟨sd, bs, oD, wb, ba⟩ ⟨rfl, e1⟩
      obtain ⟨qa, eq, rfl⟩ := ref_at e1
      obtain ⟨row, er2, hq2⟩ := wr8.get eq
      have mem := List.mem_of_getElem? er2
      obtain ⟨pr, lr⟩ := rows_pre hs hs.length row mem
      have tk : (rowsAt hs hs.length).take (j + 1) = (rowsAt hs hs.length).take j ++ [row] := by rw [List.take_add_one, er2]; rfl
      have small : bs.length < sizeLine := by
        rw [wb.len]
        have z := List.length_filter_le (fun q => keepsB q ls) ((rowsAt hs hs.length).take j)
        have z2 : ((rowsAt hs hs.length).take j).length ≤ (rowsAt hs hs.length).length := by rw [List.length_take]; exact Nat.min_le_right _ _
        have z3 : (rowsAt hs hs.length).length ≤ 46656 := Nat.le_trans (rows_bound _) (Nat.le_trans (Nat.pow_le_pow_left h6 _) (Nat.le_trans (Nat.pow_le_pow_right (by decide) h6) (by decide)))
        have z4 : (46656 : Nat) < sizeLine := by decide
        omega
      refine ⟨rfl, _, rfl, _, rfl, qa, p, hs.length, row, ls, rfl, sd _ _ hq2, pr.nd, lr, by omega, lots8.same sd, st, fun Hf sf => ⟨_, rfl, ?_⟩⟩
      have fl : ((rowsAt hs hs.length).take (j + 1)).filter (fun q => keepsB q ls) = ((rowsAt hs hs.length).take j).filter (fun q => keepsB q ls) ++ (if keepsB row ls = true then [row] else []) := by
        rw [tk, List.filter_append]
        congr 1
        by_cases c : keepsB row ls = true
        · rw [if_pos c]
          show [row].filter _ = _
          rw [List.filter_cons_of_pos (p := fun q => keepsB q ls) c]; rfl
        · rw [if_neg c]
          show [row].filter _ = _
          rw [List.filter_cons_of_neg (p := fun q => keepsB q ls) c]; rfl
      have oDf := sf _ _ oD
      cases ek : keepsB row ls with
      | true =>
        refine iteT ⟨_, rfl, _, oDf, by rw [List.length_map]; exact small, (sd.trans sf).upd hDn, bs ++ [qa], by rw [upd_same, List.map_append]; rfl, ?_, fun q h => (List.mem_append.mp h).elim (ba q) fun m => by rw [List.mem_singleton.mp m]; exact List.mem_of_getElem? eq⟩
        rw [fl, if_pos ek]
        refine Rws.but (Rws.grow (wb.same sf) (sf _ _ (sd _ _ hq2))) fun hqb => ?_
        have hqb2 : ∃ r, Hf D = some (.lst (nv r)) ∧ r.length = hs.length := by
          obtain ⟨m, em⟩ := List.getElem?_of_mem hqb
          have w9 := Rws.grow (wb.same sf) (sf _ _ (sd _ _ hq2))
          obtain ⟨r, er, hr9⟩ := w9.get em
          refine ⟨r, hr9, ?_⟩
          rcases List.mem_append.mp (List.mem_of_getElem? er) with y | y
          · exact (rows_pre hs hs.length r (List.mem_of_mem_take (List.mem_filter.mp y).1)).2
          · rw [List.mem_singleton.mp y]; exact lr
        obtain ⟨r, h1, h2⟩ := hqb2
        rw [oDf] at h1
        have z2 := HO.lst.inj (Option.some.inj h1)
        cases r with
        | nil => rw [List.length_nil] at h2; omega
        | cons r0 r1 =>
          cases bs with
          | nil => cases z2
          | cons b0 b1 => cases (List.cons.inj z2).1
      | false =>
        refine iteF ⟨sd.trans sf, bs, oDf, ?_, ba⟩
        rw [fl, if_neg (by rw [ek]; exact Bool.false_ne_true), List.append_nil]
        exact wb.same sf
    rintro H9 ⟨s9, bs, oD, wb, ba⟩
    have et : (rowsAt hs hs.length).take (as.map V.ref).length = rowsAt hs hs.length := by rw [List.length_map, wr.len, List.take_length]
    rw [et] at wb
    have wb : Rws H9 bs (keepL hs ls) := wb
    -- before
    have sh := shows_two fo.inb (by omega) st
    have rp : ∀ {H' : Hp} {Z : Addr}, H' t = some (.tup (hs.map hv)) → Lots H' p ls → H' Z = some (.lst [.ref t, .ref p]) → Rp false H' (.ref Z) (.list [.tuple (hs.map hD), .list (lD ls)]) := fun {H' Z} a b e => by
      obtain ⟨xs, hx, lx⟩ := b
      exact .lst e (fun z => by cases z) (.cons (.tup a (rps_hv hs)) (.cons (.lst hx (fun z => by cases z) (rps_lots lx)) .nil))
    refine ⟨_, rfl, _, rfl, by show 2 ≤ sizeLine; decide, fun Z hZ => ?_⟩
    have s10 := s9.new (o := .lst [.ref t, .ref p]) hZ
    have z10 : upd H9 Z (.lst [.ref t, .ref p]) Z = some (.lst [.ref t, .ref p]) := upd_same
    have t10 := (Same.refl H9).new (o := .lst [.ref t, .ref p]) hZ
    generalize upd H9 Z (.lst [.ref t, .ref p]) = H10 at s10 z10 t10 ⊢
    refine ⟨false, _, _, rfl, rp (s10 _ _ hT8) (lots8.same s10) z10, sh, by show 2 ≤ sizeLine; decide, fun T2 hT2 => ⟨T2, _, rfl, SqT.of upd_same, rfl, _, _, rfl, _, _, rfl, rfl, ?_⟩⟩
    have s11 := s10.new (o := .tup [.ref D, .str (PyData.list [PyData.tuple (hs.map hD), PyData.list (lD ls)]).shown]) hT2
    have t11 := t10.new (o := .tup [.ref D, .str (PyData.list [PyData.tuple (hs.map hD), PyData.list (lD ls)]).shown]) hT2
    generalize upd H10 T2 (.tup [.ref D, .str (PyData.list [PyData.tuple (hs.map hD), PyData.list (lD ls)]).shown]) = H11 at s11 t11 ⊢
    have oD11 := t11 _ _ oD
    have wb11 := wb.same t11
    have hT11 := s11 _ _ hT8
    have lots11 := lots8.same s11
    have w11 := w8.same s11
    have k11 := k8.trans s11.keep
    have nDw : D ≠ wl := w8.ne hDn
    have nbs : ∀ q ∈ bs, q ≠ wl := fun q h => nas q (ba q h)
    clear t10 z10 s10
    refine ⟨_, rfl, by show 0 ≤ sizeLine; decide, fun Y hY => ?_⟩
    have s12 := (Same.refl H11).new (o := .lst []) hY
    have oY : upd H11 Y (.lst []) Y = some (.lst []) := upd_same
    generalize upd H11 Y (.lst []) = H12 at s12 oY ⊢
    have oD12 := s12 _ _ oD11
    have wb12 := wb11.same s12
    have w12 := w11.same s12
    have k12 := k11.trans s12.keep
    refine ⟨_, _, .lst (SqL.of oD12) (dp_rows wb12), .lst (SqL.of oY) .nil, shaped_rwD _, by decide +kernel, _, rfl, ?_⟩
    by_cases ne : keepL hs ls = []
    · exact iteF' (by rw [ne]; decide +kernel) ⟨_, _, _, _, _, _, rfl, k12, w12.mono (by omega)⟩
    refine iteT' (by
      rw [eqv_list]
      cases hk : keepL hs ls with
      | nil => exact absurd hk ne
      | cons r0 rs0 => rfl) ?_
    have isf := kept_none fo st ne
    have lb := wb.len
    have lpos : 0 < (keepL hs ls).length := List.length_pos_iff.mpr ne
    have lenb : (bs.map V.ref).length = (keepL hs ls).length := by rw [List.length_map, lb]
    -- spots
    refine ⟨_, rfl, _, _, rfl, .inl ⟨_, SqL.of oD12, rfl⟩, _, _, rfl, rfl, by show 2 ≤ sizeLine; decide, fun A1 hA1 => ?_⟩
    have s13 := s12.new (o := .lst [.int 0, .int (((bs.map V.ref).length : Nat) - 1)]) hA1
    have oA : upd H12 A1 (.lst [.int 0, .int (((bs.map V.ref).length : Nat) - 1)]) A1 = some (.lst [.int 0, .int (((bs.map V.ref).length : Nat) - 1)]) := upd_same
    have nAw : A1 ≠ wl := w12.ne hA1
    generalize upd H12 A1 (.lst [.int 0, .int (((bs.map V.ref).length : Nat) - 1)]) = H13 at s13 oA ⊢
    have w13 := w11.same s13
    have oD13 := s13 _ _ oD11
    refine ⟨_, rfl, by decide, by decide, fun G hG => lc_it walk_range0 (fun j H' => ∃ ds : List Int, Keep wl H13 H' ∧ Well H' wl (n + 200 * i + 100 + j) ∧ H' G = some (.lst (ds.map V.int)) ∧ ds.length = j ∧ ∀ d ∈ ds, 0 ≤ d ∧ d < ((keepL hs ls).length : Int)) ⟨[], ((Same.refl H13).new hG).keep, w13.same ((Same.refl H13).new hG), upd_same, rfl, fun d h => absurd h List.not_mem_nil⟩ (fun _ _ _ _ => trivial) ?_ ?_⟩
    · rintro j x Hd He hj ⟨ds, kd, wd, oG, ld, bd⟩ ⟨rfl, rfl⟩
      have hj4 : j < 4 := hj
      have nGw : G ≠ wl := w13.ne hG
      refine ⟨rfl, _, rfl, _, rfl, _, _, rfl, .inl ⟨_, SqL.of (kd _ _ nDw oD13), rfl⟩, wl, _, _, rfl, wd, by omega, by rw [lenb]; omega, by rw [lenb]; omega, fun d Hf d0 d1 kf wf => ?_⟩
      rw [lenb] at d1
      have oGf := kf _ _ nGw oG
      refine ⟨_, oGf, by rw [List.length_map]; exact szl (by omega), ds ++ [d], fun b o nb e => ?_, ?_, by rw [upd_same, List.map_append]; rfl, by rw [List.length_append, ld]; rfl, fun y hy => ?_⟩
      · have nbG : b ≠ G := ne_of_none e hG
        exact (upd_ne nbG).trans (kf b o nb (kd b o nb e))
      · obtain ⟨x0, y0, z0, e0, r0⟩ := wf.ex
        exact ⟨x0, y0, z0, (upd_ne nGw.symm).trans e0, by obtain ⟨a1, a2, a3, a4, a5⟩ := r0; exact ⟨a1, a2, a3, a4, by omega⟩⟩
      · rcases List.mem_append.mp hy with y1 | y1
        · exact bd y y1
        · rw [List.mem_singleton.mp y1]; exact ⟨d0, d1⟩
    rintro H14 ⟨ds, k14, w14, oG, ld, bd⟩
    have ld4 : ds.length = 4 := ld
    have w14 : Well H14 wl (n + 200 * i + 104) := w14.mono (by have z : (4 : Int).toNat = 4 := rfl; omega)
    refine ⟨A1, G, _, _, rfl, rfl, k14 _ _ nAw oA, oG, by show 2 + (ds.map V.int).length ≤ sizeLine; rw [List.length_map, ld4]; exact Nat.le_of_lt (szl (by decide)), fun S hS => ?_⟩
    have esp : [V.int 0, V.int (((bs.map V.ref).length : Nat) - 1)] ++ ds.map V.int = ([0, (((bs.map V.ref).length : Nat) : Int) - 1] ++ ds).map V.int := by rw [List.map_append]; rfl
    rw [esp]
    have bsp : ∀ d ∈ [0, (((bs.map V.ref).length : Nat) : Int) - 1] ++ ds, 0 ≤ d ∧ d < ((keepL hs ls).length : Int) := fun d h => by
      rcases List.mem_append.mp h with h | h
      · rw [lenb] at h
        rcases List.mem_cons.mp h with rfl | h
        · exact ⟨by decide, by omega⟩
        · rw [List.mem_singleton.mp h]; omega
      · exact bd d h
    generalize [0, (((bs.map V.ref).length : Nat) : Int) - 1] ++ ds = sp at bsp ⊢
    have s15 := (Same.refl H14).new (o := .lst (sp.map V.int)) hS
    have oS : upd H14 S (.lst (sp.map V.int)) S = some (.lst (sp.map V.int)) := upd_same
    generalize upd H14 S (.lst (sp.map V.int)) = H15 at s15 oS ⊢
    have w15 := w14.same s15
    have k15 : Keep wl H1 H15 := (k11.trans s13.keep).trans (k14.trans s15.keep)
    have k1115 : Keep wl H11 H15 := s13.keep.trans (k14.trans s15.keep)
    have oD15 := k1115 _ _ nDw oD11
    have wb15 : Rws H15 bs (keepL hs ls) := ⟨wb11.len, fun i p r e1 e2 => k1115 _ _ (nbs p (List.mem_of_getElem? e1)) (wb11.at_ i p r e1 e2)⟩
    have hT15 := k1115 _ _ ntw hT11
    have lots15 := lots11.keepW k1115 npw w11
    clear k14 w14 oG oA s13 w13 hA1 oD13 oD12 oY s12 w12 k12 wb12
    -- which of them
    refine ⟨_, rfl, _, _, rfl, .inl ⟨_, SqL.of oD15, rfl⟩, _, _, rfl, rfl, _, rfl, ite2 (fun c => ?_) (fun c => ?_)⟩
    refine ⟨_, rfl, _, _, rfl, .inl ⟨_, SqL.of oD15, rfl⟩, ?_⟩
    rw [lenb]
    have kb2 := kb
    refine ⟨_, rfl, RgOk.of_le (by omega) (by omega) (by omega) (by omega), fun Lp hLp => ?_⟩
    rw [nv_range, nv_ints]
    have s16 := (Same.refl H15).new (o := .lst (((List.range (keepL hs ls).length).map fun v : Nat => (v : Int)).map V.int)) hLp
    have oLp : upd H15 Lp (.lst (((List.range (keepL hs ls).length).map fun v : Nat => (v : Int)).map V.int)) Lp = some (.lst (((List.range (keepL hs ls).length).map fun v : Nat => (v : Int)).map V.int)) := upd_same
    have bq : ∀ d ∈ (List.range (keepL hs ls).length).map fun v : Nat => (v : Int), 0 ≤ d ∧ d < ((keepL hs ls).length : Int) := fun d h => by
      obtain ⟨v, mv, rfl⟩ := List.mem_map.mp h
      have := List.mem_range.mp mv
      omega
    generalize upd H15 Lp (.lst (((List.range (keepL hs ls).length).map fun v : Nat => (v : Int)).map V.int)) = H16 at s16 oLp ⊢
    generalize ((List.range (keepL hs ls).length).map fun v : Nat => (v : Int)) = sq at oLp bq
    have oD16 := s16 _ _ oD15
    have wb16 := wb15.same s16
    have hT16 := s16 _ _ hT15
    have lots16 := lots15.same s16
    have w16 := w15.same s16
    have k16 := k15.trans s16.keep
    rotate_left
    refine ⟨_, rfl, ?_⟩
    have oD16 := oD15
    have wb16 := wb15
    have hT16 := hT15
    have lots16 := lots15
    have w16 := w15
    have k16 := k15
    have oLp := oS
    have bq := bsp
    obtain ⟨H16, eH⟩ : ∃ x, x = H15 := ⟨_, rfl⟩
    subst eH
    obtain ⟨sq, eq⟩ : ∃ x, x = sp := ⟨_, rfl⟩
    subst eq
    obtain ⟨Lp, eL⟩ : ∃ x, x = S := ⟨_, rfl⟩
    subst eL
    rotate_left
    all_goals
      refine ⟨Lp, rfl, ⟨_, SqL.of oLp⟩, for_it (walk_list (xs := sq.map V.int)) (fun m σ H' => ∃ (v7 v8 : Option V), σ = [some (.ref wl), some (.ref t), some (.ref R), some (.int (i : Int)), some (.ref p), some (.ref D), some (.str (PyData.list [PyData.tuple (hs.map hD), PyData.list (lD ls)]).shown), v7, v8, none, none] ∧ Same H16 H') ⟨_, v8, rfl, Same.refl H16⟩ (fun m σ H' _ z => ?_) ?_ ?_⟩
      · obtain ⟨_, _, _, z⟩ := z
        exact SqL.of (z _ _ oLp)
      · rintro m x σ Hc Hd hm ⟨u7, u8, rfl, sc⟩ ⟨rfl, e1⟩
        rw [List.getElem?_map] at e1
        obtain ⟨y, ey, rfl⟩ := Option.map_eq_some_iff.mp e1
        obtain ⟨y0, y1⟩ := bq y (List.mem_of_getElem? ey)
        obtain ⟨k, rfl⟩ : ∃ k : Nat, y = (k : Int) := ⟨y.toNat, by omega⟩
        have kl : k < (keepL hs ls).length := by omega
        have ek : (keepL hs ls)[k]? = some (keepL hs ls)[k] := List.getElem?_eq_getElem kl
        have eb : bs[k]? = some (bs[k]'(by omega)) := List.getElem?_eq_getElem (by omega)
        generalize (bs[k]'(by omega)) = qb at eb
        have hqb := (wb16.same sc).at_ k qb _ eb ek
        generalize (keepL hs ls)[k] = row at ek hqb
        have eb2 : (bs.map V.ref)[k]? = some (.ref qb) := by rw [List.getElem?_map, eb]; rfl
        refine ⟨_, rfl, _, rfl, _, rfl, _, rfl, _, rfl, D, _, _, _, rfl, rfl, SqL.of (sc _ _ oD16), atI_nat eb2, t, p, qb, hs, ls, row, k, rfl, sc _ _ hT16, fo, by omega, lots16.same sc, st, isf, hqb, ek, fun He se => ⟨_, rfl, iteF ?_⟩⟩
        have s17 := sc.trans se
        refine ⟨_, rfl, _, rfl, by show 2 ≤ sizeLine; decide, fun Z2 hZ2 => ?_⟩
        have s18 := s17.new (o := .lst [.ref t, .ref p]) hZ2
        have z18 : upd He Z2 (.lst [.ref t, .ref p]) Z2 = some (.lst [.ref t, .ref p]) := upd_same
        generalize upd He Z2 (.lst [.ref t, .ref p]) = H18 at s18 z18 ⊢
        refine ⟨false, _, _, rfl, rp (s18 _ _ hT16) (lots16.same s18) z18, sh, _, rfl, rfl, ?_⟩
        refine ⟨_, rfl, iteF' (by rw [decide_eq_true rfl]; rfl) ⟨_, _, rfl, s18⟩⟩
      · rintro σ Hc ⟨u7, u8, rfl, sc⟩
        exact ⟨_, _, _, _, _, _, rfl, k16.trans sc.keep, (w16.same sc).mono (by omega)⟩
  · rintro σ H5 ⟨v3, v4, v5, v6, v7, v8, rfl, k5, w5⟩
    exact (q H5 (s1.keep.trans k5) (w5.mono (by have z : (2 : Int).toNat = 2 := rfl; omega)))
end

end My

namespace My
open PySem PySem.Spec PyProof.Rows L2
/-! ### the law's test of a larger forest -/
theorem lot_none {hs : Hs} {o : List Nat} {ls : List (List Nat)} (h : LotOf o ls) (nd : o.Nodup) (bh : Behind hs o) : IsFault hs ls none := fun i l e => by
  unfold wrongIn
  rw [List.filter_eq_nil_iff]
  intro v hv1 z
  split at z
  · rename_i u eu
    have p1 := h.pre (i + 1)
    have tk : ls.take (i + 1) = ls.take i ++ [l] := by rw [List.take_add_one, e]; rfl
    have mv : v ∈ (ls.take (i + 1)).flatten := by rw [tk, List.flatten_append, List.flatten_singleton]; exact List.mem_append_right _ hv1
    obtain ⟨j, ej⟩ := List.getElem?_of_mem (p1.mem_iff.mp mv)
    have hj := (List.getElem?_eq_some_iff.mp ej).1
    rw [List.length_take] at hj
    rw [List.getElem?_take, if_pos (by omega)] at ej
    have mu := bh j v u ej eu
    have m2 : u ∈ o.take (ls.take (i + 1)).flatten.length := by
      have e3 : o.take j = (o.take (ls.take (i + 1)).flatten.length).take j := by rw [List.take_take, Nat.min_eq_left (by omega)]
      rw [e3] at mu
      exact List.mem_of_mem_take mu
    rw [decide_eq_true (p1.mem_iff.mpr m2)] at z
    cases z
  · cases z

/-! ### a list's method with an argument, in a comprehension -/
theorem mt_indexK {X : Cx} (K : PySem.W.Frag) (e : X.K = K := by rfl) : MtR X "list.index" (rIndex K) := by subst e; exact mt_index
theorem pe_bmK {X : Cx} (K : PySem.W.Frag) {o a : Expr} {es : List Expr} {T name id : String} {r : V → List V → Hp → VK → Prop} {to : TE} {t : TA} {apos cpos : Pos} (pa : PlainAttrs T) (slot : Slot T name id) (hty : typeOf (.builtin id) = pure (.type "method_descriptor")) (hm : MtR X id r) (ho : PE X o to) (ha : PA X (a :: es) t) (e : X.K = K := by rfl)
    (hbase : attributeBase o name X.env (eval o X.env) = eval o X.env := by rfl)
    (hfew : ((backTo cpos (starEach (a :: es) X.env)).all (fun x => !x.1) && (backToKw cpos (keywordEach [] X.env)).all (fun x => x.1.isSome) && decide ((a :: es).length + ([] : List Keyword).length + (if ([] : List Keyword).isEmpty then 0 else 1) < 30)) = true := by rfl)
    (hline : (apos.endLine == cpos.line) = true := by rfl) (hs : starEach (a :: es) X.env = (false, eval a X.env) :: starEach es X.env := by rfl) (hplain : (backTo cpos (starEach es X.env)).any (·.1) = false := by rfl) :
    PE X (.Call (.Attribute o name apos) (a :: es) [] cpos) (tBM K T r to t) := by subst e; exact pe_bm pa slot hty hm ho ha hbase hfew hline hs hplain
theorem mt_popAtK {X : Cx} (K : PySem.W.Frag) : MtR X "list.pop" rPopAt := mt_popAt

theorem idx_ne {x a : Nat} {q : List Nat} (h : x ≠ a) : (x :: q).idxOf a = q.idxOf a + 1 := by
  rw [List.idxOf_cons, beq_false_of_ne h]; rfl
theorem idx_get {j : Nat} : ∀ {q : List Nat}, j ∈ q → q[q.idxOf j]? = some j
  | x :: q, h => by
    by_cases e : x = j
    · rw [e, List.idxOf_cons_self]; rfl
    · rw [idx_ne e]
      exact idx_get ((List.mem_cons.mp h).elim (fun y => absurd y.symm e) id)
theorem idx_first {j v : Nat} : ∀ {q : List Nat} {m : Nat}, m < q.idxOf j → q[m]? = some v → v ≠ j
  | [], _, _, h => by cases h
  | x :: q, m, l, h => by
    by_cases e : x = j
    · rw [e, List.idxOf_cons_self] at l; omega
    · rw [idx_ne e] at l
      cases m with
      | zero => cases h; exact e
      | succ m => exact idx_first (q := q) (m := m) (by omega) h
theorem idx_take {m : Nat} : ∀ {q : List Nat} {k : Nat}, m ∈ q.take k → q.idxOf m < k
  | [], _, h => by rw [List.take_nil] at h; cases h
  | x :: q, 0, h => by rw [List.take_zero] at h; cases h
  | x :: q, k + 1, h => by
    rw [List.take_succ_cons] at h
    by_cases e : x = m
    · rw [e, List.idxOf_cons_self]; exact Nat.succ_pos _
    · rw [idx_ne e]
      have := idx_take (q := q) ((List.mem_cons.mp h).elim (fun y => absurd y.symm e) id)
      omega
theorem index_ask {K : PySem.W.Frag} {H : Hp} {a : Addr} {q : List Nat} {j : Nat} {Q : VK} (h : H a = some (.lst (nv q))) (m : j ∈ q) (k : Q (.int ((q.idxOf j : Nat) : Int)) H) : rIndex K (.ref a) [.int (j : Int)] H Q := by
  refine ⟨a, nv q, .int (j : Int), q.idxOf j, .int (j : Int), rfl, rfl, SqL.of h, rfl, flat_nv q, nv_get (idx_get m), ?_, fun p z hp hz => ?_, k⟩
  · exact decide_eq_true rfl
  · obtain ⟨v, ev, rfl⟩ := nv_at hz
    have n := idx_first hp ev
    exact decide_eq_false fun e => n (by omega)

theorem rows_beh {hs : Hs} : ∀ (k : Nat) (r : List Nat), r ∈ rowsAt hs k → Behind hs r
  | 0, r, h => by
    rw [show r = [] from List.mem_singleton.mp h]
    intro i v u e _
    cases e
  | k + 1, r, h => by
    obtain ⟨q, hq, h2⟩ := List.mem_flatMap.mp (show r ∈ (rowsAt hs k).flatMap (ext hs) from h)
    obtain ⟨x, hx, rfl⟩ := List.mem_map.mp h2
    have ih := rows_beh k q hq
    intro i v u e1 e2
    by_cases c : i < q.length
    · rw [List.getElem?_append_left c] at e1
      rw [List.take_append_of_le_length (by omega)]
      exact ih i v u e1 e2
    · have z := (List.getElem?_eq_some_iff.mp e1).1
      rw [List.length_append, List.length_singleton] at z
      have ei : i = q.length := by omega
      subst ei
      rw [List.getElem?_append_right (Nat.le_refl _), Nat.sub_self] at e1
      cases e1
      rw [List.take_append_of_le_length (Nat.le_refl _), List.take_length]
      exact (av_mem.mp hx).2.2 u e2
theorem keepL_perm {hs : Hs} {ls : List (List Nat)} {row : List Nat} (h : row ∈ keepL hs ls) : row.Perm (List.range hs.length) := by
  obtain ⟨l, p⟩ := keepL_len h
  exact (perm_all List.nodup_range p.nd (by rw [l, List.length_range])).mpr fun x hx => List.mem_range.mpr (p.lt x hx)
theorem prodB_pos {hs : Hs} (fo : Fo hs) : ∀ {bs : List (List Nat)}, (∀ l ∈ bs, l.Nodup ∧ ∀ v ∈ l, v < hs.length) → 1 ≤ prodB hs bs
  | [], _ => by show (1 : Int) ≤ 1; decide
  | l :: bs, h => by
    have a := (blockN_bd fo (h l List.mem_cons_self).1 (h l List.mem_cons_self).2).1
    have b := prodB_pos fo (bs := bs) fun m hm => h m (List.mem_cons_of_mem _ hm)
    show 1 ≤ blockN hs l * prodB hs bs
    have z := Int.mul_le_mul a b (by decide) (by omega)
    omega
theorem blocks_nd {n : Nat} {ls : List (List Nat)} (st : Stg n ls) : ∀ l ∈ ls ++ [restL n ls], l.Nodup ∧ (∀ v ∈ l, v < n) ∧ l.length ≤ n := fun l h => by
  rcases List.mem_append.mp h with m | m
  · exact ⟨(st.up l m).imp fun {a b} h => by omega, fun v hv1 => st.lt v (List.mem_flatten.mpr ⟨l, m, hv1⟩), st.one m⟩
  · rw [List.mem_singleton.mp m]
    exact ⟨rest_nd _ _, fun v hv1 => rest_lt hv1, rest_len _ _⟩
theorem keepL_prod {hs : Hs} (fo : Fo hs) {ls : List (List Nat)} (st : Stg hs.length ls) (isf : IsFault hs ls none) : (((keepL hs ls).length : Nat) : Int) = prodB hs (ls ++ [restL hs.length ls]) ∧ 1 ≤ prodB hs (ls ++ [restL hs.length ls]) ∧ prodB hs (ls ++ [restL hs.length ls]) ≤ ((fct hs.length : Nat) : Int) := by
  obtain ⟨okb, _, _, ke⟩ := oks_blocks fo st isf
  have nd : ∀ l ∈ ls ++ [restL hs.length ls], l.Nodup ∧ ∀ v ∈ l, v < hs.length := fun l h => ⟨(blocks_nd st l h).1, (blocks_nd st l h).2.1⟩
  refine ⟨by rw [← ke]; exact allE_len fo _ _ (Pre.nil hs) okb, prodB_pos fo nd, ?_⟩
  have z := (prodB_bd fo nd).2
  rw [rest_pre_all st] at z
  exact z
/-- nothing of a row stands ahead of its holder -/
theorem none_ahead {hs : Hs} {row : List Nat} (h : row ∈ rowsAt hs hs.length) {v u : Nat} (hv1 : v ∈ row) (e : hs[v]? = some (some u)) : u ∈ row ∧ row.idxOf u < row.idxOf v := by
  have m := rows_beh _ _ h (row.idxOf v) v u (idx_get hv1) e
  exact ⟨List.mem_of_mem_take m, idx_take m⟩
def spLarge17 : Sp := fun vs H Q _ => ∃ (wl t : Addr) (n : Nat) (hs : Hs), vs = [.ref wl, .ref t] ∧ t ≠ wl ∧ Well H wl n ∧ n < 2 ^ 40 ∧ H t = some (.tup (hs.map hv)) ∧ Fo hs ∧ hs.length ≤ 14 ∧ ∀ H', Keep wl H H' → Well H' wl (n + 1000) → Q (.bl true) H'
section
variable {P : Program} {w : World} {K : PySem.W.Frag} {mg : Str → Option Value} {base : Heap}
abbrev st__law_large_right : Stmt := topS 60
abbrev N__law_large_right : List Str := ["well", "plan", "lots", "whole", "lot", "spot", "row", "one"]
theorem sc__law_large_right : FnScope N__law_large_right ["well", "plan"] (defScope st__law_large_right) := ⟨rfl, rfl, rfl, by decide +kernel, rfl, by decide +kernel, by decide +kernel⟩
theorem ok__law_large_right (D : Df K mg "_law_large_right" st__law_large_right ["well", "plan"]) (B : Bl mg) (K_law_draw : Kn P w K mg base CX0 1 "_law_draw" st__law_draw ["well", "most"] spDraw)
    (K_law_row : Kn P w K mg base CX0 3 "_law_row" st__law_row ["well", "plan"] spLRow) (K_law_lots : Kn P w K mg base CX0 3 "_law_lots" st__law_lots ["well", "row"] spLLots)
    (K_law_rest : Kn P w K mg base CX0 2 "_law_rest" st__law_rest ["plan", "lots"] spLRest) (K_law_ways : Kn P w K mg base CX0 5 "_law_ways" st__law_ways ["plan", "some"] spLWays)
    (K_law_keeps : Kn P w K mg base CX0 1 "_law_keeps" st__law_keeps ["row", "lots"] spLKeeps) (K_law_rank : Kn P w K mg base CX0 6 "_law_rank" st__law_rank ["plan", "lots", "row"] spLRank)
    (Knth_with : Kn P w K mg base (L2.CX P w) 11 "nth_with" st_nth_with ["forest", "stages", "index"] spNthW) :
    Kn P w K mg base CX0 12 "_law_large_right" st__law_large_right ["well", "plan"] spLarge17 := by
  refine D.ok sc__law_large_right (fun vs H Q E h => ?_) (fun f cdv A outer s H vs Q E hr h => ?_)
  · obtain ⟨wl, t, n, hs, rfl, _⟩ := h; rfl
  obtain ⟨wl, t, n, hs, rfl, ntw, hw, hn, hT, fo, h14, q⟩ := h
  refine ⟨_, ((pss_cons (ps_set (i := 2) sc__law_large_right.nd rfl (Or.inl rfl) (pe_callF K_law_lots (hr.mono (by decide)) pass0 (pa_cons (pv 0) (pa_cons (pe_callF K_law_row (hr.mono (by decide)) pass0 (pa_cons (pv 0) (pa_cons (pv 1) pa_nil))) pa_nil))))
      (pss_cons (ps_set (i := 3) sc__law_large_right.nd rfl (Or.inl rfl) pe_int)
      (pss_cons (ps_for PassesOwn.never rfl (pi_list (pe_callF K_law_rest (hr.mono (by decide)) pass0 (pa_cons (pv 1) (pa_cons (pv 2) pa_nil)))) (pg_name (i := 4) sc__law_large_right.nd rfl (Or.inl rfl)) (pss_one (ps_set (i := 3) sc__law_large_right.nd rfl (Or.inl rfl) (pe_op op_mulW (pv 3) (pe_callF K_law_ways (hr.mono (by decide)) pass0 (pa_cons (pv 1) (pa_cons (pv 4) pa_nil)))))))
      (pss_cons (ps_for PassesOwn.never rfl (pi_tup (pe_tup (pa_cons pe_int (pa_cons (pe_op op_sub (pv 3) pe_int) (pa_cons (pe_callF K_law_draw (hr.mono (by decide)) pass0 (pa_cons (pv 0) (pa_cons (pv 3) pa_nil))) pa_nil))))) (pg_name (i := 5) sc__law_large_right.nd rfl (Or.inl rfl)) (pss_cons (ps_set (i := 6) sc__law_large_right.nd rfl (Or.inr rfl) (pe_callF Knth_with (hr.mono (by decide)) passL (pa_cons (pv 1) (pa_cons (pv 2) (pa_cons (pv 5) pa_nil)))))
      (pss_cons (ps_if (PW.pt (pw_or (pt_cmpR (op_neD hr.units) (pe_callB cr_sorted (by rfl) B.sorted (by decide +kernel) (pa_cons (pv 6) pa_nil)) (pe_listRg rfl (by rfl) B.list (prg_1 (by rfl) B.range (pe_callB call_len (by rfl) B.len (by decide +kernel) (pa_cons (pv 1) pa_nil)))) (nomark _)) (pw_or1 (pt_not (pt_val (pe_callF K_law_keeps (hr.mono (by decide)) pass0 (pa_cons (pv 6) (pa_cons (pv 2) pa_nil)))))))) (pss_one (ps_ret pe_bl)) pss_nil)
      (pss_cons (ps_if (pt_cmpR (op_neD hr.units) (pe_lc (own := [("one", 7)]) (g := gName 7) rfl sc__law_large_right.nd (pi_list (pv 6)) (blkOk_by (N := N__law_large_right) (sc := defScope st__law_large_right) (own := [("one", 7)]) (by decide +kernel)) (fun _ _ _ _ _ => by (exact (pg_name (i := 7) sc__law_large_right.nd rfl (Or.inl rfl)))) (fun _ _ _ _ _ => by exact (pts_one (PW.pt (pw_and (pt_cmpR op_notN (pe_ix (ix_tupK K) (pv 1) (pv 7) (fun _ _ => rfl)) pe_non (nomark _)) (pw_and1 (pt_cmpR op_gt (pe_bmK K PySem.F.plainAttrs_list PySem.F.slot_list_index PySem.F.type_list_index (mt_indexK K) (pv 6) (pa_cons (pe_ix (ix_tupK K) (pv 1) (pv 7) (fun _ _ => rfl)) pa_nil)) (pe_bmK K PySem.F.plainAttrs_list PySem.F.slot_list_index PySem.F.type_list_index (mt_indexK K) (pv 6) (pa_cons (pv 7) pa_nil)) (nomark _))))))) (fun _ _ _ _ _ => by exact (pv 7))) (pe_lst pa_nil) (nomark _)) (pss_one (ps_ret pe_bl)) pss_nil)
      (pss_one (ps_if (pt_cmpR op_ne (pe_callF K_law_rank (hr.mono (by decide)) pass0 (pa_cons (pv 1) (pa_cons (pv 2) (pa_cons (pv 6) pa_nil)))) (pv 5) (nomark _)) (pss_one (ps_ret pe_bl)) pss_nil))))))
      (pss_one (ps_ret pe_bl))))))), ?_⟩
  have p40 : (2 : Nat) ^ 40 = 1099511627776 := by decide
  have p50 : (2 : Nat) ^ 50 = 1125899906842624 := by decide
  have p60 : (2 : Nat) ^ 60 = 1152921504606846976 := by decide
  have p100 : (2 : Nat) ^ 100 = 1267650600228229401496703205376 := by decide +kernel
  have hn1 : 1 ≤ hs.length := by
    rcases hs with _ | ⟨_, _⟩
    · exact absurd rfl fo.ne
    · exact Nat.succ_le_succ (Nat.zero_le _)
  have hlm : (hs.map hv).length = hs.length := List.length_map _
  refine ⟨_, rfl, _, rfl, _, rfl, wl, t, _, hs, rfl, ntw.symm, hw, by omega, hT, fo, by omega, fun r o H6 k6 w6 hr2 pm bh hr3 => ?_⟩
  have nrw : r ≠ wl := hw.ne hr2
  have ndo : o.Nodup := pm.nodup_iff.mpr List.nodup_range
  have lo := pm.length_eq
  rw [List.length_range] at lo
  refine ⟨wl, r, _, o, rfl, nrw.symm, w6, by omega, hr3, ndo, by omega, by omega, fun p ls H7 k7 w7 hp7 lots7 lof => ?_⟩
  have st : Stg hs.length ls := lof.stg ndo fun v hv' => List.mem_range.mp (pm.mem_iff.mp hv')
  have isf := lot_none lof ndo bh
  have npw : p ≠ wl := w6.ne hp7
  have k17 := k6.trans k7
  have hT7 := k17 _ _ ntw hT
  -- whole
  refine ⟨_, rfl, _, rfl, t, p, hs, ls, rfl, hT7, by omega, lots7, st, fun R as H2 s2 hR0 hR wr _ => ?_⟩
  have hT2 := s2 _ _ hT7
  obtain ⟨kp1, kp2, kp3⟩ := keepL_prod fo st isf
  have bnd := blocks_nd st
  have fl0 := rest_pre_all st
  generalize hbs : ls ++ [restL hs.length ls] = bs at wr kp1 kp2 kp3 bnd fl0
  have lb := wr.len
  have big : fct 60 < 2 ^ 1000 := by decide +kernel
  refine ⟨R, rfl, ⟨_, SqL.of hR⟩, for_it (walk_list (xs := as.map V.ref)) (fun i σ H' => ∃ v4, σ = [some (.ref wl), some (.ref t), some (.ref p), some (.int (prodB hs (bs.take i))), v4, none, none, none] ∧ Same H2 H') ⟨none, rfl, Same.refl H2⟩ (fun i σ H' _ z => ?_) ?_ ?_⟩
  · obtain ⟨_, _, z⟩ := z
    exact SqL.of (z _ _ hR)
  · rintro i x σ H3 H4 hi ⟨v4, rfl, s3⟩ ⟨rfl, e1⟩
    obtain ⟨qa, eq, rfl⟩ := ref_at e1
    have il : i < bs.length := by
      have z := (List.getElem?_eq_some_iff.mp eq).1
      omega
    have el : bs[i]? = some bs[i] := List.getElem?_eq_getElem il
    have hq := (wr.same s3).at_ i qa _ eq el
    have tk : bs.take (i + 1) = bs.take i ++ [bs[i]] := by rw [List.take_add_one, el]; rfl
    obtain ⟨b1, b2, b3⟩ := bnd _ (List.mem_of_getElem? el)
    generalize bs[i] = l at el hq tk b1 b2 b3
    refine ⟨_, rfl, _, rfl, _, rfl, t, qa, hs, l, rfl, s3 _ _ hT2, hq, fo, b1, b2, by omega, fun H5 s5 => ?_⟩
    have c1 := prodB_bd fo (bs := bs.take i) fun l h => ⟨(bnd l (List.mem_of_mem_take h)).1, (bnd l (List.mem_of_mem_take h)).2.1⟩
    have c2 := blockN_bd fo b1 b2
    have m1 := fct_mono (show (bs.take i).flatten.length ≤ 60 by have := flat_len (ls := bs) i; omega)
    have m2 := fct_mono (show l.length ≤ 60 by omega)
    exact ⟨_, _, rfl, rfl, wide_mul (a := 1000) (b := 1000) (by omega) (by omega) (by decide) (by decide) (by decide), some (.ref qa), by rw [tk, prodB_snoc]; rfl, s3.trans s5⟩
  rintro σ H3 ⟨v4, rfl, s3⟩
  have et : bs.take (as.map V.ref).length = bs := by rw [List.length_map, lb, List.take_length]
  rw [et, ← kp1]
  have lpos : 0 < (keepL hs ls).length := by omega
  have f14 : fct 14 = 87178291200 := by decide +kernel
  have m14 := fct_mono h14
  have klen : (keepL hs ls).length ≤ 87178291200 := by omega
  have s73 := s2.trans s3
  have w3 := w7.same s73
  have k3 : Keep wl H H3 := k17.trans s73.keep
  clear kp1 kp2 kp3 et
  -- the spots
  refine ⟨_, rfl, _, _, rfl, rfl, _, rfl, _, rfl, wl, _, _, rfl, w3, by omega, by omega, by omega, fun d H8 d0 d1 k8 w8 => ⟨by show 3 ≤ sizeLine; decide, fun T hT8 => ?_⟩⟩
  obtain ⟨dn, rfl⟩ : ∃ dn : Nat, d = (dn : Int) := ⟨d.toNat, by omega⟩
  have s9 := (Same.refl H8).new (o := .tup [.int 0, .int ((((keepL hs ls).length : Nat) : Int) - 1), .int (dn : Int)]) hT8
  have oT : upd H8 T (.tup [.int 0, .int ((((keepL hs ls).length : Nat) : Int) - 1), .int (dn : Int)]) T = some (.tup [.int 0, .int ((((keepL hs ls).length : Nat) : Int) - 1), .int (dn : Int)]) := upd_same
  have esp : [V.int 0, V.int ((((keepL hs ls).length : Nat) : Int) - 1), V.int (dn : Int)] = nv [0, (keepL hs ls).length - 1, dn] := by
    unfold nv
    rw [List.map_cons, List.map_cons, List.map_cons, List.map_nil, show ((((keepL hs ls).length - 1 : Nat)) : Int) = (((keepL hs ls).length : Nat) : Int) - 1 by omega]; rfl
  generalize upd H8 T (.tup [.int 0, .int ((((keepL hs ls).length : Nat) : Int) - 1), .int (dn : Int)]) = H9 at s9 oT ⊢
  have k39 : Keep wl H3 H9 := k8.trans s9.keep
  have w9 := w8.same s9
  have lots9 := ((lots7.same s73).keepW k8 npw w3).same s9
  have hT9 := k39 _ _ ntw (s3 _ _ hT2)
  rw [esp] at oT
  refine ⟨T, rfl, ⟨_, SqT.of oT⟩, for_it (walk_tup (xs := nv [0, (keepL hs ls).length - 1, dn])) (fun i σ H' => ∃ v5 v6, σ = [some (.ref wl), some (.ref t), some (.ref p), some (.int (((keepL hs ls).length : Nat) : Int)), v4, v5, v6, none] ∧ Same H9 H') ⟨_, _, rfl, Same.refl H9⟩ (fun i σ H' _ z => ?_) ?_ ?_⟩
  · obtain ⟨_, _, _, z⟩ := z
    exact SqT.of (z _ _ oT)
  · rintro i x σ Ha Hb hi ⟨v5, v6, rfl, sa⟩ ⟨rfl, e1⟩
    obtain ⟨spot, ev, rfl⟩ := nv_at e1
    have sl : spot < (keepL hs ls).length := by
      have m := List.mem_of_getElem? ev
      rcases List.mem_cons.mp m with rfl | m
      · exact lpos
      · rcases List.mem_cons.mp m with rfl | m
        · omega
        · rw [List.mem_singleton.mp m]; omega
    have er : (keepL hs ls)[spot]? = some (keepL hs ls)[spot] := List.getElem?_eq_getElem sl
    generalize (keepL hs ls)[spot] = row at er
    have mem := List.mem_of_getElem? er
    obtain ⟨lr, pr⟩ := keepL_len mem
    refine ⟨_, rfl, _, rfl, _, rfl, t, p, hs, ls, spot, row, rfl, sa _ _ hT9, fo, by omega, lots9.same sa, st, isf, er, fun W Hc sc hW0 hW => ?_⟩
    have s9c := sa.trans sc
    -- sorted
    refine ⟨_, rfl, W, row.map fun v : Nat => (v : Int), rfl, by rw [← nv_ints]; exact SqL.of hW, by rw [List.length_map]; omega, fun ns p2 pm2 pw hp2 => ?_⟩
    obtain ⟨ks, rfl, pk, pwk⟩ := up_nat pm2 pw pr.nd
    have ek : ks = List.range hs.length := asc_same pwk List.pairwise_lt_range (pk.trans (keepL_perm mem))
    rw [← nv_ints, ek]
    have sd := s9c.new (o := .lst (nv (List.range hs.length))) hp2
    have od := (Same.refl Hc).new (o := .lst (nv (List.range hs.length))) hp2
    have o2 : upd Hc p2 (.lst (nv (List.range hs.length))) p2 = some (.lst (nv (List.range hs.length))) := upd_same
    have hWd := od _ _ hW
    generalize upd Hc p2 (.lst (nv (List.range hs.length))) = He at sd o2 hWd ⊢
    refine ⟨_, rfl, _, _, rfl, .inr ⟨_, SqT.of (sd _ _ hT9), rfl⟩, ?_⟩
    rw [List.length_map]
    refine ⟨_, rfl, RgOk.of_le (by omega) (by omega) (by omega) (by omega), fun L hL => ?_⟩
    rw [nv_range]
    have se := sd.new (o := .lst (nv (List.range hs.length))) hL
    have oe := (Same.refl He).new (o := .lst (nv (List.range hs.length))) hL
    have oL : upd He L (.lst (nv (List.range hs.length))) L = some (.lst (nv (List.range hs.length))) := upd_same
    have o2e := oe _ _ o2
    have hWe := oe _ _ hWd
    generalize upd He L (.lst (nv (List.range hs.length))) = Hf at se oL o2e hWe ⊢
    refine ⟨_, _, dp_list o2e, dp_list oL, shaped_nD _, shaped_nD _, _, rfl, ?_⟩
    rw [eqv_list, eqv_nD, decide_eq_true rfl]
    refine iteF' rfl ⟨_, rfl, _, rfl, W, p, hs.length, row, ls, rfl, hWe, pr.nd, lr, by omega, lots9.same se, st, fun Hg sg => ?_⟩
    have kb : keepsB row ls = true := (List.mem_filter.mp mem).2
    rw [kb]
    refine ⟨_, rfl, iteF ?_⟩
    have sg9 := se.trans sg
    have hWg := sg _ _ hWe
    -- nothing ahead of its holder
    refine ⟨_, rfl, W, rfl, ⟨_, SqL.of hWg⟩, fun G hG => lc_nat (fun _ => false) hWg (by omega) hG (fun _ => rfl) (fun _ _ _ q => ⟨_, rfl, q⟩) (fun m Hx Q' mm sx q => ?_) (fun Hh sh oG => ?_)⟩
    · have hWx := sx _ _ hWg
      have hTx := sx _ _ (sg9 _ _ hT9)
      obtain ⟨o2, ho⟩ : ∃ o, hs[m]? = some o := ⟨_, List.getElem?_eq_getElem (pr.lt m mm)⟩
      refine ⟨_, rfl, _, rfl, t, _, _, _, rfl, rfl, SqT.of hTx, atI_nat (hv_at ho), rfl, _, rfl, ?_⟩
      cases o2 with
      | none => exact iteF' (by rw [decide_eq_true (show hv none = V.non from rfl)]; rfl) (q _ (Same.refl Hx))
      | some u =>
        obtain ⟨mu, iu⟩ := none_ahead (List.mem_filter.mp mem).1 mm ho
        refine iteT' (by rw [decide_eq_false (show ¬ hv (some u) = V.non from fun z => by cases z)]; rfl) ?_
        refine ⟨_, rfl, .inl ⟨rfl, _, SqL.of hWx⟩, _, rfl, _, rfl, t, _, _, _, rfl, rfl, SqT.of hTx, atI_nat (hv_at ho), ?_⟩
        dsimp only [tNil, tCons, tC, List.nil_append, List.append_nil, List.cons_append, List.reverse_cons, List.reverse_nil]
        refine index_ask hWx mu ?_
        refine ⟨_, rfl, .inl ⟨rfl, _, SqL.of hWx⟩, _, rfl, ?_⟩
        dsimp only [tNil, tCons, tC, List.nil_append, List.append_nil, List.cons_append, List.reverse_cons, List.reverse_nil]
        refine index_ask hWx mm ?_
        refine ⟨_, _, rfl, rfl, _, rfl, ?_⟩
        have z : decide ((((row.idxOf u : Nat)) : Int) > ((row.idxOf m : Nat) : Int)) = false := decide_eq_false (by omega)
        have y := q _ (Same.refl Hx)
        rw [← z] at y
        exact y
    have oG : Hh G = some (.lst (nv [])) := by
      rw [List.filter_eq_nil_iff.mpr fun _ _ z => Bool.false_ne_true z] at oG
      exact oG
    refine ⟨by show 0 ≤ sizeLine; decide, fun Z hZ => ?_⟩
    have si := (Same.refl Hh).new (o := .lst []) hZ
    have oZ : upd Hh Z (.lst []) Z = some (.lst (nv [])) := upd_same
    generalize upd Hh Z (.lst []) = Hi at si oZ ⊢
    refine ⟨_, _, dp_list (si _ _ oG), dp_list oZ, shaped_nD [], shaped_nD [], _, rfl, ?_⟩
    rw [eqv_list, eqv_nD, decide_eq_true rfl]
    have s9i := (sg9.trans sh).trans si
    refine iteF' rfl ⟨_, rfl, _, rfl, _, rfl, t, p, W, hs, ls, row, spot, rfl, s9i _ _ hT9, fo, by omega, lots9.same s9i, st, isf, si _ _ (sh _ _ hWg), er, fun Hj sj => ?_⟩
    refine ⟨_, rfl, rfl, _, rfl, iteF' (by rw [decide_eq_true rfl]; rfl) ⟨_, _, rfl, s9i.trans sj⟩⟩
  · rintro σ Ha ⟨v5, v6, rfl, sa⟩
    exact q Ha ((k3.trans k39).trans sa.keep) ((w9.same sa).mono (by omega))
end

end My

namespace My
open PySem PySem.Spec PyProof.Rows L2
/-! ### drawing below great numbers -/
def spDrawW : Sp := fun vs H Q _ => ∃ (wl : Addr) (n : Nat) (m : Int), vs = [.ref wl, .int m] ∧ Well H wl n ∧ n < 2 ^ 60 ∧ 1 ≤ m ∧ m.natAbs < 2 ^ 1000 ∧ ∀ d H', 0 ≤ d → d < m → Keep wl H H' → Well H' wl (n + 1) → Q (.int d) H'
section
variable {P : Program} {w : World} {K : PySem.W.Frag} {mg : Str → Option Value} {base : Heap}
theorem ok__law_drawW (D : Df K mg "_law_draw" st__law_draw ["well", "most"]) (B : Bl mg) : Kn P w K mg base CX0 1 "_law_draw" st__law_draw ["well", "most"] spDrawW := by
  refine D.ok sc__law_draw (fun vs H Q E h => ?_) (fun f cdv A outer s H vs Q E hr h => ?_)
  · obtain ⟨wl, n, m, rfl, _⟩ := h; rfl
  obtain ⟨wl, n, m, rfl, hw, hn, h1, hm, q⟩ := h
  refine ⟨_, ((pss_cons (ps_if (pt_cmpR op_gt (pe_ix ix_list (pv 0) pe_int (fun _ _ => rfl)) pe_int (nomark _)) (pss_cons (ps_set (i := 2) sc__law_draw.nd rfl (Or.inl rfl) (pe_op op_mod (pe_callTy call_int1 (by rfl) B.int (by decide +kernel) (pa_cons (pe_ix ix_list (pv 0) pe_int (fun _ _ => rfl)) pa_nil)) (pv 1)))
      (pss_cons (ps_asg (pe_op op_fdivW (pe_ix ix_list (pv 0) pe_int (fun _ _ => rfl)) (pv 1)) (pg_sub (pv 0) pe_int set_list))
      (pss_one (ps_ret (pv 2))))) pss_nil)
      (pss_cons (ps_asg (pe_op op_add (pe_ix ix_list (pv 0) pe_int (fun _ _ => rfl)) pe_int) (pg_sub (pv 0) pe_int set_list))
      (pss_cons (ps_set (i := 3) sc__law_draw.nd rfl (Or.inl rfl) (pe_op op_mod (pe_op op_powW (pe_callTy call_int1 (by rfl) B.int (by decide +kernel) (pa_cons (pe_op op_add (pe_ix ix_list (pv 0) pe_int (fun _ _ => rfl)) (pe_op op_mul pe_int (pe_ix ix_list (pv 0) pe_int (fun _ _ => rfl)))) pa_nil)) pe_int) (pe_op op_add (pe_op op_powW pe_int pe_int) pe_int)))
      (pss_cons (ps_set (i := 3) sc__law_draw.nd rfl (Or.inl rfl) (pe_op op_mod (pe_op op_powW (pe_callTy call_int1 (by rfl) B.int (by decide +kernel) (pa_cons (pe_op op_add (pv 3) (pe_op op_mul pe_int (pe_ix ix_list (pv 0) pe_int (fun _ _ => rfl)))) pa_nil)) pe_int) (pe_op op_add (pe_op op_powW pe_int pe_int) pe_int)))
      (pss_one (ps_ret (pe_op op_mod (pe_callTy call_int1 (by rfl) B.int (by decide +kernel) (pa_cons (pe_op op_fdivW (pv 3) pe_int) pa_nil)) (pv 1))))))))), ?_⟩
  obtain ⟨a, b, c, e, ha, hb, hb2, hc, hc2⟩ := hw.ex
  have g0 : ∀ {H' : Hp} {x y z : V}, H' wl = some (.lst [x, y, z]) → SqL K H' wl [x, y, z] := fun h => SqL.of h
  -- if well[0] > 0
  refine ⟨_, rfl, wl, _, _, _, rfl, rfl, g0 e, rfl, _, _, rfl, rfl, _, rfl, ?_⟩
  refine ite2 (fun c1 => ?_) (fun c1 => ?_)
  · -- digit = int(well[0]) % most; well[0] = well[0] // most; return digit
    refine ⟨_, rfl, wl, _, _, _, rfl, rfl, g0 e, rfl, .inl ⟨_, rfl, _, rfl, _, _, rfl, rfl, by show (0 : Int) < m; omega, ?_⟩⟩
    refine ⟨_, rfl, wl, _, _, _, rfl, rfl, g0 e, rfl, _, rfl, _, _, rfl, rfl, wide_div (by omega) hm (by decide) (by decide), ?_⟩
    refine ⟨_, rfl, wl, _, _, 0, rfl, rfl, e, rfl, ?_⟩
    refine ⟨_, rfl, q _ _ (Int.emod_nonneg a (by omega)) (Int.emod_lt_of_pos a (by omega)) (Keep.upd _ _ _) ⟨a / m, b, c, upd_same, Int.ediv_nonneg ha (by omega), hb, hb2, hc, by omega⟩⟩
  · -- well[2] = well[2] + 1
    refine ⟨_, rfl, wl, _, _, _, rfl, rfl, g0 e, rfl, _, _, rfl, rfl, ?_⟩
    refine ⟨_, rfl, wl, _, _, 2, rfl, rfl, e, rfl, ?_⟩
    have e2 : upd H wl (.lst (([V.int a, V.int b, V.int c]).set 2 (V.int (c + 1)))) wl = some (.lst [V.int a, V.int b, V.int (c + 1)]) := upd_same
    have k2 : Keep wl H (upd H wl (.lst (([V.int a, V.int b, V.int c]).set 2 (V.int (c + 1))))) := Keep.upd _ _ _
    have w2 : Well (upd H wl (.lst (([V.int a, V.int b, V.int c]).set 2 (V.int (c + 1))))) wl (n + 1) := ⟨a, b, c + 1, e2, ha, hb, hb2, by omega, by omega⟩
    generalize upd H wl (.lst (([V.int a, V.int b, V.int c]).set 2 (V.int (c + 1)))) = H2 at e2 k2 w2 ⊢
    have p60 : (2 : Nat) ^ 60 = 1152921504606846976 := by decide
    have p64 : (2 : Int) ^ 64 = 18446744073709551616 := by decide
    have p200 : (2 : Nat) ^ 200 = 1606938044258990275541962092341162602522202993782792835301376 := by decide +kernel
    have p201 : (2 : Nat) ^ 201 = 3213876088517980551083924184682325205044405987565585670602752 := by decide +kernel
    have b1 : (b + 715827883 * (c + 1)).natAbs < 2 ^ 201 := by omega
    have m1 : (10 : Int) ^ (41 : Int).toNat + 109 = 100000000000000000000000000000000000000109 := by decide +kernel
    have m2 : (10 : Int) ^ (39 : Int).toNat + 3 = 1000000000000000000000000000000000000003 := by decide +kernel
    -- blend = int(well[1] + 715827883 * well[2]) ** 3 % (10 ** 41 + 109)
    refine ⟨_, rfl, wl, _, _, _, rfl, rfl, g0 e2, rfl, _, rfl, wl, _, _, _, rfl, rfl, g0 e2, rfl, _, _, rfl, rfl, mul_small ⟨by rw [p64]; decide, by rw [p64]; decide⟩, _, _, rfl, rfl, .inl ⟨_, rfl, _, _, rfl, rfl, cpow3 b1 (by decide) (by decide),
      _, _, rfl, rfl, cpow10 (by decide) (by decide), _, _, rfl, rfl, _, _, rfl, rfl, by rw [m1]; show (0 : Int) < 100000000000000000000000000000000000000109; decide, ?_⟩⟩
    rw [m1]
    have b2 : ∀ x : Int, 0 ≤ x → x < 100000000000000000000000000000000000000109 → (x + 198491317 * (c + 1)).natAbs < 2 ^ 201 := fun x h h' => by omega
    have b3 : ∀ z : Int, (z % 100000000000000000000000000000000000000109 + 198491317 * (c + 1)).natAbs < 2 ^ 201 := fun z => b2 _ (Int.emod_nonneg _ (by decide)) (Int.emod_lt_of_pos _ (by decide))
    -- blend = int(blend + 198491317 * well[2]) ** 3 % (10 ** 39 + 3)
    refine ⟨_, rfl, _, rfl, wl, _, _, _, rfl, rfl, g0 e2, rfl, _, _, rfl, rfl, mul_small ⟨by rw [p64]; decide, by rw [p64]; decide⟩, _, _, rfl, rfl, .inl ⟨_, rfl, _, _, rfl, rfl, cpow3 (b3 _) (by decide) (by decide),
      _, _, rfl, rfl, cpow10 (by decide) (by decide), _, _, rfl, rfl, _, _, rfl, rfl, by rw [m2]; show (0 : Int) < 1000000000000000000000000000000000000003; decide, ?_⟩⟩
    rw [m2]
    -- return int(blend // 1048576) % most
    refine ⟨_, rfl, _, _, rfl, rfl, ⟨by decide, by decide +kernel⟩, .inl ⟨_, rfl, _, rfl, _, _, rfl, rfl, by omega, ?_⟩⟩
    exact q _ _ (Int.emod_nonneg _ (by omega)) (Int.emod_lt_of_pos _ (by omega)) k2 w2
end

/-! ### the law's long forests -/
def chainH (n s : Nat) : Hs := none :: (List.range (s - 1)).map fun i => some (n + i)
theorem chain_len {n s : Nat} (h : 1 ≤ s) : (chainH n s).length = s := by
  unfold chainH
  rw [List.length_cons, List.length_map, List.length_range]
  omega
theorem LtF.chain {l : Hs} (h : LtF l) {s : Nat} (hs : 1 ≤ s) : LtF (l ++ chainH l.length s) := fun j u e => by
  by_cases hj : j < l.length
  · rw [List.getElem?_append_left hj] at e; exact h j u e
  · rw [List.getElem?_append_right (by omega)] at e
    unfold chainH at e
    rcases hz : j - l.length with _ | k
    · rw [hz] at e; cases e
    · rw [hz] at e
      have e : ((List.range (s - 1)).map fun i => some (l.length + i))[k]? = some (some u) := e
      rw [List.getElem?_map] at e
      obtain ⟨i, ei, e2⟩ := Option.map_eq_some_iff.mp e
      obtain ⟨hi, e3⟩ := List.getElem?_eq_some_iff.mp ei
      rw [List.getElem_range] at e3
      have := Option.some.inj e2
      omega
theorem rg_chain (n s : Nat) (h : 1 ≤ s) : [V.non] ++ rgV (n : Int) ((n : Int) + (s : Int) - 1) = (chainH n s).map hv := by
  unfold rgV chainH
  rw [show ((n : Int) + (s : Int) - 1 - (n : Int)).toNat = s - 1 by omega, List.map_cons, List.map_map]
  show V.non :: _ = V.non :: _
  congr 1
def spLLong : Sp := fun vs H Q _ => ∃ (wl : Addr) (n : Nat), vs = [.ref wl] ∧ Well H wl n ∧ n < 2 ^ 50 ∧
  ∀ t hs H', Fo hs → 40 ≤ hs.length → hs.length ≤ 60 → Keep wl H H' → Well H' wl (n + 200) → H t = none → H' t = some (.tup (hs.map hv)) → Q (.ref t) H'
section
variable {P : Program} {w : World} {K : PySem.W.Frag} {mg : Str → Option Value} {base : Heap}
abbrev st__law_long : Stmt := topS 61
abbrev N__law_long : List Str := ["well", "plan", "names", "size", "left", "found", "k"]
theorem sc__law_long : FnScope N__law_long ["well"] (defScope st__law_long) := ⟨rfl, rfl, rfl, by decide +kernel, rfl, by decide +kernel, by decide +kernel⟩
theorem ok__law_long (D : Df K mg "_law_long" st__law_long ["well"]) (B : Bl mg) (K_law_draw : Kn P w K mg base CX0 1 "_law_draw" st__law_draw ["well", "most"] spDraw) :
    Kn P w K mg base CX0 2 "_law_long" st__law_long ["well"] spLLong := by
  refine D.ok sc__law_long (fun vs H Q E h => ?_) (fun f cdv A outer s H vs Q E hr h => ?_)
  · obtain ⟨wl, n, rfl, _⟩ := h; rfl
  obtain ⟨wl, n, rfl, hw, hn, q⟩ := h
  refine ⟨_, ((pss_cons (ps_par (i := 1) (j := 2) (by rfl) sc__law_long.nd rfl rfl (by decide) rfl rfl (pa_cons (pe_lst pa_nil) (pa_cons (pe_lst pa_nil) pa_nil)) (by rfl))
      (pss_cons (ps_for PassesOwn.never rfl (pi_list (pe_ix ix_list (pe_lst (pa_cons (pe_lst (pa_cons pe_int (pa_cons pe_int (pa_cons pe_int pa_nil)))) (pa_cons (pe_lst (pa_cons pe_int (pa_cons pe_int (pa_cons pe_int pa_nil)))) (pa_cons (pe_lst (pa_cons pe_int (pa_cons pe_int (pa_cons pe_int (pa_cons pe_int pa_nil))))) (pa_cons (pe_lst (pa_cons pe_int (pa_cons pe_int (pa_cons pe_int (pa_cons pe_int (pa_cons pe_int pa_nil)))))) pa_nil))))) (pe_callF K_law_draw (hr.mono (by decide)) pass0 (pa_cons (pv 0) (pa_cons pe_int pa_nil))) (fun _ _ => rfl))) (pg_name (i := 3) sc__law_long.nd rfl (Or.inl rfl)) (pss_one (ps_set (i := 1) sc__law_long.nd rfl (Or.inl rfl) (pe_op op_cat (pe_op op_cat (pv 1) (pe_lst (pa_cons pe_non pa_nil))) (pe_listRg rfl (by rfl) B.list (prg_2 (by rfl) B.range (pe_callB call_len (by rfl) B.len (by decide +kernel) (pa_cons (pv 1) pa_nil)) (pe_op op_sub (pe_op op_add (pe_callB call_len (by rfl) B.len (by decide +kernel) (pa_cons (pv 1) pa_nil)) (pv 3)) pe_int)))))))
      (pss_cons (ps_par (i := 4) (j := 5) (by rfl) sc__law_long.nd rfl rfl (by decide) rfl rfl (pa_cons (pe_listRg rfl (by rfl) B.list (prg_1 (by rfl) B.range (pe_callB call_len (by rfl) B.len (by decide +kernel) (pa_cons (pv 1) pa_nil)))) (pa_cons (pe_op op_rep (pe_lst (pa_cons pe_non pa_nil)) (pe_callB call_len (by rfl) B.len (by decide +kernel) (pa_cons (pv 1) pa_nil))) pa_nil)) (by rfl))
      (pss_cons (ps_for PassesOwn.never rfl (pi_range1 (by rfl) B.range (pa_cons (pe_callB call_len (by rfl) B.len (by decide +kernel) (pa_cons (pv 1) pa_nil)) pa_nil)) (pg_name (i := 6) sc__law_long.nd rfl (Or.inl rfl)) (pss_one (ps_expr (pe_bm PySem.F.plainAttrs_list PySem.F.slot_list_append PySem.F.type_list_append mt_append (pv 2) (pa_cons (pe_bm PySem.F.plainAttrs_list PySem.F.slot_list_pop PySem.F.type_list_pop mt_popAt (pv 4) (pa_cons (pe_callF K_law_draw (hr.mono (by decide)) pass0 (pa_cons (pv 0) (pa_cons (pe_callB call_len (by rfl) B.len (by decide +kernel) (pa_cons (pv 4) pa_nil)) pa_nil))) pa_nil)) pa_nil)))))
      (pss_cons (ps_for PassesOwn.never rfl (pi_range1 (by rfl) B.range (pa_cons (pe_callB call_len (by rfl) B.len (by decide +kernel) (pa_cons (pv 1) pa_nil)) pa_nil)) (pg_name (i := 6) sc__law_long.nd rfl (Or.inl rfl)) (pss_one (ps_asg (pe_ifExp (pt_cmpR op_isN (pe_ix ix_list (pv 1) (pv 6) (fun _ _ => rfl)) pe_non (nomark _)) pe_non (pe_ix ix_list (pv 2) (pe_ix ix_list (pv 1) (pv 6) (fun _ _ => rfl)) (fun _ _ => rfl))) (pg_sub (pv 5) (pe_ix ix_list (pv 2) (pv 6) (fun _ _ => rfl)) set_list))))
      (pss_one (ps_ret (pe_callTy call_tuple_of (by rfl) B.tuple (by decide +kernel) (pa_cons (pv 5) pa_nil)))))))))), ?_⟩
  have p50 : (2 : Nat) ^ 50 = 1125899906842624 := by decide
  have p60 : (2 : Nat) ^ 60 = 1152921504606846976 := by decide
  have p100 : (2 : Nat) ^ 100 = 1267650600228229401496703205376 := by decide +kernel
  refine ⟨by show 0 ≤ sizeLine; decide, fun P0 hP0 => ⟨by show 0 ≤ sizeLine; decide, fun N hN => ⟨_, _, rfl, ?_⟩⟩⟩
  have s1 := (Same.refl H).new (o := .lst []) hP0
  have oP1 : upd H P0 (.lst []) P0 = some (.lst []) := upd_same
  generalize upd H P0 (.lst []) = H1 at s1 oP1 hN ⊢
  have s2 := s1.new (o := .lst []) hN
  have oP2 := ((Same.refl H1).new (o := .lst []) hN) _ _ oP1
  have oN2 : upd H1 N (.lst []) N = some (.lst (nv [])) := upd_same
  have hNn : H N = none := s1.free hN
  generalize upd H1 N (.lst []) = H2 at s2 oP2 oN2 ⊢
  have w2 := hw.same s2
  -- the sizes
  refine ⟨by show 3 ≤ sizeLine; decide, fun A1 a1 => ⟨by show 3 ≤ sizeLine; decide, fun A2 a2 => ⟨by show 4 ≤ sizeLine; decide, fun A3 a3 => ⟨by show 5 ≤ sizeLine; decide, fun A4 a4 => ⟨by show 4 ≤ sizeLine; decide, fun L0 l0 => ?_⟩⟩⟩⟩⟩
  have e1 : [V.int 14, V.int 13, V.int 13] = nv [14, 13, 13] := rfl
  have e2 : [V.int 15, V.int 15, V.int 15] = nv [15, 15, 15] := rfl
  have e3 : [V.int 12, V.int 12, V.int 12, V.int 12] = nv [12, 12, 12, 12] := rfl
  have e4 : [V.int 9, V.int 10, V.int 8, V.int 9, V.int 10] = nv [9, 10, 8, 9, 10] := rfl
  rw [e1, e2, e3, e4] at l0 ⊢
  rw [e1, e2, e3] at a4
  rw [e1, e2] at a3
  rw [e1] at a2
  have u1 := (Same.refl H2).new (o := .lst (nv [14, 13, 13])) a1
  have o1 : upd H2 A1 (.lst (nv [14, 13, 13])) A1 = some (.lst (nv [14, 13, 13])) := upd_same
  have n1 := w2.ne a1
  have q1 := w2.same u1
  generalize upd H2 A1 (.lst (nv [14, 13, 13])) = G1 at u1 o1 q1 a2 a3 a4 l0 ⊢
  have u2 := (Same.refl G1).new (o := .lst (nv [15, 15, 15])) a2
  have o2 : upd G1 A2 (.lst (nv [15, 15, 15])) A2 = some (.lst (nv [15, 15, 15])) := upd_same
  have n2 := q1.ne a2
  have q2 := q1.same u2
  generalize upd G1 A2 (.lst (nv [15, 15, 15])) = G2 at u2 o2 q2 a3 a4 l0 ⊢
  have u3 := (Same.refl G2).new (o := .lst (nv [12, 12, 12, 12])) a3
  have o3 : upd G2 A3 (.lst (nv [12, 12, 12, 12])) A3 = some (.lst (nv [12, 12, 12, 12])) := upd_same
  have n3 := q2.ne a3
  have q3 := q2.same u3
  generalize upd G2 A3 (.lst (nv [12, 12, 12, 12])) = G3 at u3 o3 q3 a4 l0 ⊢
  have u4 := (Same.refl G3).new (o := .lst (nv [9, 10, 8, 9, 10])) a4
  have o4 : upd G3 A4 (.lst (nv [9, 10, 8, 9, 10])) A4 = some (.lst (nv [9, 10, 8, 9, 10])) := upd_same
  have n4 := q3.ne a4
  have q4 := q3.same u4
  generalize upd G3 A4 (.lst (nv [9, 10, 8, 9, 10])) = G4 at u4 o4 q4 l0 ⊢
  have u5 := (Same.refl G4).new (o := .lst [.ref A1, .ref A2, .ref A3, .ref A4]) l0
  have oL : upd G4 L0 (.lst [.ref A1, .ref A2, .ref A3, .ref A4]) L0 = some (.lst [.ref A1, .ref A2, .ref A3, .ref A4]) := upd_same
  have nwL := q4.ne l0
  generalize upd G4 L0 (.lst [.ref A1, .ref A2, .ref A3, .ref A4]) = G5 at u5 oL ⊢
  have o1 := u5 _ _ (u4 _ _ (u3 _ _ (u2 _ _ o1)))
  have o2 := u5 _ _ (u4 _ _ (u3 _ _ o2))
  have o3 := u5 _ _ (u4 _ _ o3)
  have o4 := u5 _ _ o4
  have u25 := (((u1.trans u2).trans u3).trans u4).trans u5
  have sH5 := s2.trans u25
  have w5 := hw.same sH5
  have oP5 := u25 _ _ oP2
  have oN5 := u25 _ _ oN2
  clear u1 u2 u3 u4 u5 a1 a2 a3 a4 l0 oP2 oN2 oP1
  refine ⟨_, rfl, wl, _, 4, rfl, w5, by omega, by decide, by decide, fun d H6 d0 d1 k6 w6 => ?_⟩
  have nwP : P0 ≠ wl := hw.ne hP0
  have nwN : N ≠ wl := hw.ne hNn
  have k06 : Keep wl H H6 := sH5.keep.trans k6
  obtain ⟨vv, hv1, hv2⟩ := pick (xs := [.ref A1, .ref A2, .ref A3, .ref A4]) d0 d1
  obtain ⟨A, sz, rfl, nA, hA, bs, bl, b40, bne⟩ : ∃ (A : Addr) (sz : List Nat), vv = .ref A ∧ A ≠ wl ∧ H6 A = some (.lst (nv sz)) ∧ (∀ s ∈ sz, 1 ≤ s ∧ s ≤ 15) ∧ sz.sum ≤ 60 ∧ 40 ≤ sz.sum ∧ sz ≠ [] := by
    simp only [List.mem_cons, List.not_mem_nil, or_false] at hv1
    rcases hv1 with rfl | rfl | rfl | rfl
    · exact ⟨A1, _, rfl, n1, k6 _ _ n1 o1, by decide, by decide, by decide, by decide⟩
    · exact ⟨A2, _, rfl, n2, k6 _ _ n2 o2, by decide, by decide, by decide, by decide⟩
    · exact ⟨A3, _, rfl, n3, k6 _ _ n3 o3, by decide, by decide, by decide, by decide⟩
    · exact ⟨A4, _, rfl, n4, k6 _ _ n4 o4, by decide, by decide, by decide, by decide⟩
  have oL6 := k6 _ _ nwL oL
  have oP6 := k6 _ _ nwP oP5
  have oN6 := k6 _ _ nwN oN5
  clear o1 o2 o3 o4 n1 n2 n3 n4 q1 q2 q3 q4 oP5 oN5 oL u25 w5 w2 hP0 hN
  refine ⟨L0, _, _, _, rfl, rfl, SqL.of oL6, hv2, A, rfl, ⟨_, SqL.of hA⟩, for_it (walk_list (xs := nv sz)) (fun i σ H' => ∃ (Pp : Addr) (l : Hs) (v3 : Option V), σ = [some (.ref wl), some (.ref Pp), some (.ref N), v3, none, none, none] ∧ Keep wl H6 H' ∧ Well H' wl (n + 1) ∧ Pp ≠ wl ∧ H' Pp = some (.lst (l.map hv)) ∧ LtF l ∧ l.length = (sz.take i).sum)
    ⟨P0, [], none, rfl, Keep.refl _ _, w6, nwP, oP6, (fun j u e => by cases e), by rw [List.take_zero]; rfl⟩ (fun i σ H' _ z => ?_) ?_ ?_⟩
  · obtain ⟨_, _, _, _, z, _⟩ := z
    exact SqL.of (z _ _ nA hA)
  · rintro i x σ H7 H8 hi ⟨Pp, l, v3, rfl, k7, w7, nP, oP, lt, ll⟩ ⟨rfl, e1⟩
    obtain ⟨s0, es, rfl⟩ := nv_at e1
    obtain ⟨s1', s2'⟩ := bs s0 (List.mem_of_getElem? es)
    have tk : sz.take (i + 1) = sz.take i ++ [s0] := by rw [List.take_add_one, es]; rfl
    have ls : (sz.take (i + 1)).sum = l.length + s0 := by rw [tk, List.sum_append, ll]; rfl
    have lle : (sz.take (i + 1)).sum ≤ 60 := by
      have z : sz.sum = (sz.take (i + 1)).sum + (sz.drop (i + 1)).sum := by rw [← List.sum_append, List.take_append_drop]
      omega
    refine ⟨_, rfl, by show 1 ≤ sizeLine; decide, fun B hB => ?_⟩
    have t1 := (Same.refl H8).new (o := .lst [.non]) hB
    have oB : upd H8 B (.lst [.non]) B = some (.lst [.non]) := upd_same
    generalize upd H8 B (.lst [.non]) = J1 at t1 oB ⊢
    refine ⟨Pp, B, _, _, rfl, rfl, t1 _ _ oP, oB, by rw [List.length_map]; exact Nat.le_of_lt (szl (by show l.length + 1 ≤ 1000; omega)), fun C hC => ?_⟩
    have t2 := t1.new (o := .lst (l.map hv ++ [.non])) hC
    have oC : upd J1 C (.lst (l.map hv ++ [.non])) C = some (.lst (l.map hv ++ [.non])) := upd_same
    generalize upd J1 C (.lst (l.map hv ++ [.non])) = J2 at t2 oC ⊢
    refine ⟨_, rfl, _, _, rfl, .inl ⟨_, SqL.of (t2 _ _ oP), rfl⟩, _, rfl, _, _, rfl, .inl ⟨_, SqL.of (t2 _ _ oP), rfl⟩, _, rfl, _, _, rfl, rfl, _, _, rfl, rfl, ?_⟩
    rw [List.length_map]
    refine ⟨_, _, rfl, rfl, RgOk.of_le (by omega) (by omega) (by omega) (by omega), fun G hG => ?_⟩
    have t3 := t2.new (o := .lst (rgV (l.length : Int) ((l.length : Int) + (s0 : Int) - 1))) hG
    have oG : upd J2 G (.lst (rgV (l.length : Int) ((l.length : Int) + (s0 : Int) - 1))) G = some (.lst (rgV (l.length : Int) ((l.length : Int) + (s0 : Int) - 1))) := upd_same
    have oC3 := ((Same.refl J2).new (o := .lst (rgV (l.length : Int) ((l.length : Int) + (s0 : Int) - 1))) hG) _ _ oC
    generalize upd J2 G (.lst (rgV (l.length : Int) ((l.length : Int) + (s0 : Int) - 1))) = J3 at t3 oG oC3 ⊢
    have el : l.map hv ++ [V.non] ++ rgV (l.length : Int) ((l.length : Int) + (s0 : Int) - 1) = (l ++ chainH l.length s0).map hv := by rw [List.append_assoc, rg_chain _ _ s1', List.map_append]
    refine ⟨C, G, _, _, rfl, rfl, oC3, oG, ?_, fun M hM => ?_⟩
    · have z : (l.map hv ++ [V.non]).length + (rgV (l.length : Int) ((l.length : Int) + (s0 : Int) - 1)).length = l.length + s0 := by
        have y := congrArg List.length el
        rw [List.length_append] at y
        rw [y, List.length_map, List.length_append, chain_len s1']
      rw [z]
      exact Nat.le_of_lt (szl (by omega))
    rw [el]
    have t4 := t3.new (o := .lst ((l ++ chainH l.length s0).map hv)) hM
    refine ⟨M, l ++ chainH l.length s0, _, rfl, k7.trans t4.keep, w7.same t4, w7.ne (t3.free hM), upd_same, lt.chain s1', by rw [List.length_append, chain_len s1', ls]⟩
  rintro σ H7 ⟨Pp, l, v3, rfl, k7, w7, nP, oP, lt, ll⟩
  rw [nv_length, List.take_length] at ll
  have lne : l ≠ [] := fun z => by
    rw [z] at ll
    cases sz with
    | nil => exact bne rfl
    | cons a b =>
      have := (bs a List.mem_cons_self).1
      rw [List.sum_cons] at ll
      have ll : 0 = a + b.sum := ll
      omega
  have oN7 := k7 _ _ nwN oN6
  have k07 := k06.trans k7
  have l60 : l.length ≤ 60 := by omega
  have hlm : (l.map hv).length = l.length := List.length_map _
  have nPN : Pp ≠ N := fun z => by
    rw [z, oN7] at oP
    have y := congrArg List.length (HO.lst.inj (Option.some.inj oP))
    rw [hlm] at y
    exact lne (List.eq_nil_of_length_eq_zero y.symm)
  -- left, found
  refine ⟨_, rfl, _, _, rfl, .inl ⟨_, SqL.of oP, rfl⟩, ?_⟩
  rw [hlm]
  refine ⟨_, rfl, RgOk.of_le (by omega) (by omega) (by omega) (by omega), fun L hL => ?_⟩
  rw [nv_range]
  have t1 := (Same.refl H7).new (o := .lst (nv (List.range l.length))) hL
  have oL1 : upd H7 L (.lst (nv (List.range l.length))) L = some (.lst (nv (List.range l.length))) := upd_same
  have nLw : L ≠ wl := w7.ne hL
  have nLP : Pp ≠ L := ne_of_none oP hL
  have nLN : N ≠ L := ne_of_none oN7 hL
  have hLn : H L = none := by
    cases y : H L with
    | none => rfl
    | some o =>
      have z := k07 _ _ nLw y
      rw [z] at hL; cases hL
  generalize upd H7 L (.lst (nv (List.range l.length))) = J1 at t1 oL1 ⊢
  refine ⟨by show 1 ≤ sizeLine; decide, fun O hO => ?_⟩
  have t2 := t1.new (o := .lst [.non]) hO
  have oO : upd J1 O (.lst [.non]) O = some (.lst [.non]) := upd_same
  have oL2 := ((Same.refl J1).new (o := .lst [.non]) hO) _ _ oL1
  generalize upd J1 O (.lst [.non]) = J2 at t2 oO oL2 ⊢
  refine ⟨_, rfl, _, _, rfl, .inl ⟨_, SqL.of (t2 _ _ oP), rfl⟩, ?_⟩
  rw [hlm]
  refine ⟨O, _, _, rfl, rfl, oO, by omega, by omega, by show 1 * ((l.length : Nat) : Int).toNat ≤ sizeLine; rw [Int.toNat_natCast, Nat.one_mul]; exact Nat.le_of_lt (szl (by omega)), fun T hT => ⟨_, _, rfl, ?_⟩⟩
  rw [Int.toNat_natCast, rep_non]
  have t3 := t2.new (o := .lst ((List.replicate l.length (none : Option Nat)).map hv)) hT
  have oT : upd J2 T (.lst ((List.replicate l.length (none : Option Nat)).map hv)) T = some (.lst ((List.replicate l.length (none : Option Nat)).map hv)) := upd_same
  have oL3 := ((Same.refl J2).new (o := .lst ((List.replicate l.length (none : Option Nat)).map hv)) hT) _ _ oL2
  have hT7 := t2.free hT
  have nTw : T ≠ wl := w7.ne hT7
  have nTP : Pp ≠ T := ne_of_none oP hT7
  have nTN : N ≠ T := ne_of_none oN7 hT7
  have nTL : L ≠ T := ne_of_none oL2 hT
  have hTn : H T = none := by
    cases y : H T with
    | none => rfl
    | some o =>
      have z := k07 _ _ nTw y
      rw [z] at hT7; cases hT7
  generalize upd J2 T (.lst ((List.replicate l.length (none : Option Nat)).map hv)) = J3 at t3 oT oL3 ⊢
  have k3 : Keep wl H J3 := k07.trans t3.keep
  have w3 := w7.same t3
  have oP3 := t3 _ _ oP
  have oN3 := t3 _ _ oN7
  clear t1 t2 oL1 oL2 oO
  have kk : ∀ {H' : Hp} {a : Addr} {o : HO}, Keep wl H H' → H a = none → Keep wl H (upd H' a o) := fun {H' a o} k hn b u hb e => by
    rw [upd_ne (ne_of_none e hn)]; exact k b u hb e
  have ww : ∀ {H' : Hp} {a : Addr} {o : HO} {k : Nat}, Well H' wl k → a ≠ wl → Well (upd H' a o) wl k := fun {H' a o k} h hn => by
    obtain ⟨x, y, z, e, r⟩ := h.ex
    exact ⟨x, y, z, by rw [upd_ne hn.symm]; exact e, r⟩
  -- names
  refine ⟨_, rfl, _, _, rfl, .inl ⟨_, SqL.of oP3, rfl⟩, _, rfl, by rw [hlm]; omega, by rw [hlm]; omega, for_it walk_range0 (fun i σ H' => ∃ v6, σ = [some (.ref wl), some (.ref Pp), some (.ref N), v3, some (.ref L), some (.ref T), v6] ∧ Keep wl H H' ∧ Well H' wl (n + 1 + i) ∧ H' Pp = some (.lst (l.map hv)) ∧ H' T = some (.lst ((List.replicate l.length (none : Option Nat)).map hv)) ∧
      ∃ nm lf : List Nat, nm.length = i ∧ (nm ++ lf).Perm (List.range l.length) ∧ H' N = some (.lst (nv nm)) ∧ H' L = some (.lst (nv lf)))
    ⟨none, rfl, k3, w3, oP3, oT, [], List.range l.length, rfl, List.Perm.refl _, oN3, oL3⟩ (fun _ _ _ _ _ => trivial) ?_ ?_⟩
  · rintro i x σ H8 H9 hi ⟨v6, rfl, k5, w5, oP5, oT5, nm, lf, hnm, hp, hN5, hL5⟩ ⟨rfl, rfl⟩
    rw [hlm] at hi
    have hi' : i < l.length := by omega
    have hlf : nm.length + lf.length = l.length := by
      have z := hp.length_eq
      rw [List.length_append, List.length_range] at z; exact z
    refine ⟨_, rfl, .inl ⟨rfl, _, SqL.of hN5⟩, ?_⟩
    refine ⟨_, rfl, .inl ⟨rfl, _, SqL.of hL5⟩, ?_⟩
    refine ⟨_, rfl, _, rfl, _, _, rfl, .inl ⟨_, SqL.of hL5, rfl⟩, wl, _, _, rfl, w5, by omega, by rw [nv_length]; omega, by rw [nv_length]; omega, fun d H6 d0 d1 k6 w6 => ?_⟩
    rw [nv_length] at d1
    obtain ⟨j, hj⟩ : ∃ j : Nat, d = (j : Int) := ⟨d.toNat, by omega⟩
    subst hj
    have hjl : j < lf.length := by omega
    have hL6 := k6 L _ nLw hL5
    have hN6 := k6 N _ nwN hN5
    have hP6 := k6 Pp _ nP oP5
    have hT6 := k6 T _ nTw oT5
    refine ⟨L, _, _, j, _, rfl, rfl, hL6, by omega, by omega, by rw [nv_length]; exact seq_nat hjl, nv_get (List.getElem?_eq_getElem hjl), ?_⟩
    refine ⟨N, _, _, rfl, rfl, by rw [upd_ne nLN]; exact hN6, by rw [nv_length]; exact szl (by omega), ?_⟩
    refine ⟨_, rfl, kk (kk (k5.trans k6) hLn) hNn, (ww (ww w6 nLw) nwN).mono (by omega), by rw [upd_ne nPN, upd_ne nLP]; exact hP6, by rw [upd_ne nTN.symm, upd_ne nTL.symm]; exact hT6, nm ++ [lf[j]], lf.eraseIdx j, by rw [List.length_append, hnm]; rfl, ?_, by rw [upd_same, nv_append]; rfl, by rw [upd_ne nLN.symm, upd_same, nv_erase]⟩
    have pe := erase_perm lf j hjl
    rw [List.append_assoc]
    exact (List.Perm.append_left nm pe).trans hp
  rintro σ H8 ⟨v6, rfl, k5, w5, oP5, oT5, nm, lf, hnm, hp, hN5, hL5⟩
  have en : (((l.map hv).length : Nat) : Int).toNat = l.length := by rw [hlm]; omega
  rw [en] at hnm w5
  have hlf0 : lf = [] := by
    have z := hp.length_eq
    rw [List.length_append, List.length_range] at z
    exact List.eq_nil_of_length_eq_zero (by omega)
  subst hlf0
  rw [List.append_nil] at hp
  have hnl : ∀ j : Nat, j < l.length → ∃ v, nm[j]? = some v ∧ v < l.length := fun j hj => by
    have h1 : j < nm.length := by omega
    exact ⟨nm[j], List.getElem?_eq_getElem h1, List.mem_range.mp (hp.mem_iff.mp (List.getElem_mem h1))⟩
  have hnd : nm.Nodup := hp.nodup_iff.mpr List.nodup_range
  -- found
  refine ⟨_, rfl, _, _, rfl, .inl ⟨_, SqL.of oP5, rfl⟩, _, rfl, by rw [hlm]; omega, by rw [hlm]; omega, for_it walk_range0 (fun i σ H' => ∃ v6, σ = [some (.ref wl), some (.ref Pp), some (.ref N), v3, some (.ref L), some (.ref T), v6] ∧ Keep wl H H' ∧ Well H' wl (n + 1 + l.length) ∧ H' Pp = some (.lst (l.map hv)) ∧ H' N = some (.lst (nv nm)) ∧
      ∃ th : Hs, th.length = l.length ∧ (∀ (j v : Nat) (o : Option Nat), j < i → nm[j]? = some v → l[j]? = some o → th[v]? = some (ren nm o)) ∧ H' T = some (.lst (th.map hv)))
    ⟨v6, rfl, k5, w5, oP5, hN5, List.replicate l.length none, List.length_replicate, fun j v o hj => absurd hj (Nat.not_lt_zero j), oT5⟩ (fun _ _ _ _ _ => trivial) ?_ ?_⟩
  · rintro i x σ H9 H10 hi ⟨v6, rfl, k6, w6, oP6', hN6, th, hth, hr, hT6⟩ ⟨rfl, rfl⟩
    rw [en] at hi
    obtain ⟨v, ev, hv'⟩ := hnl i hi
    have eo : l[i]? = some l[i] := List.getElem?_eq_getElem hi
    generalize l[i] = o at eo
    have fin : ∀ x : V, x = hv (ren nm o) → gSub (tVar 5) (tOp (rIxL K) (tVar 2) (tVar 6)) rSetL x [some (.ref wl), some (.ref Pp), some (.ref N), v3, some (.ref L), some (.ref T), some (.int (i : Int))] H10
        (fun σ H' => ∃ v6, σ = [some (.ref wl), some (.ref Pp), some (.ref N), v3, some (.ref L), some (.ref T), v6] ∧ Keep wl H H' ∧ Well H' wl (n + 1 + l.length) ∧ H' Pp = some (.lst (l.map hv)) ∧ H' N = some (.lst (nv nm)) ∧
          ∃ th : Hs, th.length = l.length ∧ (∀ (j v : Nat) (o : Option Nat), j < i + 1 → nm[j]? = some v → l[j]? = some o → th[v]? = some (ren nm o)) ∧ H' T = some (.lst (th.map hv))) := by
      rintro x rfl
      refine ⟨_, rfl, _, rfl, _, rfl, N, _, _, _, rfl, rfl, SqL.of hN6, atI_nat (nv_get ev), T, _, _, v, rfl, rfl, hT6, by rw [List.length_map, hth]; exact ixN_nat hv', ?_⟩
      refine ⟨_, rfl, kk k6 hTn, ww w6 nTw, by rw [upd_ne nTP]; exact oP6', by rw [upd_ne nTN]; exact hN6, th.set v (ren nm o), by rw [List.length_set]; exact hth, ?_, by rw [upd_same, List.map_set]⟩
      intro j v' o' hj e1 e2
      by_cases hji : j = i
      · subst hji
        have q1 : v' = v := Option.some.inj (e1.symm.trans ev)
        have q2 : o' = o := Option.some.inj (e2.symm.trans eo)
        subst q1 q2
        exact List.getElem?_set_self (by rw [hth]; exact hv')
      · have hne : v ≠ v' := fun z => hji (nodup_at hnd e1 (by rw [← z]; exact ev))
        rw [List.getElem?_set_ne hne]
        exact hr j v' o' (by omega) e1 e2
    refine ⟨_, rfl, _, rfl, Pp, _, _, _, rfl, rfl, SqL.of oP6', atI_nat (hv_at eo), rfl, _, rfl, ?_⟩
    cases o with
    | none => exact iteT (fin _ rfl)
    | some u =>
      have hu := lt i u eo
      obtain ⟨vu, eu, _⟩ := hnl u (by omega)
      refine iteF ⟨_, rfl, _, rfl, _, rfl, Pp, _, _, _, rfl, rfl, SqL.of oP6', atI_nat (hv_at eo), N, _, _, _, rfl, rfl, SqL.of hN6, atI_nat (nv_get eu), fin _ ?_⟩
      show V.int (vu : Int) = V.int ((nm.getD u 0 : Nat) : Int)
      rw [List.getD_eq_getElem?_getD, eu]; rfl
  rintro σ H9 ⟨v6, rfl, k6, w6, oP6', hN6, th, hth, hr, hT6⟩
  rw [en] at hr
  refine ⟨_, rfl, T, _, rfl, .inl ⟨SqL.of hT6, fun t ht => ?_⟩⟩
  have w8 := w6.same ((Same.refl H9).new (o := .tup (th.map hv)) ht)
  have htn : H t = none := by
    cases et : H t with
    | none => rfl
    | some o =>
      have z := k6 t o (w6.ne ht) et
      rw [ht] at z; cases z
  refine q t th _ (fo_turned lne lt hp hth fun j v o e1 e2 => hr j v o ?_ e1 e2) (by omega) (by omega) (k6.new ht) (w8.mono (by omega)) htn upd_same
  exact (List.getElem?_eq_some_iff.mp e2).1
end

end My

namespace My
open PySem PySem.Spec PyProof.Rows L2
/-! ### the law's test of a long forest -/
theorem share_cross (a b : Int) : a / gcI a b * b = b / gcI a b * a := by
  have d1 : (gcI a b) ∣ a := by
    unfold gcI
    exact Int.gcd_dvd_left a b
  have d2 : (gcI a b) ∣ b := by
    unfold gcI
    exact Int.gcd_dvd_right a b
  obtain ⟨x, hx⟩ := d1
  obtain ⟨y, hy⟩ := d2
  by_cases c : gcI a b = 0
  · rw [c, Int.zero_mul] at hx hy
    rw [hx, hy]
  · have e1 : a / gcI a b = x := by
      conv => lhs; arg 1; rw [hx]
      exact Int.mul_ediv_cancel_left x c
    have e2 : b / gcI a b = y := by
      conv => lhs; arg 1; rw [hy]
      exact Int.mul_ediv_cancel_left y c
    rw [e1, e2]
    conv => lhs; arg 2; rw [hy]
    conv => rhs; arg 2; rw [hx]
    rw [← Int.mul_assoc, ← Int.mul_assoc, Int.mul_comm x, Int.mul_assoc, Int.mul_comm x, ← Int.mul_assoc, Int.mul_comm _ y, Int.mul_comm y]
theorem cwL_keep {hs : Hs} (fo : Fo hs) {ls : List (List Nat)} (st : Stg hs.length ls) (isf : IsFault hs ls none) : cwL hs ls = (((keepL hs ls).length : Nat) : Int) := by
  obtain ⟨_, okb, ke, _⟩ := oks_blocks fo st isf
  rw [← ke, allE_len fo _ _ (Pre.nil hs) okb]
  exact cwTo_prod hs _ fun l h => (blocks_ok st l h).1
def spGreat17 : Sp := fun vs H Q _ => ∃ (wl t : Addr) (n : Nat) (hs : Hs), vs = [.ref wl, .ref t] ∧ t ≠ wl ∧ Well H wl n ∧ n < 2 ^ 40 ∧ H t = some (.tup (hs.map hv)) ∧ Fo hs ∧ 40 ≤ hs.length ∧ hs.length ≤ 60 ∧ ∀ H', Keep wl H H' → Q (.bl true) H'
section
variable {P : Program} {w : World} {K : PySem.W.Frag} {mg : Str → Option Value} {base : Heap}
abbrev st__law_great_right : Stmt := topS 63
abbrev N__law_great_right : List Str := ["well", "plan", "row", "lots", "at", "k", "size", "whole", "lot", "share", "spot", "found"]
theorem sc__law_great_right : FnScope N__law_great_right ["well", "plan"] (defScope st__law_great_right) := ⟨rfl, rfl, rfl, by decide +kernel, rfl, by decide +kernel, by decide +kernel⟩
theorem ok__law_great_right (D : Df K mg "_law_great_right" st__law_great_right ["well", "plan"]) (B : Bl mg) (K_law_draw : Kn P w K mg base CX0 1 "_law_draw" st__law_draw ["well", "most"] spDrawW)
    (K_law_row : Kn P w K mg base CX0 3 "_law_row" st__law_row ["well", "plan"] spLRow) (K_law_rest : Kn P w K mg base CX0 2 "_law_rest" st__law_rest ["plan", "lots"] spLRest) (K_law_ways : Kn P w K mg base CX0 5 "_law_ways" st__law_ways ["plan", "some"] spLWays)
    (K_law_many : Kn P w K mg base CX0 4 "_law_many" st__law_many ["plan"] spLMany) (K_law_keeps : Kn P w K mg base CX0 1 "_law_keeps" st__law_keeps ["row", "lots"] spLKeeps) (K_law_rank : Kn P w K mg base CX0 6 "_law_rank" st__law_rank ["plan", "lots", "row"] spLRank)
    (K_law_end : Kn P w K mg base CX0 3 "_law_end" st__law_end ["plan", "lots", "side"] spLEnd) (Kcount_with : Kn P w K mg base (L2.CX P w) 9 "count_with" st_count_with ["forest", "stages"] (spCountW ()))
    (Kshare_with : Kn P w K mg base (L2.CX P w) 10 "share_with" st_share_with ["forest", "stages"] spShareW) (Knth_with : Kn P w K mg base (L2.CX P w) 11 "nth_with" st_nth_with ["forest", "stages", "index"] spNthW) :
    Kn P w K mg base CX0 12 "_law_great_right" st__law_great_right ["well", "plan"] spGreat17 := by
  refine D.ok sc__law_great_right (fun vs H Q E h => ?_) (fun f cdv A outer s H vs Q E hr h => ?_)
  · obtain ⟨wl, t, n, hs, rfl, _⟩ := h; rfl
  obtain ⟨wl, t, n, hs, rfl, ntw, hw, hn, hT, fo, h40, h60, q⟩ := h
  refine ⟨_, ((pss_cons (ps_par3 (i := 2) (j := 3) (l := 4) (by rfl) sc__law_great_right.nd rfl rfl rfl (by decide) (by decide) (by decide) rfl rfl rfl (pa_cons (pe_callF K_law_row (hr.mono (by decide)) pass0 (pa_cons (pv 0) (pa_cons (pv 1) pa_nil))) (pa_cons (pe_lst pa_nil) (pa_cons pe_int pa_nil))) (by rfl))
      (pss_cons (ps_for PassesOwn.never rfl (pi_range1 (by rfl) B.range (pa_cons (pe_callF K_law_draw (hr.mono (by decide)) pass0 (pa_cons (pv 0) (pa_cons pe_int pa_nil))) pa_nil)) (pg_name (i := 5) sc__law_great_right.nd rfl (Or.inl rfl)) (pss_cons (ps_set (i := 6) sc__law_great_right.nd rfl (Or.inl rfl) (pe_op op_add pe_int (pe_callF K_law_draw (hr.mono (by decide)) pass0 (pa_cons (pv 0) (pa_cons pe_int pa_nil)))))
      (pss_cons (ps_expr (pe_bm PySem.F.plainAttrs_list PySem.F.slot_list_append PySem.F.type_list_append mt_append (pv 3) (pa_cons (pe_callTy call_tuple_of (by rfl) B.tuple (by decide +kernel) (pa_cons (pe_callB cr_sorted (by rfl) B.sorted (by decide +kernel) (pa_cons (pe_slice sl_list (pv 2) (po_some (pv 4)) (po_some (pe_op op_add (pv 4) (pv 6)))) pa_nil)) pa_nil)) pa_nil)))
      (pss_one (ps_set (i := 4) sc__law_great_right.nd rfl (Or.inl rfl) (pe_op op_add (pv 4) (pv 6)))))))
      (pss_cons (ps_set (i := 7) sc__law_great_right.nd rfl (Or.inl rfl) pe_int)
      (pss_cons (ps_for PassesOwn.never rfl (pi_list (pe_callF K_law_rest (hr.mono (by decide)) pass0 (pa_cons (pv 1) (pa_cons (pv 3) pa_nil)))) (pg_name (i := 8) sc__law_great_right.nd rfl (Or.inl rfl)) (pss_one (ps_set (i := 7) sc__law_great_right.nd rfl (Or.inl rfl) (pe_op op_mulW (pv 7) (pe_callF K_law_ways (hr.mono (by decide)) pass0 (pa_cons (pv 1) (pa_cons (pv 8) pa_nil)))))))
      (pss_cons (ps_par (i := 9) (j := 10) (by rfl) sc__law_great_right.nd rfl rfl (by decide) rfl rfl (pa_cons (pe_callF Kshare_with (hr.mono (by decide)) passL (pa_cons (pv 1) (pa_cons (pv 3) pa_nil))) (pa_cons (pe_callF K_law_draw (hr.mono (by decide)) pass0 (pa_cons (pv 0) (pa_cons (pv 7) pa_nil))) pa_nil)) (by rfl))
      (pss_cons (ps_if (PW.pt (pw_or (pt_cmpR op_ne (pe_callF Kcount_with (hr.mono (by decide)) passL (pa_cons (pv 1) (pa_cons (pv 3) pa_nil))) (pv 7) (nomark _)) (pw_or1 (pt_cmpR op_ne (pe_op op_mulW (pe_ix ix_tup (pv 9) pe_int (fun _ _ => rfl)) (pe_callF K_law_many (hr.mono (by decide)) pass0 (pa_cons (pv 1) pa_nil))) (pe_op op_mulW (pe_ix ix_tup (pv 9) pe_int (fun _ _ => rfl)) (pv 7)) (nomark _))))) (pss_one (ps_ret pe_bl)) pss_nil)
      (pss_cons (ps_if (pt_cmpR (op_neD hr.units) (pe_callF Knth_with (hr.mono (by decide)) passL (pa_cons (pv 1) (pa_cons (pv 3) (pa_cons pe_int pa_nil)))) (pe_callF K_law_end (hr.mono (by decide)) pass0 (pa_cons (pv 1) (pa_cons (pv 3) (pa_cons pe_int pa_nil)))) (nomark _)) (pss_one (ps_ret pe_bl)) pss_nil)
      (pss_cons (ps_if (pt_cmpR (op_neD hr.units) (pe_callF Knth_with (hr.mono (by decide)) passL (pa_cons (pv 1) (pa_cons (pv 3) (pa_cons (pe_op op_sub (pv 7) pe_int) pa_nil)))) (pe_callF K_law_end (hr.mono (by decide)) pass0 (pa_cons (pv 1) (pa_cons (pv 3) (pa_cons (pe_un un_neg pe_int) pa_nil)))) (nomark _)) (pss_one (ps_ret pe_bl)) pss_nil)
      (pss_cons (ps_set (i := 11) sc__law_great_right.nd rfl (Or.inl rfl) (pe_callF Knth_with (hr.mono (by decide)) passL (pa_cons (pv 1) (pa_cons (pv 3) (pa_cons (pv 10) pa_nil)))))
      (pss_cons (ps_if (PW.pt (pw_or (pt_cmpR (op_neD hr.units) (pe_callB cr_sorted (by rfl) B.sorted (by decide +kernel) (pa_cons (pv 11) pa_nil)) (pe_listRg rfl (by rfl) B.list (prg_1 (by rfl) B.range (pe_callB call_len (by rfl) B.len (by decide +kernel) (pa_cons (pv 1) pa_nil)))) (nomark _)) (pw_or1 (pt_not (pt_val (pe_callF K_law_keeps (hr.mono (by decide)) pass0 (pa_cons (pv 11) (pa_cons (pv 3) pa_nil)))))))) (pss_one (ps_ret pe_bl)) pss_nil)
      (pss_one (ps_ret (pe_cmpR op_eq (pe_callF K_law_rank (hr.mono (by decide)) pass0 (pa_cons (pv 1) (pa_cons (pv 3) (pa_cons (pv 11) pa_nil)))) (pv 10) (nomark _))))))))))))))), ?_⟩
  have p40 : (2 : Nat) ^ 40 = 1099511627776 := by decide
  have p50 : (2 : Nat) ^ 50 = 1125899906842624 := by decide
  have p60 : (2 : Nat) ^ 60 = 1152921504606846976 := by decide
  have big : fct 60 < 2 ^ 1000 := by decide +kernel
  have big8 : fct 60 < 2 ^ 8000 := by decide +kernel
  have t4 : (4 : Nat) < 2 ^ 1000 := by decide +kernel
  have t3 : (3 : Nat) < 2 ^ 1000 := by decide +kernel
  have hlm : (hs.map hv).length = hs.length := List.length_map _
  -- row, lots, at
  refine ⟨_, rfl, _, rfl, wl, t, _, hs, rfl, ntw.symm, hw, by omega, hT, fo, by omega, fun r o H6 k6 w6 hr2 pm bh hr3 => ⟨by show 0 ≤ sizeLine; decide, fun F hF => ⟨_, _, _, rfl, ?_⟩⟩⟩
  have nrw : r ≠ wl := hw.ne hr2
  have ndo : o.Nodup := pm.nodup_iff.mpr List.nodup_range
  have lo0 := pm.length_eq
  rw [List.length_range] at lo0
  have s7 := (Same.refl H6).new (o := .lst []) hF
  have oF7 : upd H6 F (.lst []) F = some (.lst []) := upd_same
  have hFw : F ≠ wl := w6.ne hF
  generalize upd H6 F (.lst []) = H7 at s7 oF7 ⊢
  have hF0 : H F = none := by
    cases y : H F with
    | none => rfl
    | some u =>
      have z := k6 _ _ hFw y
      rw [z] at hF; cases hF
  have w7 := w6.same s7
  have k7 : Keep wl H H7 := k6.trans s7.keep
  have hr7 := s7 _ _ hr3
  -- for k in range(..)
  refine ⟨_, rfl, wl, _, 3, rfl, w7, by omega, by decide, t3, fun d H8 d0 d1 k8 w8 => ?_⟩
  have nrF : r ≠ F := ne_of_none hr3 hF
  refine ⟨_, rfl, by omega, by omega, for_it walk_range0 (fun i σ H' => ∃ (at_ : Nat) (ls : List (List Nat)) (xs : List V) (v5 v6 : Option V), σ = [some (.ref wl), some (.ref t), some (.ref r), some (.ref F), some (.int (at_ : Int)), v5, v6, none, none, none, none, none] ∧ Keep wl H H' ∧ Well H' wl (n + 100 + 2 * i) ∧ H' F = some (.lst xs) ∧ LotsX H' xs ls ∧ LotOf o ls ∧ ls.flatten.length = at_ ∧ at_ ≤ 4 * i ∧ H' r = some (.lst (nv o)))
    ⟨0, [], [], none, none, rfl, k7.trans k8, w8.mono (by omega), k8 _ _ hFw oF7, ⟨rfl, fun i x l e _ => by cases e⟩, LotOf.nil, rfl, by omega, k8 _ _ nrw hr7⟩ (fun _ _ _ _ _ => trivial) ?_ ?_⟩
  · rintro i x σ H9 H9' hi ⟨at_, ls, xs, v5, v6, rfl, k9, w9, oF, lx, lof, hat, hal, hr9⟩ ⟨rfl, rfl⟩
    have hi2 : i ≤ 2 := by omega
    refine ⟨_, rfl, wl, _, 4, rfl, w9, by omega, by decide, t4, fun e Ha e0 e1 ka wa => ⟨_, _, rfl, rfl, ?_⟩⟩
    obtain ⟨en, rfl⟩ : ∃ en : Nat, e = (en : Int) := ⟨e.toNat, by omega⟩
    have ora := ka _ _ nrw hr9
    have oFa := ka _ _ hFw oF
    have lxa := lx.keep ka (w9.here.choose_spec)
    obtain ⟨sz, hsz, hpos, hs4⟩ : ∃ sz : Nat, (1 : Int) + (en : Int) = (sz : Int) ∧ 0 < sz ∧ sz ≤ 4 := ⟨1 + en, by omega, by omega, by omega⟩
    have ec : cutV (nv o) (some (at_ : Int)) (some ((at_ : Int) + (1 + (en : Int)))) = nv ((o.drop at_).take sz) := by
      have z := cut_mid (nv o) (i := at_) (j := at_ + sz) (by omega) (by rw [nv_length]; omega)
      rw [hsz, show ((at_ : Int) + (sz : Int)) = ((at_ + sz : Nat) : Int) by omega, z, nv_drop, nv_take, Nat.add_sub_cancel_left]
    refine ⟨_, rfl, .inl ⟨rfl, _, SqL.of oFa⟩, _, rfl, _, rfl, _, rfl, _, rfl, _, rfl, _, _, rfl, rfl, _, rfl, r, _, rfl, SqL.of ora, fun p hp => ?_⟩
    dsimp only
    rw [ec]
    have s9 := (Same.refl Ha).new (o := .lst (nv ((o.drop at_).take sz))) hp
    have p9 : upd Ha p (.lst (nv ((o.drop at_).take sz))) p = some (.lst (nv ((o.drop at_).take sz))) := upd_same
    generalize upd Ha p (.lst (nv ((o.drop at_).take sz))) = Hb at s9 p9 ⊢
    have hcl : ((o.drop at_).take sz).length = sz := by rw [List.length_take, List.length_drop]; omega
    have ndc : ((o.drop at_).take sz).Nodup := (List.take_sublist _ _).nodup ((List.drop_sublist _ _).nodup ndo)
    refine ⟨p, ((o.drop at_).take sz).map fun v : Nat => (v : Int), rfl, by rw [List.map_map]; exact SqL.of p9, by rw [List.length_map]; omega, fun ms p2 pm2 rise hp2 => ?_⟩
    obtain ⟨ns, rfl, pn, up⟩ := up_nat pm2 rise ndc
    rw [← nv_ints]
    have s10 := s9.new (o := .lst (nv ns)) hp2
    have p10 : upd Hb p2 (.lst (nv ns)) p2 = some (.lst (nv ns)) := upd_same
    generalize upd Hb p2 (.lst (nv ns)) = Hc at s10 p10 ⊢
    refine ⟨p2, _, rfl, .inl ⟨SqL.of p10, fun T hT9 => ?_⟩⟩
    have s11 := s10.new (o := .tup (nv ns)) hT9
    have t11 : upd Hc T (.tup (nv ns)) T = some (.tup (nv ns)) := upd_same
    generalize upd Hc T (.tup (nv ns)) = Hd at s11 t11 ⊢
    have f11 := s11 _ _ oFa
    have nsl : ns.length = sz := pn.length_eq.trans hcl
    have lxl := lxa.1
    have lmany := flat_ge lof.ne
    refine ⟨F, _, _, rfl, rfl, f11, szl (by omega), ?_⟩
    have nT : T ≠ F := fun z => by rw [z, f11] at t11; cases t11
    refine ⟨_, rfl, _, rfl, _, _, rfl, rfl, ?_⟩
    refine ⟨at_ + sz, ls ++ [ns], xs ++ [.ref T], some (.int (i : Int)), some (.int (1 + (en : Int))), ?_, ?_, ((wa.same s11).put hFw).mono (by omega), upd_same, ((lxa.same s11).put f11).snoc ⟨T, rfl, (upd_ne nT).trans t11⟩, lof.snoc ?_ up ?_, ?_, by omega, (upd_ne nrF).trans (s11 _ _ ora)⟩
    · rw [show ((at_ + sz : Nat) : Int) = (at_ : Int) + (1 + (en : Int)) by omega]; rfl
    · intro b u hb e
      have nb : b ≠ F := fun z => by rw [z, hF0] at e; cases e
      rw [upd_ne nb]; exact ((k9.trans ka).trans s11.keep) b u hb e
    · intro z; rw [z] at nsl; simp at nsl; omega
    · rw [hat, nsl]; exact pn
    · rw [List.flatten_append, List.flatten_singleton, List.length_append, hat, nsl]
  rintro σ H9 ⟨at_, ls, xs, v5, v6, rfl, k9, w9, oF, lx, lof, hat, hal, hr9⟩
  have lots9 : Lots H9 F ls := ⟨xs, oF, lx⟩
  have st : Stg hs.length ls := lof.stg ndo fun v hv' => List.mem_range.mp (pm.mem_iff.mp hv')
  have isf := lot_none lof ndo bh
  have hT9 := k9 _ _ ntw hT
  have w9 : Well H9 wl (n + 200) := w9.mono (by omega)
  -- whole
  refine ⟨_, rfl, _, rfl, t, F, hs, ls, rfl, hT9, by omega, lots9, st, fun R as H2 s2 hR0 hR wr _ => ?_⟩
  have hT2 := s2 _ _ hT9
  obtain ⟨kp1, kp2, kp3⟩ := keepL_prod fo st isf
  have cwp := cwL_keep fo st isf
  have bnd := blocks_nd st
  have fl0 := rest_pre_all st
  obtain ⟨okb, _, _, ke⟩ := oks_blocks fo st isf
  have eF := allE_end fo false _ [] (Pre.nil hs) okb
  have eT := allE_end fo true _ [] (Pre.nil hs) okb
  rw [ke] at eF eT
  generalize hbs : ls ++ [restL hs.length ls] = bs at wr kp1 kp2 kp3 bnd fl0 eF eT
  have lb := wr.len
  have m60 := fct_mono h60
  refine ⟨R, rfl, ⟨_, SqL.of hR⟩, for_it (walk_list (xs := as.map V.ref)) (fun i σ H' => ∃ v8, σ = [some (.ref wl), some (.ref t), some (.ref r), some (.ref F), some (.int (at_ : Int)), v5, v6, some (.int (prodB hs (bs.take i))), v8, none, none, none] ∧ Same H2 H') ⟨none, rfl, Same.refl H2⟩ (fun i σ H' _ z => ?_) ?_ ?_⟩
  · obtain ⟨_, _, z⟩ := z
    exact SqL.of (z _ _ hR)
  · rintro i x σ H3 H4 hi ⟨v8, rfl, s3⟩ ⟨rfl, e1⟩
    obtain ⟨qa, eq, rfl⟩ := ref_at e1
    have il : i < bs.length := by
      have z := (List.getElem?_eq_some_iff.mp eq).1
      omega
    have el : bs[i]? = some bs[i] := List.getElem?_eq_getElem il
    have hq := (wr.same s3).at_ i qa _ eq el
    have tk : bs.take (i + 1) = bs.take i ++ [bs[i]] := by rw [List.take_add_one, el]; rfl
    obtain ⟨b1, b2, b3⟩ := bnd _ (List.mem_of_getElem? el)
    generalize bs[i] = l at el hq tk b1 b2 b3
    refine ⟨_, rfl, _, rfl, _, rfl, t, qa, hs, l, rfl, s3 _ _ hT2, hq, fo, b1, b2, by omega, fun H5 s5 => ?_⟩
    have c1 := prodB_bd fo (bs := bs.take i) fun l h => ⟨(bnd l (List.mem_of_mem_take h)).1, (bnd l (List.mem_of_mem_take h)).2.1⟩
    have c2 := blockN_bd fo b1 b2
    have m1 := fct_mono (show (bs.take i).flatten.length ≤ 60 by have := flat_len (ls := bs) i; omega)
    have m2 := fct_mono (show l.length ≤ 60 by omega)
    exact ⟨_, _, rfl, rfl, wide_mul (a := 1000) (b := 1000) (by omega) (by omega) (by decide) (by decide) (by decide), some (.ref qa), by rw [tk, prodB_snoc]; rfl, s3.trans s5⟩
  rintro σ H3 ⟨v8, rfl, s3⟩
  have et : bs.take (as.map V.ref).length = bs := by rw [List.length_map, lb, List.take_length]
  rw [et, ← kp1]
  rw [← kp1] at kp2 kp3
  have lpos : 0 < (keepL hs ls).length := by omega
  have s93 := s2.trans s3
  have w3 := w9.same s93
  have hT3 := s93 _ _ hT9
  have lots3 := lots9.same s93
  have k3 := k9.trans s93.keep
  clear et wr hR hR0 lb
  -- share, spot
  have c1 := cnt_pos fo
  have cb := cnt_bd fo
  refine ⟨_, rfl, _, rfl, t, F, hs, ls, rfl, hT3, fo, by omega, c1, lots3, st, fun r4 S4 H4 isf4 s4 hS0 hS4 => ?_⟩
  have er4 := isf.same isf4
  subst er4
  have hS4 : H4 S4 = some (.tup (lwV (cwL hs ls) (cntL hs))) := hS4
  rw [cwp] at hS4
  have w4 := w3.same s4
  have nSw : S4 ≠ wl := w3.ne hS0
  refine ⟨_, rfl, _, rfl, wl, _, _, rfl, w4, by omega, by omega, by omega, fun d H5 d0 d1 k5 w5 => ⟨_, _, rfl, ?_⟩⟩
  obtain ⟨dn, rfl⟩ : ∃ dn : Nat, d = (dn : Int) := ⟨d.toNat, by omega⟩
  have hT5 := k5 _ _ ntw (s4 _ _ hT3)
  have lots5 := (lots3.same s4).keepW k5 hFw w4
  have hS5 := k5 _ _ nSw hS4
  have k05 : Keep wl H H5 := (k3.trans s4.keep).trans k5
  -- count_with, share
  refine ⟨_, rfl, _, rfl, t, F, hs, ls, rfl, hT5, fo, by omega, lots5, st, fun r6 G6 isf6 g6 => ?_⟩
  have er6 := isf.same isf6
  subst er6
  rw [show (if (none : Option (Nat × Nat)).isSome = true then (0 : Int) else cwL hs ls) = (((keepL hs ls).length : Nat) : Int) from cwp]
  refine ⟨_, rfl, rfl, _, rfl, iteF' (by rw [decide_eq_true rfl]; rfl) ?_⟩
  have m0 : (((keepL hs ls).length : Nat) : Int) / gcI (((keepL hs ls).length : Nat) : Int) (cntL hs) ≤ (((keepL hs ls).length : Nat) : Int) := Int.ediv_le_self _ (by omega)
  have m0' : 0 ≤ (((keepL hs ls).length : Nat) : Int) / gcI (((keepL hs ls).length : Nat) : Int) (cntL hs) := Int.ediv_nonneg (by omega) (Int.le_of_lt (gcI_pos c1))
  have m1 : cntL hs / gcI (((keepL hs ls).length : Nat) : Int) (cntL hs) ≤ cntL hs := Int.ediv_le_self _ (by omega)
  have m1' : 0 ≤ cntL hs / gcI (((keepL hs ls).length : Nat) : Int) (cntL hs) := Int.ediv_nonneg (by omega) (Int.le_of_lt (gcI_pos c1))
  refine ⟨_, rfl, S4, _, _, _, rfl, rfl, SqT.of (g6 _ _ hS5), atI_nat (j := 0) rfl, _, rfl, t, hs, rfl, g6 _ _ hT5, fun _ => fo, by omega, fun G7 g7 => ?_⟩
  refine ⟨_, _, rfl, rfl, wide_mul (a := 1000) (b := 1000) (by omega) (by omega) (by decide) (by decide) (by decide), ?_⟩
  have g67 := g6.trans g7
  refine ⟨_, rfl, S4, _, _, _, rfl, rfl, SqT.of (g67 _ _ hS5), atI_nat (j := 1) rfl, _, rfl, _, _, rfl, rfl, wide_mul (a := 1000) (b := 1000) (by omega) (by omega) (by decide) (by decide) (by decide), ?_⟩
  refine ⟨rfl, _, rfl, iteF' (by rw [decide_eq_true (congrArg V.int (share_cross _ _))]; rfl) ?_⟩
  have hT7 := g67 _ _ hT5
  have lots7 := lots5.same g67
  have k07 : Keep wl H G7 := k05.trans g67.keep
  clear g6 g7 g67 isf6 isf4 hT5 lots5 s4 hS4
  -- the first one
  have r0 : (keepL hs ls)[0]? = some (endA hs false bs) := by
    rw [← List.head?_eq_getElem?]; exact eF
  have r1 : (keepL hs ls)[(keepL hs ls).length - 1]? = some (endA hs true bs) := by
    rw [← List.getLast?_eq_getElem?]; exact eT
  refine ⟨_, rfl, _, rfl, t, F, hs, ls, 0, _, rfl, hT7, fo, by omega, lots7, st, isf, r0, fun A1 K1 k1 a10 a1 => ?_⟩
  refine ⟨_, rfl, _, rfl, t, F, hs, ls, false, rfl, k1 _ _ hT7, fo, by omega, lots7.same k1, st, isf, fun A2 K2 k2 a20 a2 => ?_⟩
  rw [hbs] at a2
  refine ⟨_, _, dp_list (k2 _ _ a1), dp_list a2, shaped_nD _, shaped_nD _, _, rfl, ?_⟩
  rw [eqv_list, eqv_nD, decide_eq_true rfl]
  refine iteF' rfl ?_
  have k12 := k1.trans k2
  -- the last one
  refine ⟨_, rfl, _, rfl, _, rfl, _, _, rfl, rfl, t, F, hs, ls, (keepL hs ls).length - 1, _, ?_, k12 _ _ hT7, fo, by omega, lots7.same k12, st, isf, r1, fun A3 K3 k3' a30 a3 => ?_⟩
  · rw [show (((keepL hs ls).length - 1 : Nat) : Int) = (((keepL hs ls).length : Nat) : Int) - 1 by omega]; rfl
  have k13 := k12.trans k3'
  refine ⟨_, rfl, _, rfl, _, rfl, t, F, hs, ls, true, rfl, k13 _ _ hT7, fo, by omega, lots7.same k13, st, isf, fun A4 K4 k4' a40 a4 => ?_⟩
  rw [hbs] at a4
  refine ⟨_, _, dp_list (k4' _ _ a3), dp_list a4, shaped_nD _, shaped_nD _, _, rfl, ?_⟩
  rw [eqv_list, eqv_nD, decide_eq_true rfl]
  refine iteF' rfl ?_
  have k14 := k13.trans k4'
  -- a drawn one
  have sl : dn < (keepL hs ls).length := by omega
  have er : (keepL hs ls)[dn]? = some (keepL hs ls)[dn] := List.getElem?_eq_getElem sl
  generalize (keepL hs ls)[dn] = row at er
  have mem := List.mem_of_getElem? er
  obtain ⟨lr, pr⟩ := keepL_len mem
  refine ⟨_, rfl, _, rfl, _, rfl, t, F, hs, ls, dn, row, rfl, k14 _ _ hT7, fo, by omega, lots7.same k14, st, isf, er, fun W K5 k5' hW0 hW => ?_⟩
  have k15 := k14.trans k5'
  refine ⟨_, rfl, W, row.map fun v : Nat => (v : Int), rfl, by rw [← nv_ints]; exact SqL.of hW, by rw [List.length_map]; omega, fun ns p2 pm2 pw hp2 => ?_⟩
  obtain ⟨ks, rfl, pk, pwk⟩ := up_nat pm2 pw pr.nd
  have ek : ks = List.range hs.length := asc_same pwk List.pairwise_lt_range (pk.trans (keepL_perm mem))
  rw [← nv_ints, ek]
  have sd := k15.new (o := .lst (nv (List.range hs.length))) hp2
  have od := (Same.refl K5).new (o := .lst (nv (List.range hs.length))) hp2
  have o2 : upd K5 p2 (.lst (nv (List.range hs.length))) p2 = some (.lst (nv (List.range hs.length))) := upd_same
  have hWd := od _ _ hW
  generalize upd K5 p2 (.lst (nv (List.range hs.length))) = He at sd o2 hWd ⊢
  refine ⟨_, rfl, _, _, rfl, .inr ⟨_, SqT.of (sd _ _ hT7), rfl⟩, ?_⟩
  rw [List.length_map]
  refine ⟨_, rfl, RgOk.of_le (by omega) (by omega) (by omega) (by omega), fun L hL => ?_⟩
  rw [nv_range]
  have se := sd.new (o := .lst (nv (List.range hs.length))) hL
  have oe := (Same.refl He).new (o := .lst (nv (List.range hs.length))) hL
  have oL : upd He L (.lst (nv (List.range hs.length))) L = some (.lst (nv (List.range hs.length))) := upd_same
  have o2e := oe _ _ o2
  have hWe := oe _ _ hWd
  generalize upd He L (.lst (nv (List.range hs.length))) = Hf at se oL o2e hWe ⊢
  refine ⟨_, _, dp_list o2e, dp_list oL, shaped_nD _, shaped_nD _, _, rfl, ?_⟩
  rw [eqv_list, eqv_nD, decide_eq_true rfl]
  refine iteF' rfl ⟨_, rfl, _, rfl, W, F, hs.length, row, ls, rfl, hWe, pr.nd, lr, by omega, lots7.same se, st, fun Hg sg => ?_⟩
  have kb : keepsB row ls = true := (List.mem_filter.mp mem).2
  rw [kb]
  refine ⟨_, rfl, iteF ?_⟩
  have sg7 := se.trans sg
  refine ⟨_, rfl, _, rfl, _, rfl, t, F, W, hs, ls, row, dn, rfl, sg7 _ _ hT7, fo, by omega, lots7.same sg7, st, isf, sg _ _ hWe, er, fun Hj sj => ?_⟩
  refine ⟨_, rfl, rfl, ?_⟩
  rw [decide_eq_true rfl]
  exact q Hj (k07.trans (sg7.trans sj).keep)
end

end My

namespace My
open PySem PySem.Spec PyProof.Rows L2
/-! ### facts about a heap, kept together -/
structure Kp (H0 H : Hp) (L : List (Addr × HO)) : Prop where
  same : Same H0 H
  has : ∀ q ∈ L, H q.1 = some q.2
theorem Kp.start {H : Hp} : Kp H H [] := ⟨Same.refl H, fun _ h => absurd h List.not_mem_nil⟩
theorem Kp.new {H0 H : Hp} {L : List (Addr × HO)} {p : Addr} {o : HO} (k : Kp H0 H L) (hp : H p = none) : Kp H0 (upd H p o) ((p, o) :: L) := ⟨k.same.new hp, fun q hq => by
  rcases List.mem_cons.mp hq with rfl | hq
  · exact upd_same
  · exact (upd_ne (ne_of_none (k.has q hq) hp)).trans (k.has q hq)⟩
theorem ne_of_hold {H : Hp} {L : List (Addr × HO)} {p : Addr} (h : ∀ q ∈ L, H q.1 = some q.2) (hp : H p = none) : ∀ q ∈ L, q.1 ≠ p := fun q hq => ne_of_none (h q hq) hp
theorem Kp.at {H0 H : Hp} {L : List (Addr × HO)} {p : Addr} {o : HO} (k : Kp H0 H L) (i : Nat) (e : L[i]? = some (p, o) := by rfl) : H p = some o := k.has _ (List.mem_of_getElem? e)
theorem Kp.to {H0 H H' : Hp} {L : List (Addr × HO)} (k : Kp H0 H L) (s : Same H H') : Kp H0 H' L := ⟨k.same.trans s, fun q hq => s _ _ (k.has q hq)⟩
theorem Kp.add {H0 H : Hp} {L : List (Addr × HO)} {p : Addr} {o : HO} (k : Kp H0 H L) (h : H p = some o) : Kp H0 H ((p, o) :: L) := ⟨k.same, fun q hq => by
  rcases List.mem_cons.mp hq with rfl | hq
  · exact h
  · exact k.has q hq⟩

def fiveH : Hs := [none, some 0, some 0, some 1, none]
theorem fo_five : Fo fiveH := fo_plain (by intro z; cases z) fun j u e => by
  rcases j with _ | _ | _ | _ | _ | j
  · cases e
  · cases e; decide
  · cases e; decide
  · cases e; decide
  · cases e
  · cases e
def faultB (hs : Hs) (ls : List (List Nat)) : Option (Nat × Nat) → Bool
  | none => (List.range ls.length).all fun i => (wrongIn hs (ls.take (i + 1)).flatten (ls.getD i [])).isEmpty
  | some (i, v) => (List.range i).all (fun j => (wrongIn hs (ls.take (j + 1)).flatten (ls.getD j [])).isEmpty) && decide (i < ls.length) && decide ((wrongIn hs (ls.take (i + 1)).flatten (ls.getD i [])).head? = some v)
theorem faultB_is {hs : Hs} {ls : List (List Nat)} : ∀ {r : Option (Nat × Nat)}, faultB hs ls r = true → IsFault hs ls r
  | none, h => fun i l e => by
    have z := List.all_eq_true.mp h i (List.mem_range.mpr (List.getElem?_eq_some_iff.mp e).1)
    rw [List.getD_eq_getElem?_getD, e] at z
    exact List.isEmpty_iff.mp z
  | some (i, v), h => by
    have h' : ((List.range i).all (fun j => (wrongIn hs (ls.take (j + 1)).flatten (ls.getD j [])).isEmpty) && decide (i < ls.length) && decide ((wrongIn hs (ls.take (i + 1)).flatten (ls.getD i [])).head? = some v)) = true := h
    rw [Bool.and_eq_true, Bool.and_eq_true, decide_eq_true_eq, decide_eq_true_eq] at h'
    obtain ⟨⟨h1, h2⟩, h3⟩ := h'
    refine ⟨fun j m c e => ?_, ls[i], ?_⟩
    · have z := List.all_eq_true.mp h1 j (List.mem_range.mpr c)
      rw [List.getD_eq_getElem?_getD, e] at z
      exact List.isEmpty_iff.mp z
    · rw [List.getD_eq_getElem?_getD, List.getElem?_eq_getElem h2] at h3
      obtain ⟨rest, er⟩ := List.head?_eq_some_iff.mp h3
      exact ⟨rest, List.getElem?_eq_getElem h2, er⟩

theorem lots0 {H : Hp} {p : Addr} (h : H p = some (.lst [])) : Lots H p [] := ⟨[], h, .nil⟩
theorem lots1 {H : Hp} {p a : Addr} {l : List Nat} (h : H p = some (.lst [.ref a])) (ha : H a = some (.tup (nv l))) : Lots H p [l] := ⟨_, h, LotsX.nil.snoc ⟨a, rfl, ha⟩⟩
theorem lots2 {H : Hp} {p a b : Addr} {l m : List Nat} (h : H p = some (.lst [.ref a, .ref b])) (ha : H a = some (.tup (nv l))) (hb : H b = some (.tup (nv m))) : Lots H p [l, m] := ⟨_, h, (LotsX.nil.snoc ⟨a, rfl, ha⟩).snoc ⟨b, rfl, hb⟩⟩
theorem lots3 {H : Hp} {p a b c : Addr} {l m n : List Nat} (h : H p = some (.lst [.ref a, .ref b, .ref c])) (ha : H a = some (.tup (nv l))) (hb : H b = some (.tup (nv m))) (hc : H c = some (.tup (nv n))) : Lots H p [l, m, n] := ⟨_, h, ((LotsX.nil.snoc ⟨a, rfl, ha⟩).snoc ⟨b, rfl, hb⟩).snoc ⟨c, rfl, hc⟩⟩

theorem rps_rows {H : Hp} : ∀ {as : List Addr} {rs : List (List Nat)}, Rws H as rs → Rps false H (as.map V.ref) (rwD rs)
  | [], [], _ => .nil
  | [], _ :: _, h => by have := h.len; cases this
  | _ :: _, [], h => by have := h.len; cases this
  | a :: as, r :: rs, h => .cons (.lst (h.at_ 0 a r rfl rfl) (fun z => by cases z) (rps_nv r)) (rps_rows ⟨Nat.succ.inj h.len, fun i p q e1 e2 => h.at_ (i + 1) p q e1 e2⟩)
def fourR : List (List Nat) := [[0, 4, 1, 2, 3], [0, 4, 1, 3, 2], [4, 0, 1, 2, 3], [4, 0, 1, 3, 2]]
theorem keep_four : keepL fiveH [[0, 4], [1]] = fourR := by decide +kernel
theorem keep_ten : (keepL fiveH [])[10]? = some [0, 4, 1, 3, 2] := by decide +kernel
section
variable {P : Program} {w : World} {K : PySem.W.Frag} {mg : Str → Option Value} {base : Heap}
abbrev st_law : Stmt := topS 64
abbrev N_law : List Str := ["script", "well", "at", "plan", "found", "due", "spot"]
theorem sc_law : FnScope N_law ["script"] (defScope st_law) := ⟨rfl, rfl, rfl, by decide +kernel, rfl, by decide +kernel, by decide +kernel⟩
theorem ok_law {f : Addr} {fd : FuncData} (F : Fun K "law" "law" st_law f fd) (B : Bl mg) (K_law_well : Kn P w K mg base CX0 1 "_law_well" st__law_well ["script", "at"] (spWell K))
    (K_law_forest : Kn P w K mg base CX0 3 "_law_forest" st__law_forest ["well", "most"] spLForest) (K_law_long : Kn P w K mg base CX0 2 "_law_long" st__law_long ["well"] spLLong)
    (K_law_small_right : KnQ P w K mg base 13 "_law_small_right" st__law_small_right ["well", "plan"] spSmall17) (K_law_large_right : Kn P w K mg base CX0 12 "_law_large_right" st__law_large_right ["well", "plan"] spLarge17)
    (K_law_great_right : Kn P w K mg base CX0 12 "_law_great_right" st__law_great_right ["well", "plan"] spGreat17) (K_law_same : Kn P w K mg base CX0 3 "_law_same" st__law_same ["found", "due"] (spSame 3))
    (Knth_with : Kn P w K mg base (L2.CX P w) 11 "nth_with" st_nth_with ["forest", "stages", "index"] spNthW) :
    Qui P w K mg base 14 f fd ["script"] (spLaw K) := by
  refine F.quiet sc_law (fun vs H Q E h => ?_) (fun cdv A outer s H vs Q E hr hq h => ?_)
  · obtain ⟨a, ns, rfl, _⟩ := h; rfl
  obtain ⟨a, ns, rfl, hS, hns, q⟩ := h
  refine ⟨_, ((pss_cons (ps_set (i := 1) sc_law.nd rfl (Or.inl rfl) (pe_callF K_law_well (hr.mono (by decide)) pass0 (pa_cons (pv 0) (pa_cons pe_int pa_nil))))
      (pss_cons (ps_if (pt_not (pt_val (pe_callF K_law_great_right (hr.mono (by decide)) pass0 (pa_cons (pv 1) (pa_cons (pe_callF K_law_long (hr.mono (by decide)) pass0 (pa_cons (pv 1) pa_nil)) pa_nil))))) (pss_one (ps_ret pe_bl)) pss_nil)
      (pss_cons (ps_for PassesOwn.never rfl (pi_range1 (by rfl) B.range (pa_cons (pe_callB (call_max2 rfl) (by rfl) B.max (by decide +kernel) (pa_cons pe_int (pa_cons (pe_callB (call_min2 rfl) (by rfl) B.min (by decide +kernel) (pa_cons pe_int (pa_cons (pe_callB call_len (by rfl) B.len (by decide +kernel) (pa_cons (pv 0) pa_nil)) pa_nil))) pa_nil))) pa_nil)) (pg_name (i := 2) sc_law.nd rfl (Or.inl rfl)) (pss_cons (ps_set (i := 1) sc_law.nd rfl (Or.inl rfl) (pe_callF K_law_well (hr.mono (by decide)) pass0 (pa_cons (pv 0) (pa_cons (pv 2) pa_nil))))
      (pss_cons (ps_if (PW.pt (pw_or (pt_not (pt_val (pe_callQ (E := fun _ _ _ => False) K_law_small_right (hr.mono (by decide)) hq (pa_cons (pv 1) (pa_cons (pe_callF K_law_forest (hr.mono (by decide)) pass0 (pa_cons (pv 1) (pa_cons pe_int pa_nil))) pa_nil))))) (pw_or1 (pt_not (pt_val (pe_callQ (E := fun _ _ _ => False) K_law_small_right (hr.mono (by decide)) hq (pa_cons (pv 1) (pa_cons (pe_callF K_law_forest (hr.mono (by decide)) pass0 (pa_cons (pv 1) (pa_cons pe_int pa_nil))) pa_nil)))))))) (pss_one (ps_ret pe_bl)) pss_nil)
      (pss_one (ps_if (pt_not (pt_val (pe_callF K_law_large_right (hr.mono (by decide)) pass0 (pa_cons (pv 1) (pa_cons (pe_callF K_law_forest (hr.mono (by decide)) pass0 (pa_cons (pv 1) (pa_cons pe_int pa_nil))) pa_nil))))) (pss_one (ps_ret pe_bl)) pss_nil)))))
      (pss_cons (ps_set (i := 3) sc_law.nd rfl (Or.inr rfl) (pe_tup (pa_cons pe_non (pa_cons pe_int (pa_cons pe_int (pa_cons pe_int (pa_cons pe_non pa_nil)))))))
      (pss_cons (ps_set (i := 4) sc_law.nd rfl (Or.inl rfl) (pe_op op_cat (pe_lc (own := [("spot", 6)]) (g := gName 6) rfl sc_law.nd (pi_tup (pe_tup (pa_cons pe_int (pa_cons pe_int (pa_cons pe_int (pa_cons pe_int pa_nil)))))) (blkOk_by (N := N_law) (sc := defScope st_law) (own := [("spot", 6)]) (by decide +kernel)) (fun _ _ _ _ _ => by (exact (pg_name (i := 6) sc_law.nd rfl (Or.inl rfl)))) (fun _ _ _ _ _ => by exact pts_nil) (fun _ _ _ _ _ => by exact (pe_callF Knth_with (hr.mono (by decide)) passL (pa_cons (pv 3) (pa_cons (pe_lst (pa_cons (pe_tup (pa_cons pe_int (pa_cons pe_int pa_nil))) (pa_cons (pe_tup (pa_cons pe_int pa_nil)) pa_nil))) (pa_cons (pv 6) pa_nil)))))) (pe_lst (pa_cons (pe_callF Knth_with (hr.mono (by decide)) passL (pa_cons (pv 3) (pa_cons (pe_lst pa_nil) (pa_cons pe_int pa_nil)))) pa_nil))))
      (pss_cons (ps_set (i := 5) sc_law.nd rfl (Or.inl rfl) (pe_lst (pa_cons (pe_lst (pa_cons pe_int (pa_cons pe_int (pa_cons pe_int (pa_cons pe_int (pa_cons pe_int pa_nil)))))) (pa_cons (pe_lst (pa_cons pe_int (pa_cons pe_int (pa_cons pe_int (pa_cons pe_int (pa_cons pe_int pa_nil)))))) (pa_cons (pe_lst (pa_cons pe_int (pa_cons pe_int (pa_cons pe_int (pa_cons pe_int (pa_cons pe_int pa_nil)))))) (pa_cons (pe_lst (pa_cons pe_int (pa_cons pe_int (pa_cons pe_int (pa_cons pe_int (pa_cons pe_int pa_nil)))))) (pa_cons (pe_lst (pa_cons pe_int (pa_cons pe_int (pa_cons pe_int (pa_cons pe_int (pa_cons pe_int pa_nil)))))) pa_nil)))))))
      (pss_one (ps_ret (pe_callF K_law_same (hr.mono (by decide)) pass0 (pa_cons (pv 4) (pa_cons (pv 5) pa_nil)))))))))))), ?_⟩
  have p40 : (2 : Nat) ^ 40 = 1099511627776 := by decide
  have p50 : (2 : Nat) ^ 50 = 1125899906842624 := by decide
  have lns : (ns.map V.int).length = ns.length := List.length_map _
  refine ⟨_, rfl, a, ns, 0, rfl, hS, by omega, fun wl H1 s1 hwl w1 => ?_⟩
  refine ⟨_, rfl, _, rfl, wl, 0, rfl, w1, by omega, fun t hs H2 fo h40 h60 k2 w2 ht hT => ?_⟩
  have ntw : t ≠ wl := w1.ne ht
  refine ⟨wl, t, _, hs, rfl, ntw, w2, by omega, hT, fo, h40, h60, fun H3 k3 => ⟨_, rfl, iteF ?_⟩⟩
  have s3 : Same H H3 := thenK s1 hwl (k2.trans k3)
  clear hT ht ntw k2 k3 w2 w1 fo h40 h60
  refine ⟨_, rfl, _, _, rfl, .inl ⟨_, s3.seq hS, rfl⟩, _, _, rfl, _, _, rfl, _, rfl, by split <;> omega, by split <;> (try split) <;> omega, for_it walk_range0 (fun i σ H' => (∃ v1 v2, σ = [some (.ref a), v1, v2, none, none, none, none]) ∧ Same H H')
    ⟨⟨_, none, rfl⟩, s3⟩ (fun _ _ _ _ _ => trivial) ?_ ?_⟩
  · rintro i x σ H4 H4' hi ⟨⟨v1, v2, rfl⟩, s4⟩ ⟨rfl, rfl⟩
    have hi64 : i < 64 := by split at hi <;> (try split at hi) <;> omega
    clear hi
    refine ⟨_, rfl, _, rfl, a, ns, i, rfl, s4.seq hS, hi64, fun wl H5 s5 hwl w5 => ?_⟩
    have hwn : H wl = none := s4.free hwl
    have s45 := s4.trans s5
    refine ⟨_, rfl, _, rfl, wl, 0, 4, rfl, w5, by omega, by decide, by decide, fun t1 h1 H6 fo1 l1 k6 w6 ht1 hT1 => ?_⟩
    refine ⟨wl, t1, _, h1, rfl, w5.ne ht1, w6, by omega, hT1, fo1, by omega, fun H7 k7 w7 => ⟨_, rfl, iteF ?_⟩⟩
    refine ⟨_, rfl, _, rfl, wl, _, 6, rfl, w7, by omega, by decide, by decide, fun t2 h2 H8 fo2 l2 k8 w8 ht2 hT2 => ?_⟩
    refine ⟨wl, t2, _, h2, rfl, w7.ne ht2, w8, by omega, hT2, fo2, by omega, fun H9 k9 w9 => ⟨_, rfl, iteF ?_⟩⟩
    refine ⟨_, rfl, _, rfl, wl, _, 14, rfl, w9, by omega, by decide, by decide, fun t3 h3 Ha fo3 l3 ka wa ht3 hT3 => ?_⟩
    refine ⟨wl, t3, _, h3, rfl, w9.ne ht3, wa, by omega, hT3, fo3, by omega, fun Hb kb wb => ⟨_, rfl, iteF ?_⟩⟩
    exact ⟨⟨_, _, rfl⟩, thenK s45 hwn (((((k6.trans k7).trans k8).trans k9).trans ka).trans kb)⟩
  · rintro σ H4 ⟨⟨v1, v2, rfl⟩, s4⟩
    refine ⟨by show 5 ≤ sizeLine; decide, fun F hF => ?_⟩
    have oF : upd H4 F (.tup [.non, .int 0, .int 0, .int 1, .non]) F = some (.tup (fiveH.map hv)) := upd_same
    generalize upd H4 F (.tup [.non, .int 0, .int 0, .int 1, .non]) = G at oF ⊢
    -- the four
    refine ⟨by show 4 ≤ sizeLine; decide, fun T hT => ?_⟩
    have g1 := (Same.refl G).new (o := .tup [.int 0, .int 1, .int 2, .int 3]) hT
    have oT : upd G T (.tup [.int 0, .int 1, .int 2, .int 3]) T = some (.tup (nv [0, 1, 2, 3])) := upd_same
    generalize upd G T (.tup [.int 0, .int 1, .int 2, .int 3]) = G1 at g1 oT ⊢
    have isf1 : IsFault fiveH [[0, 4], [1]] none := faultB_is (r := none) (by decide)
    have isf2 : IsFault fiveH [] none := faultB_is (r := none) (by decide)
    refine ⟨T, rfl, ⟨_, SqT.of oT⟩, fun D hD => lc_it (walk_tup (xs := nv [0, 1, 2, 3])) (fun i H' => Same G1 H' ∧ ∃ bs : List Addr, H' D = some (.lst (bs.map V.ref)) ∧ Rws H' bs (fourR.take i)) ⟨(Same.refl G1).new hD, [], upd_same, ⟨rfl, fun i p r e _ => by cases e⟩⟩ (fun i H' _ z => SqT.of (z.1 _ _ oT)) ?_ ?_⟩
    · rintro i x J1 J2 hi ⟨s6, bs, oD, wb⟩ ⟨rfl, e1⟩
      obtain ⟨k, ek, rfl⟩ := nv_at e1
      have hi4 : i < 4 := hi
      have eki : k = i := by
        rcases i with _ | _ | _ | _ | i
        · cases ek; rfl
        · cases ek; rfl
        · cases ek; rfl
        · cases ek; rfl
        · omega
      subst eki
      have er : fourR[k]? = some (fourR.getD k []) := by
        rcases k with _ | _ | _ | _ | k
        · rfl
        · rfl
        · rfl
        · rfl
        · omega
      have tk : fourR.take (k + 1) = fourR.take k ++ [fourR.getD k []] := by rw [List.take_add_one, er]; rfl
      generalize fourR.getD k [] = row at er tk
      refine ⟨rfl, _, rfl, by show 2 ≤ sizeLine; decide, fun c1 gc1 => ?_⟩
      have m := (Kp.start (H := J2)).new (o := .tup [.int 0, .int 4]) gc1
      generalize upd J2 c1 (.tup [.int 0, .int 4]) = I1 at m ⊢
      refine ⟨by show 1 ≤ sizeLine; decide, fun c2 gc2 => ?_⟩
      have m := m.new (o := .tup [.int 1]) gc2
      generalize upd I1 c2 (.tup [.int 1]) = I2 at m ⊢
      refine ⟨by show 2 ≤ sizeLine; decide, fun c3 gc3 => ?_⟩
      have m := m.new (o := .lst [.ref c1, .ref c2]) gc3
      generalize upd I2 c3 (.lst [.ref c1, .ref c2]) = I3 at m ⊢
      have oF3 := m.same _ _ (s6 _ _ (g1 _ _ oF))
      refine ⟨_, rfl, F, c3, fiveH, [[0, 4], [1]], k, row, rfl, oF3, fo_five, by decide, lots2 (m.at 0) (m.at 2) (m.at 1), ⟨by decide, by decide, by decide, by decide⟩, isf1, by rw [keep_four]; exact er, fun R I4 u4 hR0 hR => ?_⟩
      have m4 := m.same.trans u4
      have oD4 := m4 _ _ oD
      have nRD : R ≠ D := fun z => by
        have y := u4
        rw [z, m.same _ _ oD] at hR0; cases hR0
      refine ⟨_, oD4, by rw [List.length_map, wb.len, List.length_take]; exact szl (by omega), (s6.trans m4).upd hD, bs ++ [R], by rw [upd_same, List.map_append]; rfl, ?_⟩
      rw [tk]
      refine Rws.but ((wb.same m4).grow hR) fun h => ?_
      rcases List.mem_append.mp h with h | h
      · obtain ⟨j, ej⟩ := List.getElem?_of_mem h
        obtain ⟨r, er', hr'⟩ := (wb.same m4).get ej
        rw [oD4] at hr'
        have z2 := HO.lst.inj (Option.some.inj hr')
        have rne : r ≠ [] := fun z => by
          have mm := List.mem_of_mem_take (List.mem_of_getElem? er')
          rw [z] at mm
          exact absurd mm (by decide)
        cases r with
        | nil => exact rne rfl
        | cons r0 r1 =>
          cases bs with
          | nil => cases ej
          | cons b0 b1 => cases (List.cons.inj z2).1
      · exact nRD (List.mem_singleton.mp h).symm
    rintro J1 ⟨s6, bs, oD, wb⟩
    have wb : Rws J1 bs fourR := wb
    have oF1 := s6 _ _ (g1 _ _ oF)
    -- the fifth
    refine ⟨_, rfl, by show 0 ≤ sizeLine; decide, fun d1 gd1 => ?_⟩
    have m := ((Kp.start (H := J1)).new (o := .lst []) gd1)
    generalize upd J1 d1 (.lst []) = J2 at m ⊢
    refine ⟨F, d1, fiveH, [], 10, [0, 4, 1, 3, 2], rfl, m.same _ _ oF1, fo_five, by decide, lots0 (m.at 0), ⟨by decide, by decide, by decide, by decide⟩, isf2, keep_ten, fun R J3 u3 hR0 hR => ?_⟩
    have m3 := m.same.trans u3
    refine ⟨by show 1 ≤ sizeLine; decide, fun Z hZ => ?_⟩
    have s7 := m3.new (o := .lst [.ref R]) hZ
    have oZ : upd J3 Z (.lst [.ref R]) Z = some (.lst [.ref R]) := upd_same
    have hR4 := ((Same.refl J3).new (o := .lst [.ref R]) hZ) _ _ hR
    generalize upd J3 Z (.lst [.ref R]) = J4 at s7 oZ hR4 ⊢
    refine ⟨D, Z, _, _, rfl, rfl, s7 _ _ oD, oZ, by rw [List.length_map, wb.len]; show 4 + 1 ≤ sizeLine; decide, fun S hS5 => ?_⟩
    have s8 := s7.new (o := .lst (bs.map V.ref ++ [.ref R])) hS5
    have k8 := (Same.refl J4).new (o := .lst (bs.map V.ref ++ [.ref R])) hS5
    have oS : upd J4 S (.lst (bs.map V.ref ++ [.ref R])) S = some (.lst ((bs ++ [R]).map V.ref)) := by rw [upd_same, List.map_append]; rfl
    generalize upd J4 S (.lst (bs.map V.ref ++ [.ref R])) = J5 at s8 k8 oS ⊢
    have wS : Rws J5 (bs ++ [R]) (fourR ++ [[0, 4, 1, 3, 2]]) := (wb.same s8).grow (k8 _ _ hR4)
    -- due
    refine ⟨by show 5 ≤ sizeLine; decide, fun e1 ge1 => ?_⟩
    have n := (Kp.start (H := J5)).new (o := .lst (nv [0, 4, 1, 2, 3])) ge1
    generalize he1 : upd J5 e1 (.lst (nv [0, 4, 1, 2, 3])) = E1 at n
    have he1' : upd J5 e1 (.lst [.int 0, .int 4, .int 1, .int 2, .int 3]) = E1 := he1
    rw [he1']
    refine ⟨by show 5 ≤ sizeLine; decide, fun e2 ge2 => ?_⟩
    have n := n.new (o := .lst (nv [0, 4, 1, 3, 2])) ge2
    generalize he2 : upd E1 e2 (.lst (nv [0, 4, 1, 3, 2])) = E2 at n
    have he2' : upd E1 e2 (.lst [.int 0, .int 4, .int 1, .int 3, .int 2]) = E2 := he2
    rw [he2']
    refine ⟨by show 5 ≤ sizeLine; decide, fun e3 ge3 => ?_⟩
    have n := n.new (o := .lst (nv [4, 0, 1, 2, 3])) ge3
    generalize he3 : upd E2 e3 (.lst (nv [4, 0, 1, 2, 3])) = E3 at n
    have he3' : upd E2 e3 (.lst [.int 4, .int 0, .int 1, .int 2, .int 3]) = E3 := he3
    rw [he3']
    refine ⟨by show 5 ≤ sizeLine; decide, fun e4 ge4 => ?_⟩
    have n := n.new (o := .lst (nv [4, 0, 1, 3, 2])) ge4
    generalize he4 : upd E3 e4 (.lst (nv [4, 0, 1, 3, 2])) = E4 at n
    have he4' : upd E3 e4 (.lst [.int 4, .int 0, .int 1, .int 3, .int 2]) = E4 := he4
    rw [he4']
    refine ⟨by show 5 ≤ sizeLine; decide, fun e5 ge5 => ?_⟩
    have n := n.new (o := .lst (nv [0, 4, 1, 3, 2])) ge5
    generalize he5 : upd E4 e5 (.lst (nv [0, 4, 1, 3, 2])) = E5 at n
    have he5' : upd E4 e5 (.lst [.int 0, .int 4, .int 1, .int 3, .int 2]) = E5 := he5
    rw [he5']
    refine ⟨by show 5 ≤ sizeLine; decide, fun L hL => ?_⟩
    have n := n.new (o := .lst ([e1, e2, e3, e4, e5].map V.ref)) hL
    generalize he6 : upd E5 L (.lst ([e1, e2, e3, e4, e5].map V.ref)) = E6 at n
    have he6' : upd E5 L (.lst [.ref e1, .ref e2, .ref e3, .ref e4, .ref e5]) = E6 := he6
    rw [he6']
    have wD : Rws E6 [e1, e2, e3, e4, e5] (fourR ++ [[0, 4, 1, 3, 2]]) := ⟨rfl, fun i p r e1' e2' => by
      rcases i with _ | _ | _ | _ | _ | i
      · cases e1'; cases e2'; exact n.at 5
      · cases e1'; cases e2'; exact n.at 4
      · cases e1'; cases e2'; exact n.at 3
      · cases e1'; cases e2'; exact n.at 2
      · cases e1'; cases e2'; exact n.at 1
      · cases e1'⟩
    refine ⟨_, rfl, _, rfl, .ref S, .ref L, .list (rwD (fourR ++ [[0, 4, 1, 3, 2]])), rfl, .lst (n.same _ _ oS) (fun z => by cases z) (rps_rows (wS.same n.same)), .lst (n.at 0) (fun z => by cases z) (rps_rows wD), by decide +kernel, by decide +kernel, fun H' _ => q H'⟩
end

end My

namespace My
open PySem PySem.Spec PyProof.Rows L2
theorem all_mk {l : PySem.W.OpenLaw} {w : World} {K : PySem.W.Frag} {h : Heap} {mg : Str → Option Value} {fa f0 f1 f2 f3 f4 f5 f6 f7 f8 f9 f10 f11 f12 f13 f14 f15 f16 f17 f18 f19 f20 f21 f22 f23 f24 f25 f26 f27 f28 f29 f30 f31 f32 f33 f34 f35 f36 f37 f38 f39 f40 f41 f42 f43 f44 f45 f46 f47 f48 f49 f50 KC0 mf0_0 mf0_1 mf0_2 mf0_3 C0 C1 C2 C3 : Addr} (X : K.In h) (G : h.Ns mainGlobals mg) (hfa : mg "law" = some (.ref fa))
    {od0 an0 od1 an1 od2 an2 od3 an3 od4 an4 od5 an5 od6 an6 od7 an7 od8 an8 od9 an9 od10 an10 od11 an11 od12 an12 od13 an13 od14 an14 od15 an15 od16 an16 od17 an17 od18 an18 od19 an19 od20 an20 od21 an21 od22 an22 od23 an23 od24 an24 od25 an25 od26 an26 od27 an27 od28 an28 od29 an29 od30 an30 od31 an31 od32 an32 od33 an33 od34 an34 od35 an35 od36 an36 od37 an37 od38 an38 od39 an39 od40 an40 od41 an41 od42 an42 od43 an43 od44 an44 od45 an45 od46 an46 od47 an47 od48 an48 od49 an49 od50 an50 : Option Addr} {sl0 sl1 sl2 sl3 sl4 sl5 sl6 sl7 sl8 sl9 sl10 sl11 sl12 sl13 sl14 sl15 sl16 sl17 sl18 sl19 sl20 sl21 sl22 sl23 sl24 sl25 sl26 sl27 sl28 sl29 sl30 sl31 sl32 sl33 sl34 sl35 sl36 sl37 sl38 sl39 sl40 sl41 sl42 sl43 sl44 sl45 sl46 sl47 sl48 sl49 sl50 : Array (Option Value)} {oc0 kV0 dc0 pm0 cd0 ct0 oc1 kV1 dc1 pm1 cd1 ct1 oc2 kV2 dc2 pm2 cd2 ct2 oc3 kV3 dc3 pm3 cd3 ct3 oc4 kV4 dc4 pm4 cd4 ct4 oc5 kV5 dc5 pm5 cd5 ct5 oc6 kV6 dc6 pm6 cd6 ct6 oc7 kV7 dc7 pm7 cd7 ct7 oc8 kV8 dc8 pm8 cd8 ct8 oc9 kV9 dc9 pm9 cd9 ct9 oc10 kV10 dc10 pm10 cd10 ct10 oc11 kV11 dc11 pm11 cd11 ct11 oc12 kV12 dc12 pm12 cd12 ct12 oc13 kV13 dc13 pm13 cd13 ct13 oc14 kV14 dc14 pm14 cd14 ct14 oc15 kV15 dc15 pm15 cd15 ct15 oc16 kV16 dc16 pm16 cd16 ct16 oc17 kV17 dc17 pm17 cd17 ct17 oc18 kV18 dc18 pm18 cd18 ct18 oc19 kV19 dc19 pm19 cd19 ct19 oc20 kV20 dc20 pm20 cd20 ct20 oc21 kV21 dc21 pm21 cd21 ct21 oc22 kV22 dc22 pm22 cd22 ct22 oc23 kV23 dc23 pm23 cd23 ct23 oc24 kV24 dc24 pm24 cd24 ct24 oc25 kV25 dc25 pm25 cd25 ct25 oc26 kV26 dc26 pm26 cd26 ct26 oc27 kV27 dc27 pm27 cd27 ct27 oc28 kV28 dc28 pm28 cd28 ct28 oc29 kV29 dc29 pm29 cd29 ct29 oc30 kV30 dc30 pm30 cd30 ct30 oc31 kV31 dc31 pm31 cd31 ct31 oc32 kV32 dc32 pm32 cd32 ct32 oc33 kV33 dc33 pm33 cd33 ct33 oc34 kV34 dc34 pm34 cd34 ct34 oc35 kV35 dc35 pm35 cd35 ct35 oc36 kV36 dc36 pm36 cd36 ct36 oc37 kV37 dc37 pm37 cd37 ct37 oc38 kV38 dc38 pm38 cd38 ct38 oc39 kV39 dc39 pm39 cd39 ct39 oc40 kV40 dc40 pm40 cd40 ct40 oc41 kV41 dc41 pm41 cd41 ct41 oc42 kV42 dc42 pm42 cd42 ct42 oc43 kV43 dc43 pm43 cd43 ct43 oc44 kV44 dc44 pm44 cd44 ct44 oc45 kV45 dc45 pm45 cd45 ct45 oc46 kV46 dc46 pm46 cd46 ct46 oc47 kV47 dc47 pm47 cd47 ct47 oc48 kV48 dc48 pm48 cd48 ct48 oc49 kV49 dc49 pm49 cd49 ct49 oc50 kV50 dc50 pm50 cd50 ct50 : Value}
    {mod0_0 man0_0 mod0_1 man0_1 mod0_2 man0_2 mod0_3 man0_3 : Option Addr} {msl0_0 msl0_1 msl0_2 msl0_3 : Array (Option Value)} {moc0_0 mkV0_0 mdc0_0 mpm0_0 mcd0_0 mct0_0 moc0_1 mkV0_1 mdc0_1 mpm0_1 mcd0_1 mct0_1 moc0_2 mkV0_2 mdc0_2 mpm0_2 mcd0_2 mct0_2 moc0_3 mkV0_3 mdc0_3 mpm0_3 mcd0_3 mct0_3 : Value}
    (a0 : PySem.W.nsIn K mainGlobals "is_integer" = some (some (.ref f0)))
    (l0 : K.lookup f0 = some ⟨oc0, od0, .func (PySem.W.fnOf "is_integer" "is_integer" (defArgs st_is_integer) (defBody st_is_integer) (defScope st_is_integer) .none kV0 dc0 pm0 an0 cd0 ct0), sl0⟩)
    (c0 : PySem.W.codeIn K cd0 "is_integer" = true)
    (k0 : PySem.W.keepIn K (.ref f0) = true)
    (a1 : PySem.W.nsIn K mainGlobals "is_between" = some (some (.ref f1)))
    (l1 : K.lookup f1 = some ⟨oc1, od1, .func (PySem.W.fnOf "is_between" "is_between" (defArgs st_is_between) (defBody st_is_between) (defScope st_is_between) .none kV1 dc1 pm1 an1 cd1 ct1), sl1⟩)
    (c1 : PySem.W.codeIn K cd1 "is_between" = true)
    (k1 : PySem.W.keepIn K (.ref f1) = true)
    (a2 : PySem.W.nsIn K mainGlobals "is_index" = some (some (.ref f2)))
    (l2 : K.lookup f2 = some ⟨oc2, od2, .func (PySem.W.fnOf "is_index" "is_index" (defArgs st_is_index) (defBody st_is_index) (defScope st_is_index) .none kV2 dc2 pm2 an2 cd2 ct2), sl2⟩)
    (c2 : PySem.W.codeIn K cd2 "is_index" = true)
    (k2 : PySem.W.keepIn K (.ref f2) = true)
    (a3 : PySem.W.nsIn K mainGlobals "are_different" = some (some (.ref f3)))
    (l3 : K.lookup f3 = some ⟨oc3, od3, .func (PySem.W.fnOf "are_different" "are_different" (defArgs st_are_different) (defBody st_are_different) (defScope st_are_different) .none kV3 dc3 pm3 an3 cd3 ct3), sl3⟩)
    (c3 : PySem.W.codeIn K cd3 "are_different" = true)
    (k3 : PySem.W.keepIn K (.ref f3) = true)
    (a4 : PySem.W.nsIn K mainGlobals "lowest" = some (some (.ref f4)))
    (l4 : K.lookup f4 = some ⟨oc4, od4, .func (PySem.W.fnOf "lowest" "lowest" (defArgs st_lowest) (defBody st_lowest) (defScope st_lowest) .none kV4 dc4 pm4 an4 cd4 ct4), sl4⟩)
    (c4 : PySem.W.codeIn K cd4 "lowest" = true)
    (k4 : PySem.W.keepIn K (.ref f4) = true)
    (a5 : PySem.W.nsIn K mainGlobals "is_forest" = some (some (.ref f5)))
    (l5 : K.lookup f5 = some ⟨oc5, od5, .func (PySem.W.fnOf "is_forest" "is_forest" (defArgs st_is_forest) (defBody st_is_forest) (defScope st_is_forest) .none kV5 dc5 pm5 an5 cd5 ct5), sl5⟩)
    (c5 : PySem.W.codeIn K cd5 "is_forest" = true)
    (k5 : PySem.W.keepIn K (.ref f5) = true)
    (a6 : PySem.W.nsIn K mainGlobals "check_forest" = some (some (.ref f6)))
    (l6 : K.lookup f6 = some ⟨oc6, od6, .func (PySem.W.fnOf "check_forest" "check_forest" (defArgs st_check_forest) (defBody st_check_forest) (defScope st_check_forest) .none kV6 dc6 pm6 an6 cd6 ct6), sl6⟩)
    (c6 : PySem.W.codeIn K cd6 "check_forest" = true)
    (k6 : PySem.W.keepIn K (.ref f6) = true)
    (a7 : PySem.W.nsIn K mainGlobals "sizes" = some (some (.ref f7)))
    (l7 : K.lookup f7 = some ⟨oc7, od7, .func (PySem.W.fnOf "sizes" "sizes" (defArgs st_sizes) (defBody st_sizes) (defScope st_sizes) .none kV7 dc7 pm7 an7 cd7 ct7), sl7⟩)
    (c7 : PySem.W.codeIn K cd7 "sizes" = true)
    (k7 : PySem.W.keepIn K (.ref f7) = true)
    (a8 : PySem.W.nsIn K mainGlobals "walk" = some (some (.ref f8)))
    (l8 : K.lookup f8 = some ⟨oc8, od8, .func (PySem.W.fnOf "walk" "walk" (defArgs st_walk) (defBody st_walk) (defScope st_walk) .none kV8 dc8 pm8 an8 cd8 ct8), sl8⟩)
    (c8 : PySem.W.codeIn K cd8 "walk" = true)
    (k8 : PySem.W.keepIn K (.ref f8) = true)
    (a9 : PySem.W.nsIn K mainGlobals "forest_among" = some (some (.ref f9)))
    (l9 : K.lookup f9 = some ⟨oc9, od9, .func (PySem.W.fnOf "forest_among" "forest_among" (defArgs st_forest_among) (defBody st_forest_among) (defScope st_forest_among) .none kV9 dc9 pm9 an9 cd9 ct9), sl9⟩)
    (c9 : PySem.W.codeIn K cd9 "forest_among" = true)
    (k9 : PySem.W.keepIn K (.ref f9) = true)
    (a10 : PySem.W.nsIn K mainGlobals "_without_holder" = some (some (.ref f10)))
    (l10 : K.lookup f10 = some ⟨oc10, od10, .func (PySem.W.fnOf "_without_holder" "_without_holder" (defArgs st__without_holder) (defBody st__without_holder) (defScope st__without_holder) .none kV10 dc10 pm10 an10 cd10 ct10), sl10⟩)
    (c10 : PySem.W.codeIn K cd10 "_without_holder" = true)
    (k10 : PySem.W.keepIn K (.ref f10) = true)
    (a11 : PySem.W.nsIn K mainGlobals "_held_lists" = some (some (.ref f11)))
    (l11 : K.lookup f11 = some ⟨oc11, od11, .func (PySem.W.fnOf "_held_lists" "_held_lists" (defArgs st__held_lists) (defBody st__held_lists) (defScope st__held_lists) .none kV11 dc11 pm11 an11 cd11 ct11), sl11⟩)
    (c11 : PySem.W.codeIn K cd11 "_held_lists" = true)
    (k11 : PySem.W.keepIn K (.ref f11) = true)
    (a12 : PySem.W.nsIn K mainGlobals "_walk_through" = some (some (.ref f12)))
    (l12 : K.lookup f12 = some ⟨oc12, od12, .func (PySem.W.fnOf "_walk_through" "_walk_through" (defArgs st__walk_through) (defBody st__walk_through) (defScope st__walk_through) .none kV12 dc12 pm12 an12 cd12 ct12), sl12⟩)
    (c12 : PySem.W.codeIn K cd12 "_walk_through" = true)
    (k12 : PySem.W.keepIn K (.ref f12) = true)
    (a13 : PySem.W.nsIn K mainGlobals "can_be_next" = some (some (.ref f13)))
    (l13 : K.lookup f13 = some ⟨oc13, od13, .func (PySem.W.fnOf "can_be_next" "can_be_next" (defArgs st_can_be_next) (defBody st_can_be_next) (defScope st_can_be_next) .none kV13 dc13 pm13 an13 cd13 ct13), sl13⟩)
    (c13 : PySem.W.codeIn K cd13 "can_be_next" = true)
    (k13 : PySem.W.keepIn K (.ref f13) = true)
    (a14 : PySem.W.nsIn K mainGlobals "nth_by_ways" = some (some (.ref f14)))
    (l14 : K.lookup f14 = some ⟨oc14, od14, .func (PySem.W.fnOf "nth_by_ways" "nth_by_ways" (defArgs st_nth_by_ways) (defBody st_nth_by_ways) (defScope st_nth_by_ways) .none kV14 dc14 pm14 an14 cd14 ct14), sl14⟩)
    (c14 : PySem.W.codeIn K cd14 "nth_by_ways" = true)
    (k14 : PySem.W.keepIn K (.ref f14) = true)
    (a15 : PySem.W.nsIn K mainGlobals "_next_for" = some (some (.ref f15)))
    (l15 : K.lookup f15 = some ⟨oc15, od15, .func (PySem.W.fnOf "_next_for" "_next_for" (defArgs st__next_for) (defBody st__next_for) (defScope st__next_for) .none kV15 dc15 pm15 an15 cd15 ct15), sl15⟩)
    (c15 : PySem.W.codeIn K cd15 "_next_for" = true)
    (k15 : PySem.W.keepIn K (.ref f15) = true)
    (a16 : PySem.W.nsIn K mainGlobals "count_sequences" = some (some (.ref f16)))
    (l16 : K.lookup f16 = some ⟨oc16, od16, .func (PySem.W.fnOf "count_sequences" "count_sequences" (defArgs st_count_sequences) (defBody st_count_sequences) (defScope st_count_sequences) .none kV16 dc16 pm16 an16 cd16 ct16), sl16⟩)
    (c16 : PySem.W.codeIn K cd16 "count_sequences" = true)
    (k16 : PySem.W.keepIn K (.ref f16) = true)
    (a17 : PySem.W.nsIn K mainGlobals "nth_sequence" = some (some (.ref f17)))
    (l17 : K.lookup f17 = some ⟨oc17, od17, .func (PySem.W.fnOf "nth_sequence" "nth_sequence" (defArgs st_nth_sequence) (defBody st_nth_sequence) (defScope st_nth_sequence) .none kV17 dc17 pm17 an17 cd17 ct17), sl17⟩)
    (c17 : PySem.W.codeIn K cd17 "nth_sequence" = true)
    (k17 : PySem.W.keepIn K (.ref f17) = true)
    (a18 : PySem.W.nsIn K mainGlobals "are_stages" = some (some (.ref f18)))
    (l18 : K.lookup f18 = some ⟨oc18, od18, .func (PySem.W.fnOf "are_stages" "are_stages" (defArgs st_are_stages) (defBody st_are_stages) (defScope st_are_stages) .none kV18 dc18 pm18 an18 cd18 ct18), sl18⟩)
    (c18 : PySem.W.codeIn K cd18 "are_stages" = true)
    (k18 : PySem.W.keepIn K (.ref f18) = true)
    (a19 : PySem.W.nsIn K mainGlobals "stage_fault" = some (some (.ref f19)))
    (l19 : K.lookup f19 = some ⟨oc19, od19, .func (PySem.W.fnOf "stage_fault" "stage_fault" (defArgs st_stage_fault) (defBody st_stage_fault) (defScope st_stage_fault) .none kV19 dc19 pm19 an19 cd19 ct19), sl19⟩)
    (c19 : PySem.W.codeIn K cd19 "stage_fault" = true)
    (k19 : PySem.W.keepIn K (.ref f19) = true)
    (a20 : PySem.W.nsIn K mainGlobals "count_with" = some (some (.ref f20)))
    (l20 : K.lookup f20 = some ⟨oc20, od20, .func (PySem.W.fnOf "count_with" "count_with" (defArgs st_count_with) (defBody st_count_with) (defScope st_count_with) .none kV20 dc20 pm20 an20 cd20 ct20), sl20⟩)
    (c20 : PySem.W.codeIn K cd20 "count_with" = true)
    (k20 : PySem.W.keepIn K (.ref f20) = true)
    (a21 : PySem.W.nsIn K mainGlobals "nth_with" = some (some (.ref f21)))
    (l21 : K.lookup f21 = some ⟨oc21, od21, .func (PySem.W.fnOf "nth_with" "nth_with" (defArgs st_nth_with) (defBody st_nth_with) (defScope st_nth_with) .none kV21 dc21 pm21 an21 cd21 ct21), sl21⟩)
    (c21 : PySem.W.codeIn K cd21 "nth_with" = true)
    (k21 : PySem.W.keepIn K (.ref f21) = true)
    (a22 : PySem.W.nsIn K mainGlobals "share_with" = some (some (.ref f22)))
    (l22 : K.lookup f22 = some ⟨oc22, od22, .func (PySem.W.fnOf "share_with" "share_with" (defArgs st_share_with) (defBody st_share_with) (defScope st_share_with) .none kV22 dc22 pm22 an22 cd22 ct22), sl22⟩)
    (c22 : PySem.W.codeIn K cd22 "share_with" = true)
    (k22 : PySem.W.keepIn K (.ref f22) = true)
    (a23 : PySem.W.nsIn K mainGlobals "_ascends" = some (some (.ref f23)))
    (l23 : K.lookup f23 = some ⟨oc23, od23, .func (PySem.W.fnOf "_ascends" "_ascends" (defArgs st__ascends) (defBody st__ascends) (defScope st__ascends) .none kV23 dc23 pm23 an23 cd23 ct23), sl23⟩)
    (c23 : PySem.W.codeIn K cd23 "_ascends" = true)
    (k23 : PySem.W.keepIn K (.ref f23) = true)
    (a24 : PySem.W.nsIn K mainGlobals "_check_stages" = some (some (.ref f24)))
    (l24 : K.lookup f24 = some ⟨oc24, od24, .func (PySem.W.fnOf "_check_stages" "_check_stages" (defArgs st__check_stages) (defBody st__check_stages) (defScope st__check_stages) .none kV24 dc24 pm24 an24 cd24 ct24), sl24⟩)
    (c24 : PySem.W.codeIn K cd24 "_check_stages" = true)
    (k24 : PySem.W.keepIn K (.ref f24) = true)
    (a25 : PySem.W.nsIn K mainGlobals "_check_some_keeps" = some (some (.ref f25)))
    (l25 : K.lookup f25 = some ⟨oc25, od25, .func (PySem.W.fnOf "_check_some_keeps" "_check_some_keeps" (defArgs st__check_some_keeps) (defBody st__check_some_keeps) (defScope st__check_some_keeps) .none kV25 dc25 pm25 an25 cd25 ct25), sl25⟩)
    (c25 : PySem.W.codeIn K cd25 "_check_some_keeps" = true)
    (k25 : PySem.W.keepIn K (.ref f25) = true)
    (a26 : PySem.W.nsIn K mainGlobals "_rest" = some (some (.ref f26)))
    (l26 : K.lookup f26 = some ⟨oc26, od26, .func (PySem.W.fnOf "_rest" "_rest" (defArgs st__rest) (defBody st__rest) (defScope st__rest) .none kV26 dc26 pm26 an26 cd26 ct26), sl26⟩)
    (c26 : PySem.W.codeIn K cd26 "_rest" = true)
    (k26 : PySem.W.keepIn K (.ref f26) = true)
    (a27 : PySem.W.nsIn K mainGlobals "_blocks" = some (some (.ref f27)))
    (l27 : K.lookup f27 = some ⟨oc27, od27, .func (PySem.W.fnOf "_blocks" "_blocks" (defArgs st__blocks) (defBody st__blocks) (defScope st__blocks) .none kV27 dc27 pm27 an27 cd27 ct27), sl27⟩)
    (c27 : PySem.W.codeIn K cd27 "_blocks" = true)
    (k27 : PySem.W.keepIn K (.ref f27) = true)
    (a28 : PySem.W.nsIn K mainGlobals "_law_well" = some (some (.ref f28)))
    (l28 : K.lookup f28 = some ⟨oc28, od28, .func (PySem.W.fnOf "_law_well" "_law_well" (defArgs st__law_well) (defBody st__law_well) (defScope st__law_well) .none kV28 dc28 pm28 an28 cd28 ct28), sl28⟩)
    (c28 : PySem.W.codeIn K cd28 "_law_well" = true)
    (k28 : PySem.W.keepIn K (.ref f28) = true)
    (a29 : PySem.W.nsIn K mainGlobals "_law_draw" = some (some (.ref f29)))
    (l29 : K.lookup f29 = some ⟨oc29, od29, .func (PySem.W.fnOf "_law_draw" "_law_draw" (defArgs st__law_draw) (defBody st__law_draw) (defScope st__law_draw) .none kV29 dc29 pm29 an29 cd29 ct29), sl29⟩)
    (c29 : PySem.W.codeIn K cd29 "_law_draw" = true)
    (k29 : PySem.W.keepIn K (.ref f29) = true)
    (a30 : PySem.W.nsIn K mainGlobals "_law_same" = some (some (.ref f30)))
    (l30 : K.lookup f30 = some ⟨oc30, od30, .func (PySem.W.fnOf "_law_same" "_law_same" (defArgs st__law_same) (defBody st__law_same) (defScope st__law_same) .none kV30 dc30 pm30 an30 cd30 ct30), sl30⟩)
    (c30 : PySem.W.codeIn K cd30 "_law_same" = true)
    (k30 : PySem.W.keepIn K (.ref f30) = true)
    (a31 : PySem.W.nsIn K mainGlobals "_law_forest" = some (some (.ref f31)))
    (l31 : K.lookup f31 = some ⟨oc31, od31, .func (PySem.W.fnOf "_law_forest" "_law_forest" (defArgs st__law_forest) (defBody st__law_forest) (defScope st__law_forest) .none kV31 dc31 pm31 an31 cd31 ct31), sl31⟩)
    (c31 : PySem.W.codeIn K cd31 "_law_forest" = true)
    (k31 : PySem.W.keepIn K (.ref f31) = true)
    (a32 : PySem.W.nsIn K mainGlobals "_law_up" = some (some (.ref f32)))
    (l32 : K.lookup f32 = some ⟨oc32, od32, .func (PySem.W.fnOf "_law_up" "_law_up" (defArgs st__law_up) (defBody st__law_up) (defScope st__law_up) .none kV32 dc32 pm32 an32 cd32 ct32), sl32⟩)
    (c32 : PySem.W.codeIn K cd32 "_law_up" = true)
    (k32 : PySem.W.keepIn K (.ref f32) = true)
    (a33 : PySem.W.nsIn K mainGlobals "_law_weights" = some (some (.ref f33)))
    (l33 : K.lookup f33 = some ⟨oc33, od33, .func (PySem.W.fnOf "_law_weights" "_law_weights" (defArgs st__law_weights) (defBody st__law_weights) (defScope st__law_weights) .none kV33 dc33 pm33 an33 cd33 ct33), sl33⟩)
    (c33 : PySem.W.codeIn K cd33 "_law_weights" = true)
    (k33 : PySem.W.keepIn K (.ref f33) = true)
    (a34 : PySem.W.nsIn K mainGlobals "_law_many" = some (some (.ref f34)))
    (l34 : K.lookup f34 = some ⟨oc34, od34, .func (PySem.W.fnOf "_law_many" "_law_many" (defArgs st__law_many) (defBody st__law_many) (defScope st__law_many) .none kV34 dc34 pm34 an34 cd34 ct34), sl34⟩)
    (c34 : PySem.W.codeIn K cd34 "_law_many" = true)
    (k34 : PySem.W.keepIn K (.ref f34) = true)
    (a35 : PySem.W.nsIn K mainGlobals "_law_rows" = some (some (.ref f35)))
    (l35 : K.lookup f35 = some ⟨oc35, od35, .func (PySem.W.fnOf "_law_rows" "_law_rows" (defArgs st__law_rows) (defBody st__law_rows) (defScope st__law_rows) .none kV35 dc35 pm35 an35 cd35 ct35), sl35⟩)
    (c35 : PySem.W.codeIn K cd35 "_law_rows" = true)
    (k35 : PySem.W.keepIn K (.ref f35) = true)
    (a36 : PySem.W.nsIn K mainGlobals "_law_row" = some (some (.ref f36)))
    (l36 : K.lookup f36 = some ⟨oc36, od36, .func (PySem.W.fnOf "_law_row" "_law_row" (defArgs st__law_row) (defBody st__law_row) (defScope st__law_row) .none kV36 dc36 pm36 an36 cd36 ct36), sl36⟩)
    (c36 : PySem.W.codeIn K cd36 "_law_row" = true)
    (k36 : PySem.W.keepIn K (.ref f36) = true)
    (a37 : PySem.W.nsIn K mainGlobals "_law_lots" = some (some (.ref f37)))
    (l37 : K.lookup f37 = some ⟨oc37, od37, .func (PySem.W.fnOf "_law_lots" "_law_lots" (defArgs st__law_lots) (defBody st__law_lots) (defScope st__law_lots) .none kV37 dc37 pm37 an37 cd37 ct37), sl37⟩)
    (c37 : PySem.W.codeIn K cd37 "_law_lots" = true)
    (k37 : PySem.W.keepIn K (.ref f37) = true)
    (a38 : PySem.W.nsIn K mainGlobals "_law_flat" = some (some (.ref f38)))
    (l38 : K.lookup f38 = some ⟨oc38, od38, .func (PySem.W.fnOf "_law_flat" "_law_flat" (defArgs st__law_flat) (defBody st__law_flat) (defScope st__law_flat) .none kV38 dc38 pm38 an38 cd38 ct38), sl38⟩)
    (c38 : PySem.W.codeIn K cd38 "_law_flat" = true)
    (k38 : PySem.W.keepIn K (.ref f38) = true)
    (a39 : PySem.W.nsIn K mainGlobals "_law_bent" = some (some (.ref f39)))
    (l39 : K.lookup f39 = some ⟨oc39, od39, .func (PySem.W.fnOf "_law_bent" "_law_bent" (defArgs st__law_bent) (defBody st__law_bent) (defScope st__law_bent) .none kV39 dc39 pm39 an39 cd39 ct39), sl39⟩)
    (c39 : PySem.W.codeIn K cd39 "_law_bent" = true)
    (k39 : PySem.W.keepIn K (.ref f39) = true)
    (a40 : PySem.W.nsIn K mainGlobals "_law_keeps" = some (some (.ref f40)))
    (l40 : K.lookup f40 = some ⟨oc40, od40, .func (PySem.W.fnOf "_law_keeps" "_law_keeps" (defArgs st__law_keeps) (defBody st__law_keeps) (defScope st__law_keeps) .none kV40 dc40 pm40 an40 cd40 ct40), sl40⟩)
    (c40 : PySem.W.codeIn K cd40 "_law_keeps" = true)
    (k40 : PySem.W.keepIn K (.ref f40) = true)
    (a41 : PySem.W.nsIn K mainGlobals "_law_ways" = some (some (.ref f41)))
    (l41 : K.lookup f41 = some ⟨oc41, od41, .func (PySem.W.fnOf "_law_ways" "_law_ways" (defArgs st__law_ways) (defBody st__law_ways) (defScope st__law_ways) .none kV41 dc41 pm41 an41 cd41 ct41), sl41⟩)
    (c41 : PySem.W.codeIn K cd41 "_law_ways" = true)
    (k41 : PySem.W.keepIn K (.ref f41) = true)
    (a42 : PySem.W.nsIn K mainGlobals "_law_rest" = some (some (.ref f42)))
    (l42 : K.lookup f42 = some ⟨oc42, od42, .func (PySem.W.fnOf "_law_rest" "_law_rest" (defArgs st__law_rest) (defBody st__law_rest) (defScope st__law_rest) .none kV42 dc42 pm42 an42 cd42 ct42), sl42⟩)
    (c42 : PySem.W.codeIn K cd42 "_law_rest" = true)
    (k42 : PySem.W.keepIn K (.ref f42) = true)
    (a43 : PySem.W.nsIn K mainGlobals "_law_rank" = some (some (.ref f43)))
    (l43 : K.lookup f43 = some ⟨oc43, od43, .func (PySem.W.fnOf "_law_rank" "_law_rank" (defArgs st__law_rank) (defBody st__law_rank) (defScope st__law_rank) .none kV43 dc43 pm43 an43 cd43 ct43), sl43⟩)
    (c43 : PySem.W.codeIn K cd43 "_law_rank" = true)
    (k43 : PySem.W.keepIn K (.ref f43) = true)
    (a44 : PySem.W.nsIn K mainGlobals "_law_told" = some (some (.ref f44)))
    (l44 : K.lookup f44 = some ⟨oc44, od44, .func (PySem.W.fnOf "_law_told" "_law_told" (defArgs st__law_told) (defBody st__law_told) (defScope st__law_told) .none kV44 dc44 pm44 an44 cd44 ct44), sl44⟩)
    (c44 : PySem.W.codeIn K cd44 "_law_told" = true)
    (k44 : PySem.W.keepIn K (.ref f44) = true)
    (a45 : PySem.W.nsIn K mainGlobals "_law_small_right" = some (some (.ref f45)))
    (l45 : K.lookup f45 = some ⟨oc45, od45, .func (PySem.W.fnOf "_law_small_right" "_law_small_right" (defArgs st__law_small_right) (defBody st__law_small_right) (defScope st__law_small_right) .none kV45 dc45 pm45 an45 cd45 ct45), sl45⟩)
    (c45 : PySem.W.codeIn K cd45 "_law_small_right" = true)
    (k45 : PySem.W.keepIn K (.ref f45) = true)
    (a46 : PySem.W.nsIn K mainGlobals "_law_large_right" = some (some (.ref f46)))
    (l46 : K.lookup f46 = some ⟨oc46, od46, .func (PySem.W.fnOf "_law_large_right" "_law_large_right" (defArgs st__law_large_right) (defBody st__law_large_right) (defScope st__law_large_right) .none kV46 dc46 pm46 an46 cd46 ct46), sl46⟩)
    (c46 : PySem.W.codeIn K cd46 "_law_large_right" = true)
    (k46 : PySem.W.keepIn K (.ref f46) = true)
    (a47 : PySem.W.nsIn K mainGlobals "_law_long" = some (some (.ref f47)))
    (l47 : K.lookup f47 = some ⟨oc47, od47, .func (PySem.W.fnOf "_law_long" "_law_long" (defArgs st__law_long) (defBody st__law_long) (defScope st__law_long) .none kV47 dc47 pm47 an47 cd47 ct47), sl47⟩)
    (c47 : PySem.W.codeIn K cd47 "_law_long" = true)
    (k47 : PySem.W.keepIn K (.ref f47) = true)
    (a48 : PySem.W.nsIn K mainGlobals "_law_end" = some (some (.ref f48)))
    (l48 : K.lookup f48 = some ⟨oc48, od48, .func (PySem.W.fnOf "_law_end" "_law_end" (defArgs st__law_end) (defBody st__law_end) (defScope st__law_end) .none kV48 dc48 pm48 an48 cd48 ct48), sl48⟩)
    (c48 : PySem.W.codeIn K cd48 "_law_end" = true)
    (k48 : PySem.W.keepIn K (.ref f48) = true)
    (a49 : PySem.W.nsIn K mainGlobals "_law_great_right" = some (some (.ref f49)))
    (l49 : K.lookup f49 = some ⟨oc49, od49, .func (PySem.W.fnOf "_law_great_right" "_law_great_right" (defArgs st__law_great_right) (defBody st__law_great_right) (defScope st__law_great_right) .none kV49 dc49 pm49 an49 cd49 ct49), sl49⟩)
    (c49 : PySem.W.codeIn K cd49 "_law_great_right" = true)
    (k49 : PySem.W.keepIn K (.ref f49) = true)
    (a50 : PySem.W.nsIn K mainGlobals "law" = some (some (.ref f50)))
    (l50 : K.lookup f50 = some ⟨oc50, od50, .func (PySem.W.fnOf "law" "law" (defArgs st_law) (defBody st_law) (defScope st_law) .none kV50 dc50 pm50 an50 cd50 ct50), sl50⟩)
    (c50 : PySem.W.codeIn K cd50 "law" = true)
    (k50 : PySem.W.keepIn K (.ref f50) = true)
    (aK0 : PySem.W.nsIn K mainGlobals "AllLeft" = some (some (.ref KC0)))
    (ma0_0 : PySem.W.findIn K (.ref KC0) "__init__" = some (some (.ref mf0_0)))
    (mi0_0 : PySem.W.isFn K (.ref mf0_0) = true)
    (ml0_0 : K.lookup mf0_0 = some ⟨moc0_0, mod0_0, .func (PySem.W.fnOf "__init__" "AllLeft.__init__" (defArgs st_AllLeft_init) (defBody st_AllLeft_init) (defScope st_AllLeft_init) .none mkV0_0 mdc0_0 mpm0_0 man0_0 mcd0_0 mct0_0), msl0_0⟩)
    (mc0_0 : PySem.W.codeIn K mcd0_0 "AllLeft.__init__" = true)
    (mk0_0 : PySem.W.keepIn K (.ref mf0_0) = true)
    (ma0_1 : PySem.W.findIn K (.ref KC0) "next_ways" = some (some (.ref mf0_1)))
    (mi0_1 : PySem.W.isFn K (.ref mf0_1) = true)
    (ml0_1 : K.lookup mf0_1 = some ⟨moc0_1, mod0_1, .func (PySem.W.fnOf "next_ways" "AllLeft.next_ways" (defArgs st_AllLeft_next_ways) (defBody st_AllLeft_next_ways) (defScope st_AllLeft_next_ways) .none mkV0_1 mdc0_1 mpm0_1 man0_1 mcd0_1 mct0_1), msl0_1⟩)
    (mc0_1 : PySem.W.codeIn K mcd0_1 "AllLeft.next_ways" = true)
    (mk0_1 : PySem.W.keepIn K (.ref mf0_1) = true)
    (ma0_2 : PySem.W.findIn K (.ref KC0) "ways_with" = some (some (.ref mf0_2)))
    (mi0_2 : PySem.W.isFn K (.ref mf0_2) = true)
    (ml0_2 : K.lookup mf0_2 = some ⟨moc0_2, mod0_2, .func (PySem.W.fnOf "ways_with" "AllLeft.ways_with" (defArgs st_AllLeft_ways_with) (defBody st_AllLeft_ways_with) (defScope st_AllLeft_ways_with) .none mkV0_2 mdc0_2 mpm0_2 man0_2 mcd0_2 mct0_2), msl0_2⟩)
    (mc0_2 : PySem.W.codeIn K mcd0_2 "AllLeft.ways_with" = true)
    (mk0_2 : PySem.W.keepIn K (.ref mf0_2) = true)
    (ma0_3 : PySem.W.findIn K (.ref KC0) "take" = some (some (.ref mf0_3)))
    (mi0_3 : PySem.W.isFn K (.ref mf0_3) = true)
    (ml0_3 : K.lookup mf0_3 = some ⟨moc0_3, mod0_3, .func (PySem.W.fnOf "take" "AllLeft.take" (defArgs st_AllLeft_take) (defBody st_AllLeft_take) (defScope st_AllLeft_take) .none mkV0_3 mdc0_3 mpm0_3 man0_3 mcd0_3 mct0_3), msl0_3⟩)
    (mc0_3 : PySem.W.codeIn K mcd0_3 "AllLeft.take" = true)
    (mk0_3 : PySem.W.keepIn K (.ref mf0_3) = true)
    (pg0 : PySem.W.plainGet K KC0 Str.empty = true)
    (hd0 : PySem.W.hasDictIn K KC0 = true)
    (po0 : PySem.W.plainOver K KC0 = true)
    (sa0 : PySem.W.findIn K (.ref KC0) "__setattr__" = some (some (.builtin "object.__setattr__")))
    (mK0 : PySem.W.makesIn K KC0 = true)
    (kK0 : PySem.W.keepIn K (.ref KC0) = true)
    (nA0_0 : PySem.W.findIn K (.ref KC0) "forest" = some none)
    (nA0_1 : PySem.W.findIn K (.ref KC0) "size_of" = some none)
    (nA0_2 : PySem.W.findIn K (.ref KC0) "things" = some none)
    (nA0_3 : PySem.W.findIn K (.ref KC0) "many" = some none)
    (z_isinstance : PySem.W.nsIn K mainGlobals "isinstance" = some none)
    (z_int : PySem.W.nsIn K mainGlobals "int" = some none)
    (z_bool : PySem.W.nsIn K mainGlobals "bool" = some none)
    (z_tuple : PySem.W.nsIn K mainGlobals "tuple" = some none)
    (z_len : PySem.W.nsIn K mainGlobals "len" = some none)
    (z_all : PySem.W.nsIn K mainGlobals "all" = some none)
    (z_enumerate : PySem.W.nsIn K mainGlobals "enumerate" = some none)
    (z_reversed : PySem.W.nsIn K mainGlobals "reversed" = some none)
    (z_sorted : PySem.W.nsIn K mainGlobals "sorted" = some none)
    (z_max : PySem.W.nsIn K mainGlobals "max" = some none)
    (z_min : PySem.W.nsIn K mainGlobals "min" = some none)
    (z_abs : PySem.W.nsIn K mainGlobals "abs" = some none)
    (z_range : PySem.W.nsIn K mainGlobals "range" = some none)
    (z_list : PySem.W.nsIn K mainGlobals "list" = some none)
    (z_repr : PySem.W.nsIn K mainGlobals "repr" = some none)
    (z_sum : PySem.W.nsIn K mainGlobals "sum" = some none)
    (z_any : PySem.W.nsIn K mainGlobals "any" = some none)
    (z_zip : PySem.W.nsIn K mainGlobals "zip" = some none)
    (z_str : PySem.W.nsIn K mainGlobals "str" = some none)
    (z_set : PySem.W.nsIn K mainGlobals "set" = some none)
    (z_dict : PySem.W.nsIn K mainGlobals "dict" = some none)
    (z_divmod : PySem.W.nsIn K mainGlobals "divmod" = some none)
    (g_0 : PySem.W.nsIn K mainGlobals "InvalidForest" = some (some (.ref C0)))
    (x_0 : PySem.W.excIn K C0 [.type "ValueError", .type "Exception", .type "BaseException", .type "object"] "ValueError.__new__" = true)
    (k_0 : PySem.W.keepIn K (.ref C0) = true)
    (b_0 : PySem.W.subIn K (.ref C0) (.type "BaseException") = some true)
    (t_0 : PySem.W.typeIn K (.ref C0) = some (.type "type"))
    (ga_0 : PySem.W.findIn K (.ref C0) "__getattribute__" = some (some (.builtin "BaseException.__getattribute__")))
    (gt_0 : PySem.W.findIn K (.ref C0) "__getattr__" = some none)
    (hd_0 : PySem.W.hasDictIn K C0 = true)
    (hc_0 : PySem.W.findIn K (.ref C0) "__class__" = some (some (.builtin "object.__class__")))
    (hm_0 : PySem.W.mroIn K C0 (.type "object") = some true)
    (v_0 : PySem.W.kitOne K (.ref C0) (.type "ValueError") = some true)
    (y_0_0 : PySem.W.kitOne K (.ref C0) (.ref C0) = some true)
    (y_0_1 : PySem.W.kitOne K (.ref C0) (.ref C1) = some false)
    (y_0_2 : PySem.W.kitOne K (.ref C0) (.ref C2) = some false)
    (y_0_3 : PySem.W.kitOne K (.ref C0) (.ref C3) = some false)
    (g_1 : PySem.W.nsIn K mainGlobals "InvalidIndex" = some (some (.ref C1)))
    (x_1 : PySem.W.excIn K C1 [.type "ValueError", .type "Exception", .type "BaseException", .type "object"] "ValueError.__new__" = true)
    (k_1 : PySem.W.keepIn K (.ref C1) = true)
    (b_1 : PySem.W.subIn K (.ref C1) (.type "BaseException") = some true)
    (t_1 : PySem.W.typeIn K (.ref C1) = some (.type "type"))
    (ga_1 : PySem.W.findIn K (.ref C1) "__getattribute__" = some (some (.builtin "BaseException.__getattribute__")))
    (gt_1 : PySem.W.findIn K (.ref C1) "__getattr__" = some none)
    (hd_1 : PySem.W.hasDictIn K C1 = true)
    (hc_1 : PySem.W.findIn K (.ref C1) "__class__" = some (some (.builtin "object.__class__")))
    (hm_1 : PySem.W.mroIn K C1 (.type "object") = some true)
    (v_1 : PySem.W.kitOne K (.ref C1) (.type "ValueError") = some true)
    (y_1_0 : PySem.W.kitOne K (.ref C1) (.ref C0) = some false)
    (y_1_1 : PySem.W.kitOne K (.ref C1) (.ref C1) = some true)
    (y_1_2 : PySem.W.kitOne K (.ref C1) (.ref C2) = some false)
    (y_1_3 : PySem.W.kitOne K (.ref C1) (.ref C3) = some false)
    (g_2 : PySem.W.nsIn K mainGlobals "InvalidStages" = some (some (.ref C2)))
    (x_2 : PySem.W.excIn K C2 [.type "ValueError", .type "Exception", .type "BaseException", .type "object"] "ValueError.__new__" = true)
    (k_2 : PySem.W.keepIn K (.ref C2) = true)
    (b_2 : PySem.W.subIn K (.ref C2) (.type "BaseException") = some true)
    (t_2 : PySem.W.typeIn K (.ref C2) = some (.type "type"))
    (ga_2 : PySem.W.findIn K (.ref C2) "__getattribute__" = some (some (.builtin "BaseException.__getattribute__")))
    (gt_2 : PySem.W.findIn K (.ref C2) "__getattr__" = some none)
    (hd_2 : PySem.W.hasDictIn K C2 = true)
    (hc_2 : PySem.W.findIn K (.ref C2) "__class__" = some (some (.builtin "object.__class__")))
    (hm_2 : PySem.W.mroIn K C2 (.type "object") = some true)
    (v_2 : PySem.W.kitOne K (.ref C2) (.type "ValueError") = some true)
    (y_2_0 : PySem.W.kitOne K (.ref C2) (.ref C0) = some false)
    (y_2_1 : PySem.W.kitOne K (.ref C2) (.ref C1) = some false)
    (y_2_2 : PySem.W.kitOne K (.ref C2) (.ref C2) = some true)
    (y_2_3 : PySem.W.kitOne K (.ref C2) (.ref C3) = some false)
    (g_3 : PySem.W.nsIn K mainGlobals "NoSequence" = some (some (.ref C3)))
    (x_3 : PySem.W.excIn K C3 [.type "ValueError", .type "Exception", .type "BaseException", .type "object"] "ValueError.__new__" = true)
    (k_3 : PySem.W.keepIn K (.ref C3) = true)
    (b_3 : PySem.W.subIn K (.ref C3) (.type "BaseException") = some true)
    (t_3 : PySem.W.typeIn K (.ref C3) = some (.type "type"))
    (ga_3 : PySem.W.findIn K (.ref C3) "__getattribute__" = some (some (.builtin "BaseException.__getattribute__")))
    (gt_3 : PySem.W.findIn K (.ref C3) "__getattr__" = some none)
    (hd_3 : PySem.W.hasDictIn K C3 = true)
    (hc_3 : PySem.W.findIn K (.ref C3) "__class__" = some (some (.builtin "object.__class__")))
    (hm_3 : PySem.W.mroIn K C3 (.type "object") = some true)
    (v_3 : PySem.W.kitOne K (.ref C3) (.type "ValueError") = some true)
    (y_3_0 : PySem.W.kitOne K (.ref C3) (.ref C0) = some false)
    (y_3_1 : PySem.W.kitOne K (.ref C3) (.ref C1) = some false)
    (y_3_2 : PySem.W.kitOne K (.ref C3) (.ref C2) = some false)
    (y_3_3 : PySem.W.kitOne K (.ref C3) (.ref C3) = some true)
    (m_gcd : PySem.W.nsIn K mainGlobals "gcd" = some (some (.builtin "math.gcd")))
    (m_factorial : PySem.W.nsIn K mainGlobals "factorial" = some (some (.builtin "math.factorial")))
    (sn : PySem.W.specialIn K (.builtin "object.__class__") "__get__" = some (some (.builtin "getset_descriptor.__get__")))
    (st : PySem.W.takesIn K (.builtin "object.__class__") = some true) :
    ∃ fd : FuncData, (∀ (s : Shared) (v : Value), BindsTo s fd ⟨[v], []⟩ [("script", v)]) ∧ ∀ base : Heap, K.In base → base.Ns mainGlobals mg → Qui l.prog w K mg base 14 fa fd ["script"] (spLaw K) := by
  have e := hfa.symm.trans (PySem.W.mg_of X G a50)
  cases e
  have D_is_integer : Df K mg "is_integer" st_is_integer ["value"] := Df.mk' l0 c0 k0 (PySem.W.mg_of X G a0) fun _ _ _ _ _ _ us hl => match us, hl with | [_], _ => rfl
  have D_is_between : Df K mg "is_between" st_is_between ["value", "least", "greatest"] := Df.mk' l1 c1 k1 (PySem.W.mg_of X G a1) fun _ _ _ _ _ _ us hl => match us, hl with | [_, _, _], _ => rfl
  have D_is_index : Df K mg "is_index" st_is_index ["value", "many"] := Df.mk' l2 c2 k2 (PySem.W.mg_of X G a2) fun _ _ _ _ _ _ us hl => match us, hl with | [_, _], _ => rfl
  have D_are_different : Df K mg "are_different" st_are_different ["values", "many"] := Df.mk' l3 c3 k3 (PySem.W.mg_of X G a3) fun _ _ _ _ _ _ us hl => match us, hl with | [_, _], _ => rfl
  have D_lowest : Df K mg "lowest" st_lowest ["top", "bottom"] := Df.mk' l4 c4 k4 (PySem.W.mg_of X G a4) fun _ _ _ _ _ _ us hl => match us, hl with | [_, _], _ => rfl
  have D_is_forest : Df K mg "is_forest" st_is_forest ["value"] := Df.mk' l5 c5 k5 (PySem.W.mg_of X G a5) fun _ _ _ _ _ _ us hl => match us, hl with | [_], _ => rfl
  have D_check_forest : Df K mg "check_forest" st_check_forest ["forest"] := Df.mk' l6 c6 k6 (PySem.W.mg_of X G a6) fun _ _ _ _ _ _ us hl => match us, hl with | [_], _ => rfl
  have D_sizes : Df K mg "sizes" st_sizes ["forest"] := Df.mk' l7 c7 k7 (PySem.W.mg_of X G a7) fun _ _ _ _ _ _ us hl => match us, hl with | [_], _ => rfl
  have D_walk : Df K mg "walk" st_walk ["forest"] := Df.mk' l8 c8 k8 (PySem.W.mg_of X G a8) fun _ _ _ _ _ _ us hl => match us, hl with | [_], _ => rfl
  have D_forest_among : Df K mg "forest_among" st_forest_among ["forest", "things"] := Df.mk' l9 c9 k9 (PySem.W.mg_of X G a9) fun _ _ _ _ _ _ us hl => match us, hl with | [_, _], _ => rfl
  have D__without_holder : Df K mg "_without_holder" st__without_holder ["forest"] := Df.mk' l10 c10 k10 (PySem.W.mg_of X G a10) fun _ _ _ _ _ _ us hl => match us, hl with | [_], _ => rfl
  have D__held_lists : Df K mg "_held_lists" st__held_lists ["forest"] := Df.mk' l11 c11 k11 (PySem.W.mg_of X G a11) fun _ _ _ _ _ _ us hl => match us, hl with | [_], _ => rfl
  have D__walk_through : Df K mg "_walk_through" st__walk_through ["held", "starts"] := Df.mk' l12 c12 k12 (PySem.W.mg_of X G a12) fun _ _ _ _ _ _ us hl => match us, hl with | [_, _], _ => rfl
  have D_can_be_next : Df K mg "can_be_next" st_can_be_next ["forest", "things"] := Df.mk' l13 c13 k13 (PySem.W.mg_of X G a13) fun _ _ _ _ _ _ us hl => match us, hl with | [_, _], _ => rfl
  have D_nth_by_ways : Df K mg "nth_by_ways" st_nth_by_ways ["left", "index"] := Df.mk' l14 c14 k14 (PySem.W.mg_of X G a14) fun _ _ _ _ _ _ us hl => match us, hl with | [_, _], _ => rfl
  have D__next_for : Df K mg "_next_for" st__next_for ["next_ways", "index"] := Df.mk' l15 c15 k15 (PySem.W.mg_of X G a15) fun _ _ _ _ _ _ us hl => match us, hl with | [_, _], _ => rfl
  have D_count_sequences : Df K mg "count_sequences" st_count_sequences ["forest"] := Df.mk' l16 c16 k16 (PySem.W.mg_of X G a16) fun _ _ _ _ _ _ us hl => match us, hl with | [_], _ => rfl
  have D_nth_sequence : Df K mg "nth_sequence" st_nth_sequence ["forest", "index"] := Df.mk' l17 c17 k17 (PySem.W.mg_of X G a17) fun _ _ _ _ _ _ us hl => match us, hl with | [_, _], _ => rfl
  have D_are_stages : Df K mg "are_stages" st_are_stages ["value", "many"] := Df.mk' l18 c18 k18 (PySem.W.mg_of X G a18) fun _ _ _ _ _ _ us hl => match us, hl with | [_, _], _ => rfl
  have D_stage_fault : Df K mg "stage_fault" st_stage_fault ["forest", "stages"] := Df.mk' l19 c19 k19 (PySem.W.mg_of X G a19) fun _ _ _ _ _ _ us hl => match us, hl with | [_, _], _ => rfl
  have D_count_with : Df K mg "count_with" st_count_with ["forest", "stages"] := Df.mk' l20 c20 k20 (PySem.W.mg_of X G a20) fun _ _ _ _ _ _ us hl => match us, hl with | [_, _], _ => rfl
  have D_nth_with : Df K mg "nth_with" st_nth_with ["forest", "stages", "index"] := Df.mk' l21 c21 k21 (PySem.W.mg_of X G a21) fun _ _ _ _ _ _ us hl => match us, hl with | [_, _, _], _ => rfl
  have D_share_with : Df K mg "share_with" st_share_with ["forest", "stages"] := Df.mk' l22 c22 k22 (PySem.W.mg_of X G a22) fun _ _ _ _ _ _ us hl => match us, hl with | [_, _], _ => rfl
  have D__ascends : Df K mg "_ascends" st__ascends ["things"] := Df.mk' l23 c23 k23 (PySem.W.mg_of X G a23) fun _ _ _ _ _ _ us hl => match us, hl with | [_], _ => rfl
  have D__check_stages : Df K mg "_check_stages" st__check_stages ["forest", "stages"] := Df.mk' l24 c24 k24 (PySem.W.mg_of X G a24) fun _ _ _ _ _ _ us hl => match us, hl with | [_, _], _ => rfl
  have D__check_some_keeps : Df K mg "_check_some_keeps" st__check_some_keeps ["forest", "stages"] := Df.mk' l25 c25 k25 (PySem.W.mg_of X G a25) fun _ _ _ _ _ _ us hl => match us, hl with | [_, _], _ => rfl
  have D__rest : Df K mg "_rest" st__rest ["forest", "stages"] := Df.mk' l26 c26 k26 (PySem.W.mg_of X G a26) fun _ _ _ _ _ _ us hl => match us, hl with | [_, _], _ => rfl
  have D__blocks : Df K mg "_blocks" st__blocks ["forest", "stages"] := Df.mk' l27 c27 k27 (PySem.W.mg_of X G a27) fun _ _ _ _ _ _ us hl => match us, hl with | [_, _], _ => rfl
  have D__law_well : Df K mg "_law_well" st__law_well ["script", "at"] := Df.mk' l28 c28 k28 (PySem.W.mg_of X G a28) fun _ _ _ _ _ _ us hl => match us, hl with | [_, _], _ => rfl
  have D__law_draw : Df K mg "_law_draw" st__law_draw ["well", "most"] := Df.mk' l29 c29 k29 (PySem.W.mg_of X G a29) fun _ _ _ _ _ _ us hl => match us, hl with | [_, _], _ => rfl
  have D__law_same : Df K mg "_law_same" st__law_same ["found", "due"] := Df.mk' l30 c30 k30 (PySem.W.mg_of X G a30) fun _ _ _ _ _ _ us hl => match us, hl with | [_, _], _ => rfl
  have D__law_forest : Df K mg "_law_forest" st__law_forest ["well", "most"] := Df.mk' l31 c31 k31 (PySem.W.mg_of X G a31) fun _ _ _ _ _ _ us hl => match us, hl with | [_, _], _ => rfl
  have D__law_up : Df K mg "_law_up" st__law_up ["plan", "one"] := Df.mk' l32 c32 k32 (PySem.W.mg_of X G a32) fun _ _ _ _ _ _ us hl => match us, hl with | [_, _], _ => rfl
  have D__law_weights : Df K mg "_law_weights" st__law_weights ["plan"] := Df.mk' l33 c33 k33 (PySem.W.mg_of X G a33) fun _ _ _ _ _ _ us hl => match us, hl with | [_], _ => rfl
  have D__law_many : Df K mg "_law_many" st__law_many ["plan"] := Df.mk' l34 c34 k34 (PySem.W.mg_of X G a34) fun _ _ _ _ _ _ us hl => match us, hl with | [_], _ => rfl
  have D__law_rows : Df K mg "_law_rows" st__law_rows ["plan"] := Df.mk' l35 c35 k35 (PySem.W.mg_of X G a35) fun _ _ _ _ _ _ us hl => match us, hl with | [_], _ => rfl
  have D__law_row : Df K mg "_law_row" st__law_row ["well", "plan"] := Df.mk' l36 c36 k36 (PySem.W.mg_of X G a36) fun _ _ _ _ _ _ us hl => match us, hl with | [_, _], _ => rfl
  have D__law_lots : Df K mg "_law_lots" st__law_lots ["well", "row"] := Df.mk' l37 c37 k37 (PySem.W.mg_of X G a37) fun _ _ _ _ _ _ us hl => match us, hl with | [_, _], _ => rfl
  have D__law_flat : Df K mg "_law_flat" st__law_flat ["lots"] := Df.mk' l38 c38 k38 (PySem.W.mg_of X G a38) fun _ _ _ _ _ _ us hl => match us, hl with | [_], _ => rfl
  have D__law_bent : Df K mg "_law_bent" st__law_bent ["well", "lots", "size"] := Df.mk' l39 c39 k39 (PySem.W.mg_of X G a39) fun _ _ _ _ _ _ us hl => match us, hl with | [_, _, _], _ => rfl
  have D__law_keeps : Df K mg "_law_keeps" st__law_keeps ["row", "lots"] := Df.mk' l40 c40 k40 (PySem.W.mg_of X G a40) fun _ _ _ _ _ _ us hl => match us, hl with | [_, _], _ => rfl
  have D__law_ways : Df K mg "_law_ways" st__law_ways ["plan", "some"] := Df.mk' l41 c41 k41 (PySem.W.mg_of X G a41) fun _ _ _ _ _ _ us hl => match us, hl with | [_, _], _ => rfl
  have D__law_rest : Df K mg "_law_rest" st__law_rest ["plan", "lots"] := Df.mk' l42 c42 k42 (PySem.W.mg_of X G a42) fun _ _ _ _ _ _ us hl => match us, hl with | [_, _], _ => rfl
  have D__law_rank : Df K mg "_law_rank" st__law_rank ["plan", "lots", "row"] := Df.mk' l43 c43 k43 (PySem.W.mg_of X G a43) fun _ _ _ _ _ _ us hl => match us, hl with | [_, _, _], _ => rfl
  have D__law_told : Df K mg "_law_told" st__law_told ["plan", "lots", "spot", "due"] := Df.mk' l44 c44 k44 (PySem.W.mg_of X G a44) fun _ _ _ _ _ _ us hl => match us, hl with | [_, _, _, _], _ => rfl
  have D__law_small_right : Df K mg "_law_small_right" st__law_small_right ["well", "plan"] := Df.mk' l45 c45 k45 (PySem.W.mg_of X G a45) fun _ _ _ _ _ _ us hl => match us, hl with | [_, _], _ => rfl
  have D__law_large_right : Df K mg "_law_large_right" st__law_large_right ["well", "plan"] := Df.mk' l46 c46 k46 (PySem.W.mg_of X G a46) fun _ _ _ _ _ _ us hl => match us, hl with | [_, _], _ => rfl
  have D__law_long : Df K mg "_law_long" st__law_long ["well"] := Df.mk' l47 c47 k47 (PySem.W.mg_of X G a47) fun _ _ _ _ _ _ us hl => match us, hl with | [_], _ => rfl
  have D__law_end : Df K mg "_law_end" st__law_end ["plan", "lots", "side"] := Df.mk' l48 c48 k48 (PySem.W.mg_of X G a48) fun _ _ _ _ _ _ us hl => match us, hl with | [_, _, _], _ => rfl
  have D__law_great_right : Df K mg "_law_great_right" st__law_great_right ["well", "plan"] := Df.mk' l49 c49 k49 (PySem.W.mg_of X G a49) fun _ _ _ _ _ _ us hl => match us, hl with | [_, _], _ => rfl
  have MF0_0 := fun_mk (st := st_AllLeft_init) ml0_0 mc0_0 mk0_0
  have D_AllLeft_init : DfI K KC0 "AllLeft.__init__" st_AllLeft_init ["self", "forest", "many"] := ⟨_, _, MF0_0, ⟨mK0, ma0_0, mi0_0, kK0⟩, (MF0_0.binds (ps := ["self", "forest", "many"]) fun _ _ _ _ _ _ us hl => match us, hl with | [_, _, _], _ => rfl)⟩
  have MF0_1 := fun_mk (st := st_AllLeft_next_ways) ml0_1 mc0_1 mk0_1
  have D_AllLeft_next_ways : DfM K KC0 "next_ways" "AllLeft.next_ways" st_AllLeft_next_ways ["self"] := ⟨_, _, MF0_1, ⟨ma0_1, mi0_1, mk0_1⟩, (MF0_1.binds (ps := ["self"]) fun _ _ _ _ _ _ us hl => match us, hl with | [_], _ => rfl)⟩
  have MF0_2 := fun_mk (st := st_AllLeft_ways_with) ml0_2 mc0_2 mk0_2
  have D_AllLeft_ways_with : DfM K KC0 "ways_with" "AllLeft.ways_with" st_AllLeft_ways_with ["self", "thing"] := ⟨_, _, MF0_2, ⟨ma0_2, mi0_2, mk0_2⟩, (MF0_2.binds (ps := ["self", "thing"]) fun _ _ _ _ _ _ us hl => match us, hl with | [_, _], _ => rfl)⟩
  have MF0_3 := fun_mk (st := st_AllLeft_take) ml0_3 mc0_3 mk0_3
  have D_AllLeft_take : DfM K KC0 "take" "AllLeft.take" st_AllLeft_take ["self", "thing"] := ⟨_, _, MF0_3, ⟨ma0_3, mi0_3, mk0_3⟩, (MF0_3.binds (ps := ["self", "thing"]) fun _ _ _ _ _ _ us hl => match us, hl with | [_, _], _ => rfl)⟩
  have T_AllLeft : AlT K mg KC0 := ⟨⟨pg0, hd0, po0, sa0⟩, PySem.W.mg_of X G aK0, nA0_0, nA0_1, nA0_2, nA0_3⟩
  have B : Bl mg := ⟨PySem.W.mg_none_of X G z_isinstance, PySem.W.mg_none_of X G z_int, PySem.W.mg_none_of X G z_bool, PySem.W.mg_none_of X G z_tuple, PySem.W.mg_none_of X G z_len, PySem.W.mg_none_of X G z_all, PySem.W.mg_none_of X G z_enumerate, PySem.W.mg_none_of X G z_reversed, PySem.W.mg_none_of X G z_sorted, PySem.W.mg_none_of X G z_max, PySem.W.mg_none_of X G z_min, PySem.W.mg_none_of X G z_abs, PySem.W.mg_none_of X G z_range, PySem.W.mg_none_of X G z_list, PySem.W.mg_none_of X G z_repr, PySem.W.mg_none_of X G z_sum, PySem.W.mg_none_of X G z_any, PySem.W.mg_none_of X G z_zip, PySem.W.mg_none_of X G z_str, PySem.W.mg_none_of X G z_set, PySem.W.mg_none_of X G z_dict⟩
  have BM : Bm mg := ⟨PySem.W.mg_of X G m_gcd, PySem.W.mg_of X G m_factorial⟩
  have E_InvalidForest : Ex1 K mg "InvalidForest" C0 := ⟨x_0, PySem.W.mg_of X G g_0, k_0, b_0, t_0⟩
  have X_InvalidForest : ExcC K C0 := ⟨ga_0, gt_0, b_0, hd_0, hc_0, sn, st, hm_0⟩
  have E_InvalidIndex : Ex1 K mg "InvalidIndex" C1 := ⟨x_1, PySem.W.mg_of X G g_1, k_1, b_1, t_1⟩
  have X_InvalidIndex : ExcC K C1 := ⟨ga_1, gt_1, b_1, hd_1, hc_1, sn, st, hm_1⟩
  have E_InvalidStages : Ex1 K mg "InvalidStages" C2 := ⟨x_2, PySem.W.mg_of X G g_2, k_2, b_2, t_2⟩
  have X_InvalidStages : ExcC K C2 := ⟨ga_2, gt_2, b_2, hd_2, hc_2, sn, st, hm_2⟩
  have E_NoSequence : Ex1 K mg "NoSequence" C3 := ⟨x_3, PySem.W.mg_of X G g_3, k_3, b_3, t_3⟩
  have X_NoSequence : ExcC K C3 := ⟨ga_3, gt_3, b_3, hd_3, hc_3, sn, st, hm_3⟩
  refine ⟨PySem.W.fnOf "law" "law" (defArgs st_law) (defBody st_law) (defScope st_law) .none kV50 dc50 pm50 an50 cd50 ct50, fun s v => .of_eq rfl, fun base _ _ => ?_⟩
  have Kis_integer := ok_is_integer (P := l.prog) (w := w) (base := base) D_is_integer B
  have Kis_between := ok_is_between D_is_between B Kis_integer
  have Kis_index := ok_is_index D_is_index B Kis_between
  have Kwo := ok__without_holder (P := l.prog) (w := w) (base := base) D__without_holder B
  have Khl := ok__held_lists (P := l.prog) (w := w) (base := base) D__held_lists B
  have Kwt := ok__walk_through (P := l.prog) (w := w) (base := base) D__walk_through B
  have Kis_forest := ok_is_forest D_is_forest B Kis_index Kwo Khl Kwt
  have Kcf := ok_check_forest D_check_forest B E_InvalidForest Kis_forest
  have Kwalk := ok_walk D_walk B Kcf Kwo Khl Kwt
  have Ksizes := ok_sizes D_sizes B Kwalk
  have Kamong := ok_forest_among (P := l.prog) (w := w) (base := base) D_forest_among B
  have Klowest := ok_lowest (P := l.prog) (w := w) (base := base) D_lowest BM
  have Kcount := ok_count_sequences D_count_sequences B BM Ksizes
  have Kascends := ok__ascends (P := l.prog) (w := w) (base := base) D__ascends B
  have Kdifferent := ok_are_different D_are_different B Kis_index
  have Kstages := ok_are_stages D_are_stages B Kascends Kdifferent
  have Kchecks := ok__check_stages D__check_stages B E_InvalidStages Kcf Kstages
  have Kfault := ok_stage_fault D_stage_fault B Kchecks
  have Krest := ok__rest (P := l.prog) (w := w) (base := base) D__rest B
  have Kblocks := ok__blocks D__blocks B Krest
  have Kcw := ok_count_with D_count_with B Kfault Kblocks Kamong Kcount
  have Ksw := ok_share_with D_share_with B Klowest Kcw Kcount
  have Kcan := ok_can_be_next (P := l.prog) (w := w) (base := base) D_can_be_next B
  have Gways := ok_AllLeft_ways_with (P := l.prog) (w := w) (base := base) D_AllLeft_ways_with T_AllLeft B
  have Gnext := ok_AllLeft_next_ways D_AllLeft_next_ways T_AllLeft B Kcan Gways
  have Gtake := ok_AllLeft_take D_AllLeft_take T_AllLeft B Gways
  have Mal := ok_AllLeft_init D_AllLeft_init T_AllLeft B Ksizes
  have Knf := ok__next_for (P := l.prog) (w := w) (base := base) D__next_for B
  have Knbw := ok_nth_by_ways D_nth_by_ways B T_AllLeft Knf Gnext Gtake
  have Knth := ok_nth_sequence D_nth_sequence B T_AllLeft E_InvalidIndex Kis_index Kcount Knbw Mal
  have Ksome := ok__check_some_keeps D__check_some_keeps B E_NoSequence Kfault
  have Knw := ok_nth_with D_nth_with B (PySem.W.mg_none_of X G z_divmod) E_InvalidIndex Kis_index Ksome Kcw Kblocks Kamong Kcount Knth
  have Kdraw := ok__law_draw (P := l.prog) (w := w) (base := base) D__law_draw B
  have KdrawW := ok__law_drawW (P := l.prog) (w := w) (base := base) D__law_draw B
  have Kwell := ok__law_well (P := l.prog) (w := w) (base := base) D__law_well B
  have Kforest := ok__law_forest D__law_forest B Kdraw
  have Ksame3 := ok__law_same (P := l.prog) (w := w) (base := base) D__law_same B 3
  have Kup := ok__law_up (P := l.prog) (w := w) (base := base) D__law_up B
  have Kweights := ok__law_weights0 D__law_weights B Kup
  have Kmany := ok__law_many D__law_many B Kweights
  have Krows := ok__law_rowsN (P := l.prog) (w := w) (base := base) D__law_rows B
  have Krow := ok__law_row D__law_row B Kdraw
  have Klots := ok__law_lots D__law_lots B Kdraw
  have Kflat := ok__law_flat (P := l.prog) (w := w) (base := base) D__law_flat B
  have Kbent := ok__law_bent D__law_bent B Kdraw Kflat
  have Kkeeps := ok__law_keeps (P := l.prog) (w := w) (base := base) D__law_keeps B
  have Kways := ok__law_ways D__law_ways B Kmany
  have Klrest := ok__law_rest D__law_rest B Kflat
  have Krank := ok__law_rank D__law_rank B Klrest Kways
  have Kend := ok__law_end D__law_end B Klrest
  have Ktold := ok__law_told D__law_told B Knw Ksame3
  have Ksmall := ok__law_small_right D__law_small_right B Kdraw Krow Krows Klots Kbent Kkeeps Ktold
  have Klarge := ok__law_large_right D__law_large_right B Kdraw Krow Klots Klrest Kways Kkeeps Krank Knw
  have Klong := ok__law_long D__law_long B Kdraw
  have Kgreat := ok__law_great_right D__law_great_right B KdrawW Krow Klrest Kways Kmany Kkeeps Krank Kend Kcw Ksw Knw
  exact ok_law (fun_mk (st := st_law) l50 c50 k50) B Kwell Kforest Klong Ksmall Klarge Kgreat Ksame3 Knw
theorem walkL {l : PySem.W.OpenLaw} {q : Program} {loose : List Str} {XP : (Str → Option Value) → Heap → Prop} {YP : World → Heap → Prop} {d : DefRec} {K : Params → PySem.W.Frag} (hn : l.most = some 63) (hdf : d.params.defaults = []) (hY : ∀ (w : World) (h : Heap), YP w h → (K w.params).In h)
    (F : ∀ (w : World) (mg : Str → Option Value) (fa : Addr) (h : Heap), (K w.params).In h → h.Ns mainGlobals mg → mg d.name = some (.ref fa) → ∃ fd : FuncData, (∀ (s : Shared) (u : Value), BindsTo s fd ⟨[u], []⟩ [("script", u)]) ∧ ∀ base : Heap, (K w.params).In base → base.Ns mainGlobals mg → Qui l.prog w (K w.params) mg base 14 fa fd ["script"] (spLaw (K w.params))) :
    PySem.W.WalkO q loose XP YP l.row.toRowW d [] (fun f vs => PySem.call f vs) :=
  L2.walk_ofQ (n := 63) (k := 14) (x := "script") (sp := fun w => spLaw (K w.params)) hn (by decide) hdf ⟨rfl, by decide, by decide⟩ hY F fun _ _ a ns hl _ hS => ⟨a, ns, rfl, hS, hl, fun _ => rfl⟩
end My
open PySem PySem.W PyProof.Rows
set_option maxRecDepth 100000 in
set_option maxHeartbeats 0 in
theorem PySem.Challenge.cw_heldbehind_k17_sequences_with_stages_by_holds : PySem.Challenge.rw_heldbehind_k17_sequences_with_stages_by.Holds := by
  w_on; o_law; k_head; (case hw => w_witness2)
  k_fill
  refine My.walkL (l := PySem.Challenge.rw_heldbehind_k17_sequences_with_stages_by) rfl rfl (fun w h Y => PySem.W.kIn_of Y) ?F
  case F =>
    intro w mg fa h KX G hmg
    refine' My.all_mk KX G hmg ?a0 ?l0 ?c0 ?k0 ?a1 ?l1 ?c1 ?k1 ?a2 ?l2 ?c2 ?k2 ?a3 ?l3 ?c3 ?k3 ?a4 ?l4 ?c4 ?k4 ?a5 ?l5 ?c5 ?k5 ?a6 ?l6 ?c6 ?k6 ?a7 ?l7 ?c7 ?k7 ?a8 ?l8 ?c8 ?k8 ?a9 ?l9 ?c9 ?k9 ?a10 ?l10 ?c10 ?k10 ?a11 ?l11 ?c11 ?k11 ?a12 ?l12 ?c12 ?k12 ?a13 ?l13 ?c13 ?k13 ?a14 ?l14 ?c14 ?k14 ?a15 ?l15 ?c15 ?k15 ?a16 ?l16 ?c16 ?k16 ?a17 ?l17 ?c17 ?k17 ?a18 ?l18 ?c18 ?k18 ?a19 ?l19 ?c19 ?k19 ?a20 ?l20 ?c20 ?k20 ?a21 ?l21 ?c21 ?k21 ?a22 ?l22 ?c22 ?k22 ?a23 ?l23 ?c23 ?k23 ?a24 ?l24 ?c24 ?k24 ?a25 ?l25 ?c25 ?k25 ?a26 ?l26 ?c26 ?k26 ?a27 ?l27 ?c27 ?k27 ?a28 ?l28 ?c28 ?k28 ?a29 ?l29 ?c29 ?k29 ?a30 ?l30 ?c30 ?k30 ?a31 ?l31 ?c31 ?k31 ?a32 ?l32 ?c32 ?k32 ?a33 ?l33 ?c33 ?k33 ?a34 ?l34 ?c34 ?k34 ?a35 ?l35 ?c35 ?k35 ?a36 ?l36 ?c36 ?k36 ?a37 ?l37 ?c37 ?k37 ?a38 ?l38 ?c38 ?k38 ?a39 ?l39 ?c39 ?k39 ?a40 ?l40 ?c40 ?k40 ?a41 ?l41 ?c41 ?k41 ?a42 ?l42 ?c42 ?k42 ?a43 ?l43 ?c43 ?k43 ?a44 ?l44 ?c44 ?k44 ?a45 ?l45 ?c45 ?k45 ?a46 ?l46 ?c46 ?k46 ?a47 ?l47 ?c47 ?k47 ?a48 ?l48 ?c48 ?k48 ?a49 ?l49 ?c49 ?k49 ?a50 ?l50 ?c50 ?k50 ?aK0 ?ma0_0 ?mi0_0 ?ml0_0 ?mc0_0 ?mk0_0 ?ma0_1 ?mi0_1 ?ml0_1 ?mc0_1 ?mk0_1 ?ma0_2 ?mi0_2 ?ml0_2 ?mc0_2 ?mk0_2 ?ma0_3 ?mi0_3 ?ml0_3 ?mc0_3 ?mk0_3 ?pg0 ?hd0 ?po0 ?sa0 ?mK0 ?kK0 ?nA0_0 ?nA0_1 ?nA0_2 ?nA0_3 ?z_isinstance ?z_int ?z_bool ?z_tuple ?z_len ?z_all ?z_enumerate ?z_reversed ?z_sorted ?z_max ?z_min ?z_abs ?z_range ?z_list ?z_repr ?z_sum ?z_any ?z_zip ?z_str ?z_set ?z_dict ?z_divmod ?g_0 ?x_0 ?k_0 ?b_0 ?t_0 ?ga_0 ?gt_0 ?hd_0 ?hc_0 ?hm_0 ?v_0 ?y_0_0 ?y_0_1 ?y_0_2 ?y_0_3 ?g_1 ?x_1 ?k_1 ?b_1 ?t_1 ?ga_1 ?gt_1 ?hd_1 ?hc_1 ?hm_1 ?v_1 ?y_1_0 ?y_1_1 ?y_1_2 ?y_1_3 ?g_2 ?x_2 ?k_2 ?b_2 ?t_2 ?ga_2 ?gt_2 ?hd_2 ?hc_2 ?hm_2 ?v_2 ?y_2_0 ?y_2_1 ?y_2_2 ?y_2_3 ?g_3 ?x_3 ?k_3 ?b_3 ?t_3 ?ga_3 ?gt_3 ?hd_3 ?hc_3 ?hm_3 ?v_3 ?y_3_0 ?y_3_1 ?y_3_2 ?y_3_3 ?m_gcd ?m_factorial ?sn ?st
    (case a0 => first | k_is | rfl)
    (case a1 => first | k_is | rfl)
    (case a2 => first | k_is | rfl)
    (case a3 => first | k_is | rfl)
    (case a4 => first | k_is | rfl)
    (case a5 => first | k_is | rfl)
    (case a6 => first | k_is | rfl)
    (case a7 => first | k_is | rfl)
    (case a8 => first | k_is | rfl)
    (case a9 => first | k_is | rfl)
    (case a10 => first | k_is | rfl)
    (case a11 => first | k_is | rfl)
    (case a12 => first | k_is | rfl)
    (case a13 => first | k_is | rfl)
    (case a14 => first | k_is | rfl)
    (case a15 => first | k_is | rfl)
    (case a16 => first | k_is | rfl)
    (case a17 => first | k_is | rfl)
    (case a18 => first | k_is | rfl)
    (case a19 => first | k_is | rfl)
    (case a20 => first | k_is | rfl)
    (case a21 => first | k_is | rfl)
    (case a22 => first | k_is | rfl)
    (case a23 => first | k_is | rfl)
    (case a24 => first | k_is | rfl)
    (case a25 => first | k_is | rfl)
    (case a26 => first | k_is | rfl)
    (case a27 => first | k_is | rfl)
    (case a28 => first | k_is | rfl)
    (case a29 => first | k_is | rfl)
    (case a30 => first | k_is | rfl)
    (case a31 => first | k_is | rfl)
    (case a32 => first | k_is | rfl)
    (case a33 => first | k_is | rfl)
    (case a34 => first | k_is | rfl)
    (case a35 => first | k_is | rfl)
    (case a36 => first | k_is | rfl)
    (case a37 => first | k_is | rfl)
    (case a38 => first | k_is | rfl)
    (case a39 => first | k_is | rfl)
    (case a40 => first | k_is | rfl)
    (case a41 => first | k_is | rfl)
    (case a42 => first | k_is | rfl)
    (case a43 => first | k_is | rfl)
    (case a44 => first | k_is | rfl)
    (case a45 => first | k_is | rfl)
    (case a46 => first | k_is | rfl)
    (case a47 => first | k_is | rfl)
    (case a48 => first | k_is | rfl)
    (case a49 => first | k_is | rfl)
    (case a50 => first | k_is | rfl)
    (case aK0 => first | k_is | rfl)
    (case ma0_0 => first | k_is | rfl)
    (case ma0_1 => first | k_is | rfl)
    (case ma0_2 => first | k_is | rfl)
    (case ma0_3 => first | k_is | rfl)
    (case g_0 => first | k_is | rfl)
    (case g_1 => first | k_is | rfl)
    (case g_2 => first | k_is | rfl)
    (case g_3 => first | k_is | rfl)
    (case l0 => first | k_is | rfl)
    (case c0 => first | k_is | rfl)
    (case k0 => first | k_is | rfl)
    (case l1 => first | k_is | rfl)
    (case c1 => first | k_is | rfl)
    (case k1 => first | k_is | rfl)
    (case l2 => first | k_is | rfl)
    (case c2 => first | k_is | rfl)
    (case k2 => first | k_is | rfl)
    (case l3 => first | k_is | rfl)
    (case c3 => first | k_is | rfl)
    (case k3 => first | k_is | rfl)
    (case l4 => first | k_is | rfl)
    (case c4 => first | k_is | rfl)
    (case k4 => first | k_is | rfl)
    (case l5 => first | k_is | rfl)
    (case c5 => first | k_is | rfl)
    (case k5 => first | k_is | rfl)
    (case l6 => first | k_is | rfl)
    (case c6 => first | k_is | rfl)
    (case k6 => first | k_is | rfl)
    (case l7 => first | k_is | rfl)
    (case c7 => first | k_is | rfl)
    (case k7 => first | k_is | rfl)
    (case l8 => first | k_is | rfl)
    (case c8 => first | k_is | rfl)
    (case k8 => first | k_is | rfl)
    (case l9 => first | k_is | rfl)
    (case c9 => first | k_is | rfl)
    (case k9 => first | k_is | rfl)
    (case l10 => first | k_is | rfl)
    (case c10 => first | k_is | rfl)
    (case k10 => first | k_is | rfl)
    (case l11 => first | k_is | rfl)
    (case c11 => first | k_is | rfl)
    (case k11 => first | k_is | rfl)
    (case l12 => first | k_is | rfl)
    (case c12 => first | k_is | rfl)
    (case k12 => first | k_is | rfl)
    (case l13 => first | k_is | rfl)
    (case c13 => first | k_is | rfl)
    (case k13 => first | k_is | rfl)
    (case l14 => first | k_is | rfl)
    (case c14 => first | k_is | rfl)
    (case k14 => first | k_is | rfl)
    (case l15 => first | k_is | rfl)
    (case c15 => first | k_is | rfl)
    (case k15 => first | k_is | rfl)
    (case l16 => first | k_is | rfl)
    (case c16 => first | k_is | rfl)
    (case k16 => first | k_is | rfl)
    (case l17 => first | k_is | rfl)
    (case c17 => first | k_is | rfl)
    (case k17 => first | k_is | rfl)
    (case l18 => first | k_is | rfl)
    (case c18 => first | k_is | rfl)
    (case k18 => first | k_is | rfl)
    (case l19 => first | k_is | rfl)
    (case c19 => first | k_is | rfl)
    (case k19 => first | k_is | rfl)
    (case l20 => first | k_is | rfl)
    (case c20 => first | k_is | rfl)
    (case k20 => first | k_is | rfl)
    (case l21 => first | k_is | rfl)
    (case c21 => first | k_is | rfl)
    (case k21 => first | k_is | rfl)
    (case l22 => first | k_is | rfl)
    (case c22 => first | k_is | rfl)
    (case k22 => first | k_is | rfl)
    (case l23 => first | k_is | rfl)
    (case c23 => first | k_is | rfl)
    (case k23 => first | k_is | rfl)
    (case l24 => first | k_is | rfl)
    (case c24 => first | k_is | rfl)
    (case k24 => first | k_is | rfl)
    (case l25 => first | k_is | rfl)
    (case c25 => first | k_is | rfl)
    (case k25 => first | k_is | rfl)
    (case l26 => first | k_is | rfl)
    (case c26 => first | k_is | rfl)
    (case k26 => first | k_is | rfl)
    (case l27 => first | k_is | rfl)
    (case c27 => first | k_is | rfl)
    (case k27 => first | k_is | rfl)
    (case l28 => first | k_is | rfl)
    (case c28 => first | k_is | rfl)
    (case k28 => first | k_is | rfl)
    (case l29 => first | k_is | rfl)
    (case c29 => first | k_is | rfl)
    (case k29 => first | k_is | rfl)
    (case l30 => first | k_is | rfl)
    (case c30 => first | k_is | rfl)
    (case k30 => first | k_is | rfl)
    (case l31 => first | k_is | rfl)
    (case c31 => first | k_is | rfl)
    (case k31 => first | k_is | rfl)
    (case l32 => first | k_is | rfl)
    (case c32 => first | k_is | rfl)
    (case k32 => first | k_is | rfl)
    (case l33 => first | k_is | rfl)
    (case c33 => first | k_is | rfl)
    (case k33 => first | k_is | rfl)
    (case l34 => first | k_is | rfl)
    (case c34 => first | k_is | rfl)
    (case k34 => first | k_is | rfl)
    (case l35 => first | k_is | rfl)
    (case c35 => first | k_is | rfl)
    (case k35 => first | k_is | rfl)
    (case l36 => first | k_is | rfl)
    (case c36 => first | k_is | rfl)
    (case k36 => first | k_is | rfl)
    (case l37 => first | k_is | rfl)
    (case c37 => first | k_is | rfl)
    (case k37 => first | k_is | rfl)
    (case l38 => first | k_is | rfl)
    (case c38 => first | k_is | rfl)
    (case k38 => first | k_is | rfl)
    (case l39 => first | k_is | rfl)
    (case c39 => first | k_is | rfl)
    (case k39 => first | k_is | rfl)
    (case l40 => first | k_is | rfl)
    (case c40 => first | k_is | rfl)
    (case k40 => first | k_is | rfl)
    (case l41 => first | k_is | rfl)
    (case c41 => first | k_is | rfl)
    (case k41 => first | k_is | rfl)
    (case l42 => first | k_is | rfl)
    (case c42 => first | k_is | rfl)
    (case k42 => first | k_is | rfl)
    (case l43 => first | k_is | rfl)
    (case c43 => first | k_is | rfl)
    (case k43 => first | k_is | rfl)
    (case l44 => first | k_is | rfl)
    (case c44 => first | k_is | rfl)
    (case k44 => first | k_is | rfl)
    (case l45 => first | k_is | rfl)
    (case c45 => first | k_is | rfl)
    (case k45 => first | k_is | rfl)
    (case l46 => first | k_is | rfl)
    (case c46 => first | k_is | rfl)
    (case k46 => first | k_is | rfl)
    (case l47 => first | k_is | rfl)
    (case c47 => first | k_is | rfl)
    (case k47 => first | k_is | rfl)
    (case l48 => first | k_is | rfl)
    (case c48 => first | k_is | rfl)
    (case k48 => first | k_is | rfl)
    (case l49 => first | k_is | rfl)
    (case c49 => first | k_is | rfl)
    (case k49 => first | k_is | rfl)
    (case l50 => first | k_is | rfl)
    (case c50 => first | k_is | rfl)
    (case k50 => first | k_is | rfl)
    (case mi0_0 => first | k_is | rfl)
    (case ml0_0 => first | k_is | rfl)
    (case mc0_0 => first | k_is | rfl)
    (case mk0_0 => first | k_is | rfl)
    (case mi0_1 => first | k_is | rfl)
    (case ml0_1 => first | k_is | rfl)
    (case mc0_1 => first | k_is | rfl)
    (case mk0_1 => first | k_is | rfl)
    (case mi0_2 => first | k_is | rfl)
    (case ml0_2 => first | k_is | rfl)
    (case mc0_2 => first | k_is | rfl)
    (case mk0_2 => first | k_is | rfl)
    (case mi0_3 => first | k_is | rfl)
    (case ml0_3 => first | k_is | rfl)
    (case mc0_3 => first | k_is | rfl)
    (case mk0_3 => first | k_is | rfl)
    (case pg0 => first | k_is | rfl)
    (case hd0 => first | k_is | rfl)
    (case po0 => first | k_is | rfl)
    (case sa0 => first | k_is | rfl)
    (case mK0 => first | k_is | rfl)
    (case kK0 => first | k_is | rfl)
    (case nA0_0 => first | k_is | rfl)
    (case nA0_1 => first | k_is | rfl)
    (case nA0_2 => first | k_is | rfl)
    (case nA0_3 => first | k_is | rfl)
    (case z_isinstance => first | k_is | rfl)
    (case z_int => first | k_is | rfl)
    (case z_bool => first | k_is | rfl)
    (case z_tuple => first | k_is | rfl)
    (case z_len => first | k_is | rfl)
    (case z_all => first | k_is | rfl)
    (case z_enumerate => first | k_is | rfl)
    (case z_reversed => first | k_is | rfl)
    (case z_sorted => first | k_is | rfl)
    (case z_max => first | k_is | rfl)
    (case z_min => first | k_is | rfl)
    (case z_abs => first | k_is | rfl)
    (case z_range => first | k_is | rfl)
    (case z_list => first | k_is | rfl)
    (case z_repr => first | k_is | rfl)
    (case z_sum => first | k_is | rfl)
    (case z_any => first | k_is | rfl)
    (case z_zip => first | k_is | rfl)
    (case z_str => first | k_is | rfl)
    (case z_set => first | k_is | rfl)
    (case z_dict => first | k_is | rfl)
    (case z_divmod => first | k_is | rfl)
    (case x_0 => first | k_exc | rfl)
    (case k_0 => first | k_is | rfl)
    (case b_0 => first | k_is | rfl)
    (case t_0 => first | k_is | rfl)
    (case ga_0 => first | k_is | rfl)
    (case gt_0 => first | k_is | rfl)
    (case hd_0 => first | k_is | rfl)
    (case hc_0 => first | k_is | rfl)
    (case hm_0 => first | k_is | rfl)
    (case v_0 => first | k_is | rfl)
    (case y_0_0 => first | k_is | rfl)
    (case y_0_1 => first | k_is | rfl)
    (case y_0_2 => first | k_is | rfl)
    (case y_0_3 => first | k_is | rfl)
    (case x_1 => first | k_exc | rfl)
    (case k_1 => first | k_is | rfl)
    (case b_1 => first | k_is | rfl)
    (case t_1 => first | k_is | rfl)
    (case ga_1 => first | k_is | rfl)
    (case gt_1 => first | k_is | rfl)
    (case hd_1 => first | k_is | rfl)
    (case hc_1 => first | k_is | rfl)
    (case hm_1 => first | k_is | rfl)
    (case v_1 => first | k_is | rfl)
    (case y_1_0 => first | k_is | rfl)
    (case y_1_1 => first | k_is | rfl)
    (case y_1_2 => first | k_is | rfl)
    (case y_1_3 => first | k_is | rfl)
    (case x_2 => first | k_exc | rfl)
    (case k_2 => first | k_is | rfl)
    (case b_2 => first | k_is | rfl)
    (case t_2 => first | k_is | rfl)
    (case ga_2 => first | k_is | rfl)
    (case gt_2 => first | k_is | rfl)
    (case hd_2 => first | k_is | rfl)
    (case hc_2 => first | k_is | rfl)
    (case hm_2 => first | k_is | rfl)
    (case v_2 => first | k_is | rfl)
    (case y_2_0 => first | k_is | rfl)
    (case y_2_1 => first | k_is | rfl)
    (case y_2_2 => first | k_is | rfl)
    (case y_2_3 => first | k_is | rfl)
    (case x_3 => first | k_exc | rfl)
    (case k_3 => first | k_is | rfl)
    (case b_3 => first | k_is | rfl)
    (case t_3 => first | k_is | rfl)
    (case ga_3 => first | k_is | rfl)
    (case gt_3 => first | k_is | rfl)
    (case hd_3 => first | k_is | rfl)
    (case hc_3 => first | k_is | rfl)
    (case hm_3 => first | k_is | rfl)
    (case v_3 => first | k_is | rfl)
    (case y_3_0 => first | k_is | rfl)
    (case y_3_1 => first | k_is | rfl)
    (case y_3_2 => first | k_is | rfl)
    (case y_3_3 => first | k_is | rfl)
    (case m_gcd => first | k_is | rfl)
    (case m_factorial => first | k_is | rfl)
    (case sn => first | k_is | rfl)
    (case st => first | k_is | rfl)
