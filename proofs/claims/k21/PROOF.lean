import PyProof.Rows.All
import Wide.All
import OpenK.AllK
import Wide.FinOn
import KE.GoesMore
import KE.GoesEnum
import HandS.Base
import HandS.Call
import HandS.List
import HandS.Comp
import HandS.Dict
import HandS.Iter
import HandS.Walk
import HandS.Exc
import HandS.ExcOwn
import Flt.Len
import HandS.ForMost
import HandS.ForExc
import HandS.Wide
import HandS.IsInst
import HandS.ExcIs
import HandS.Conv
import HandS.TupAny
import HandS.SetFor
import HandS.Style
import HandS.CallSlots
import HandS.Codes
import PyProof.ReprBulk
import PyProof.ReprRoads
import HandS.Gcd
import HandS.Zip
import HandS.TupMul
import KE.KMathGC
import HandS.SortInts
import HandS.DictComp
import KE.KDictCopyH
import HandS.TryOnly
import HandS.NoneIn
import HandS.TupSets
import HandS.SetBool
import HandS.Deep
import KE.SortData
import HandS.DictTup
import PyProof.Rows.TupDisplay
import HandS.Nested
import HandS.EndTab
import KE.DataCmp
import KE.KEqDict
import KE.KDictZip
import PySem.Challenge.RW_heldbehind_k21_sequences_by_turned_pairs
set_option Elab.async false
set_option linter.all false
set_option maxRecDepth 100000
set_option maxHeartbeats 4000000
/-! Z0: rules of my own beside the hand layer: enumerate over a tuple, powers of great ints, an own error without arguments, list.count of flat items. -/
namespace L2
open PySem PySem.Spec PyProof.Rows
/-! ### enumerate(tuple) -/
theorem zen_new (t : Addr) (items : Array Value) :
    Meets (Builtin.«enumerate.__new__» ⟨[.type "enumerate", .ref t], []⟩) (fun _ R s => s.heap.IsTuple t items ∧
      R (.ok (.ret (.ref (s.heap.push { cls := .type "tuple_iterator", data := .fields #[.ref t, .int 0 0] }).objs.size)))
        { s with heap := (s.heap.push { cls := .type "tuple_iterator", data := .fields #[.ref t, .int 0 0] }).push { cls := .type "enumerate", data := .fields #[.none, .bool false, .ref s.heap.objs.size, rawInt 0, .none, .none] } }) :=
  .of_wp fun prog w A R s hs => by
    obtain ⟨hp, g, d, tk, os⟩ := s; obtain ⟨ht, hs⟩ := hs
    have hsb := sub_enumerate
    have q1 : ∀ {A' : Around} {E : Value → Shared → Prop} {Q : Value → Shared → Prop}, Q (.ref hp.objs.size) ⟨hp.push { cls := .type "tuple_iterator", data := .fields #[.ref t, .int 0 0] }, g, d, tk, os⟩ → wpAny (model prog w) A' (pyIter (.ref t)) Q E ⟨hp, g, d, tk, os⟩ :=
      fun q => wpAny_pyIter_tuple (s := ⟨hp, g, d, tk, os⟩) ht q
    wp_walk using q1
    refine wpAny_stack_any fun st => wpAny_pure ?_
    split
    · rename_i c _ _ _ _ _
      cases hce : (c == Value.type "enumerate")
      · wp_walk using q1
        exact ⟨_, rfl, hs⟩
      · wp_walk using q1
        exact ⟨_, rfl, hs⟩
    · wp_walk using q1
      exact ⟨_, rfl, hs⟩
section
variable {prog : Program} {w : World} {A : Around} {E : Value → Shared → Prop} {s : Shared}
theorem zen_call {t : Addr} {items : Array Value} {Q : Value → Shared → Prop} (ht : s.heap.IsTuple t items)
    (h : ∀ h', IsEnum h' (s.heap.objs.size + 1) s.heap.objs.size 0 .none → h'.IsTupleIter s.heap.objs.size t 0 →
      (∀ b o, s.heap.get? b = some o → h'.get? b = some o) → Q (.ref (s.heap.objs.size + 1)) { s with heap := h' }) :
    wpAny (model prog w) A (call (.type "enumerate") [.ref t]) Q E s := by
  refine callType_new F.called_enumerate (by decide) (F.typeCall_enumerate_1 _) (F.newCall_enumerate_1 _) (fun obj => F.args_object_init_2 obj _) F.entry_enumerate_new (zen_new t items) ⟨ht, ?_⟩
  have hz : (s.heap.push { cls := .type "tuple_iterator", data := .fields #[.ref t, .int 0 0] }).objs.size = s.heap.objs.size + 1 := Heap.size_push ..
  show _ ∧ _
  rw [hz]
  have he := Heap.get?_push_size (s.heap.push { cls := .type "tuple_iterator", data := .fields #[.ref t, .int 0 0] }) (o := { cls := .type "enumerate", data := .fields #[.none, .bool false, .ref s.heap.objs.size, rawInt 0, .none, .none] }) rfl
  rw [hz] at he
  refine ⟨⟨_, he, rfl⟩, h _ he ⟨_, Heap.get?_push_of_some _ (Heap.get?_push_size _ rfl), rfl, rfl⟩ fun b o e => Heap.get?_push_of_some _ (Heap.get?_push_of_some _ e)⟩
end
/-- the tuple at a as it stands at each turn, each item in a new pair -/
def IteT (K : PySem.W.Frag) (a : Addr) : It :=
  ⟨fun i H => ∃ (xs : List V) (x : V), SqT K H a xs ∧ xs[i]? = some x, fun i H v H' => ∃ T x, v = .ref T ∧ H T = none ∧ H' = upd H T (.tup [.int (i : Nat), x]) ∧ ∀ ys, SqT K H a ys → ys[i]? = some x, fun i H => ∃ xs : List V, SqT K H a xs ∧ xs.length = i⟩
theorem zen_turn {P : Program} {w : World} {K : PySem.W.Frag} {elts : List Expr} {kk : Nat} {tpos : Pos} (a e it : Addr) :
    Turn P w K (.Tuple elts kk tpos) (IteT K a) [e, it] e (fun i h => (∃ old, IsEnum h e it ((i : Nat) : Int) old) ∧ h.IsTupleIter it a i ∧ e ≠ it) where
  mem := by simp
  obj := fun i h st b hb => by
    obtain ⟨⟨old, he⟩, ⟨o, ho, hc, hd⟩, _⟩ := st
    have e' : b = e ∨ b = it := by simpa using hb
    rcases e' with z | z
    · exact ⟨_, by rw [z]; exact he, fun v q => by cases q⟩
    · exact ⟨o, by rw [z]; exact ho, fun v q => by rw [hd] at q; cases q⟩
  keep := fun i h h' st k => let ⟨⟨old, he⟩, hi, hne⟩ := st; ⟨⟨old, k e (by simp) _ he⟩, hi.at fun o q => k it (by simp) o q, hne⟩
  item := by
    intro X hP hw hK hc i pins s σ H E I hf st hg
    subst hP hw hK
    obtain ⟨⟨old, he⟩, hit, hne⟩ := st
    obtain ⟨xs, x, hq, hx⟩ := hg
    obtain ⟨its, rv, p, hz⟩ := I.tuple hq
    obtain ⟨u, hu, ru⟩ := rv.get hx
    have hel : e < s.heap.objs.size := Heap.lt_size he
    have hil : it < s.heap.objs.size := by obtain ⟨_, q, _⟩ := hit; exact Heap.lt_size q
    have hai : a ≠ it := by
      intro z
      obtain ⟨o1, q1, c1, _⟩ := p
      obtain ⟨o2, q2, c2, _⟩ := hit
      rw [z, q2] at q1
      cases q1
      rw [c2] at c1
      exact absurd c1 (by decide)
    have hae : a ≠ e := by
      intro z
      obtain ⟨o1, q1, c1, _⟩ := p
      rw [z] at q1
      have q3 := he.symm.trans q1
      cases q3
      have c2 : ("enumerate" : String) = "tuple" := Value.type.inj c1
      exact absurd c2 (by decide)
    have hlt : i < its.toArray.size := by
      have := (List.getElem?_eq_some_iff.mp hu).1
      simpa using this
    have D := Draws.tuple (prog := X.prog) (w := X.w) (A := X.A.in1) (I.ok.hd hc) it a hai its.toArray
    refine wpAny_pyNext_enum_itemD D he ⟨hit, p⟩ hlt hne (by simp [hne, Ne.symm hae]) fun y h' tk hy ho hst hT hsz hk => ?_
    have ey : y = u := by
      have q4 : its[i]? = some y := by simpa using hy
      rw [hu] at q4
      exact (Option.some.inj q4).symm
    subst ey
    refine ⟨_, rfl, wpAny_letOwnedTupleGo_enum (s := { s with heap := h', toks := tk + 1 }) ho fun h'' he' sb => ?_⟩
    have hT2 : h''.get? s.heap.objs.size = some { cls := .type "tuple", data := .seq #[.int i tk, y] } := (sb.2 _ (Nat.ne_of_gt hel)).trans hT
    have new : ObjOk X.prog X.w (upd H s.heap.objs.size (.tup [.int (i : Nat), x])) h'' s.heap.objs.size (.tup [.int (i : Nat), x]) :=
      ⟨by show 2 ≤ sizeLine; decide, [.int i tk, y], .cons ⟨_, rfl⟩ (.cons ru .nil), ⟨_, hT2, rfl, _, rfl⟩⟩
    have I1 : Inv X pins σ (upd H s.heap.objs.size (.tup [.int (i : Nat), x])) { s with heap := h'', toks := tk + 1 } :=
      I.turnedNew (ch := [e, it]) (fun b ob hb q => (sb.2 b (fun z => hb (by simp [z]))).trans (hk b ob (fun z => hb (by simp [z])) (fun z => hb (by simp [z])) q)) hf (Nat.le_refl _) new
    refine ⟨.ref s.heap.objs.size, _, I1, rfl, ⟨_, x, rfl, I.hok.fresh (Nat.le_refl _), rfl, fun ys hy => by rw [I.tuple_inj hy hq]; exact hx⟩, ⟨⟨y, ?_⟩, hst.1.at fun o q => (sb.2 it (Ne.symm hne)).trans q, hne⟩, fun b hb => ?_⟩
    · have e1 : ((i + 1 : Nat) : Int) = (i : Int) + 1 := by omega
      rw [e1]; exact he'
    · have hb' : b < s.heap.objs.size := by
        rcases (by simpa using hb : b = e ∨ b = it) with z | z
        · rw [z]; exact hel
        · rw [z]; exact hil
      rw [upd_ne (Nat.ne_of_lt hb')]; exact (hf b hb).1
  done := by
    intro X hP hw hK hc i pins s σ H E I hf st hg
    subst hP hw hK
    obtain ⟨⟨old, he⟩, hit, hne⟩ := st
    obtain ⟨xs, hq, hx⟩ := hg
    obtain ⟨its, rv, p, hz⟩ := I.tuple hq
    obtain ⟨f0, f1, f2, f3, f4, f5⟩ := hf it (by simp)
    have hl := rv.length
    have hai : a ≠ it := by
      intro z
      obtain ⟨o1, q1, c1, _⟩ := p
      obtain ⟨o2, q2, c2, _⟩ := hit
      rw [z, q2] at q1; cases q1
      rw [c2] at c1
      exact absurd c1 (by decide)
    have hn : its.toArray.size = i := by simp only [List.size_toArray]; omega
    have D := Draws.tuple (prog := X.prog) (w := X.w) (A := X.A.in1) (I.ok.hd hc) it a hai its.toArray
    rw [hn] at D
    exact wpAny_pyNext_enum_endD D he ⟨hit, p⟩ fun h' eb => ⟨rfl, I.turned (t' := s.toks) (fun b o hb q => eb b o hb q) f0 f1 f3 f4 f5⟩
  self := fun A i s Q E st h => let ⟨⟨_, he⟩, _⟩ := st; wpAny_pyIter_enum he h
def iEnumT (K : PySem.W.Frag) (ta : TA) : TI := fun σ H R => ta σ H fun vs H1 => ∃ a xs, vs = [.ref a] ∧ SqT K H1 a xs ∧ R (IteT K a) H1
theorem pi_enumT {X : Cx} {e : Expr} {ta : TA} {p pos tpos : Pos} {elts : List Expr} {kk : Nat} (hg : Gl X "enumerate") (hm : X.mg "enumerate" = none) (ha : PA X [e] ta) (hs : starEach [e] X.env = [(false, eval e X.env)] := by rfl) :
    PI X (.Tuple elts kk tpos) (.Call (.Name "enumerate" p) [e] [] pos) (iEnumT X.K ta) := by
  refine ⟨fun pins s σ H R I h => Call_ (ld_blt I hg hm boot_enumerate (PyProof.Rows.callWith_type1 (thn (ha.run pos pins s σ H _ I h) fun us s1 ⟨vs, H1, I1, r1, q1⟩ => ?_) hs rfl))⟩
  obtain ⟨a, xs, ex, hq, q⟩ := q1
  subst ex
  cases r1 with
  | cons r rr =>
    cases rr; cases r
    obtain ⟨its, rv, p', hz⟩ := I1.tuple hq
    refine zen_call p' fun h' he hit hk => wpAny_pyIter_enum he ?_
    have I2 : Inv X pins σ H1 { s1 with heap := h' } := I1.kept (t' := s1.toks) hk
    refine ⟨s1.heap.objs.size + 1, [s1.heap.objs.size + 1, s1.heap.objs.size], _, _, H1, rfl, I2, zen_turn a (s1.heap.objs.size + 1) s1.heap.objs.size, ⟨⟨.none, he⟩, hit, Nat.succ_ne_self _⟩, fun b hb => ?_, q⟩
    have hle : s1.heap.objs.size ≤ b := by
      rcases (by simpa using hb : b = s1.heap.objs.size + 1 ∨ b = s1.heap.objs.size) with z | z
      · rw [z]; exact Nat.le_add_right _ _
      · rw [z]; exact Nat.le_refl _
    exact I1.fpOk hle (I1.hok.fresh hle)
theorem walk_enumT {K : PySem.W.Frag} {a : Addr} {xs : List V} : Walk (IteT K a) xs.length (fun H => SqT K H a xs) (YPair (fun i => some (.int (i : Nat))) (fun i => xs[i]?)) := by
  refine ⟨fun i _ hi q => ⟨xs, xs[i], q, by simp [hi]⟩, fun _ q => ⟨xs, q, rfl⟩, fun i H v H' _ q ⟨T, x, h1, h2, h3, h4⟩ => ⟨T, .int (i : Nat), x, h1, h2, h3, rfl, h4 xs q⟩⟩
/-! ### powers -/
def CPowW (i j : Int) : Prop := 0 ≤ j ∧ (Builtin.Int.intBits i : Int) * j ≤ 2 ^ 27
theorem op_powW {X : Cx} : OpR X (binaryOp .Pow) (rI CPowW fun i j => .int (i ^ j.toNat)) := opI fun _ _ _ _ _ _ _ hc q => pow_int hc.1 hc.2 q
theorem cpow3 {i : Int} {b : Nat} (h : i.natAbs < 2 ^ b) (hb : 0 < b) (h9 : b ≤ 9000) : CPowW i 3 := by
  refine ⟨by decide, ?_⟩
  have z : Builtin.Int.intBits i ≤ b := by
    unfold Builtin.Int.intBits
    have y := PySem.Flt.log2_lt_of hb h
    split <;> omega
  have e : (2 : Int) ^ 27 = 134217728 := by decide
  rw [e]; omega
/-! ### an own error without arguments -/
theorem pmk_own0 {X : Cx} {C : Addr} {bmB : List Value} {B newId initId : String} {x : Str} {p pos : Pos} (F : ExcBaseFacts B newId initId bmB) (q : PySem.W.excIn X.K C bmB newId = true) (gC : X.mg x = some (.ref C)) (kC : PySem.W.keepIn X.K (.ref C) = true) (r : Raises X (.ref C)) (hg : Gl X x)
    (hdb : (x == ("__debug__" : Str)) = false := by decide) : PMk X (.Call (.Name x p) [] [] pos) (fun _ H Q => Q (.ref C) none H) := by
  intro pins s σ H Q I h
  refine wpAny_Call_Name_kw (ld_glob I hg gC ?_ hdb)
  refine PySem.W.callWith_K0 I.kIn kC ?_
  obtain ⟨bm, N, nm, qn, bs, hdct, sn, sub, ab, col, dd, k0, k1, k2, k3, k5, mN, hC, hN, hni, T⟩ := exc_obj I.kIn q
  exact wpAny_call_exc_subT F T hC hN hni (fun h' e hm => mk_of I hm r h (I.hok.gone hm.new)) (Nat.zero_le _)
/-! ### list.count of flat items -/
def cntV (y : V) (xs : List V) : Nat := xs.countP fun z => eqV z y
theorem count_eqU {x : V} : ∀ {xs : List V} {us : List Value}, Vals xs us → xs.all flatV = true → us.countP (eqU x) = cntV x xs
  | _, _, .nil, _ => rfl
  | y :: xs, u :: us, .cons r t, f => by
    rw [List.all_cons, Bool.and_eq_true] at f
    unfold cntV
    rw [List.countP_cons, List.countP_cons, eqU_of r f.1, count_eqU t f.2]; rfl
def rCntV (K : PySem.W.Frag) : V → List V → Hp → VK → Prop := fun x xs H Q => ∃ (a : Addr) (ys : List V) (y : V), x = .ref a ∧ xs = [y] ∧ SqL K H a ys ∧ flatV y = true ∧ ys.all flatV = true ∧ Q (.int (cntV y ys : Nat)) H
theorem mt_lcountV {X : Cx} : MtR X "list.count" (rCntV X.K) := by
  intro pins s σ H x xs v us Q I rx rxs h
  obtain ⟨a, ys, y, rfl, rfl, hs, fy, fys, q⟩ := h
  cases rx
  obtain ⟨u, rfl, ru⟩ := rxs.one
  obtain ⟨its, rv, ⟨⟨cls, dd, data, sl⟩, n, ho, hc, hdn, hd⟩, hlen⟩ := I.list hs
  simp only at hc hd
  subst hc hd
  refine call_meets PySem.F.slot_list_count ⟨_, ho, rfl⟩ PySem.F.entry_list_count (PySem.F.args_list_count_2 _ _) (SeqAt.list_countAt a its.toArray n dd sl u (eqU y)) ⟨ho, fun z hz => mem_eqAt ru fy rv fys z (by simpa using hz), ?_⟩
  exact ⟨.int (cntV y ys : Nat), H, I.tok _, ⟨s.toks, by rw [← count_eqU rv fys]⟩, q⟩
end L2

namespace L2
open PySem PySem.Spec PyProof.Rows
/-! ### a def of the text with its name, and one that keeps its promise -/
structure Df (K : PySem.W.Frag) (mg : Str → Option Value) (x : Str) (st : Stmt) (ps : List Str) : Prop where
  ex : ∃ (f : Addr) (fd : FuncData), Fun K x x st f fd ∧ mg x = some (.ref f) ∧ Binds K fd ps [] ∧
    ∃ (kV doc pm : Value) (an : Option Addr) (cdv ct : Value), fd = PySem.W.fnOf x x (defArgs st) (defBody st) (defScope st) .none kV doc pm an cdv ct
structure Kn (P : Program) (w : World) (K : PySem.W.Frag) (mg : Str → Option Value) (base : Heap) (CX : CXT) (k : Nat) (x : Str) (st : Stmt) (ps : List Str) (sp : Sp) : Prop where
  ex : ∃ (f : Addr) (fd : FuncData), FnOk P w K mg base CX k f fd ps sp ∧ mg x = some (.ref f) ∧ PySem.W.keepIn K (.ref f) = true ∧ Binds K fd ps [] ∧
    ∃ (kV doc pm : Value) (an : Option Addr) (cdv ct : Value), fd = PySem.W.fnOf x x (defArgs st) (defBody st) (defScope st) .none kV doc pm an cdv ct
section
variable {P : Program} {w : World} {K : PySem.W.Frag} {mg : Str → Option Value} {base : Heap} {x : Str} {st : Stmt} {ps N : List Str} {k : Nat} {sp : Sp}
theorem Df.mk' {f : Addr} {oc : Value} {od an : Option Addr} {osl : Array (Option Value)} {kV doc pm cdv ct : Value} (l : K.lookup f = some ⟨oc, od, .func (PySem.W.fnOf x x (defArgs st) (defBody st) (defScope st) .none kV doc pm an cdv ct), osl⟩)
    (c : PySem.W.codeIn K cdv x = true) (kp : PySem.W.keepIn K (.ref f) = true) (g : mg x = some (.ref f))
    (h : ∀ (kV doc pm : Value) (an : Option Addr) (cdv ct : Value) (us : List Value), us.length = ps.length → bindArgs (PySem.W.fnOf x x (defArgs st) (defBody st) (defScope st) .none kV doc pm an cdv ct) ⟨us, []⟩ = pure (ps.zip us)) : Df K mg x st ps :=
  ⟨f, _, fun_mk l c kp, g, (fun_mk l c kp).binds h, _, _, _, _, _, _, rfl⟩
theorem Df.ok (D : Df K mg x st ps) (S : FnScope N ps (defScope st)) (len : ∀ vs H Q E, sp vs H Q E → vs.length = ps.length)
    (hb : ∀ (f : Addr) (cdv : Value) (A : Around) (outer : List Env) (s : Shared) (H : Hp) (vs : List V) (Q : VK) (E : XK), Room k (A.deeper (envOfC x (defScope st) s.heap.objs.size f cdv)) → sp vs H Q E →
      ∃ t, PSs (cxOf CX0 P w K mg base N x (defScope st) f cdv A outer s H E).nox (defBody st) t ∧ t { nx := fun _ H' => Q .non H', rt := Q } (start N vs) H) : Kn P w K mg base CX0 (k + 1) x st ps sp := by
  obtain ⟨f, fd, F, g, b, e⟩ := D.ex
  exact ⟨f, fd, F.ok S len fun cdv A outer s H vs Q E hr h => hb f cdv A outer s H vs Q E hr h, g, F.kp, b, e⟩
theorem Df.okX (D : Df K mg x st ps) (S : FnScope N ps (defScope st)) (len : ∀ vs H Q E, sp vs H Q E → vs.length = ps.length)
    (hb : ∀ (f : Addr) (cdv : Value) (A : Around) (outer : List Env) (s : Shared) (H : Hp) (vs : List V) (Q : VK) (E : XK), Room k (A.deeper (envOfC x (defScope st) s.heap.objs.size f cdv)) → sp vs H Q E →
      ∃ t, PSs (cxOf (L2.CX P w) P w K mg base N x (defScope st) f cdv A outer s H E) (defBody st) t ∧ t { nx := fun _ H' => Q .non H', rt := Q } (start N vs) H) : Kn P w K mg base (L2.CX P w) (k + 1) x st ps sp := by
  obtain ⟨f, fd, F, g, b, e⟩ := D.ex
  exact ⟨f, fd, F.okX S len fun cdv A outer s H vs Q E hr h => hb f cdv A outer s H vs Q E hr h, g, F.kp, b, e⟩
end
section
variable {X : Cx} {CX : CXT} {k : Nat} {x : Str} {st : Stmt} {ps ks : List Str} {sp : Sp} {E : XK} {p pos : Pos} {e : Expr} {es : List Expr} {kws : List Keyword} {t tk : TA}
theorem pe_callF (h : Kn X.prog X.w X.K X.mg X.base CX k x st ps sp) (hr : Room k X.A) (hx : Passes CX X E) (ha : PA X (e :: es) t) (hg : Gl X x := by rfl)
    (hdb : (x == ("__debug__" : Str)) = false := by decide) (he : starEach (e :: es) X.env = (false, eval e X.env) :: starEach es X.env := by rfl) (hpl : (backTo pos (starEach es X.env)).any (·.1) = false := by rfl) :
    PE X (.Call (.Name x p) (e :: es) [] pos) (tCall sp [] E t) := by
  obtain ⟨f, fd, F, g, kp, b, _⟩ := h.ex
  exact pe_call F hr hg g kp b .nil hx ha hdb he hpl
theorem pe_callF0 (h : Kn X.prog X.w X.K X.mg X.base CX k x st ps sp) (hr : Room k X.A) (hx : Passes CX X E) (hg : Gl X x := by rfl) (hdb : (x == ("__debug__" : Str)) = false := by decide) : PE X (.Call (.Name x p) [] [] pos) (tCall sp [] E tNil) := by
  obtain ⟨f, fd, F, g, kp, b, _⟩ := h.ex
  exact pe_call0 F hr hg g kp b .nil hx hdb
theorem pe_callFS {E : St → XK} (h : Kn X.prog X.w X.K X.mg X.base CX k x st ps sp) (hr : Room k X.A) (hx : ∀ σ, PassesAt CX X σ (E σ)) (ha : PA X (e :: es) t) (hg : Gl X x := by rfl)
    (hdb : (x == ("__debug__" : Str)) = false := by decide) (he : starEach (e :: es) X.env = (false, eval e X.env) :: starEach es X.env := by rfl) (hpl : (backTo pos (starEach es X.env)).any (·.1) = false := by rfl) :
    PE X (.Call (.Name x p) (e :: es) [] pos) (tCallS sp E t) := by
  obtain ⟨f, fd, F, g, kp, b, _⟩ := h.ex
  exact pe_callS F hr hg g kp b hx ha hdb he hpl
/-- how keywords bind, whatever the def's loose parts are -/
def KwB (x : Str) (st : Stmt) (ps ks : List Str) (g : List Value → List Value → List Value) (gV : List V → List V → List V) : Prop :=
  (∀ (kV doc pm : Value) (an : Option Addr) (cdv ct : Value) (us ws : List Value), (g us ws).length = ps.length →
    bindArgs (PySem.W.fnOf x x (defArgs st) (defBody st) (defScope st) .none kV doc pm an cdv ct) ⟨us, ks.zip ws⟩ = pure (ps.zip (g us ws))) ∧
  ∀ {vs : List V} {us : List Value} {zs : List V} {ws : List Value}, Vals vs us → Vals zs ws → Vals (gV vs zs) (g us ws)
variable {g : List Value → List Value → List Value} {gV : List V → List V → List V}
theorem pe_callFK (h : Kn X.prog X.w X.K X.mg X.base CX k x st ps sp) (hr : Room k X.A) (hb : KwB x st ps ks g gV) (hx : Passes CX X E) (ha : PA X (e :: es) t) (hkw : PK X kws tk) (hg : Gl X x := by rfl)
    (hall : (backToKw pos (keywordEach kws X.env)).all (·.1.isSome) = true := by rfl) (hks : (backToKw pos (keywordEach kws X.env)).filterMap (·.1) = ks := by rfl)
    (hdb : (x == ("__debug__" : Str)) = false := by decide) (he : starEach (e :: es) X.env = (false, eval e X.env) :: starEach es X.env := by rfl)
    (hpl : ((backTo pos (starEach (e :: es) X.env)).any (·.1) || (backToKw pos (keywordEach kws X.env)).any (·.1.isNone)) = false := by rfl) :
    PE X (.Call (.Name x p) (e :: es) kws pos) (tCallK sp gV E t tk) := by
  obtain ⟨f, fd, F, gm, kp, b, kV, doc, pm, an, cdv, ct, rfl⟩ := h.ex
  exact pe_callK F hr hg gm kp ⟨fun s us ws _ hl => .of_eq (hb.1 kV doc pm an cdv ct us ws hl), hb.2⟩ hx ha hkw hall hks hdb he hpl
/-- f(k = v, ..), no positional -/
theorem pe_callFK0 (h : Kn X.prog X.w X.K X.mg X.base CX k x st ps sp) (hr : Room k X.A) (hb : KwB x st ps ks g gV) (hx : Passes CX X E) (hkw : PK X kws tk) (hg : Gl X x := by rfl)
    (hall : (backToKw pos (keywordEach kws X.env)).all (·.1.isSome) = true := by rfl) (hks : (backToKw pos (keywordEach kws X.env)).filterMap (·.1) = ks := by rfl)
    (hdb : (x == ("__debug__" : Str)) = false := by decide)
    (hpl : ((backTo pos (starEach [] X.env)).any (·.1) || (backToKw pos (keywordEach kws X.env)).any (·.1.isNone)) = false := by rfl) :
    PE X (.Call (.Name x p) [] kws pos) (tCallK sp gV E tNil tk) := by
  obtain ⟨f, fd, F, gm, kp, b, kV, doc, pm, an, cdv, ct, rfl⟩ := h.ex
  have hbb : KBinds X.K (PySem.W.fnOf x x (defArgs st) (defBody st) (defScope st) .none kV doc pm an cdv ct) ps ks g gV := ⟨fun s us ws _ hl => .of_eq (hb.1 kV doc pm an cdv ct us ws hl), hb.2⟩
  refine ⟨fun pins s σ H Q I hq => wpAny_Call_Name_kw (ld_glob I hg gm ?_ hdb)⟩
  refine PySem.W.callWith_KW0 (h₀ := X.base) I.ok.mod.kin kp hall (thn (hkw.run pos pins s σ H _ I hq) fun ws s2 ⟨zs, H2, I2, rz, q2⟩ => ⟨I2.kIn, ?_⟩) hpl
  rw [hks]
  exact run_fnk F hr hbb hx I2 .nil rz q2
end
/-! ### rules whose reading names K outright (for a comprehension's block) -/
def rLenK (K : PySem.W.Frag) : List V → Hp → VK → Prop := fun xs H Q => ∃ x n, xs = [x] ∧ LenV K x H n ∧ Q (.int n) H
theorem call_lenK {X : Cx} (K : PySem.W.Frag) (e : X.K = K := by rfl) : CallR X (.builtin "len") (rLenK K) := by subst e; exact call_len
theorem call_isiK1 {X : Cx} (K : PySem.W.Frag) (e : X.K = K := by rfl) : CallR X (.builtin "isinstance") (rIsi K) := by subst e; exact call_isi
theorem ix_listK {X : Cx} (K : PySem.W.Frag) (e : X.K = K := by rfl) : IxR X (rIxL K) := by subst e; exact ix_list
theorem ix_tupK {X : Cx} (K : PySem.W.Frag) (e : X.K = K := by rfl) : IxR X (rIxT K) := by subst e; exact ix_tup
theorem op_in_seqK {X : Cx} (K : PySem.W.Frag) (e : X.K = K := by rfl) : OpR X (compareOp .In) (rIn K false) := by subst e; exact op_in_seq
theorem op_notIn_seqK {X : Cx} (K : PySem.W.Frag) (e : X.K = K := by rfl) : OpR X (compareOp .NotIn) (rIn K true) := by subst e; exact op_notIn_seq
theorem op_eqDK {X : Cx} (K : PySem.W.Frag) (hu : X.A.units + 64 < cLine) (e : X.K = K := by rfl) : OpR X (compareOp .Eq) (rEqD K) := by subst e; exact op_eqD hu
theorem op_neDK {X : Cx} (K : PySem.W.Frag) (hu : X.A.units + 64 < cLine) (e : X.K = K := by rfl) : OpR X (compareOp .NotEq) (rNeD K) := by subst e; exact op_neD hu
/-! ### heaps -/
theorem Same.upd {H H' : Hp} {p : Addr} {o : HO} (s : Same H H') (h : H p = none) : Same H (upd H' p o) := fun b u e => by
  rw [upd_ne (ne_of_none e h)]; exact s b u e
theorem Same.new {H H' : Hp} {p : Addr} {o : HO} (s : Same H H') (h : H' p = none) : Same H (L2.upd H' p o) := s.upd (s.free h)
theorem Same.tseq {K : PySem.W.Frag} {H H' : Hp} {a : Addr} {xs : List V} (e : Same H H') (h : SqT K H a xs) : SqT K H' a xs := by
  rcases h with (h | ⟨o, h⟩) | h
  · exact .inl (.inl (e _ _ h))
  · exact .inl (.inr ⟨o, e _ _ h⟩)
  · exact .inr h
/-- all but what stands at a is as it was -/
def Keep (a : Addr) (H H' : Hp) : Prop := ∀ b o, b ≠ a → H b = some o → H' b = some o
theorem Keep.refl (a : Addr) (H : Hp) : Keep a H H := fun _ _ _ h => h
theorem Keep.trans {a : Addr} {H H1 H2 : Hp} (x : Keep a H H1) (y : Keep a H1 H2) : Keep a H H2 := fun b o hb h => y b o hb (x b o hb h)
theorem Same.keep {a : Addr} {H H' : Hp} (s : Same H H') : Keep a H H' := fun b o _ h => s b o h
theorem Keep.upd (a : Addr) (H : Hp) (o : HO) : Keep a H (upd H a o) := fun b u hb h => by rw [upd_ne hb]; exact h
theorem Keep.new {a p : Addr} {H H' : Hp} {o : HO} (x : Keep a H H') (h : H' p = none) : Keep a H (L2.upd H' p o) := fun b u hb e => by
  have q := x b u hb e
  rw [upd_ne (ne_of_none q h)]; exact q
end L2

/-! Z2: promises of defs that are called where no repr is under way; repr; a tuple held against (). -/
namespace L2
open PySem PySem.Spec PyProof.Rows
/-! ### promises that hold where no repr is under way -/
structure Qui (P : Program) (w : World) (K : PySem.W.Frag) (mg : Str → Option Value) (base : Heap) (k : Nat) (f : Addr) (fd : FuncData) (ps : List Str) (sp : Sp) : Prop where
  many : ∀ vs H Q E, sp vs H Q E → vs.length = ps.length
  go : ∀ (A : Around) (outer : List Env) (s : Shared) (H : Hp) (args : Args) (us : List Value) (vs : List V) (Q : VK) (E : XK), Room k A → A.guards = some [] → Env0 P w K mg base A outer s H → BindsTo s fd args (ps.zip us) →
    Vals vs us → sp vs H Q E → codeAny (model P w) A (.call (.ref f) args) (CR CX0 outer P w H s Q E) s
structure KnQ (P : Program) (w : World) (K : PySem.W.Frag) (mg : Str → Option Value) (base : Heap) (k : Nat) (x : Str) (st : Stmt) (ps : List Str) (sp : Sp) : Prop where
  ex : ∃ (f : Addr) (fd : FuncData), Qui P w K mg base k f fd ps sp ∧ mg x = some (.ref f) ∧ PySem.W.keepIn K (.ref f) = true ∧ Binds K fd ps []
theorem fin_flow {X : Cx} {outer : List Env} {P : Program} {w : World} {H : Hp} {s s' : Shared} {Q : VK} {E : XK} {fl : Flow} (hp : X.prog = P) (hw : X.w = w) (h0 : X.s_0 = s) (hH : X.H_0 = H) (hf : X.fs = frs outer) (he : X.ex = []) :
    SP X [] { nx := fun _ H' => Q .non H', rt := Q } fl s' → CR CX0 outer P w H s Q E (.ok (.ret (match fl with | .ret v => v | _ => .none))) s' := by
  intro h
  subst hp hw h0 hH
  have last : ∀ {σ : St} {H' : Hp} {v : V} {u : Value}, Inv X [] σ H' s' → RelV v u → Q v H' → CE outer X.prog X.w X.H_0 X.s_0 Q u s' := by
    intro σ H' v u I r q
    have b := I.base
    rw [hf, he] at b
    exact ⟨v, H', I.os, I.bare, b, I.hok, r, q⟩
  match fl, h with
  | .ret u, ⟨_, _, _, I, r, q⟩ => exact last I r q
  | .next, ⟨_, _, I, q⟩ => exact last (v := .non) (u := .none) I rfl q
  | .brk, ⟨_, _, _, q⟩ => exact q.elim
  | .cont, ⟨_, _, _, q⟩ => exact q.elim
section
variable {P : Program} {w : World} {K : PySem.W.Frag} {mg : Str → Option Value} {base : Heap} {x : Str} {st : Stmt} {ps N : List Str} {k : Nat} {sp : Sp}
theorem Fun.quiet {f : Addr} {fd : FuncData} (F : Fun K x x st f fd) (S : FnScope N ps (defScope st)) (many : ∀ vs H Q E, sp vs H Q E → vs.length = ps.length)
    (hb : ∀ (cdv : Value) (A : Around) (outer : List Env) (s : Shared) (H : Hp) (vs : List V) (Q : VK) (E : XK), Room k (A.deeper (envOfC x (defScope st) s.heap.objs.size f cdv)) → A.guards = some [] → sp vs H Q E →
      ∃ t, PSs (cxOf CX0 P w K mg base N x (defScope st) f cdv A outer s H E).nox (defBody st) t ∧ t { nx := fun _ H' => Q .non H', rt := Q } (start N vs) H) : Qui P w K mg base (k + 1) f fd ps sp := by
  refine ⟨many, ?_⟩
  obtain ⟨oc, od, kV, doc, pm, an, cdv, ct, osl, rfl, found, code⟩ := F.ex
  intro A outer s H args us vs Q E room quiet here binds vals promise
  have old : ∀ b o, base.get? b = some o → s.heap.get? b = some o := fun b o e => (here.bs b o e).1
  have kin := here.mod.kin.keeps old
  refine codeAny_call_function room.depth (kin _ _ found) rfl S.co S.gen rfl (PySem.W.codeRec_of kin code) (binds _ _ _ _ (wpAny_newFunctionEnv_cells S.kind ?_ ?_))
  · rintro ⟨n, v⟩ hy
    exact (S.par n (List.of_mem_zip hy).1).imp id fun z => ⟨z, PySem.W.cellsFrom_some _ _ _ (.inl z)⟩
  · rintro _ rfl s1 called
    obtain ⟨t, ht, h0⟩ := hb cdv A outer s H vs Q E (room.deeper _) quiet promise
    have I := inv_start (CX := CX0) (E := E) S room.hd here (many _ _ _ _ promise) vals called
    refine ⟨(here.mod.nolimit.keeps old).keeps called.toInCall.keep, codeAny_func ?_⟩
    exact wpAny_mono (ht.nox.run [] s1 _ H _ I h0) (fun _ _ h => fin_flow (X := cxOf CX0 P w K mg base N x (defScope st) f cdv A outer s H E) (outer := outer) (E := E) rfl rfl rfl rfl rfl rfl h) fun _ _ h => h
theorem Df.okQ (D : Df K mg x st ps) (S : FnScope N ps (defScope st)) (many : ∀ vs H Q E, sp vs H Q E → vs.length = ps.length)
    (hb : ∀ (f : Addr) (cdv : Value) (A : Around) (outer : List Env) (s : Shared) (H : Hp) (vs : List V) (Q : VK) (E : XK), Room k (A.deeper (envOfC x (defScope st) s.heap.objs.size f cdv)) → A.guards = some [] → sp vs H Q E →
      ∃ t, PSs (cxOf CX0 P w K mg base N x (defScope st) f cdv A outer s H E).nox (defBody st) t ∧ t { nx := fun _ H' => Q .non H', rt := Q } (start N vs) H) : KnQ P w K mg base (k + 1) x st ps sp := by
  obtain ⟨f, fd, F, g, b, e⟩ := D.ex
  exact ⟨f, fd, F.quiet S many fun cdv A outer s H vs Q E => hb f cdv A outer s H vs Q E, g, F.kp, b⟩
end
section
variable {X : Cx} {k : Nat} {x : Str} {st : Stmt} {ps : List Str} {sp : Sp} {E : XK} {p pos : Pos} {e : Expr} {es : List Expr} {t : TA}
theorem pe_callQ (h : KnQ X.prog X.w X.K X.mg X.base k x st ps sp) (hr : Room k X.A) (hq : X.A.guards = some []) (ha : PA X (e :: es) t) (hg : Gl X x := by rfl)
    (hdb : (x == ("__debug__" : Str)) = false := by decide) (he : starEach (e :: es) X.env = (false, eval e X.env) :: starEach es X.env := by rfl) (hpl : (backTo pos (starEach es X.env)).any (·.1) = false := by rfl) :
    PE X (.Call (.Name x p) (e :: es) [] pos) (tCall sp [] E t) := by
  obtain ⟨f, fd, F, gm, kp, b⟩ := h.ex
  constructor
  intro pins s σ H Q I h
  refine wpAny_Call_Name_kw (ld_glob I hg gm (PySem.W.callWith_K (h₀ := X.base) I.ok.mod.kin kp (thn (ha.run pos pins s σ H _ I h) ?_) he hpl) hdb)
  rintro us s1 ⟨vs, H1, J, r, q⟩
  rw [List.append_nil] at q
  refine ⟨J.kIn, wpAny_call (codeAny_mono (F.go X.A X.stack s1 H1 ⟨us, []⟩ us vs Q E hr hq J.env0 ?_ r q) ?_)⟩
  · have z := b s1 us J.kIn (by rw [List.append_nil, ← r.length]; exact F.many _ _ _ _ q)
    rw [List.append_nil] at z; exact z
  · rintro (e | fl) s' z
    · exact z.elim
    · match fl, z with
      | .ret u, z => exact J.after z
      | .next, z => exact z.elim
      | .brk, z => exact z.elim
      | .cont, z => exact z.elim
end
/-! ### a law whose def is such a one -/
/-- the heap in which just the script may be tracked -/
theorem script_hp {P : Program} {w : World} {K : PySem.W.Frag} {s : Shared} {a : Addr} {vs : List Value} {ns : List Int} (kin : K.In s.heap) (ha : s.heap.get? a = some { cls := .type "list", data := .seq vs.toArray }) (hi : IntsAre vs ns) (hl : ns.length ≤ sizeLine) :
    ∃ H : Hp, Only H ∧ SqL K H a (ns.map V.int) ∧ HOk P w H s.heap ∧ (∀ b o, H b = some o → b = a ∧ K.lookup a = none ∧ o = .frz { cls := .type "list", data := .seq vs.toArray } (.lst (ns.map V.int))) := by
  have r := vals_ints hi
  rcases hk : K.lookup a with _ | o
  · have off : ∀ b o, (if b = a then some (HO.frz { cls := .type "list", data := .seq vs.toArray } (.lst (ns.map V.int))) else none) = some o → b = a ∧ o = .frz { cls := .type "list", data := .seq vs.toArray } (.lst (ns.map V.int)) := fun b o z => by
      split at z
      · exact ⟨by assumption, (Option.some.inj z).symm⟩
      · cases z
    refine ⟨fun b => if b = a then some (.frz { cls := .type "list", data := .seq vs.toArray } (.lst (ns.map V.int))) else none, fun b => ?_, .inl (.inr ⟨_, if_pos rfl⟩), fun b o z => ?_, fun b o z => ⟨(off b o z).1, rfl, (off b o z).2⟩⟩
    · by_cases c : b = a
      · exact .inr ⟨_, _, if_pos c⟩
      · exact .inl (if_neg c)
    · obtain ⟨rfl, rfl⟩ := off b o z
      exact ⟨ha, by rw [List.length_map]; exact hl, vs, _, r, ha⟩
  · have z := ha.symm.trans (kin a o hk)
    cases z
    exact ⟨fun _ => none, fun _ => .inl rfl, .inr ⟨_, vs.toArray, _, hk, rfl, rfl, rfl, by rw [List.size_toArray, hi.length]; exact hl, by simpa using r⟩, fun _ _ z => (by cases z), fun _ _ z => (by cases z)⟩
theorem law_callQ {P : Program} {w : World} {K : PySem.W.Frag} {mg mb : Str → Option Value} {k : Nat} {fa a : Addr} {fd : FuncData} {x : Str} {sp : Sp} {s : Shared} {vs : List Value} {ns : List Int}
    (kin : K.In s.heap) (glob : s.heap.Ns mainGlobals mg) (blt : s.heap.Ns builtinsNs mb) (boot : ∀ x : Str, x ≠ "__name__" → mb x = bootBuiltins x) (lim : s.heap.NoLimit) (gens : s.gens = #[])
    (ha : s.heap.get? a = some { cls := .type "list", data := .seq vs.toArray }) (hi : IntsAre vs ns) (hl : ns.length ≤ sizeLine) (hr : Room k callerA)
    (F : ∀ base : Heap, K.In base → base.Ns mainGlobals mg → Qui P w K mg base k fa fd [x] sp) (bind : ∀ (s : Shared) (u : Value), BindsTo s fd ⟨[u], []⟩ [(x, u)])
    (hsp : ∀ H : Hp, Only H → SqL K H a (ns.map V.int) → sp [.ref a] H (fun v _ => v = .bl true) fun _ _ _ => False) :
    codeAny (model P w) callerA (.call (.ref fa) ⟨[.ref a], []⟩) (fun r s' => r = .ok (.ret (.bool true)) ∧ OldK s.heap s'.heap ∧ s'.os = s.os ∧ AllBare s'.gens) s := by
  obtain ⟨H, only, script, held, alone⟩ := script_hp (P := P) (w := w) kin ha hi hl
  -- what is not the script's object lies in the base
  have low : ∀ {b : Addr} {o : Obj}, s.heap.get? b = some o → (∀ xs n, o.data ≠ .seq xs n ∨ K.lookup b ≠ none) → (hidT s.heap H).get? b = some o := fun {b o} e d => by
    refine hidT_get e ?_
    rcases z : H b with _ | u
    · rfl
    · obtain ⟨rfl, n, _⟩ := alone b u z
      rw [ha] at e
      cases e
      rcases d vs.toArray 0 with y | y
      · exact absurd rfl y
      · exact absurd n y
  have spaces : ∀ {b : Addr} {m : Str → Option Value}, s.heap.Ns b m → (hidT s.heap H).Ns b m := fun ⟨o, es, ep, e, d, z⟩ => ⟨o, es, ep, low e fun xs n => .inl (by rw [d]; intro q; cases q), d, z⟩
  have kinB : K.In (hidT s.heap H) := fun b o e => low (kin b o e) fun xs n => .inr (by intro q; rw [e] at q; cases q)
  have room : Env0 P w K mg (hidT s.heap H) callerA [] s H :=
    ⟨rfl, ⟨kinB, spaces glob, ⟨mb, spaces blt, boot⟩, lim.imp fun mc z => ⟨spaces z.1, z.2⟩⟩, fun _ _ => of_hidT, Nat.le_of_eq (hidT_size _ _), trivial, fun b z => absurd (show b ∈ ([] : List Addr) from z) List.not_mem_nil, held, .of_eq gens⟩
  refine codeAny_mono ((F _ kinB (spaces glob)).go callerA [] s H ⟨[.ref a], []⟩ [.ref a] [.ref a] _ _ hr rfl room (bind s (.ref a)) (.cons rfl .nil) (hsp H only script)) ?_
  rintro (e | fl) s' z
  · exact z.elim
  match fl, z with
  | .next, z => exact z.elim
  | .brk, z => exact z.elim
  | .cont, z => exact z.elim
  | .ret u, ⟨v, H', os, bare, un, held', r, q⟩ =>
    cases (show v = V.bl true from q)
    cases (show u = Value.bool true from r)
    refine ⟨rfl, OldK.of_keep fun b o e => ?_, os, bare⟩
    rcases y : H b with _ | u
    · exact un.keep b o e y (fun z => absurd (show b ∈ ([] : List Addr) from z) List.not_mem_nil) (fun z => absurd (show b ∈ ([] : List Addr) from z) List.not_mem_nil)
    · obtain ⟨rfl, _, rfl⟩ := alone b u y
      have h1 := (held b _ y).1
      have h2 := (held' b _ (un.frzs b _ _ y)).1
      rw [e] at h1
      cases h1
      exact h2
theorem walk_ofQ {l : PySem.W.OpenLaw} {n k : Nat} {q : Program} {loose : List Str} {XP : (Str → Option Value) → Heap → Prop} {YP : World → Heap → Prop} {d : DefRec} {K : Params → PySem.W.Frag} {sp : World → Sp} {x : Str}
    (hn : l.most = some n) (hn2 : n ≤ sizeLine) (hdf : d.params.defaults = []) (hr : Room k callerA) (kin : ∀ (w : World) (h : Heap), YP w h → (K w.params).In h)
    (F : ∀ (w : World) (mg : Str → Option Value) (fa : Addr) (h : Heap), (K w.params).In h → h.Ns mainGlobals mg → mg d.name = some (.ref fa) →
      ∃ fd : FuncData, (∀ (s : Shared) (u : Value), BindsTo s fd ⟨[u], []⟩ [(x, u)]) ∧ ∀ base : Heap, (K w.params).In base → base.Ns mainGlobals mg → Qui l.prog w (K w.params) mg base k fa fd [x] (sp w))
    (hsp : ∀ (w : World) (H : Hp) (a : Addr) (ns : List Int), ns.length ≤ n → Only H → SqL (K w.params) H a (ns.map V.int) → sp w [.ref a] H (fun v _ => v = .bl true) fun _ _ _ => False) :
    PySem.W.WalkO q loose XP YP l.row.toRowW d [] (fun f vs => PySem.call f vs) := by
  refine Att.attach_call hn hdf ?_
  intro w _ s₁ mg mb fa o pm cd doc a vs ns G Y _ _ _ named script whole many bare
  obtain ⟨fd, binds, holds⟩ := F w mg fa _ (kin w _ Y) G.T.g named
  exact law_callQ (kin w _ Y) G.T.g G.T.b G.T.builtins G.T.nolimit bare script whole (Nat.le_trans many hn2) hr holds binds fun H only z => hsp w H a ns many only z
/-! ### repr -/
mutual
/-- what a value reads as; with dicts (all empty) no list may be the interpreter's own -/
inductive Rp (z : Bool) (H : Hp) : V → PyData → Prop
  | non : Rp z H .non .none
  | bl (b : Bool) : Rp z H (.bl b) (.bool b)
  | int (i : Int) : Rp z H (.int i) (.int i)
  | str (x : Str) : Rp z H (.str x) (.str x)
  | lst {a : Addr} {xs : List V} {ds : List PyData} (h : H a = some (.lst xs)) (n : z = true → a ≠ sysModules) (r : Rps z H xs ds) : Rp z H (.ref a) (.list ds)
  | tup {a : Addr} {xs : List V} {ds : List PyData} (h : H a = some (.tup xs)) (r : Rps z H xs ds) : Rp z H (.ref a) (.tuple ds)
  | dct {a : Addr} (y : z = true) (h : H a = some (.dK [])) : Rp z H (.ref a) (.dict [])
inductive Rps (z : Bool) (H : Hp) : List V → List PyData → Prop
  | nil : Rps z H [] []
  | cons {x : V} {xs : List V} {d : PyData} {ds : List PyData} (h : Rp z H x d) (r : Rps z H xs ds) : Rps z H (x :: xs) (d :: ds)
end
section
variable {X : Cx} {pins : List (Addr × Obj)} {σ : St} {H : Hp} {s : Shared} {z : Bool}
mutual
theorem Rp.reads (I : Inv X pins σ H s) : ∀ (d : PyData) (v : V) (u : Value), Rp z H v d → RelV v u → ∃ as, Reads s.heap u d as ∧ (z = true → sysModules ∉ as) ∧ (z = false → d.hasDict = false)
  | .none, _, _, h, r => by
    cases h; cases r
    exact ⟨_, Reads.none, fun _ => List.not_mem_nil, fun _ => rfl⟩
  | .bool b, _, _, h, r => by
    cases h; cases r
    exact ⟨_, Reads.bool b, fun _ => List.not_mem_nil, fun _ => rfl⟩
  | .int i, _, _, h, r => by
    cases h
    obtain ⟨t, rfl⟩ := r
    exact ⟨_, Reads.int i t, fun _ => List.not_mem_nil, fun _ => rfl⟩
  | .str x, _, _, h, r => by
    cases h
    obtain ⟨t, rfl⟩ := r
    exact ⟨_, Reads.str x t, fun _ => List.not_mem_nil, fun _ => rfl⟩
  | .list ds, _, _, h, r => by
    cases h with
    | lst hs n ha =>
      cases r
      obtain ⟨its, rv, ⟨o, m, ho, hc, _, hd⟩, _⟩ := I.list (SqL.of hs)
      obtain ⟨as, hr, h1, h2⟩ := Rps.reads I ds _ its ha rv
      refine ⟨_, Reads.list ho hc hd hr, fun y q => ?_, fun y => ?_⟩
      · rcases List.mem_cons.mp q with q | q
        · exact n y q.symm
        · exact h1 y q
      · rw [PyData.hasDict]; exact h2 y
  | .tuple ds, _, _, h, r => by
    cases h with
    | tup hs ha =>
      cases r
      obtain ⟨its, rv, ⟨o, ho, hc, m, hd⟩, _⟩ := I.tuple (SqT.of hs)
      obtain ⟨as, hr, h1, h2⟩ := Rps.reads I ds _ its ha rv
      exact ⟨_, Reads.tuple ho hc hd hr, h1, fun y => by rw [PyData.hasDict]; exact h2 y⟩
  | .dict kvs, _, _, h, r => by
    cases h with
    | dct y hs =>
      cases r
      obtain ⟨_, hd, vs, kv, o, es, ep, ho, hx, hdt, _, hp, _⟩ := dk_of I.hok hs
      cases kv
      have e0 : es.toList = [] := List.eq_nil_of_length_eq_zero hp.length
      refine ⟨_, Reads.dict (kvs := []) ho hx.1 hdt (by rw [e0]; exact .nil) (by rw [e0]; exact .nil), fun _ q => ?_, fun q => by rw [y] at q; cases q⟩
      rcases List.mem_cons.mp q with q | q
      · exact absurd q.symm (beq_eq_false_iff_ne.mp hd)
      · exact absurd q List.not_mem_nil
theorem Rps.reads (I : Inv X pins σ H s) : ∀ (ds : List PyData) (vs : List V) (us : List Value), Rps z H vs ds → Vals vs us → ∃ as, ReadsAll s.heap us ds as ∧ (z = true → sysModules ∉ as) ∧ (z = false → PyData.hasDictAll ds = false)
  | [], _, _, h, r => by
    cases h; cases r
    exact ⟨_, ReadsAll.nil, fun _ => List.not_mem_nil, fun _ => rfl⟩
  | d :: ds, _, _, h, r => by
    cases h with
    | cons g1 g2 =>
      cases r with
      | cons r1 r2 =>
        obtain ⟨as, q1, a1, a2⟩ := Rp.reads I d _ _ g1 r1
        obtain ⟨bs, q2, b1, b2⟩ := Rps.reads I ds _ _ g2 r2
        refine ⟨_, ReadsAll.cons q1 q2, fun y q => ?_, fun y => ?_⟩
        · rcases List.mem_append.mp q with q | q
          · exact a1 y q
          · exact b1 y q
        · rw [PyData.hasDictAll, a2 y, b2 y]; rfl
end
end
/-- texts that can be told -/
structure Shows (d : PyData) : Prop where
  ok : d.showable = true
  fit : d.shown.length ≤ sizeLine
  deep : d.depth ≤ 60
def rRepr : List V → Hp → VK → Prop := fun xs H Q => ∃ (z : Bool) (x : V) (d : PyData), xs = [x] ∧ Rp z H x d ∧ Shows d ∧ Q (.str d.shown) H
theorem call_repr {X : Cx} {k : Nat} (hr : Room k X.A) (hq : X.A.guards = some []) : CallR X (.builtin "repr") rRepr := by
  intro pins s σ H xs us Q I r h
  obtain ⟨z, x, d, rfl, hp, hs, q⟩ := h
  obtain ⟨u, rfl, rx⟩ := r.one
  have un : X.A.units + (d.depth + 1) < cLine := by
    have h1 := hr.un
    have h2 := hs.deep
    omega
  have refs : ∀ (a : Addr), x = .ref a → wpAny (model X.prog X.w) X.A (call (.builtin "repr") [u]) (EP X pins σ Q) X.xe s := fun a ex => by
    subst ex
    cases rx
    obtain ⟨as, hr, n1, n2⟩ := Rp.reads I d _ _ hp rfl
    refine repr_of_reads' hr hs.ok (fun y => n1 ?_) hq un (fun _ _ e => e) (fun h' t tk keep => ⟨.str d.shown, H, I.kept keep, ⟨t, rfl⟩, q⟩) hs.fit
    rcases z with _ | _
    · rw [n2 rfl] at y; cases y
    · rfl
  cases hp with
  | non => cases rx; exact PySem.P.repr_of_none ⟨.str _, H, I.tok _, ⟨_, rfl⟩, q⟩
  | bl b => cases rx; exact PySem.P.repr_of_bool ⟨.str _, H, I.tok _, ⟨_, rfl⟩, q⟩
  | int i =>
    obtain ⟨t, rfl⟩ := rx
    exact PySem.P.repr_of_int (of_decide_eq_true hs.ok) ⟨.str _, H, I.tok _, ⟨_, rfl⟩, q⟩
  | str y =>
    obtain ⟨t, rfl⟩ := rx
    exact PySem.P.repr_of_str ⟨.str _, H, I.tok _, ⟨_, rfl⟩, q⟩ hs.fit
  | lst _ _ _ => exact refs _ rfl
  | tup _ _ => exact refs _ rfl
  | dct _ _ => exact refs _ rfl
/-! ### == and != of a tuple and () -/
def rEqNil (K : PySem.W.Frag) (ne : Bool) : R2 := fun x y H Q => ∃ a b xs, x = .ref a ∧ y = .ref b ∧ SqT K H a xs ∧ SqT K H b [] ∧ Q (.bl (xor ne (decide (xs = [])))) H
theorem op_eqNil {X : Cx} (hu : X.A.units < cLine) : OpR X (compareOp .Eq) (rEqNil X.K false) := by
  intro pins s σ H x y v u Q I rx ry h
  obtain ⟨a, b, xs, rfl, rfl, ha, hb, q⟩ := h
  cases rx; cases ry
  obtain ⟨its, r, ⟨o, ho, hc, n, hd⟩, _⟩ := I.tuple ha
  obtain ⟨jts, r2, ⟨o2, ho2, hc2, n2, hd2⟩, _⟩ := I.tuple hb
  cases r2
  refine SeqAt.eq_tupleAt (e := fun _ => true) ⟨o, ho, hc, n, hd⟩ ⟨o2, ho2, hc2, n2, hd2⟩ hu (fun j h1 h2 => absurd h2 (Nat.not_lt_zero j)) ?_
  refine ⟨.bl _, H, I, rfl, ?_⟩
  have e : ((List.range (min its.toArray.size ([] : List Value).toArray.size)).all (fun _ => true) && its.toArray.size == ([] : List Value).toArray.size) = (xor false (decide (xs = []))) := by
    cases r with
    | nil => rfl
    | cons _ _ => simp
  rw [e]; exact q
theorem op_neNil {X : Cx} (hu : X.A.units < cLine) : OpR X (compareOp .NotEq) (rEqNil X.K true) := by
  intro pins s σ H x y v u Q I rx ry h
  obtain ⟨a, b, xs, rfl, rfl, ha, hb, q⟩ := h
  cases rx; cases ry
  obtain ⟨its, r, ⟨o, ho, hc, n, hd⟩, _⟩ := I.tuple ha
  obtain ⟨jts, r2, ⟨o2, ho2, hc2, n2, hd2⟩, _⟩ := I.tuple hb
  cases r2
  refine SeqAt.RcNeAt.tuples (e := fun _ => true) ⟨o, ho, hc, n, hd⟩ ⟨o2, ho2, hc2, n2, hd2⟩ hu (fun j h1 h2 => absurd h2 (Nat.not_lt_zero j)) _ _ _ _ ?_
  refine ⟨.bl _, H, I, rfl, ?_⟩
  have e : (!((List.range (min its.toArray.size ([] : List Value).toArray.size)).all (fun _ => true) && its.toArray.size == ([] : List Value).toArray.size)) = (xor true (decide (xs = []))) := by
    cases r with
    | nil => rfl
    | cons _ _ => simp
  rw [e]; exact q
/-- a display of a list, its place told to be none of the interpreter's own -/
def tLstN (t : TA) : TE := fun σ H Q => t σ H fun xs H1 => xs.length ≤ sizeLine ∧ ∀ l, H1 l = none → l ≠ sysModules → Q (.ref l) (upd H1 l (.lst xs))
theorem pe_lstN {X : Cx} {es : List Expr} {pos : Pos} {t : TA} (h : PA X es t) : PE X (.List es pos) (tLstN t) := by
  constructor
  intro pins s σ H Q I hq
  refine wpAny_List_spliced (thn (h.run pos pins s σ H _ I hq) ?_)
  rintro us s1 ⟨xs, H1, J, r, z, q⟩
  refine ⟨r.length ▸ z, .ref s1.heap.objs.size, _, J.laid (o := .lst xs) (t' := s1.toks) (fun _ _ => Heap.get?_push_of_some _) (Nat.le_refl _) ⟨z, us, 0, r, Heap.get?_push_size _ rfl⟩, rfl, q _ (J.hok.fresh (Nat.le_refl _)) (Nat.ne_of_gt J.big)⟩
theorem lt64 {k : Nat} {A : Around} (hr : Room k A) : A.units < cLine := by
  have h := hr.un
  omega
end L2

/-! Z3: math.factorial. -/
namespace L2
open PySem PySem.Spec PyProof.Rows
def fct : Nat → Nat
  | 0 => 1
  | n + 1 => fct n * (n + 1)
theorem fct_same : ∀ n : Nat, Builtin.Math.factorialNat n = fct n
  | 0 => rfl
  | n + 1 => by rw [PySem.W.mc_fac_succ, fct_same n, fct]
theorem cr_factorial {X : Cx} : CallR X (.builtin "math.factorial") (fun vs H Q => ∃ a : Nat, vs = [.int (a : Int)] ∧ a ≤ 20000 ∧ Q (.int ((fct a : Nat) : Int)) H) := by
  intro pins s σ H vs us Q I r h
  obtain ⟨a, rfl, h2, q⟩ := h
  obtain ⟨u, rfl, t, rfl⟩ := r.one
  refine PySem.W.mc_factorial (by omega) (by omega) fun _ => ?_
  rw [Int.toNat_natCast, fct_same]
  exact ⟨.int _, H, I.tok _, ⟨_, rfl⟩, q⟩
theorem fct_pos : ∀ n : Nat, 1 ≤ fct n
  | 0 => Nat.le_refl 1
  | n + 1 => by rw [fct]; exact Nat.mul_pos (fct_pos n) (Nat.succ_pos n)
theorem fct_mono {m n : Nat} (h : m ≤ n) : fct m ≤ fct n := by
  induction h with
  | refl => exact Nat.le_refl _
  | step _ ih => rw [fct]; exact Nat.le_trans ih (Nat.le_mul_of_pos_right _ (Nat.succ_pos _))
theorem fct_small {n : Nat} (h : n ≤ 60) : fct n < 2 ^ 300 := Nat.lt_of_le_of_lt (fct_mono h) (by decide +kernel)
end L2

/-! Z4: list(enumerate(a list)): a new list of new pairs. -/
namespace PySem.F
theorem en_len : typeLookup (.type "enumerate") "__len__" = pure none := by rw [typeLookup_type, builtinLookup_eq_fast]; kernel_rfl
theorem en_hint : typeLookup (.type "enumerate") "__length_hint__" = pure none := by rw [typeLookup_type, builtinLookup_eq_fast]; kernel_rfl
end PySem.F
namespace L2
open PySem PySem.Spec PyProof.Rows
open Sem (wp)
/-- an enumerate object, whatever pair it may have handed out -/
abbrev EnO (h : Heap) (e it : Addr) (g : Value) (b : Bool) (i : Int) (z : Value) : Prop :=
  h.get? e = some ({ cls := .type "enumerate", dict := none, data := .fields #[g, .bool b, .ref it, rawInt i, .none, z], slots := #[] } : Obj)
/-- it is new, or its pair is still there -/
def EnG (h : Heap) (e it : Addr) (g : Value) (b : Bool) : Prop := (g = .none ∧ b = false) ∨ ∃ (a : Addr) (o : Obj), g = rawInt a ∧ h.get? a = some o ∧ a ≠ e ∧ a ≠ it ∧ o.cls = .type "tuple"
structure EnSt (e it l : Addr) (items : Array Value) (i : Nat) (h : Heap) : Prop where
  en : ∃ g b z, EnO h e it g b ((i : Nat) : Int) z ∧ EnG h e it g b
  sit : h.IsListIter it l i
  sli : h.IsList l items
  ne : e ≠ it
theorem EnSt.put {e it l S : Addr} {items : Array Value} {i : Nat} {h h' : Heap} {oS : Obj} (s : EnSt e it l items i h) (hS : h.get? S = some oS) (cS : oS.cls = .type "list") (nl : l ≠ S) (k : ∀ b o, b ≠ S → h.get? b = some o → h'.get? b = some o) : EnSt e it l items i h' := by
  obtain ⟨⟨g, b, z, he, hg⟩, hi, hl, ne⟩ := s
  have other : ∀ {a : Addr} {o : Obj} {c : String}, h.get? a = some o → o.cls = .type c → c ≠ "list" → a ≠ S := fun {a o c} x y n q => by
    rw [q, hS] at x
    cases x
    exact n (Value.type.inj (y.symm.trans cS))
  obtain ⟨o2, ho2, hc2, _⟩ := id hi
  have n1 : e ≠ S := other he rfl (by decide)
  have n2 : it ≠ S := other ho2 hc2 (by decide)
  refine ⟨⟨g, b, z, k _ _ n1 he, ?_⟩, hi.at fun o x => k _ _ n2 x, hl.at fun o x => k _ _ nl x, ne⟩
  rcases hg with hg | ⟨a, o, h1, h2, h3, h4, h5⟩
  · exact .inl hg
  · exact .inr ⟨a, o, h1, k _ _ (other h2 h5 (by decide)) h2, h3, h4, h5⟩
section
variable {prog : Program} {w : World} {A : Around} {E : Value → Shared → Prop} {s : Shared}
theorem alive_wp {M : Model} {a : Addr} {Q : Option Obj → Shared → Prop} (h : Q (s.heap.get? a) s) : wpAny M A (Sem.loadIfAlive a .pure) Q E s := fun _ _ _ => h
/-- the next pair -/
theorem en_step {e it l : Addr} {i : Nat} {items : Array Value} {x : Value} {Q : Value → Shared → Prop} (st : EnSt e it l items i s.heap) (hx : items[i]? = some x)
    (hQ : ∀ h', EnSt e it l items (i + 1) h' → h'.get? s.heap.objs.size = some { cls := .type "tuple", data := .seq #[.int i s.toks, x] } → h'.objs.size = s.heap.objs.size + 1 →
      (∀ b o, b ≠ e → b ≠ it → s.heap.get? b = some o → h'.get? b = some o) → Q (.ref s.heap.objs.size) { s with heap := h', toks := s.toks + 1 }) :
    wpAny (model prog w) A (Builtin.«enumerate.__next__» ⟨[.ref e], []⟩) (fun fin s' => ∃ v, fin = .done (.ret v) ∧ Q v s') E s := by
  obtain ⟨hp, g0, d, tk, os⟩ := s
  obtain ⟨⟨g, b, z, he, hg⟩, hit, hl, hne⟩ := st
  replace he : EnO hp e it g b ((i : Nat) : Int) z := he
  show wpAny (model prog w) A (field (.ref e) 2 >>= _) _ E _
  refine wpAny_bind (wpAny_field he rfl (i := 2) (x := .ref it) rfl ?_)
  refine wpAny_bind (wpAny_nextOf_list_item hit hl hx fun h1 hit1 sb1 => ?_)
  replace sb1 : Heap.SameBut it hp h1 := sb1
  have e1 : EnO h1 e it g b ((i : Nat) : Int) z := (sb1.2 e hne).trans he
  show wpAny (model prog w) A (field (.ref e) 3 >>= _) _ E ⟨h1, g0, d, tk, os⟩
  refine wpAny_bind (wpAny_field e1 rfl (i := 3) (x := rawInt i) rfl ?_)
  show wpAny (model prog w) A (field (.ref e) 4 >>= _) _ E ⟨h1, g0, d, tk, os⟩
  refine wpAny_bind (wpAny_field e1 rfl (i := 4) (x := .none) rfl ?_)
  show wpAny (model prog w) A (mkInt i >>= _) _ E ⟨h1, g0, d, tk, os⟩
  refine wpAny_bind (wpAny_mkInt ?_)
  show wpAny (model prog w) A (setField (.ref e) 3 (rawInt ((i : Int) + 1)) >>= _) _ E ⟨h1, g0, d, tk + 1, os⟩
  refine wpAny_bind (wpAny_setField_rec e1 (by simp) fun h2 e2 sb2 => ?_)
  replace sb2 : Heap.SameBut e h1 h2 := sb2
  replace e2 : EnO h2 e it g b ((i : Int) + 1) z := e2
  show wpAny (model prog w) A (setField (.ref e) 4 .none >>= _) _ E ⟨h2, g0, d, tk + 1, os⟩
  refine wpAny_bind (wpAny_setField_rec e2 (by simp) fun h3 e3 sb3 => ?_)
  replace sb3 : Heap.SameBut e h2 h3 := sb3
  replace e3 : EnO h3 e it g b ((i : Int) + 1) z := e3
  show wpAny (model prog w) A (newTuple [.int i tk, x] >>= _) _ E ⟨h3, g0, d, tk + 1, os⟩
  refine wpAny_bind (wpAny_newTuple ?_)
  have e4 : EnO (h3.push { cls := .type "tuple", data := .seq #[.int i tk, x] }) e it g b ((i : Int) + 1) z := Heap.get?_push_of_some _ e3
  have sz3 : h3.objs.size = hp.objs.size := by rw [sb3.1, sb2.1, sb1.1]
  have lt_e : e < hp.objs.size := Heap.lt_size he
  have t4 : (h3.push { cls := .type "tuple", data := .seq #[.int i tk, x] }).get? hp.objs.size = some { cls := .type "tuple", data := .seq #[.int i tk, x] } := by rw [← sz3]; exact Heap.get?_push_size _ rfl
  have sz4 : (h3.push { cls := .type "tuple", data := .seq #[.int i tk, x] }).objs.size = hp.objs.size + 1 := by rw [Heap.size_push, sz3]
  have k4 : ∀ b o, b ≠ e → b ≠ it → hp.get? b = some o → (h3.push { cls := .type "tuple", data := .seq #[.int i tk, x] }).get? b = some o := fun b o n1 n2 y =>
    Heap.get?_push_of_some _ (sb3.extBut b o n1 (sb2.extBut b o n1 (sb1.extBut b o n2 y)))
  have it4 : (h3.push { cls := .type "tuple", data := .seq #[.int i tk, x] }).IsListIter it l (i + 1) := by
    obtain ⟨o, ho, r⟩ := (hit1.extBut sb2.extBut (Ne.symm hne)).extBut sb3.extBut (Ne.symm hne)
    exact ⟨o, Heap.get?_push_of_some _ ho, r⟩
  have nle : l ≠ e := fun q => by
    obtain ⟨o, ho, hc, _⟩ := id hl
    rw [q] at ho
    have y := he.symm.trans ho
    cases y
    have c2 : ("enumerate" : String) = "list" := Value.type.inj hc
    exact absurd c2 (by decide)
  have nli : l ≠ it := fun q => by
    obtain ⟨o, ho, hc, _⟩ := id hl
    obtain ⟨o2, ho2, hc2, _⟩ := id hit
    rw [q, ho2] at ho
    cases ho
    have c2 : ("list_iterator" : String) = "list" := Value.type.inj (hc2.symm.trans hc)
    exact absurd c2 (by decide)
  have l4 : (h3.push { cls := .type "tuple", data := .seq #[.int i tk, x] }).IsList l items := hl.at fun o y => k4 l o nle nli y
  rw [sz3]
  generalize h3.push { cls := .type "tuple", data := .seq #[.int i tk, x] } = h4 at e4 t4 sz4 k4 it4 l4 ⊢
  clear e3 sb3 e2 sb2 e1 sb1 hit1 sz3
  have tie : ((i + 1 : Nat) : Int) = (i : Int) + 1 := by omega
  show wpAny (model prog w) A (Builtin.SmallTypes.ownedTupleIsFree (.ref e) >>= _) _ E ⟨h4, g0, d, tk + 1, os⟩
  refine wpAny_bind ?_
  unfold Builtin.SmallTypes.ownedTupleIsFree
  rcases hg with ⟨rfl, rfl⟩ | ⟨a, o, rfl, ha, na1, na2, na3⟩
  · refine wpAny_bind (wpAny_field e4 rfl (i := 0) (x := .none) rfl (wpAny_pure ?_))
    simp only [if_true]
    refine wpAny_bind (wpAny_rule (wpAny_bind (wpAny_field e4 rfl (i := 5) (x := z) rfl ?_)))
    refine wpAny_bind (wpAny_setField_rec e4 (by simp) fun h5 e5 sb5 => ?_)
    replace sb5 : Heap.SameBut e h4 h5 := sb5
    replace e5 : EnO h5 e it .none false ((i : Int) + 1) x := e5
    show wpAny (model prog w) A (Builtin.SmallTypes.ownedTupleHandOut (.ref e) (.ref hp.objs.size) >>= _) _ E ⟨h5, g0, d, tk + 1, os⟩
    refine wpAny_bind ?_
    unfold Builtin.SmallTypes.ownedTupleHandOut
    refine wpAny_bind (wpAny_setField_rec e5 (by simp) fun h6 e6 sb6 => ?_)
    replace sb6 : Heap.SameBut e h5 h6 := sb6
    replace e6 : EnO h6 e it (rawInt hp.objs.size) false ((i : Int) + 1) x := e6
    refine wpAny_setField_rec e6 (by simp) fun h7 e7 sb7 => ?_
    replace sb7 : Heap.SameBut e h6 h7 := sb7
    replace e7 : EnO h7 e it (rawInt hp.objs.size) false ((i : Int) + 1) x := e7
    have kk : ∀ b o, b ≠ e → h4.get? b = some o → h7.get? b = some o := fun b o n y => sb7.extBut b o n (sb6.extBut b o n (sb5.extBut b o n y))
    have t7 := kk _ _ (Nat.ne_of_gt lt_e) t4
    refine wpAny_bind (wpAny_letGo (wpAny_pure ⟨_, rfl, hQ h7 ⟨⟨_, _, _, by rw [tie]; exact e7, .inr ⟨_, _, rfl, t7, Nat.ne_of_gt lt_e, ?_, rfl⟩⟩, it4.at fun o y => kk _ _ (Ne.symm hne) y, l4.at fun o y => kk _ _ nle y, hne⟩ t7 (by rw [sb7.1, sb6.1, sb5.1, sz4]) fun b o n1 n2 y => kk b o n1 (k4 b o n1 n2 y)⟩))
    obtain ⟨o2, ho2, _⟩ := hit
    exact Nat.ne_of_gt (Heap.lt_size ho2)
  · have a4 := k4 a o na1 na2 ha
    refine wpAny_bind (wpAny_field e4 rfl (i := 0) (x := rawInt a) rfl ?_)
    show wpAny (model prog w) A (Sem.loadIfAlive a .pure >>= _) _ E ⟨h4, g0, d, tk + 1, os⟩
    refine wpAny_bind (alive_wp ?_)
    show wpAny (model prog w) A (if (h4.get? a).isNone = true then _ else _) _ E ⟨h4, g0, d, tk + 1, os⟩
    rw [a4]
    show wpAny (model prog w) A (field (.ref e) 1 >>= _) _ E ⟨h4, g0, d, tk + 1, os⟩
    refine wpAny_bind (wpAny_field e4 rfl (i := 1) (x := .bool b) rfl ?_)
    have fin : ∀ (h5 : Heap) (b' : Bool), EnO h5 e it (rawInt a) b' ((i : Int) + 1) z → (∀ b o, b ≠ e → h4.get? b = some o → h5.get? b = some o) → h5.objs.size = h4.objs.size → Q (.ref hp.objs.size) ⟨h5, g0, d, tk + 1, os⟩ := fun h5 b' e5 kk sz5 =>
      hQ h5 ⟨⟨_, _, _, by rw [tie]; exact e5, .inr ⟨a, o, rfl, kk _ _ na1 a4, na1, na2, na3⟩⟩, it4.at fun o y => kk _ _ (Ne.symm hne) y, l4.at fun o y => kk _ _ nle y, hne⟩ (kk _ _ (Nat.ne_of_gt lt_e) t4) (sz5.trans sz4) fun b o n1 n2 y => kk b o n1 (k4 b o n1 n2 y)
    cases b with
    | true => exact wpAny_pure (wpAny_pure ⟨_, rfl, fin h4 true e4 (fun _ _ _ y => y) rfl⟩)
    | false =>
      show wpAny (model prog w) A (setField (.ref e) 1 (.bool true) >>= _) _ E ⟨h4, g0, d, tk + 1, os⟩
      refine wpAny_bind (wpAny_setField_rec e4 (by simp) fun h5 e5 sb5 => ?_)
      exact wpAny_pure (wpAny_pure ⟨_, rfl, fin h5 true e5 (fun b o n y => sb5.extBut b o n y) sb5.1⟩)
theorem en_next {e it l : Addr} {i : Nat} {items : Array Value} {x : Value} {Q : Option Value → Shared → Prop} (st : EnSt e it l items i s.heap) (hx : items[i]? = some x)
    (hQ : ∀ h', EnSt e it l items (i + 1) h' → h'.get? s.heap.objs.size = some { cls := .type "tuple", data := .seq #[.int i s.toks, x] } → h'.objs.size = s.heap.objs.size + 1 →
      (∀ b o, b ≠ e → b ≠ it → s.heap.get? b = some o → h'.get? b = some o) → Q (some (.ref s.heap.objs.size)) { s with heap := h', toks := s.toks + 1 }) :
    wpAny (model prog w) A (pyNext (.ref e)) Q E s := by
  obtain ⟨g, b, z, he, _⟩ := st.en
  have ty : s.TypeIs (.ref e) "enumerate" := ⟨_, he, rfl⟩
  unfold pyNext
  exact wpAny_bind (wpAny_attempt (wpAny_callSpecial?_slot (name := Str.ofString "__next__") ty F.slot_enumerate_next (wpAny_call_entry F.slot_enumerate_next ty F.entry_enumerate_next (en_step st hx fun h' a b c d => wpAny_pure (hQ h' a b c d)) (F.args_enumerate_next_1 _))))
theorem en_end {e it l : Addr} {items : Array Value} {Q : Option Value → Shared → Prop} (hh : A.handled = none) (st : EnSt e it l items items.size s.heap) (hQ : ∀ h', Heap.ExtBut it s.heap h' → Q none { s with heap := h' }) : wpAny (model prog w) A (pyNext (.ref e)) Q E s := by
  obtain ⟨⟨g, b, z, he, _⟩, hit, hl, _⟩ := st
  have ty : s.TypeIs (.ref e) "enumerate" := ⟨_, he, rfl⟩
  unfold pyNext
  refine wpAny_bind (wpAny_attempt (wpAny_callSpecial?_slot (name := Str.ofString "__next__") ty F.slot_enumerate_next (wpAny_call_entry F.slot_enumerate_next ty F.entry_enumerate_next ?_ (F.args_enumerate_next_1 _))))
  show wpAny _ _ (field (.ref e) 2 >>= _) _ _ s
  refine wpAny_bind (wpAny_field he rfl (i := 2) (x := .ref it) rfl ?_)
  refine wpAny_bind (wpAny_nextOf_list_end hh hit hl (by simp) fun h' y he' hy => ?_)
  obtain ⟨o, ho, hc⟩ := hy
  exact wpAny_bind (wpAny_isInstance (T := "StopIteration") (b := true) ⟨o, ho, hc⟩ isSubtype_stop (wpAny_pure (hQ _ he')))
/-- the pairs gathered so far -/
structure AccEn (items acc : Array Value) (i : Nat) (h : Heap) (n0 : Nat) : Prop where
  sz : acc.size = i
  at_ : ∀ j : Nat, j < i → ∃ (p : Addr) (tk : Nat) (x : Value), acc[j]? = some (.ref p) ∧ items[j]? = some x ∧ n0 ≤ p ∧ h.get? p = some { cls := .type "tuple", data := .seq #[.int j tk, x] }
theorem AccEn.to {items acc : Array Value} {i n0 : Nat} {h h' : Heap} (a : AccEn items acc i h n0) (k : ∀ b o, n0 ≤ b → h.get? b = some o → h'.get? b = some o) : AccEn items acc i h' n0 := ⟨a.sz, fun j hj => by
  obtain ⟨p, tk, x, h1, h2, h3, h4⟩ := a.at_ j hj
  exact ⟨p, tk, x, h1, h2, h3, k _ _ h3 h4⟩⟩
theorem AccEn.push {items acc : Array Value} {i n0 : Nat} {h : Heap} {p : Addr} {tk : Nat} {x : Value} (a : AccEn items acc i h n0) (hx : items[i]? = some x) (hp : n0 ≤ p) (ht : h.get? p = some { cls := .type "tuple", data := .seq #[.int i tk, x] }) : AccEn items (acc.push (.ref p)) (i + 1) h n0 := ⟨by rw [Array.size_push, a.sz], fun j hj => by
  by_cases c : j < i
  · obtain ⟨p', tk', x', h1, h2, h3, h4⟩ := a.at_ j c
    exact ⟨p', tk', x', by rw [Array.getElem?_push_lt (by rw [a.sz]; exact c), ← Array.getElem?_eq_getElem]; exact h1, h2, h3, h4⟩
  · have e : j = i := by omega
    subst e
    exact ⟨p, tk, x, by rw [← a.sz, Array.getElem?_push_size], hx, hp, ht⟩⟩
theorem en_loop {e it l S : Addr} {items : Array Value} {R : Result → Shared → Prop} {n0 : Nat} (hh : A.handled = none) (hn : items.size ≤ sizeLine) (res : Value) (hSl : S < n0) (hel : e < n0) (hil : it < n0) (nS : S ≠ e ∧ S ≠ it ∧ l ≠ S) :
    ∀ (k i : Nat) (s : Shared) (acc : Array Value) (c : Nat), items.size - i = k → i ≤ items.size → EnSt e it l items i s.heap → n0 ≤ s.heap.objs.size → s.heap.get? S = some { cls := .type "list", dict := none, data := .seq acc c, slots := #[] } → AccEn items acc i s.heap n0 →
    (∀ h' tk acc' c', (∀ b o, b ≠ e → b ≠ it → b ≠ S → s.heap.get? b = some o → h'.get? b = some o) → h'.get? S = some { cls := .type "list", dict := none, data := .seq acc' c', slots := #[] } → AccEn items acc' items.size h' n0 → R (.ok (.ret res)) { s with heap := h', toks := tk }) →
    codeAny (model prog w) A (.builtin "list.extend.loop" ⟨[.ref S, .ref e, res], []⟩) R s := by
  intro k
  induction k with
  | zero =>
    intro i s acc c hk hi st hz hS ha hR
    have ei : i = items.size := by omega
    subst ei
    refine codeAny_builtin F.entry_extend_loop ?_
    rw [Around.under_plainId F.plain_extend_loop _]
    show wpAny _ A.in1 (pyNext (.ref e) >>= _) _ _ s
    refine wpAny_bind (en_end hh st fun h' x => wpAny_pure ?_)
    exact hR h' s.toks acc c (fun b o _ n2 _ y => x b o n2 y) (x _ _ nS.2.1 hS) (ha.to fun b o n y => x b o (Nat.ne_of_gt (Nat.lt_of_lt_of_le hil n)) y)
  | succ k ih =>
    intro i s acc c hk hi st hz hS ha hR
    have lt : i < items.size := by omega
    refine codeAny_builtin F.entry_extend_loop ?_
    rw [Around.under_plainId F.plain_extend_loop _]
    show wpAny _ A.in1 (pyNext (.ref e) >>= _) _ _ s
    obtain ⟨x, hx⟩ : ∃ x, items[i]? = some x := ⟨items[i], by simp [lt]⟩
    refine wpAny_bind (en_next st hx fun h1 st1 t1 sz1 k1 => ?_)
    have hS1 := k1 S _ nS.1 nS.2.1 hS
    show wpAny _ A.in1 (updateSeq S (·.push (.ref s.heap.objs.size)) >>= _) _ _ _
    refine wpAny_bind ?_
    refine wpAny_updateSeq hS1 rfl (wpAny_pure ⟨plainId_quiet F.plain_extend_loop _, ih (i + 1) _ (acc.push (.ref s.heap.objs.size)) _ (by omega) lt ?_ ?_ (Heap.get?_update_self _ hS1 rfl) ?_ fun h' tk acc' c' kk hS' ha' => ?_⟩) (by rw [ha.sz]; omega) (by show (acc.push (.ref s.heap.objs.size)).size ≤ sizeLine + 1; rw [Array.size_push, ha.sz]; omega)
    · exact st1.put hS1 rfl nS.2.2 fun b o n y => (Heap.get?_update_other _ _ (Ne.symm n)).trans y
    · show n0 ≤ (h1.update S _).objs.size
      rw [Heap.size_update, sz1]; omega
    · refine ((ha.to fun b o n y => ?_).push hx hz t1).to fun b o n y => (Heap.get?_update_other _ _ (Nat.ne_of_lt (Nat.lt_of_lt_of_le hSl n))).trans y
      exact k1 b o (Nat.ne_of_gt (Nat.lt_of_lt_of_le hel n)) (Nat.ne_of_gt (Nat.lt_of_lt_of_le hil n)) y
    · exact hR h' tk acc' c' (fun b o n1 n2 n3 y => kk b o n1 n2 n3 ((Heap.get?_update_other _ _ (Ne.symm n3)).trans (k1 b o n1 n2 y))) hS' ha'
theorem en_extend {e it l S : Addr} {items : Array Value} {R : Result → Shared → Prop} (hh : A.handled = none) (hn : items.size ≤ sizeLine) (res : Value) (c : Nat) (he : IsEnum s.heap e it 0 .none) (st : EnSt e it l items 0 s.heap) (hS : s.heap.get? S = some { cls := .type "list", data := .seq #[] c }) (nl : l ≠ S)
    (hR : ∀ h' tk acc' c', (∀ b o, b ≠ e → b ≠ it → b ≠ S → s.heap.get? b = some o → h'.get? b = some o) → h'.get? S = some { cls := .type "list", dict := none, data := .seq acc' c', slots := #[] } → AccEn items acc' items.size h' s.heap.objs.size → R (.ok (.ret res)) { s with heap := h', toks := tk }) :
    wpAny (model prog w) A.in1 (Builtin.List.listExtendWith (.ref S) (.ref e) res) (fun fin s' => match fin with | .done f => R (.ok f) s' | .again c' => c'.quiet = true ∧ codeAny (model prog w) A c' R s') (fun e s' => R (.error e) s') s := by
  have ty : s.TypeIs (.ref e) "enumerate" := ⟨_, he, rfl⟩
  obtain ⟨oi, hoi, hci, _⟩ := id st.sit
  have nS : S ≠ e ∧ S ≠ it ∧ l ≠ S := by
    refine ⟨fun q => ?_, fun q => ?_, nl⟩
    · have y := he.symm.trans (q ▸ hS)
      exact absurd (Value.type.inj (congrArg Obj.cls (Option.some.inj y))) (by decide)
    · rw [q, hoi] at hS
      cases hS
      have c2 : ("list" : String) = "list_iterator" := Value.type.inj hci
      exact absurd c2 (by decide)
  unfold Builtin.List.listExtendWith
  refine wpAny_bind (wpAny_typeOf ty ?_)
  have d1 : Builtin.List.listSameRef (.ref S) (.ref e) = false := by simp [Builtin.List.listSameRef, nS.1]
  have d2 : (Value.type "enumerate" == Value.type "list") = false := by decide
  have d3 : (Value.type "enumerate" == Value.type "tuple") = false := by decide
  simp only [d1, d2, d3, Bool.or_false, Bool.false_eq_true, if_false]
  refine wpAny_bind (wpAny_pyIter_enum he (wpAny_bind (wpAny_holding ?_)))
  unfold Builtin.List.listLengthHint
  refine wpAny_bind (wpAny_specialOf ty F.en_len ?_)
  show wpAny _ A.in1 (specialOf (Value.ref e) (Str.ofString "__length_hint__") >>= _) _ _ s
  refine wpAny_bind (wpAny_specialOf ty F.en_hint (wpAny_pure ?_))
  show wpAny _ A.in1 (rule "list.extend.makes-room" >>= fun _ => Builtin.List.listTouch (.ref S) >>= fun _ => again (.builtin "list.extend.loop" ⟨[.ref S, .ref e, res], []⟩)) _ _ s
  refine wpAny_bind (wpAny_rule (wpAny_bind ?_))
  show wpAny _ A.in1 (updateSeq S (·.push .none) >>= fun _ => updateSeq S (·.pop)) _ _ s
  refine wpAny_bind (wpAny_updateSeq hS rfl ?_)
  have h2 := Heap.get?_update_self (Obj.mapSeq (·.push Value.none)) hS rfl
  refine wpAny_updateSeq (hz := by seq_fits) h2 rfl ?_
  have h3 := Heap.get?_update_self (Obj.mapSeq (·.pop)) h2 rfl
  have ot : ∀ b o, b ≠ S → s.heap.get? b = some o → ((s.heap.update S (Obj.mapSeq (·.push Value.none))).update S (Obj.mapSeq (·.pop))).get? b = some o := fun b o n y =>
    (Heap.get?_update_other _ _ (Ne.symm n)).trans ((Heap.get?_update_other _ _ (Ne.symm n)).trans y)
  have hz : ((s.heap.update S (Obj.mapSeq (·.push Value.none))).update S (Obj.mapSeq (·.pop))).objs.size = s.heap.objs.size := by rw [Heap.size_update, Heap.size_update]
  refine wpAny_pure ⟨plainId_quiet F.plain_extend_loop _, en_loop (n0 := s.heap.objs.size) hh hn res (Heap.lt_size hS) (Heap.lt_size he) (Heap.lt_size hoi) nS items.size 0 _ #[] _ rfl (Nat.zero_le _) (st.put hS rfl nl ot) (Nat.le_of_eq hz.symm) h3 ⟨rfl, fun j hj => absurd hj (Nat.not_lt_zero j)⟩ fun h' tk acc' c' kk hS' ha => ?_⟩
  exact hR h' tk acc' c' (fun b o n1 n2 n3 y => kk b o n1 n2 n3 (ot b o n3 y)) hS' ha
theorem en_init {e it l S : Addr} {items : Array Value} {R : Result → Shared → Prop} (hh : A.handled = none) (hn : items.size ≤ sizeLine) (he : IsEnum s.heap e it 0 .none) (st : EnSt e it l items 0 s.heap) (hS : s.heap.get? S = some { cls := .type "list", data := .seq #[] }) (nl : l ≠ S)
    (hR : ∀ h' tk acc' c', (∀ b o, b ≠ e → b ≠ it → b ≠ S → s.heap.get? b = some o → h'.get? b = some o) → h'.get? S = some { cls := .type "list", dict := none, data := .seq acc' c', slots := #[] } → AccEn items acc' items.size h' s.heap.objs.size → R (.ok (.ret .none)) { s with heap := h', toks := tk }) :
    wpAny (model prog w) A.in1 (Builtin.«list.__init__» ⟨[.ref S, .ref e], []⟩) (fun fin s' => match fin with | .done f => R (.ok f) s' | .again c' => c'.quiet = true ∧ codeAny (model prog w) A c' R s') (fun e s' => R (.error e) s') s := by
  show wpAny _ A.in1 (do let old ← Builtin.List.listItems (.ref S); Builtin.List.listUpdate (.ref S) (fun _ => #[]); letGo old.toList.reverse; Builtin.List.listExtendWith (.ref S) (.ref e) .none) _ _ s
  refine wpAny_bind ?_
  unfold Builtin.List.listItems
  refine wpAny_bind (wpAny_seqItems hS rfl (wpAny_pure ?_))
  show wpAny _ A.in1 (updateSeq S (fun _ => #[]) >>= fun _ => letGo (#[] : Array Value).toList.reverse >>= fun _ => Builtin.List.listExtendWith (.ref S) (.ref e) .none) _ _ s
  refine wpAny_bind (wpAny_updateSeq hS rfl (wpAny_bind (wpAny_letGo ?_)))
  have h2 := Heap.get?_update_self (Obj.mapSeq (fun _ => (#[] : Array Value))) hS rfl
  have ot : ∀ b o, b ≠ S → s.heap.get? b = some o → (s.heap.update S (Obj.mapSeq (fun _ => (#[] : Array Value)))).get? b = some o := fun b o n y => (Heap.get?_update_other _ _ (Ne.symm n)).trans y
  have st2 := st.put hS rfl nl ot
  have ne : e ≠ S := fun q => by
    have y := he.symm.trans (q ▸ hS)
    exact absurd (Value.type.inj (congrArg Obj.cls (Option.some.inj y))) (by decide)
  refine en_extend hh hn .none _ (ot e _ ne he) st2 h2 nl fun h' tk acc' c' kk hS' ha => hR h' tk acc' c' (fun b o n1 n2 n3 y => kk b o n1 n2 n3 (ot b o n3 y)) hS' ?_
  have ez : (s.heap.update S (Obj.mapSeq fun _ => (#[] : Array Value))).objs.size = s.heap.objs.size := Heap.size_update ..
  have ha2 : AccEn items acc' items.size h' (s.heap.update S (Obj.mapSeq fun _ => (#[] : Array Value))).objs.size := ha
  rw [ez] at ha2; exact ha2
theorem call_listEn {e it l : Addr} {items : Array Value} {Q : Value → Shared → Prop} (hh : A.handled = none) (hn : items.size ≤ sizeLine) (he : IsEnum s.heap e it 0 .none) (st : EnSt e it l items 0 s.heap)
    (hQ : ∀ h' tk acc' c', (∀ b o, b ≠ e → b ≠ it → s.heap.get? b = some o → h'.get? b = some o) → h'.get? s.heap.objs.size = some { cls := .type "list", dict := none, data := .seq acc' c', slots := #[] } → AccEn items acc' items.size h' (s.heap.objs.size + 1) → Q (.ref s.heap.objs.size) { s with heap := h', toks := tk }) :
    wpAny (model prog w) A (call (.type "list") [.ref e]) Q E s := by
  refine callType_codes (Q₁ := fun obj s1 => obj = .ref s.heap.objs.size ∧ s1 = { s with heap := s.heap.push { cls := .type "list", data := .seq #[] } }) F.called_list (F.typeCall_list_1 _) F.entry_list_init (code_list_new _ ⟨rfl, rfl⟩) fun obj s1 h1 => ?_
  obtain ⟨rfl, rfl⟩ := h1
  have hS : (s.heap.push { cls := .type "list", data := .seq #[] }).get? s.heap.objs.size = some { cls := .type "list", data := .seq #[] } := Heap.get?_push_size _ rfl
  have hk : ∀ b o, s.heap.get? b = some o → (s.heap.push { cls := .type "list", data := .seq #[] }).get? b = some o := fun b o y => Heap.get?_push_of_some _ y
  have st2 : EnSt e it l items 0 (s.heap.push { cls := .type "list", data := .seq #[] }) := by
    obtain ⟨⟨g, b, z, h1, hg⟩, hi, hl, ne⟩ := st
    refine ⟨⟨g, b, z, hk _ _ h1, ?_⟩, hi.at fun o y => hk _ _ y, hl.at fun o y => hk _ _ y, ne⟩
    rcases hg with hg | ⟨a, o, x1, x2, x3, x4, x5⟩
    · exact .inl hg
    · exact .inr ⟨a, o, x1, hk _ _ x2, x3, x4, x5⟩
  have nl : l ≠ s.heap.objs.size := by
    obtain ⟨o, ho, _⟩ := st.sli
    exact Nat.ne_of_lt (Heap.lt_size ho)
  refine ⟨⟨_, hS, rfl⟩, F.args_list_init_2 _ _, en_init (A := A.in1) hh hn (hk _ _ he) st2 hS nl fun h' tk acc' c' kk hS' ha => ⟨rfl, ?_⟩⟩
  have ez : (s.heap.push { cls := .type "list", data := .seq #[] }).objs.size = s.heap.objs.size + 1 := Heap.size_push ..
  have ha2 : AccEn items acc' items.size h' (s.heap.push { cls := .type "list", data := .seq #[] }).objs.size := ha
  rw [ez] at ha2
  exact hQ h' tk acc' c' (fun b o n1 n2 y => kk b o n1 n2 (Nat.ne_of_lt (Heap.lt_size y)) (hk _ _ y)) hS' ha2
end
/-! ### several new objects at once -/
section
variable {P : Program} {w : World} {fs ex : List Addr} {H H' : Hp} {h h' : Heap}
structure Many (H H' : Hp) (h : Heap) : Prop where
  old : ∀ b, b < h.objs.size → H' b = H b
theorem Many.ext (m : Many H H' h) (x : HOk P w H h) : Same H H' := fun b o e => by rw [m.old b (x.lt e)]; exact e
theorem Many.hok (m : Many H H' h) (x : HOk P w H h) (k : ∀ b u, h.get? b = some u → h'.get? b = some u) (new : ∀ b o, h.objs.size ≤ b → H' b = some o → ObjOk P w H' h' b o) : HOk P w H' h' := fun b u e => by
  by_cases c : b < h.objs.size
  · rw [m.old b c] at e
    exact (x b u e).stay (fun c v _ q => k c v q) (fun c q => m.ext x _ _ q) fun c xs q => m.ext x _ _ q
  · exact new b u (Nat.le_of_not_lt c) e
theorem Many.un (m : Many H H' h) (x : HOk P w H h) (k : ∀ b u, h.get? b = some u → h'.get? b = some u) : Un fs ex H H' h h' where
  keep := fun b u q _ _ _ => k b u q
  slot := fun b u q _ _ _ => ⟨u.slots, k b u q⟩
  free := fun b u q n _ => by rw [m.old b (Heap.lt_size q)]; exact n
  there := fun b u q _ => ⟨u, k b u q⟩
  tups := fun b xs q => m.ext x _ _ q
  frzs := fun b u xs q => m.ext x _ _ q
  tbls := fun b ps q => ⟨#[], by rw [m.ext x _ _ q]; simp⟩
end
open Classical in
/-- the heap with a new list at D of new pairs at ts -/
noncomputable def enH (H : Hp) (n : Nat) (D : Addr) (ts : List Addr) (f : Nat → V) : Hp := fun b =>
  if b < n then H b else if b = D then some (.lst (ts.map V.ref)) else if q : ∃ j : Nat, ts[j]? = some b then some (.tup [.int ((Classical.choose q : Nat) : Int), f (Classical.choose q)]) else none
theorem enrefs_of : ∀ vs : List Value, (∀ v ∈ vs, ∃ p, v = .ref p) → ∃ ts : List Addr, vs = ts.map Value.ref
  | [], _ => ⟨[], rfl⟩
  | v :: vs, h => by
    obtain ⟨p, rfl⟩ := h v List.mem_cons_self
    obtain ⟨ts, e⟩ := enrefs_of vs fun u hu => h u (List.mem_cons_of_mem _ hu)
    exact ⟨p :: ts, by rw [e]; rfl⟩
theorem envals_refs : ∀ ts : List Addr, Vals (ts.map V.ref) (ts.map Value.ref)
  | [] => .nil
  | p :: ts => .cons rfl (envals_refs ts)
theorem enH_at {H : Hp} {n : Nat} {D : Addr} {ts : List Addr} {f : Nat → V} {j : Nat} {b : Addr} (e : ts[j]? = some b) (hb : n ≤ b) (hD : b ≠ D) (one : ∀ i, ts[i]? = some b → i = j) : enH H n D ts f b = some (.tup [.int ((j : Nat) : Int), f j]) := by
  unfold enH
  rw [if_neg (Nat.not_lt.mpr hb), if_neg hD, dif_pos ⟨j, e⟩]
  have z := one _ (Classical.choose_spec (⟨j, e⟩ : ∃ j : Nat, ts[j]? = some b))
  rw [z]
def tLstEn (K : PySem.W.Frag) (ta : TA) : TE := fun σ H Q => ta σ H fun vs H1 => ∃ a xs, vs = [.ref a] ∧ SqL K H1 a xs ∧ ∀ (D : Addr) (ts : List Addr) (H' : Hp), Same H1 H' → H1 D = none → H' D = some (.lst (ts.map V.ref)) → ts.length = xs.length →
  (∀ (i : Nat) (p : Addr) (x : V), ts[i]? = some p → xs[i]? = some x → H' p = some (.tup [.int ((i : Nat) : Int), x])) → Q (.ref D) H'
theorem pe_listEn {X : Cx} {e : Expr} {ta : TA} {p p2 pos pos2 : Pos} (hc : X.calm = true) (hg : Gl X "list") (hm : X.mg "list" = none) (hg2 : Gl X "enumerate") (hm2 : X.mg "enumerate" = none) (ha : PA X [e] ta) (hs : starEach [e] X.env = [(false, eval e X.env)] := by rfl)
    (na : starEach [.Call (.Name "enumerate" p2) [e] [] pos2] X.env = (false, eval (.Call (.Name "enumerate" p2) [e] [] pos2) X.env) :: starEach [] X.env := by rfl) : PE X (.Call (.Name "list" p) [.Call (.Name "enumerate" p2) [e] [] pos2] [] pos) (tLstEn X.K ta) := by
  refine ⟨fun pins s σ H Q I h => ?_⟩
  refine Call_ (ld_blt I hg hm boot_list (PyProof.Rows.callWith_type1 (args_cons ?_ na) na))
  refine Call_ (ld_blt I hg2 hm2 boot_enumerate (PyProof.Rows.callWith_type1 (thn (ha.run pos2 pins s σ H _ I h) fun us s1 ⟨vs, H1, I1, r1, q1⟩ => ?_) hs rfl))
  obtain ⟨a, xs, ex, hq, q⟩ := q1
  subst ex
  cases r1 with
  | cons r rr =>
    cases rr
    cases r
    obtain ⟨its, rv, p', hz⟩ := I1.list hq
    refine call_enumerate_list p'.isList fun h1 he hit hsz hk => args_nil ?_
    have hl1 : h1.IsList a its.toArray := p'.isList.at fun o y => hk _ _ y
    have st : EnSt (s1.heap.objs.size + 1) s1.heap.objs.size a its.toArray 0 h1 := ⟨⟨_, _, _, he, .inl ⟨rfl, rfl⟩⟩, hit, hl1, Nat.succ_ne_self _⟩
    refine call_listEn (s := { s1 with heap := h1 }) (I1.ok.hd hc) (by rw [List.size_toArray, ← rv.length]; exact hz) he st fun h' tk acc' c' kk hD ha' => ?_
    have lx := rv.length
    have n1 : h1.objs.size = s1.heap.objs.size + 1 + 1 := by rw [hsz]
    obtain ⟨ts, ets⟩ := enrefs_of acc'.toList fun v hv => by
      obtain ⟨j, hj⟩ := List.getElem?_of_mem hv
      have lt := (List.getElem?_eq_some_iff.mp hj).1
      rw [Array.length_toList, ha'.sz] at lt
      obtain ⟨p, tk, x, y1, _⟩ := ha'.at_ j lt
      rw [Array.getElem?_toList, y1] at hj
      exact ⟨p, (Option.some.inj hj).symm⟩
    have lts : ts.length = its.length := by
      have z := congrArg List.length ets
      rw [Array.length_toList, ha'.sz, List.length_map, List.size_toArray] at z
      exact z.symm
    -- what stands at each pair's address
    have at_ : ∀ (j : Nat) (b : Addr), ts[j]? = some b → ∃ (tk : Nat) (x : Value), its[j]? = some x ∧ h1.objs.size + 1 ≤ b ∧ h'.get? b = some { cls := .type "tuple", data := .seq #[.int j tk, x] } := fun j b e => by
      have lt := (List.getElem?_eq_some_iff.mp e).1
      obtain ⟨p, tk, x, y1, y2, y3, y4⟩ := ha'.at_ j (by rw [List.size_toArray]; omega)
      have z : acc'.toList[j]? = some (.ref b) := by rw [ets, List.getElem?_map, e]; rfl
      rw [Array.getElem?_toList, y1] at z
      cases z
      exact ⟨tk, x, by simpa using y2, y3, y4⟩
    have one : ∀ (i j : Nat) (b : Addr), ts[i]? = some b → ts[j]? = some b → i = j := fun i j b e1 e2 => by
      obtain ⟨_, _, _, _, g1⟩ := at_ i b e1
      obtain ⟨_, _, _, _, g2⟩ := at_ j b e2
      rw [g1] at g2
      injection g2 with g2
      injection g2 with _ _ g2
      injection g2 with g2
      have g3 := congrArg (fun a => a[0]?) g2
      simp at g3
      omega
    have old : ∀ b u, s1.heap.get? b = some u → h'.get? b = some u := fun b u y => kk b u (Nat.ne_of_lt (Nat.lt_succ_of_lt (Heap.lt_size y))) (Nat.ne_of_lt (Heap.lt_size y)) (hk _ _ y)
    have m : Many H1 (enH H1 s1.heap.objs.size h1.objs.size ts fun j => xs.getD j .non) s1.heap := ⟨fun b hb => if_pos hb⟩
    have nD : ∀ (j : Nat) (b : Addr), ts[j]? = some b → b ≠ h1.objs.size ∧ s1.heap.objs.size ≤ b := fun j b e => by
      obtain ⟨_, _, _, g, _⟩ := at_ j b e
      exact ⟨Nat.ne_of_gt g, Nat.le_trans (by omega) (Nat.le_of_succ_le g)⟩
    have pair : ∀ (j : Nat) (b : Addr) (x : V), ts[j]? = some b → xs[j]? = some x → enH H1 s1.heap.objs.size h1.objs.size ts (fun j => xs.getD j .non) b = some (.tup [.int ((j : Nat) : Int), x]) := fun j b x e ex => by
      have z := enH_at (H := H1) (D := h1.objs.size) (f := fun j => xs.getD j .non) e (nD j b e).2 (nD j b e).1 fun i e1 => one i j b e1 e
      have y : xs.getD j .non = x := by rw [List.getD_eq_getElem?_getD, ex]; rfl
      rw [z, y]
    have dl : enH H1 s1.heap.objs.size h1.objs.size ts (fun j => xs.getD j .non) h1.objs.size = some (.lst (ts.map V.ref)) := by
      have n2 : ¬ (h1.objs.size : Nat) < s1.heap.objs.size := by omega
      unfold enH
      rw [if_neg n2, if_pos rfl]
    have hok := m.hok (h' := h') I1.hok old fun b o hb e => by
      unfold enH at e
      rw [if_neg (Nat.not_lt.mpr hb)] at e
      by_cases c : b = h1.objs.size
      · rw [if_pos c] at e
        cases e
        subst c
        refine ⟨by rw [List.length_map, lts, ← lx]; exact hz, acc'.toList, c', by rw [ets]; exact envals_refs ts, ?_⟩
        rw [Array.toArray_toList]; exact hD
      · rw [if_neg c] at e
        by_cases q : ∃ j : Nat, ts[j]? = some b
        · rw [dif_pos q] at e
          cases e
          have sp := Classical.choose_spec q
          obtain ⟨tk, x, g1, _, g2⟩ := at_ _ b sp
          have lt := (List.getElem?_eq_some_iff.mp sp).1
          obtain ⟨v, hv⟩ : ∃ v, xs[Classical.choose q]? = some v := ⟨_, List.getElem?_eq_getElem (by omega)⟩
          obtain ⟨u, hu, ru⟩ := rv.get hv
          rw [g1] at hu
          cases hu
          have y : xs.getD (Classical.choose q) .non = v := by rw [List.getD_eq_getElem?_getD, hv]; rfl
          dsimp only
          rw [y]
          exact ⟨by show 2 ≤ sizeLine; decide, [.int _ tk, x], .cons ⟨_, rfl⟩ (.cons ru .nil), ⟨_, g2, rfl, _, rfl⟩⟩
        · rw [dif_neg q] at e; cases e
    refine ⟨.ref h1.objs.size, _, I1.un (t' := tk) (m.un I1.hok old) hok, rfl, q _ ts _ (m.ext I1.hok) (I1.hok.fresh (by omega)) dl (lts.trans lx.symm) pair⟩
end L2

/-! Z5: sorted(a tuple of whole numbers), list.extend(a tuple). -/
namespace L2
open PySem PySem.Spec PyProof.Rows SrtO
section
variable {prog : Program} {w : World} {A : Around} {E : Value → Shared → Prop} {s : Shared}
/-- what is gathered from a tuple -/
theorem gather_tup {t : Addr} {vs : List Value} {G : List Value → Shared → Prop} (ht : IsTup s.heap t vs.toArray) (hz : vs.length ≤ sizeLine)
    (hG : G vs { s with heap := (s.heap.push (seqObj "list" #[] 0)).update s.heap.objs.size (Obj.mapSeq (· ++ vs.toArray)) }) : wpAny (model prog w) A (collect (.ref t)) G E s := by
  obtain ⟨o, ho, hc, n, hd⟩ := ht
  have op : (s.heap.push (seqObj "list" #[] 0)).get? t = some o := Heap.get?_push_of_some _ ho
  have on : (s.heap.push (seqObj "list" #[] 0)).get? s.heap.objs.size = some (seqObj "list" #[] 0) := Heap.get?_push_size _ rfl
  have ze : (#[] ++ vs.toArray : Array Value).size ≤ sizeLine + 1 := by rw [Array.size_append, List.size_toArray]; exact Nat.le_succ_of_le (by simpa using hz)
  unfold collect
  refine wpAny_bind (wpAny_runValue (codeAny_builtin entry_proto_collect' (wpAny_bind (wpAny_newList (wpAny_pure ⟨Code.quiet_builtin _ (by decide +kernel), codeAny_builtin entry_list_iadd' ?_⟩)))))
  show wpAny _ _ (Builtin.List.listExtendWith (.ref s.heap.objs.size) (.ref t) (.ref s.heap.objs.size)) _ _ ⟨s.heap.push (seqObj "list" #[] 0), _, _, _, _⟩
  unfold Builtin.List.listExtendWith
  refine wpAny_bind (wpAny_typeOf (T := "tuple") ⟨o, op, hc⟩ ?_)
  have et : (Value.type "tuple" == Value.type "tuple") = true := rfl
  rw [if_pos (by rw [et]; simp)]
  refine wpAny_bind (listItems_at op hd (wpAny_bind (listItems_at (xs := #[]) (n := 0) on rfl ?_)))
  rw [if_neg (by simp)]
  refine wpAny_bind (listUpdate_at (xs := #[]) (n := 0) on rfl (wpAny_pure ?_) (Nat.zero_le _) ze)
  show wpAny _ _ (load s.heap.objs.size >>= _) _ _ ⟨(s.heap.push (seqObj "list" #[] 0)).update s.heap.objs.size (Obj.mapSeq (· ++ vs.toArray)), _, _, _, _⟩
  refine wpAny_bind (wpAny_load (get?_update_seq on _) ?_)
  show wpAny _ _ (pure (#[] ++ vs.toArray : Array Value).toList) _ _ _
  have ev : (#[] ++ vs.toArray : Array Value).toList = vs := by simp
  rw [ev]
  exact wpAny_pure hG
/-- sorted(a tuple) -/
theorem sorted_tup {t : Addr} {vs : List Value} {lt : Value → Value → Bool} {G : Value → Shared → Prop} (O : Swo lt) (ht : IsTup s.heap t vs.toArray) (hz : vs.length ≤ sizeLine)
    (hS : 2 ≤ vs.length → ∀ (g : Heap) (a : Addr), SortableO prog w A.in1.in1 { s with heap := g } a vs lt)
    (hG : ∀ out : List Value, Srtd lt out → Stb lt out vs → G (.ref (s.heap.objs.size + 1)) { s with heap := sortedAll s.heap vs out.toArray }) : wpAny (model prog w) A (call (.builtin "sorted") [.ref t]) G E s := by
  refine Calls.call_function_entry kind_sorted plain_sorted entry_sorted (args_sorted1 _) ?_
  unfold Builtin.«sorted»
  refine wpAny_bind (m := checkCount "sorted" 1 1 _) (wpAny_pure (wpAny_bind (gather_tup ht hz (wpAny_bind (wpAny_newList ?_ hz)))))
  have sz : ((s.heap.push (seqObj "list" #[] 0)).update s.heap.objs.size (Obj.mapSeq (· ++ vs.toArray))).objs.size = s.heap.objs.size + 1 := by rw [Heap.size_update, size_push']
  have at1 : (((s.heap.push (seqObj "list" #[] 0)).update s.heap.objs.size (Obj.mapSeq (· ++ vs.toArray))).push (seqObj "list" vs.toArray 0)).get? (s.heap.objs.size + 1) = some (seqObj "list" vs.toArray 0) := sz ▸ Heap.get?_push_size _ rfl
  show wpAny _ _ _ _ _ ⟨((s.heap.push (seqObj "list" #[] 0)).update s.heap.objs.size (Obj.mapSeq (· ++ vs.toArray))).push (seqObj "list" vs.toArray 0), _, _, _, _⟩
  rw [sz]
  refine wpAny_bind (wpAny_holding (wpAny_call_entry slot_list_sort ⟨_, at1, rfl⟩ entry_list_sort (list_sort_ord O at1 hz (fun h2 => hS h2 _ _) fun out k1 k2 => ⟨_, rfl, wpAny_pure ⟨_, rfl, hG out k1 k2⟩⟩) (args_list_sort _)))
end
/-- sorted(t), t a tuple of whole numbers -/
def rSortedTup (K : PySem.W.Frag) : List V → Hp → VK → Prop := fun vs H Q => ∃ (a : Addr) (ns : List Int), vs = [V.ref a] ∧ SqT K H a (ns.map V.int) ∧
  ∀ (ms : List Int) (p : Addr), ms.Perm ns → ms.Pairwise (· ≤ ·) → H p = none → Q (.ref p) (upd H p (.lst (ms.map V.int)))
/-- xs.extend(t), t a tuple -/
def rExtendT (K : PySem.W.Frag) : V → List V → Hp → VK → Prop := fun x vs H Q => ∃ l b xs zs, x = .ref l ∧ vs = [.ref b] ∧ H l = some (.lst xs) ∧ SqT K H b zs ∧ xs.length + zs.length ≤ sizeLine ∧ Q .non (upd H l (.lst (xs ++ zs)))
section
variable {X : Cx}
theorem cr_sortedTup : CallR X (.builtin "sorted") (rSortedTup X.K) := by
  intro pins s σ H vs us Q I r h
  obtain ⟨a, ns, rfl, hs, q⟩ := h
  obtain ⟨its, rv, pl, hz⟩ := I.tuple hs
  rw [Vals.ref1 r]
  have hi := rv.ints
  rw [rv.length] at hz
  refine sorted_tup swo_int pl hz (fun h2 g a' => ints_sortable hi h2) fun out k1 k2 => ?_
  obtain ⟨j1, j2, j3⟩ := ints_out hi k1 k2
  obtain ⟨e, he⟩ := sortedAll_at s.heap its out.toArray
  have hl : ((out.map iv).map V.int).length ≤ sizeLine := by
    have z := j2.length_eq
    have y := rv.length
    rw [List.length_map] at y ⊢
    omega
  exact ⟨.ref _, _, I.laid (t' := s.toks) (o := .lst ((out.map iv).map V.int)) (fun _ _ => sortedAll_old) (Nat.le_succ _) ⟨hl, out, e, vals_of_ints j1, he⟩, rfl, q _ _ j2 j3 (I.hok.fresh (Nat.le_succ _))⟩
theorem mt_extendT : MtM X "list.extend" (rExtendT X.K) := by
  intro pins s σ H x vs v us Q I rx rv h
  obtain ⟨l, b, xs, zs, rfl, rfl, hH, hB, hz, q⟩ := h
  cases rx
  obtain ⟨u, rfl, ru⟩ := rv.one
  cases ru
  obtain ⟨z, its, n, r, hl, e⟩ := I.lstM hH
  obtain ⟨its2, r2, pl, z2⟩ := I.tuple hB
  obtain ⟨o, ho, hc, n2, hd⟩ := pl
  have l2 := r2.length
  have zs2 : its.toArray.size + its2.toArray.size ≤ sizeLine := by rw [List.size_toArray, List.size_toArray]; omega
  refine wpAny_call_entry F.slot_list_extend ⟨_, e, rfl⟩ F.entry_list_extend ?_ (F.args_list_extend_2 _ _)
  show wpAny _ _ (Builtin.List.listExtendWith (.ref l) (.ref b) .none) _ _ s
  unfold Builtin.List.listExtendWith
  refine wpAny_bind (wpAny_typeOf (T := "tuple") ⟨o, ho, hc⟩ ?_)
  have et : (Value.type "tuple" == Value.type "tuple") = true := rfl
  rw [if_pos (by rw [et]; simp)]
  refine wpAny_bind (listItems_at ho hd (wpAny_bind (listItems_at e rfl ?_)))
  rw [if_neg (by rw [notLongL zs2, Bool.and_false]; exact Bool.false_ne_true)]
  refine wpAny_bind (listUpdate_at e rfl (wpAny_pure ?_) (by omega) (by rw [Array.size_append]; omega))
  refine ⟨_, rfl, .non, _, I.lset (its' := its ++ its2) hH e (by simp) (r.append r2) ?_, rfl, q⟩
  rw [List.length_append]
  omega
end
theorem pi_tupK {X : Cx} (K : PySem.W.Frag) {tg l : Expr} {tl : TE} (hl : PE X l tl) (e : X.K = K := by rfl) : PI X tg l (iTup K tl) := by subst e; exact pi_tup hl
theorem pi_listK {X : Cx} (K : PySem.W.Frag) {tg l : Expr} {tl : TE} (hl : PE X l tl) (e : X.K = K := by rfl) : PI X tg l (iList K tl) := by subst e; exact pi_list hl
end L2

/-! Z6: d.get(y), y None or a whole number or a text, over a dict whose keys are numbers and texts. -/
namespace L2
open PySem PySem.Spec PyProof.Rows
section
variable {X : Cx}
theorem leaf_keys {P : Program} {w : World} {es : Array DictEntry} (h : KeysOf (mixKind P w) es) : KeysOf (leafKind P w) es := fun e he => by
  obtain ⟨k, k1, k2⟩ := h e he
  rcases keyIs_shape k1 with ⟨i, t, rfl, ek⟩ | ⟨x, t, rfl, ek⟩
  · refine ⟨.num i, ?_, k2⟩
    rw [ek]
    exact decide_eq_true rfl
  · refine ⟨.text x, ?_, k2⟩
    rw [ek]
    exact keyIs_str x t
theorem no_none {P : Program} {w : World} {es : Array DictEntry} (h : KeysOf (mixKind P w) es) : findBy (leafKind P w).is es .none = none := by
  unfold findBy
  have z : es.find? (fun e => (leafKind P w).is .none e.key) = none := by
    rw [Array.find?_eq_none]
    intro e he
    obtain ⟨k, k1, _⟩ := h e he
    rcases keyIs_shape k1 with ⟨i, t, _, ek⟩ | ⟨x, t, _, ek⟩
    · rw [ek]; exact Bool.false_ne_true
    · rw [ek]; exact Bool.false_ne_true
  rw [z]; rfl
theorem get_non {pins : List (Addr × Obj)} {σ : St} {H : Hp} {s : Shared} {A : Around} {E : Value → Shared → Prop} {a : Addr} {kvs : List (Key × V)} {Q : Value → Shared → Prop} (I : Inv X pins σ H s) (e : Rd H a (.dK kvs)) (h : ∀ s', Inv X pins σ H s' → Q .none s') :
    wpAny (model X.prog X.w) A (call (.builtin "dict.get") [.ref a, .none]) Q E s := by
  obtain ⟨z, hd, vs, rel, dd⟩ := dk_rd I.hok e
  obtain ⟨o, es, ep, h1, h2, h3, h4, _⟩ := id dd
  have m : s.heap.MapOf (leafKind X.prog X.w) a (findBy (leafKind X.prog X.w).is es) := ⟨o, es, ep, h1, h2, h3, leaf_keys h4, fun _ => rfl⟩
  refine call_meetsIn PySem.F.slot_dict_get dd.typeIs PySem.F.entry_dict_get (PySem.F.args_dict_get_2 _ _) (meets_dict_get (leafKind X.prog X.w) (k := .none) (key := .none) a rfl hd) ⟨_, m, ?_⟩
  rw [no_none h4]
  exact h _ (I.tok _)
/-- d.get(y): a number's or a text's place, or None -/
def tDGetO (td ty : TE) : TE := fun σ H Q => td σ H fun x H1 => ∃ a, x = .ref a ∧ IsD H1 a ∧ ty σ H1 fun y H2 => (y = .non ∧ (∃ kvs, H2 a = some (.dK kvs)) ∧ Q .non H2) ∨ ∃ o, DGet H2 a y o ∧ Q (o.getD .non) H2
theorem pe_dgetO {o e : Expr} {apos cpos : Pos} {td ty : TE} (hu : X.A.units + 1 < cLine) (ho : PE X o td) (he : PE X e ty) (m : M1 X o "get" apos e cpos) : PE X (.Call (.Attribute o "get" apos) [e] [] cpos) (tDGetO td ty) := by
  refine ⟨fun pins s σ H Q I h => ?_⟩
  refine wpAny_Call_method m.base m.few m.line PySem.F.plainAttrs_dict PySem.F.slot_dict_get PySem.F.type_dict_get (thn (ho.run pins s σ H _ I h) fun u s1 ⟨x, H1, I1, rx, a, ex, d, q1⟩ => ?_)
  subst ex
  cases (show u = Value.ref a from rx)
  obtain ⟨g1, g2, _⟩ := isD_at I1 d
  refine ⟨g1, g2, ?_⟩
  rw [m.trees]
  refine Calls.callWith_builtin rfl (Calls.evalArgs_plain (Calls.spliced_cons (thn (he.run pins s1 σ H1 _ I1 q1) fun iv s2 ⟨y, H2, I2, ry, alt⟩ => Calls.spliced_nil ?_)))
  rcases alt with ⟨rfl, ⟨kvs, ek⟩, q2⟩ | ⟨ov, g, q2⟩
  · cases (show iv = Value.none from ry)
    exact get_non I2 (.inl ek) fun s3 I3 => ⟨.non, H2, I3, rfl, q2⟩
  · exact d_get1 hu I2 g ry fun w' s3 I3 rw' => ⟨_, H2, I3, rw', q2⟩
/-- a walk that one of two rules tells -/
theorem pi_or {tg it : Expr} {a b : TI} (h : PI X tg it a) (h2 : PI X tg it b) : PI X tg it (fun σ H R => a σ H R ∨ b σ H R) := ⟨fun pins s σ H R I q => q.elim (h.run pins s σ H R I) (h2.run pins s σ H R I)⟩
/-- a value that one of two rules tells -/
theorem pe_or2 {e : Expr} {a b : TE} (h : PE X e a) (h2 : PE X e b) : PE X e (fun σ H Q => a σ H Q ∨ b σ H Q) := ⟨fun pins s σ H Q I q => q.elim (h.run pins s σ H Q I) (h2.run pins s σ H Q I)⟩
end
end L2

/-! Z7: {k: v for a in xs for b in ys}: two for, one test at most of each. -/
namespace L2
open PySem PySem.Spec PyProof.Rows
/-- what holds in the block of a comprehension, whatever it stands on -/
abbrev InBlk (X : Cx) (scope : Scope) (F : Cx → Prop) : Prop := ∀ (s : Shared) (H : Hp) (C : Addr) (cl : List (Str × Addr)) (fp : List Addr), F (X.blk s H scope (compEnvC scope cl C X.env) fp)
def tDc2 (wA : TI) (gA : TG) (qA : TT) (wB : TI) (gB : TG) (qB : TT) (tk tv : TE) (us ub : List Nat) : TE := fun σ H Q => wA σ H fun JA G => ∀ D, G D = none → ∃ W : Nat → Nat → Hp → Prop, (∃ m, W 0 m (upd G D (.dK []))) ∧ ∀ i m H, W i m H →
  (JA.stop i H ∧ Q (.ref D) H) ∨ (JA.go i H ∧ ∃ Nx : Hp → Prop, (∀ H', Nx H' → ∃ n, n < m ∧ W (i + 1) n H') ∧ ∀ x H', JA.yld i H x H' → gA x (wipe σ us) H' fun σ2 H2 => wipe σ2 us = wipe σ us ∧ qA σ2 H2 fun b H3 =>
    if b = true then wB σ2 H3 fun JB H4 => ∃ V : Nat → Nat → Hp → Prop, (∃ m, V 0 m H4) ∧ ∀ j k H, V j k H → (JB.stop j H ∧ Nx H) ∨ (JB.go j H ∧ ∃ Ny : Hp → Prop, (∀ H', Ny H' → ∃ n, n < k ∧ V (j + 1) n H') ∧
      ∀ x H', JB.yld j H x H' → gB x (wipe σ2 ub) H' fun σ3 H5 => wipe σ3 ub = wipe σ2 ub ∧ qB σ3 H5 fun b H6 =>
        if b = true then tk σ3 H6 fun y H7 => tv σ3 H7 fun z H8 => ∃ kvs k, y = kV k ∧ H8 D = some (.dK kvs) ∧ kvs.length < sizeLine ∧ Ny (upd H8 D (.dK (putK kvs k z))) else Ny H6)
    else Nx H3)
/-- the second for's start -/
theorem dc_start1 {prog : Program} {w : World} {A : Around} {R : Result → Shared → Prop} {s : Shared} {kx vx tA iA tB iB : Expr} {fA fB : List Expr} {scope : Scope} {pos : Pos} {it acc : Value} {env : Env} (h0 : codeAny (model prog w) A (.compLoop (.DictComp kx vx [⟨tA, iA, fA, 0⟩, ⟨tB, iB, fB, 0⟩] scope pos) 1 it acc env) R s)
    (h : wpAny (model prog w) A (pyIter it) (fun j s' => codeAny (model prog w) A (.compLoop (.DictComp kx vx [⟨tA, iA, fA, 0⟩, ⟨tB, iB, fB, 0⟩] scope pos) 1 j acc env) R s') (notedBy (model prog w) A env fun x s' => R (.error x) s') s) :
    codeAny (model prog w) A (.compStart (.DictComp kx vx [⟨tA, iA, fA, 0⟩, ⟨tB, iB, fB, 0⟩] scope pos) 1 it acc env) R s := by
  refine codeAny_of_tree ?_
  show wpAny _ _ ((compStart (.DictComp kx vx [⟨tA, iA, fA, 0⟩, ⟨tB, iB, fB, 0⟩] scope pos) 1 it acc env).onRaise fun x => do noteFrame x env; standAt theWindowsPlace) _ _ s
  refine wpAny_notedAt ?_
  unfold compStart
  show wpAny _ _ (ask >>= _) _ _ s
  refine wpAny_bind (wpAny_askSetting (wpAny_ite ?_))
  have late : wpAny (model prog w) A (pyIter it) (fun j s' => codeAny (model prog w) A (.compLoop (.DictComp kx vx [⟨tA, iA, fA, 0⟩, ⟨tB, iB, fB, 0⟩] scope pos) 1 j acc env) R s') (notedBy (model prog w) A env fun x s' => R (.error x) s') s := h
  split
  · first | exact wpAny_bind (wpAny_pure (wpAny_pure ⟨rfl, h0⟩)) | exact wpAny_pure ⟨rfl, h0⟩
  · first
      | exact wpAny_bind (wpAny_rule (wpAny_bind (wpAny_standAt (wpAny_bind (wpAny_mono late (fun _ _ q => wpAny_pure ⟨rfl, q⟩) fun _ _ q => q)))))
      | (refine wpAny_bind (wpAny_rule ?_); show wpAny _ _ (standAt iB.pos >>= _) _ _ s; exact wpAny_bind (wpAny_standAt (wpAny_bind (wpAny_mono late (fun _ _ q => wpAny_pure ⟨rfl, q⟩) fun _ _ q => q))))
section
variable {X : Cx}
theorem pe_dc2 {kx vx tA iA tB iB : Expr} {fA fB : List Expr} {scope : Scope} {own : List (Str × Nat)} {ub : List Nat} {pos : Pos} {wA wB : TI} {gA gB : TG} {qA qB : TT} {tk tv : TE} (hc : X.calm = true) (nd : X.N.Nodup) (pA : PI X tA iA wA) (ok : BlkOk X.N X.env.scope scope own) (sub : ∀ i ∈ ub, i ∈ own.map (·.2))
    (aG : InBlk X scope fun Y => PG Y tA gA) (aT : InBlk X scope fun Y => PTs Y fA qA) (bI : InBlk X scope fun Y => PI Y tB iB wB) (bG : InBlk X scope fun Y => PG Y tB gB) (bT : InBlk X scope fun Y => PTs Y fB qB) (bK : InBlk X scope fun Y => PE Y kx tk) (bV : InBlk X scope fun Y => PE Y vx tv)
    (cA : ∀ x, foldedSetIterable iA X.env x = pure x := by intro _; rfl) (cB : ∀ env x, foldedSetIterable iB env x = pure x := by intro _ _; rfl) : PE X (.DictComp kx vx [⟨tA, iA, fA, 0⟩, ⟨tB, iB, fB, 0⟩] scope pos) (tDc2 wA gA qA wB gB qB tk tv (own.map (·.2)) ub) := by
  refine ⟨fun pins s σ H Q I h => ?_⟩
  rw [arm_eval_DictComp]
  have cap : ∀ y ∈ scope.names, y.2 = .free → ∃ c, X.env.cells.lookup y.1 = some c := fun y hy e => (ok.free y hy e).elim (fun k => I.ok.has _ (.inl k)) fun k => I.ok.has _ (.inr k)
  refine wpAny_comprehension_free (use := none) rfl cA (closure_ok cap) ok.kind (fun y hy e => by rw [ok.uniq y hy, e]) (thn (pA.run pins s σ H _ I h) fun xv s1 hx => thn hx fun itv s2 got => ?_)
  obtain ⟨ia, fa, na, JA, G2, rfl, I2, TA, sa2, fr2, body⟩ := got
  refine wpAny_newObj_type (newEnv_comp ?_)
  generalize eD : s2.heap.objs.size = D
  obtain ⟨W, ⟨m0, w0⟩, turn⟩ := body D (I2.hok.fresh (Nat.le_of_eq eD))
  generalize es3 : ({ s2 with heap := s2.heap.push { cls := .type "dict", data := .dict #[] } } : Shared) = s3
  have I3 : Inv X pins σ (upd G2 D (.dK [])) s3 := by
    subst es3
    exact I2.laid (t' := s2.toks) (fun _ _ e => Heap.get?_push_of_some _ e) (Nat.le_of_eq eD) (by rw [← eD]; exact dk_empty s2.heap I2.big)
  have h3 : s3.heap = s2.heap.push { cls := .type "dict", data := .dict #[] } := es3 ▸ rfl
  have fr3 : ∀ b ∈ fa, FpOk X pins (upd G2 D (.dK [])) b ∧ b < s3.heap.objs.size := fun b hb => by
    obtain ⟨_, e, _⟩ := TA.obj _ _ sa2 b hb
    have lt : b < s2.heap.objs.size := Heap.lt_size e
    have ne : b ≠ D := by rw [← eD]; exact Nat.ne_of_lt lt
    exact ⟨⟨(upd_ne ne).trans (fr2 b hb).1, (fr2 b hb).2⟩, by rw [h3, Heap.size_push]; exact Nat.lt_succ_of_lt lt⟩
  have sa3 : na 0 s3.heap := TA.keep _ _ _ sa2 fun b _ o e => h3 ▸ Heap.get?_push_of_some _ e
  have I4 := block_start I3 ok nd fr3
  generalize ecl : cellsFrom (s3.heap.objs.size + 1) scope.names (cloFrom X.env.cells scope.names []) = cl at I4
  have xG := aG s3 (upd G2 D (.dK [])) s3.heap.objs.size cl fa
  have xT := aT s3 (upd G2 D (.dK [])) s3.heap.objs.size cl fa
  have yI := bI s3 (upd G2 D (.dK [])) s3.heap.objs.size cl fa
  have yG := bG s3 (upd G2 D (.dK [])) s3.heap.objs.size cl fa
  have yT := bT s3 (upd G2 D (.dK [])) s3.heap.objs.size cl fa
  have yK := bK s3 (upd G2 D (.dK [])) s3.heap.objs.size cl fa
  have yV := bV s3 (upd G2 D (.dK [])) s3.heap.objs.size cl fa
  show codeAny _ _ (.compStart (.DictComp kx vx [⟨tA, iA, fA, 0⟩, ⟨tB, iB, fB, 0⟩] scope pos) 0 (.ref ia) (.ref D) (compEnvC scope cl s3.heap.objs.size X.env)) (compPost (model X.prog X.w) X.A X.xe none (EP X pins σ Q) (.ref D) s3.heap.objs.size) ⟨pushCells (s3.heap.push { cls := .type "dict", data := .dict #[] }) scope.names, s3.gens, s3.drawn, s3.toks, s3.os⟩
  have nofa : ∀ b ∈ fa, (upd G2 D (.dK [])) b = none := fun b hb => (fr3 b hb).1.1
  generalize ece : compEnvC scope cl s3.heap.objs.size X.env = ce at I4 xG xT yI yG yT yK yV ⊢
  have cloc : ce.locals = s3.heap.objs.size := ece ▸ rfl
  generalize eG3 : upd G2 D (.dK []) = G3 at I3 I4 xG xT yI yG yT yK yV w0 nofa fr3
  generalize es4 : (⟨pushCells (s3.heap.push { cls := .type "dict", data := .dict #[] }) scope.names, s3.gens, s3.drawn, s3.toks, s3.os⟩ : Shared) = s4 at I4 ⊢
  have sa4 : na 0 s4.heap := TA.keep _ _ _ sa3 fun b _ o e => es4 ▸ pushCells_keeps _ _ _ _ (Heap.get?_push_of_some _ e)
  have held : ∀ {σ' : L2.St} {H' : Hp} {s' : Shared}, Inv (X.blk s3 G3 scope ce fa) [] σ' H' s' → (∀ b ∈ fa, H' b = none) → ∀ b ∈ fa, FpOk (X.blk s3 G3 scope ce fa) [] H' b := fun I' hn b hb =>
    ⟨hn b hb, (I'.ok.exf b hb).1, I'.ok.exfs b hb, .inl hb, fun x c e => (I'.ok.exf b hb).2 x c e, fun p (hp : p ∈ ([] : List (Addr × Obj)) ++ []) => by simp at hp⟩
  have loop : codeAny (model X.prog X.w) X.A (.compLoop (.DictComp kx vx [⟨tA, iA, fA, 0⟩, ⟨tB, iB, fB, 0⟩] scope pos) 0 (.ref ia) (.ref D) ce) (compPost (model X.prog X.w) X.A X.xe none (EP X pins σ Q) (.ref D) s3.heap.objs.size) s4 := by
    refine codeAny_loop rfl (fun n s' => ∃ i H', Inv (X.blk s3 G3 scope ce fa) [] (wipe σ (own.map (·.2))) H' s' ∧ na i s'.heap ∧ (∀ b ∈ fa, H' b = none) ∧ W i n H') (fun n s5 ⟨i, H5, I5, sa5, no5, w5⟩ => ?_) m0 ⟨0, G3, I4, sa4, nofa, w0⟩
    show wpAny _ X.A ((compTurn (.DictComp kx vx [⟨tA, iA, fA, 0⟩, ⟨tB, iB, fB, 0⟩] scope pos) 0 (.ref ia) (.ref D) ce).onRaise fun x => do noteFrame x ce; theTreesLotGoes x) _ _ s5
    refine wpAny_noted ?_
    show wpAny _ _ (standAt iA.pos >>= _) _ _ _
    refine wpAny_bind (wpAny_standAt ?_)
    show wpAny _ _ (pyNext (.ref ia) >>= _) _ _ _
    rcases turn i n H5 w5 with ⟨stop, fin⟩ | ⟨go, Nx, down, step⟩
    · refine wpAny_bind (thnF (TA.done (X.blk s3 G3 scope ce fa) rfl rfl rfl hc i [] s5 _ H5 (fun _ _ => False) I5 (held I5 no5) sa5 stop) fun r s6 ⟨er, I6⟩ => ?_)
      subst er
      refine wpAny_pure ?_
      -- back in the def
      have I7 : Inv X pins σ H5 s6 := I3.call' (ch := fa) I6.os I6.base I6.hok I6.bare fun b hb => by
        obtain ⟨_, p1, _, p3, p4, p5⟩ := (fr3 b hb).1
        exact ⟨p3, p1, p4, p5⟩
      have free : H5 s3.heap.objs.size = none := cloc ▸ (show H5 ce.locals = none from I6.free)
      obtain ⟨m, (ns : s6.heap.Ns ce.locals m), _⟩ := I6.loc
      rw [cloc] at ns
      obtain ⟨f0, f1, f2, f3, f4, f5⟩ := I3.fpOk (Nat.le_refl _) free
      exact ⟨m, ns, fun _ sb => ⟨.ref D, H5, I7.turned (t' := s6.toks) (fun b o hb e => (sb.2 b hb).trans e) f0 f1 f3 f4 f5, rfl, fin⟩⟩
    · refine wpAny_bind (thnF (TA.item (X.blk s3 G3 scope ce fa) rfl rfl rfl hc i [] s5 _ H5 (fun _ _ => False) I5 (held I5 no5) sa5 go) fun r s6 ⟨u, er, g6⟩ => ?_)
      subst er
      show wpAny _ _ (letOwnedTupleGo tA (.ref ia) u >>= _) _ _ _
      refine wpAny_bind (thnF g6 fun _ s7 ⟨x, H7, I7, r7, y7, sa7, no7⟩ => ?_)
      refine wpAny_bind (thnF (xG.run _ s7 _ H7 x u _ (I7.pinned (held I7 no7) (TA.obj _ _ sa7)) r7 (step x H7 y7)) fun _ s8 ⟨σ8, H8, I8, hw8, q8⟩ => ?_)
      refine wpAny_bind (thnF (xT.run _ s8 σ8 H8 _ I8 q8) fun b s9 ⟨H9, I9, q9⟩ => ?_)
      -- the turn's end
      have back : ∀ {σ9 : L2.St} {s' : Shared} {H' : Hp}, Inv (X.blk s3 G3 scope ce fa) ([] ++ pinsAt fa s7.heap) σ9 H' s' → (wipe σ (own.map (·.2))).length = σ9.length → (∀ (j : Nat) v, (wipe σ (own.map (·.2)))[j]? = some (some v) → σ9[j]? = some (some v)) → Nx H' →
          ∃ m, m < n ∧ ∃ i H', Inv (X.blk s3 G3 scope ce fa) [] (wipe σ (own.map (·.2))) H' s' ∧ na i s'.heap ∧ (∀ b ∈ fa, H' b = none) ∧ W i m H' := fun {σ9 s' H'} I' hl hk nx => by
        obtain ⟨m', lt, w'⟩ := down H' nx
        have stay : ∀ b ∈ fa, ∀ o, s7.heap.get? b = some o → s'.heap.get? b = some o ∧ H' b = none := fun b hb o e => by
          have z := I'.pin (b, o) (List.mem_append_right _ (List.mem_append_right _ (mem_pinsAt hb e)))
          exact ⟨z.1, z.2.1⟩
        exact ⟨m', lt, i + 1, H', (I'.unpinned (pins := [])).weak hl hk, TA.keep _ _ _ sa7 fun b hb o e => (stay b hb o e).1, fun b hb => (TA.obj _ _ sa7 b hb).elim fun o z => (stay b hb o z.1).2, w'⟩
      have len8 : (wipe σ (own.map (·.2))).length = σ8.length := by rw [← hw8, wipe_length]
      have hk8 : ∀ (j : Nat) v, (wipe σ (own.map (·.2)))[j]? = some (some v) → σ8[j]? = some (some v) ∧ ¬ j ∈ own.map (·.2) := fun j v e => wipe_some (hw8 ▸ e)
      cases b with
      | false =>
        simp only [Bool.false_eq_true, if_false] at q9 ⊢
        exact wpAny_pure ⟨rfl, back I9 len8 (fun j v e => (hk8 j v e).1) q9⟩
      | true =>
        simp only [if_true] at q9 ⊢
        refine wpAny_bind (thnF (yI.run _ s9 σ8 H9 _ I9 q9) fun xv1 s10 hx1 => ?_)
        refine wpAny_bind (wpAny_standAt (wpAny_bind (wpAny_of_eq (cB ce xv1) (wpAny_bind (wpAny_holding (thnF hx1 fun itv1 s11 got1 => ?_))))))
        obtain ⟨ib, fb, nb, JB, H11, rfl, I11, TB, sb11, fr11, Vw, ⟨m1, v1⟩, turnB⟩ := got1
        have heldB : ∀ {H' : Hp}, (∀ b ∈ fb, H' b = none) → ∀ b ∈ fb, FpOk (X.blk s3 G3 scope ce fa) ([] ++ pinsAt fa s7.heap) H' b := fun hn b hb => ⟨hn b hb, (fr11 b hb).2⟩
        have hk9 : ∀ (j : Nat) v, (wipe σ (own.map (·.2)))[j]? = some (some v) → (wipe σ8 ub)[j]? = some (some v) := fun j v e => by
          rw [wipe_out fun z => (hk8 j v e).2 (sub j z)]
          exact (hk8 j v e).1
        -- the second for's own loop
        have inner : codeAny (model X.prog X.w) X.A (.compLoop (.DictComp kx vx [⟨tA, iA, fA, 0⟩, ⟨tB, iB, fB, 0⟩] scope pos) 1 (.ref ib) (.ref D) ce)
            (fun r s' => match r with
              | .ok _ => ∃ m, m < n ∧ ∃ i H', Inv (X.blk s3 G3 scope ce fa) [] (wipe σ (own.map (·.2))) H' s' ∧ na i s'.heap ∧ (∀ b ∈ fa, H' b = none) ∧ W i m H'
              | .error _ => False) s11 := by
          refine codeAny_loop rfl (fun k s' => ∃ j H', Inv (X.blk s3 G3 scope ce fa) ([] ++ pinsAt fa s7.heap) (wipe σ8 ub) H' s' ∧ nb j s'.heap ∧ (∀ b ∈ fb, H' b = none) ∧ Vw j k H') (fun k s12 ⟨j, H12, I12, sb12, no12, v12⟩ => ?_) m1 ⟨0, H11, I11.weak (wipe_length _ _) (fun j v e => (wipe_some e).1), sb11, fun b hb => (fr11 b hb).1, v1⟩
          show wpAny _ X.A ((compTurn (.DictComp kx vx [⟨tA, iA, fA, 0⟩, ⟨tB, iB, fB, 0⟩] scope pos) 1 (.ref ib) (.ref D) ce).onRaise fun x => do noteFrame x ce; theTreesLotGoes x) _ _ s12
          refine wpAny_noted ?_
          show wpAny _ _ (standAt iB.pos >>= _) _ _ _
          refine wpAny_bind (wpAny_standAt ?_)
          show wpAny _ _ (pyNext (.ref ib) >>= _) _ _ _
          rcases turnB j k H12 v12 with ⟨stop1, nx1⟩ | ⟨go1, Ny, down1, step1⟩
          · refine wpAny_bind (thnF (TB.done (X.blk s3 G3 scope ce fa) rfl rfl rfl hc j _ s12 (wipe σ8 ub) H12 (fun _ _ => False) I12 (heldB no12) sb12 stop1) fun r s13 ⟨er, I13⟩ => ?_)
            subst er
            exact wpAny_pure (back I13 (len8.trans (wipe_length σ8 ub).symm) hk9 nx1)
          · refine wpAny_bind (thnF (TB.item (X.blk s3 G3 scope ce fa) rfl rfl rfl hc j _ s12 (wipe σ8 ub) H12 (fun _ _ => False) I12 (heldB no12) sb12 go1) fun r s13 ⟨u1, er, g13⟩ => ?_)
            subst er
            show wpAny _ _ (letOwnedTupleGo tB (.ref ib) u1 >>= _) _ _ _
            refine wpAny_bind (thnF g13 fun _ s14 ⟨x1, H14, I14, r14, y14, sb14, no14⟩ => ?_)
            refine wpAny_bind (thnF (yG.run _ s14 (wipe σ8 ub) H14 x1 u1 _ (I14.pinned (heldB no14) (TB.obj _ _ sb14)) r14 (step1 x1 H14 y14)) fun _ s15 ⟨σ15, H15, I15, hw15, q15⟩ => ?_)
            refine wpAny_bind (thnF (yT.run _ s15 σ15 H15 _ I15 q15) fun b1 s16 ⟨H16, I16, q16⟩ => ?_)
            have back1 : ∀ {s' : Shared} {H' : Hp}, Inv (X.blk s3 G3 scope ce fa) (([] ++ pinsAt fa s7.heap) ++ pinsAt fb s14.heap) σ15 H' s' → Ny H' →
                ∃ m, m < k ∧ ∃ j H', Inv (X.blk s3 G3 scope ce fa) ([] ++ pinsAt fa s7.heap) (wipe σ8 ub) H' s' ∧ nb j s'.heap ∧ (∀ b ∈ fb, H' b = none) ∧ Vw j m H' := fun {s' H'} I' ny => by
              obtain ⟨m', lt, w'⟩ := down1 H' ny
              have stay : ∀ b ∈ fb, ∀ o, s14.heap.get? b = some o → s'.heap.get? b = some o ∧ H' b = none := fun b hb o e => by
                have z := I'.pin (b, o) (List.mem_append_right _ (List.mem_append_right _ (mem_pinsAt hb e)))
                exact ⟨z.1, z.2.1⟩
              exact ⟨m', lt, j + 1, H', I'.unpinned.weak (by rw [← hw15, wipe_length]) (fun j v e => (wipe_some (hw15 ▸ e)).1), TB.keep _ _ _ sb14 fun b hb o e => (stay b hb o e).1, fun b hb => (TB.obj _ _ sb14 b hb).elim fun o z => (stay b hb o z.1).2, w'⟩
            cases b1 with
            | false =>
              simp only [Bool.false_eq_true, if_false] at q16 ⊢
              exact wpAny_pure ⟨rfl, back1 I16 q16⟩
            | true =>
              simp only [if_true] at q16 ⊢
              refine wpAny_bind (wpAny_bind (thnF (yK.run _ s16 σ15 H16 _ I16 q16) fun kv s17 ⟨yk, H17, I17, r17, q17⟩ => ?_))
              refine wpAny_bind (wpAny_holding (thnF (yV.run _ s17 σ15 H17 _ I17 q17) fun vv s18 ⟨yv, H18, I18, r18, kvs, kk, ek, d18, lt18, ny⟩ => ?_))
              subst ek
              exact wpAny_bind (wpAny_standAt (wpAny_holding (d_dictSet (X := (X.blk s3 G3 scope ce fa)) I18 d18 lt18 r17 r18 fun s19 I19 => wpAny_pure ⟨rfl, back1 I19 ny⟩)))
        refine wpAny_bind (wpAny_runOwn ?_)
        rw [Around.mark_none]
        refine codeAny_mono (dc_start1 inner (TB.self X.A 0 _ _ _ sb11 inner)) fun r s' hr => ?_
        cases r with
        | ok _ => first | exact wpAny_pure ⟨rfl, hr⟩ | exact wpAny_bind (wpAny_pure (wpAny_pure ⟨rfl, hr⟩))
        | error _ => exact hr.elim
  exact codeAny_compStart_dict loop (TA.self X.A 0 _ _ _ sa4 loop)
end
end L2

namespace L2
open PySem PySem.Spec PyProof.Rows
section
variable {X : Cx} {CX : CXT} {k : Nat} {f : Addr} {fd : FuncData} {x : Str} {st : Stmt} {ps ks : List Str} {sp : Sp} {E : St → XK} {p pos : Pos} {kws : List Keyword} {tk : TA}
variable {g : List Value → List Value → List Value} {gV : List V → List V → List V}
/-- a call with keywords whose way out may look at the slots -/
theorem run_fnkS {pins : List (Addr × Obj)} {σ : St} {H : Hp} {s : Shared} {Q : VK} {us ws : List Value} {vs zs : List V} (F : FnOk X.prog X.w X.K X.mg X.base CX k f fd ps sp) (hr : Room k X.A) (hb : KBinds X.K fd ps ks g gV) (hx : PassesAt CX X σ (E σ))
    (I : Inv X pins σ H s) (r : Vals vs us) (rz : Vals zs ws) (h : sp (gV vs zs) H Q (E σ)) : wpAny (model X.prog X.w) X.A (call (.ref f) us (ks.zip ws)) (EP X pins σ Q) X.xe s := by
  have r2 := hb.rel r rz
  have hl : (g us ws).length = ps.length := by rw [← r2.length]; exact F.len _ _ _ _ h
  refine wpAny_call (codeAny_mono (F.run X.A X.stack s H ⟨us, ks.zip ws⟩ (g us ws) (gV vs zs) Q (E σ) hr I.env0 (hb.to s us ws I.kIn hl) r2 h) fun r s' hq => ?_)
  cases r with
  | error e => exact hx pins H s e s' I hq
  | ok fl =>
    cases fl with
    | ret u => exact I.after hq
    | next => exact False.elim hq
    | brk => exact False.elim hq
    | cont => exact False.elim hq
def tCallKS (sp : Sp) (gV : List V → List V → List V) (E : St → XK) (tk : TA) : TE := fun σ H Q => tk σ H fun zs H2 => sp (gV [] zs) H2 Q (E σ)
theorem pe_callFKS0 (h : Kn X.prog X.w X.K X.mg X.base CX k x st ps sp) (hr : Room k X.A) (hb : KwB x st ps ks g gV) (hx : ∀ σ, PassesAt CX X σ (E σ)) (hkw : PK X kws tk) (hg : Gl X x := by rfl)
    (hall : (backToKw pos (keywordEach kws X.env)).all (·.1.isSome) = true := by rfl) (hks : (backToKw pos (keywordEach kws X.env)).filterMap (·.1) = ks := by rfl)
    (hdb : (x == ("__debug__" : Str)) = false := by decide)
    (hpl : ((backTo pos (starEach [] X.env)).any (·.1) || (backToKw pos (keywordEach kws X.env)).any (·.1.isNone)) = false := by rfl) :
    PE X (.Call (.Name x p) [] kws pos) (tCallKS sp gV E tk) := by
  obtain ⟨f, fd, F, gm, kp, b, kV, doc, pm, an, cdv, ct, rfl⟩ := h.ex
  have hbb : KBinds X.K (PySem.W.fnOf x x (defArgs st) (defBody st) (defScope st) .none kV doc pm an cdv ct) ps ks g gV := ⟨fun s us ws _ hl => .of_eq (hb.1 kV doc pm an cdv ct us ws hl), hb.2⟩
  refine ⟨fun pins s σ H Q I hq => wpAny_Call_Name_kw (ld_glob I hg gm ?_ hdb)⟩
  refine PySem.W.callWith_KW0 (h₀ := X.base) I.ok.mod.kin kp hall (thn (hkw.run pos pins s σ H _ I hq) fun ws s2 ⟨zs, H2, I2, rz, q2⟩ => ⟨I2.kIn, ?_⟩) hpl
  rw [hks]
  exact run_fnkS F hr hbb (hx σ) I2 .nil rz q2
end
end L2

/-! Z9: an own class's methods and its making as promises that carry their places; divmod of great ints. -/
namespace L2
open PySem PySem.Spec PyProof.Rows
structure DfM (K : PySem.W.Frag) (C : Addr) (m q : Str) (st : Stmt) (ps : List Str) : Prop where
  ex : ∃ (f : Addr) (fd : FuncData), Fun K m q st f fd ∧ Meth K C m f ∧ Binds K fd ps []
structure KM (P : Program) (w : World) (K : PySem.W.Frag) (mg : Str → Option Value) (base : Heap) (CX : CXT) (k : Nat) (C : Addr) (m : Str) (ps : List Str) (sp : Sp) : Prop where
  ex : ∃ (f : Addr) (fd : FuncData), FnOk P w K mg base CX k f fd ps sp ∧ Meth K C m f ∧ Binds K fd ps []
structure DfI (K : PySem.W.Frag) (C : Addr) (q : Str) (st : Stmt) (ps : List Str) : Prop where
  ex : ∃ (f : Addr) (fd : FuncData), Fun K "__init__" q st f fd ∧ Mk K C f ∧ Binds K fd ps []
structure KMk (P : Program) (w : World) (K : PySem.W.Frag) (mg : Str → Option Value) (base : Heap) (CX : CXT) (k : Nat) (C : Addr) (ps : List Str) (sp : Sp) : Prop where
  ex : ∃ (f : Addr) (fd : FuncData), FnOk P w K mg base CX k f fd ps sp ∧ Mk K C f ∧ Binds K fd ps []
section
variable {P : Program} {w : World} {K : PySem.W.Frag} {mg : Str → Option Value} {base : Heap} {m q : Str} {st : Stmt} {ps N : List Str} {k : Nat} {sp : Sp} {C : Addr}
theorem DfM.ok (D : DfM K C m q st ps) (S : FnScope N ps (defScope st)) (many : ∀ vs H Q E, sp vs H Q E → vs.length = ps.length)
    (hb : ∀ (f : Addr) (cdv : Value) (A : Around) (outer : List Env) (s : Shared) (H : Hp) (vs : List V) (Q : VK) (E : XK), Room k (A.deeper (envOfC q (defScope st) s.heap.objs.size f cdv)) → sp vs H Q E →
      ∃ t, PSs (cxOf CX0 P w K mg base N q (defScope st) f cdv A outer s H E).nox (defBody st) t ∧ t { nx := fun _ H' => Q .non H', rt := Q } (start N vs) H) : KM P w K mg base CX0 (k + 1) C m ps sp := by
  obtain ⟨f, fd, F, M, b⟩ := D.ex
  exact ⟨f, fd, F.ok S many fun cdv A outer s H vs Q E => hb f cdv A outer s H vs Q E, M, b⟩
theorem DfI.ok (D : DfI K C q st ps) (S : FnScope N ps (defScope st)) (many : ∀ vs H Q E, sp vs H Q E → vs.length = ps.length)
    (hb : ∀ (f : Addr) (cdv : Value) (A : Around) (outer : List Env) (s : Shared) (H : Hp) (vs : List V) (Q : VK) (E : XK), Room k (A.deeper (envOfC q (defScope st) s.heap.objs.size f cdv)) → sp vs H Q E →
      ∃ t, PSs (cxOf CX0 P w K mg base N q (defScope st) f cdv A outer s H E).nox (defBody st) t ∧ t { nx := fun _ H' => Q .non H', rt := Q } (start N vs) H) : KMk P w K mg base CX0 (k + 1) C ps sp := by
  obtain ⟨f, fd, F, M, b⟩ := D.ex
  exact ⟨f, fd, F.ok S many fun cdv A outer s H vs Q E => hb f cdv A outer s H vs Q E, M, b⟩
end
section
variable {X : Cx} {CX : CXT} {k : Nat} {C : Addr} {m x : Str} {ps : List Str} {sp : Sp} {E : XK} {pos apos p : Pos} {o e : Expr} {es : List Expr} {ta : TE} {t : TA}
theorem pe_methK {pl : Sem Bool} (h : KM X.prog X.w X.K X.mg X.base CX k C m ps sp) (c : Cls X.K C) (hr : Room k X.A) (hx : Passes CX X E) (ho : PE X o ta) (ha : PA X (e :: es) t)
    (hst : starEach (e :: es) X.env = (false, eval e X.env) :: starEach es X.env := by rfl) (hpl : (backTo pos (starEach es X.env)).any (·.1) = false := by rfl)
    (ht : eval (.Call (.Attribute o m apos) (e :: es) [] pos) X.env = (do
      let ov ← eval o X.env
      standAt apos.atName
      let (f, first) ← holding [ov] (getMethod ov m pl)
      callWith pos f first (backTo pos (starEach (e :: es) X.env)) (backToKw pos (keywordEach [] X.env))) := by rfl) : PE X (.Call (.Attribute o m apos) (e :: es) [] pos) (tMeth C m sp [] E ta t) := by
  obtain ⟨f, fd, F, M, b⟩ := h.ex
  exact pe_meth (pl := pl) ho c M F hr b .nil hx ha hst hpl ht
theorem pe_methK0 {pl : Sem Bool} (h : KM X.prog X.w X.K X.mg X.base CX k C m ps sp) (c : Cls X.K C) (hr : Room k X.A) (hx : Passes CX X E) (ho : PE X o ta)
    (ht : eval (.Call (.Attribute o m apos) [] [] pos) X.env = (do
      let ov ← eval o X.env
      standAt apos.atName
      let (f, first) ← holding [ov] (getMethod ov m pl)
      callWith pos f first (backTo pos (starEach [] X.env)) (backToKw pos (keywordEach [] X.env))) := by rfl) : PE X (.Call (.Attribute o m apos) [] [] pos) (tMeth C m sp [] E ta tNil) := by
  obtain ⟨f, fd, F, M, b⟩ := h.ex
  exact pe_meth0 (pl := pl) ho c M F hr b .nil hx ht
theorem pe_makeK (h : KMk X.prog X.w X.K X.mg X.base CX k C ps sp) (hr : Room (k + 1) X.A) (hm : X.mg x = some (.ref C)) (hx : Passes CX X E) (ha : PA X (e :: es) t) (hg : Gl X x := by rfl)
    (hdb : (x == ("__debug__" : Str)) = false := by decide) (he : starEach (e :: es) X.env = (false, eval e X.env) :: starEach es X.env := by rfl) (hpl : (backTo pos (starEach es X.env)).any (·.1) = false := by rfl) :
    PE X (.Call (.Name x p) (e :: es) [] pos) (tMake C sp [] E t) := by
  obtain ⟨f, fd, F, M, b⟩ := h.ex
  exact pe_make M F hr hg hm b .nil hx ha hdb he hpl
def rListOf (K : PySem.W.Frag) : List V → Hp → VK → Prop := fun xs H Q => ∃ p ys, xs = [.ref p] ∧ (SqL K H p ys ∨ SqT K H p ys) ∧ ∀ l, H l = none → Q (.ref l) (upd H l (.lst ys))
theorem call_list_ofK (K : PySem.W.Frag) (e : X.K = K := by rfl) : CallR X (.type "list") (rListOf K) := by subst e; exact call_list_of
/-- list(xs), its place told to be none of the interpreter's own -/
theorem call_list_ofN : CallR X (.type "list") (fun xs H Q => ∃ p ys, xs = [.ref p] ∧ (SqL X.K H p ys ∨ SqT X.K H p ys) ∧ ∀ l, H l = none → l ≠ sysModules → Q (.ref l) (upd H l (.lst ys))) := by
  intro pins s σ H xs us Q I r h
  obtain ⟨p, ys, rfl, hq, q⟩ := h
  obtain ⟨u, rfl, rx⟩ := vals1 r
  cases rx
  have fin : ∀ (its : List Value), Vals ys its → ys.length ≤ sizeLine → ∀ (h' : Heap) (c' : Nat), (∀ b o', s.heap.get? b = some o' → h'.get? b = some o') →
      h'.get? s.heap.objs.size = some { cls := .type "list", dict := none, data := .seq its.toArray c', slots := #[] } → EP X pins σ Q (.ref s.heap.objs.size) { s with heap := h' } := fun its r' hz h' c' kp e =>
    ⟨.ref s.heap.objs.size, _, I.laid (t' := s.toks) kp (Nat.le_refl _) (show ObjOk X.prog X.w _ h' _ (.lst ys) from ⟨hz, its, c', r', e⟩), rfl, q _ (I.hok.fresh (Nat.le_refl _)) (Nat.ne_of_gt I.big)⟩
  rcases hq with hq | hq
  · obtain ⟨its, r', pl, hz⟩ := I.list hq
    have hlen := r'.length
    obtain ⟨o, ho, hc, n, hd⟩ := pl.isList
    exact call_list_seq p (.inl rfl) ho hc hd (fun h' c' kp e => fin its r' hz h' c' kp e) (by simp only [List.size_toArray] <;> omega)
  · obtain ⟨its, r', pl, hz⟩ := I.tuple hq
    have hlen := r'.length
    obtain ⟨o, ho, hc, n, hd⟩ := pl
    exact call_list_seq p (.inr rfl) ho hc hd (fun h' c' kp e => fin its r' hz h' c' kp e) (by simp only [List.size_toArray] <;> omega)
/-- divmod of ints of many digits: a new tuple -/
theorem call_divmodW : CallR X (.builtin "divmod") (fun xs H Q => ∃ i j, xs = [.int i, .int j] ∧ CDivW i j ∧ ∀ p, H p = none → Q (.ref p) (upd H p (.tup [.int (i / j), .int (i % j)]))) := by
  intro pins s σ H xs us Q I r h
  obtain ⟨i, j, rfl, hc, q⟩ := h
  obtain ⟨u, w', rfl, ⟨t, rfl⟩, ⟨t', rfl⟩⟩ := vals2 r
  have h1 : (0 : Int) < j := hc.1
  refine divmod_int (by omega) ?_ (.inl (PyProof.noPylong_of_log2 hc.2))
  rw [Int.fdiv_eq_ediv_of_nonneg i (by omega), Int.fmod_eq_emod_of_nonneg i (by omega)]
  have hn : H s.heap.objs.size = none := I.hok.fresh (Nat.le_refl _)
  refine ⟨.ref s.heap.objs.size, _, ?_, rfl, q _ hn⟩
  refine I.laid (fun b o e => Heap.get?_push_of_some _ e) (Nat.le_refl _) ⟨by simp only [List.length_cons, List.length_nil]; rw [sizeLine_eq]; decide, [.int (i / j) s.toks, .int (i % j) (s.toks + 1)], .cons ⟨_, rfl⟩ (.cons ⟨_, rfl⟩ .nil), ?_⟩
  exact ⟨_, Heap.get?_push_size s.heap rfl, rfl, 0, rfl⟩
end
end L2

/-! Z10: {tuple for x in xs if ..}, its len; sorted of rows of ints. -/
namespace L2
open PySem PySem.Spec PyProof.Rows
abbrev Rw := Addr × List Int
def rwLe (p q : Rw) : Bool := decide (p.2 ≤ q.2)
/-- sorted(rows), rows lists of ints -/
def rSortRw (K : PySem.W.Frag) : List V → Hp → VK → Prop := fun vs H Q => ∃ (a : Addr) (ks : List Rw), vs = [V.ref a] ∧ SqL K H a (ks.map fun p => V.ref p.1) ∧ (∀ p ∈ ks, SqL K H p.1 (p.2.map V.int)) ∧ ∀ q, H q = none → Q (.ref q) (upd H q (.lst ((ks.mergeSort rwLe).map fun p => V.ref p.1)))
theorem dp_ints {K : PySem.W.Frag} {H : Hp} : ∀ ns : List Int, DpAll K H (ns.map V.int) (ns.map PyData.int)
  | [] => .nil
  | n :: ns => .cons (.int n) (dp_ints ns)
section
variable {X : Cx}
theorem rw_reads {pins : List (Addr × Obj)} {σ : St} {H : Hp} {s : Shared} (I : Inv X pins σ H s) : ∀ ks : List Rw, (∀ p ∈ ks, SqL X.K H p.1 (p.2.map V.int)) →
    PySem.W.EachIs (fun v (b : Rw) => v = Value.ref b.1) (ks.map fun p => Value.ref p.1) ks ∧ PySem.W.EachIs (fun v (b : Rw) => ∃ as, Reads s.heap v (.list (b.2.map .int)) as) (ks.map fun p => Value.ref p.1) ks
  | [], _ => ⟨.nil, .nil⟩
  | p :: ks, h => by
    obtain ⟨h1, h2⟩ := rw_reads I ks fun q hq => h q (List.mem_cons_of_mem _ hq)
    exact ⟨.cons rfl h1, .cons (Dp.reads I _ (.ref p.1) _ (.lst (h p List.mem_cons_self) (dp_ints _)) rfl) h2⟩
theorem refs_each : ∀ {vs : List Value} {ks : List Rw}, PySem.W.EachIs (fun v (b : Rw) => v = Value.ref b.1) vs ks → vs = ks.map fun p => Value.ref p.1
  | _, _, .nil => rfl
  | _, _, .cons h t => by rw [h, refs_each t, List.map_cons]
theorem cr_sortRw (hu : X.A.units + 64 < cLine) : CallR X (.builtin "sorted") (rSortRw X.K) := by
  intro pins s σ H vs us Q I r h
  obtain ⟨a, ks, rfl, hs, hk, q⟩ := h
  rw [Vals.ref1 r]
  obtain ⟨its, rv, hl, hz⟩ := I.list hs
  have ei : its = ks.map fun p => Value.ref p.1 := refs_of_vals rv
  subst ei
  obtain ⟨e1, e2⟩ := rw_reads I ks hk
  rw [List.length_map] at hz
  refine PySem.W.sorted_data (R := fun v (b : Rw) => v = Value.ref b.1) (enc := fun b : Rw => .list (b.2.map .int)) (bs := ks) hl.isList e1 e2 (PySem.W.AllAlike.of fun b b' => ?_) (PySem.W.Sortable.others fun b => ⟨(fun e => by cases e), (fun xs e => by cases e)⟩) hz (fun b hb => ?_) fun out hlen eo => ?_
  · show PySem.W.alike (.list (b.2.map .int)) (.list (b'.2.map .int)) = true
    rw [PySem.W.alike]; exact PySem.W.alike_ints _ _
  · show X.A.units + 2 + (PyData.list (b.2.map .int)).depth < cLine
    rw [PyData.depth, PySem.W.depth_ints]; omega
  · rw [PySem.W.dataLe_rows fun b : Rw => b.2] at eo
    have eo' := refs_each eo
    obtain ⟨ep, he⟩ := PyProof.Rows.sortedAll_at s.heap (ks.map fun p => Value.ref p.1) out.toArray
    have hlen2 : ((ks.mergeSort rwLe).map fun p => V.ref p.1).length ≤ sizeLine := by rw [List.length_map, List.length_mergeSort]; exact hz
    refine ⟨.ref _, upd H (s.heap.objs.size + 1) (.lst ((ks.mergeSort rwLe).map fun p => V.ref p.1)), I.laid (t' := s.toks) (fun _ _ => PyProof.Rows.sortedAll_old) (Nat.le_succ _) ⟨hlen2, out, ep, ?_, he⟩, rfl, q _ (I.hok.fresh (Nat.le_succ _))⟩
    rw [eo']; exact vals_of_refs _
/-- len(a set of tuples) -/
def rLenTs (K : PySem.W.Frag) (P : Program) (w : World) : List V → Hp → VK → Prop := fun vs H Q => ∃ (a : Addr) (L : List Rw), vs = [V.ref a] ∧ H a = some (SetTO P w a L) ∧ (∀ p ∈ L, SqT K H p.1 (p.2.map V.int)) ∧ Q (.int L.length) H
theorem cr_lenTs : CallR X (.builtin "len") (rLenTs X.K X.prog X.w) := by
  intro pins s σ H vs us Q I r h
  obtain ⟨a, L, rfl, ha, hk, q⟩ := h
  rw [Vals.ref1 r]
  have R0 : SetT0 X.prog X.w s.heap a L := (I.hok a _ ha).1
  obtain ⟨es, ep, t, R⟩ := R0.full fun p hp => I.isT (hk p hp)
  obtain ⟨o, ho, hex, hd⟩ := R.ob
  have hn := R.size
  have hf := R.few
  refine call_len_set ho hex hd R.fits (by rw [hn]; omega) ⟨.int L.length, H, I.tok _, ⟨_, by rw [hn]⟩, q⟩
/-- set.add of a tuple of ints -/
theorem add_tup {pins : List (Addr × Obj)} {σ : L2.St} {H : Hp} {s : Shared} {E : Value → Shared → Prop} {D a : Addr} {k : List Int} {L : List Rw} {Q : Value → Shared → Prop} (hu : X.A.units + 64 < cLine) (I : Inv X pins σ H s) (hD : H D = some (SetTO X.prog X.w D L)) (ha : SqT X.K H a (k.map V.int)) (hL : ∀ p ∈ L, SqT X.K H p.1 (p.2.map V.int)) (few : L.length + 1 < 64)
    (h : ∀ s' L', (k ∈ L.map (·.2) → L' = L) → (k ∉ L.map (·.2) → L'.Perm ((a, k) :: L)) → Inv X pins σ (upd H D (SetTO X.prog X.w D L')) s' → Q .none s') : wpAny (model X.prog X.w) X.A (call (.builtin "set.add") [.ref D, .ref a]) Q E s := by
  have R0 : SetT0 X.prog X.w s.heap D L := (I.hok D _ hD).1
  obtain ⟨es, ep, t, R⟩ := R0.full fun p hp => I.isT (hL p hp)
  obtain ⟨o, ho, hex, hd⟩ := R.ob
  have hT : s.TypeIs (.ref D) "set" := ⟨o, ho, hex.1⟩
  refine wpAny_call_entry F.slot_set_add hT F.entry_set_add ?_ (F.args_set_add_2 _ _)
  unfold Builtin.«set.add» Builtin.Frozenset.oneOther
  simp only [List.isEmpty_nil, bind_assoc]
  unfold Builtin.Frozenset.addrOf setAdd
  refine wpAny_bind (wpAny_pure ?_)
  try dsimp only
  refine wpAny_bind (wpAny_pure ?_)
  try dsimp only
  refine wpAny_bind (wpAny_holding ?_)
  refine wpAny_bind (wpAny_pyHash_tuple (by simp; omega) (I.isT ha) ?_)
  refine add_at (s := { s with toks := s.toks + (k.length + 1) }) R (I.isT ha) (by simp; omega) few fun b h' L' es' ep' t' sb R' c1 c2 => ?_
  show wpAny _ _ (ret Value.none) _ _ _
  refine wpAny_pure ⟨_, rfl, h _ L' c1 c2 ?_⟩
  have he : ∃ u, h'.get? D = some u := by
    obtain ⟨o, ho, _⟩ := R'.ob
    exact ⟨o, ho⟩
  exact I.write (e := D) (t' := s.toks + (k.length + 1)) (by rw [hD]; trivial) (.inl rfl) (fun b u hb hu => (sb.2 b hb).trans hu) he (setTO_new R'.t0)
/-- {elt for target in iter if ..}, elt a tuple of ints; D the new set -/
def tTs (X : Cx) (wA : TI) (gA : TG) (qA : TT) (te : TE) (us : List Nat) : TE := fun σ H Q => wA σ H fun JA G => ∀ D, G D = none → ∃ W : Nat → Nat → Hp → Prop, (∃ m, W 0 m (upd G D (SetTO X.prog X.w D []))) ∧ ∀ i m H, W i m H →
  (JA.stop i H ∧ Q (.ref D) H) ∨ (JA.go i H ∧ ∃ Nx : Hp → Prop, (∀ H', Nx H' → ∃ n, n < m ∧ W (i + 1) n H') ∧ ∀ x H', JA.yld i H x H' → gA x (wipe σ us) H' fun σ2 H2 => wipe σ2 us = wipe σ us ∧ qA σ2 H2 fun b H3 =>
    if b = true then te σ2 H3 fun y H4 => ∃ (a : Addr) (k : List Int) (L : List Rw), y = .ref a ∧ SqT X.K H4 a (k.map V.int) ∧ H4 D = some (SetTO X.prog X.w D L) ∧ (∀ p ∈ L, SqT X.K H4 p.1 (p.2.map V.int)) ∧ L.length + 1 < 64 ∧
      ∀ L', (k ∈ L.map (·.2) → L' = L) → (k ∉ L.map (·.2) → L'.Perm ((a, k) :: L)) → Nx (upd H4 D (SetTO X.prog X.w D L')) else Nx H3)
theorem pe_tsc {vx tA iA : Expr} {fA : List Expr} {scope : Scope} {own : List (Str × Nat)} {pos : Pos} {wA : TI} {gA : TG} {qA : TT} {tv : TE} (hc : X.calm = true) (hu : X.A.units + 64 < cLine) (nd : X.N.Nodup) (pA : PI X tA iA wA) (ok : BlkOk X.N X.env.scope scope own)
    (aG : InBlk X scope fun Y => PG Y tA gA) (aT : InBlk X scope fun Y => PTs Y fA qA) (bV : InBlk X scope fun Y => PE Y vx tv)
    (cA : ∀ x, foldedSetIterable iA X.env x = pure x := by intro _; rfl) : PE X (.SetComp vx [⟨tA, iA, fA, 0⟩] scope pos) (tTs X wA gA qA tv (own.map (·.2))) := by
  refine ⟨fun pins s σ H Q I h => ?_⟩
  rw [PpSet.eval_SetComp]
  have cap : ∀ y ∈ scope.names, y.2 = .free → ∃ c, X.env.cells.lookup y.1 = some c := fun y hy e => (ok.free y hy e).elim (fun k => I.ok.has _ (.inl k)) fun k => I.ok.has _ (.inr k)
  refine wpAny_comprehension_free (use := none) rfl cA (closure_ok cap) ok.kind (fun y hy e => by rw [ok.uniq y hy, e]) (thn (pA.run pins s σ H _ I h) fun xv s1 hx => thn hx fun itv s2 got => ?_)
  obtain ⟨ia, fa, na, JA, G2, rfl, I2, TA, sa2, fr2, body⟩ := got
  refine PpSet.newSet_ok (newEnv_comp ?_)
  generalize eD : s2.heap.objs.size = D
  obtain ⟨W, ⟨m0, w0⟩, turn⟩ := body D (I2.hok.fresh (Nat.le_of_eq eD))
  generalize es3 : ({ s2 with heap := s2.heap.push { cls := .type "set", dict := none, data := .set #[] 0 (.fresh 0 0 (!X.w.params.followText "set-order")) } } : Shared) = s3
  have I3 : Inv X pins σ (upd G2 D (SetTO X.prog X.w D [])) s3 := by
    subst es3
    exact I2.laid (t' := s2.toks) (fun _ _ e => Heap.get?_push_of_some _ e) (Nat.le_of_eq eD) (setTO_new (SetTR.t0 (setTR_fresh (by rw [← eD]; exact Heap.get?_push_size _ rfl))))
  have h3 : s3.heap = s2.heap.push { cls := .type "set", dict := none, data := .set #[] 0 (.fresh 0 0 (!X.w.params.followText "set-order")) } := es3 ▸ rfl
  have fr3 : ∀ b ∈ fa, FpOk X pins (upd G2 D (SetTO X.prog X.w D [])) b ∧ b < s3.heap.objs.size := fun b hb => by
    obtain ⟨_, e, _⟩ := TA.obj _ _ sa2 b hb
    have lt : b < s2.heap.objs.size := Heap.lt_size e
    have ne : b ≠ D := by rw [← eD]; exact Nat.ne_of_lt lt
    exact ⟨⟨(upd_ne ne).trans (fr2 b hb).1, (fr2 b hb).2⟩, by rw [h3, Heap.size_push]; exact Nat.lt_succ_of_lt lt⟩
  have sa3 : na 0 s3.heap := TA.keep _ _ _ sa2 fun b _ o e => h3 ▸ Heap.get?_push_of_some _ e
  have I4 := block_start I3 ok nd fr3
  generalize ecl : cellsFrom (s3.heap.objs.size + 1) scope.names (cloFrom X.env.cells scope.names []) = cl at I4
  have xG := aG s3 (upd G2 D (SetTO X.prog X.w D [])) s3.heap.objs.size cl fa
  have xT := aT s3 (upd G2 D (SetTO X.prog X.w D [])) s3.heap.objs.size cl fa
  have yV := bV s3 (upd G2 D (SetTO X.prog X.w D [])) s3.heap.objs.size cl fa
  show codeAny _ _ (.compStart (.SetComp vx [⟨tA, iA, fA, 0⟩] scope pos) 0 (.ref ia) (.ref D) (compEnvC scope cl s3.heap.objs.size X.env)) (compPost (model X.prog X.w) X.A X.xe none (EP X pins σ Q) (.ref D) s3.heap.objs.size) ⟨pushCells (s3.heap.push { cls := .type "dict", data := .dict #[] }) scope.names, s3.gens, s3.drawn, s3.toks, s3.os⟩
  have nofa : ∀ b ∈ fa, (upd G2 D (SetTO X.prog X.w D [])) b = none := fun b hb => (fr3 b hb).1.1
  generalize ece : compEnvC scope cl s3.heap.objs.size X.env = ce at I4 xG xT yV ⊢
  have cloc : ce.locals = s3.heap.objs.size := ece ▸ rfl
  generalize eG3 : upd G2 D (SetTO X.prog X.w D []) = G3 at I3 I4 xG xT yV w0 nofa fr3
  generalize es4 : (⟨pushCells (s3.heap.push { cls := .type "dict", data := .dict #[] }) scope.names, s3.gens, s3.drawn, s3.toks, s3.os⟩ : Shared) = s4 at I4 ⊢
  have sa4 : na 0 s4.heap := TA.keep _ _ _ sa3 fun b _ o e => es4 ▸ pushCells_keeps _ _ _ _ (Heap.get?_push_of_some _ e)
  have held : ∀ {σ' : L2.St} {H' : Hp} {s' : Shared}, Inv (X.blk s3 G3 scope ce fa) [] σ' H' s' → (∀ b ∈ fa, H' b = none) → ∀ b ∈ fa, FpOk (X.blk s3 G3 scope ce fa) [] H' b := fun I' hn b hb =>
    ⟨hn b hb, (I'.ok.exf b hb).1, I'.ok.exfs b hb, .inl hb, fun x c e => (I'.ok.exf b hb).2 x c e, fun p (hp : p ∈ ([] : List (Addr × Obj)) ++ []) => by simp at hp⟩
  have loop : codeAny (model X.prog X.w) X.A (.compLoop (.SetComp vx [⟨tA, iA, fA, 0⟩] scope pos) 0 (.ref ia) (.ref D) ce) (compPost (model X.prog X.w) X.A X.xe none (EP X pins σ Q) (.ref D) s3.heap.objs.size) s4 := by
    refine codeAny_loop rfl (fun n s' => ∃ i H', Inv (X.blk s3 G3 scope ce fa) [] (wipe σ (own.map (·.2))) H' s' ∧ na i s'.heap ∧ (∀ b ∈ fa, H' b = none) ∧ W i n H') (fun n s5 ⟨i, H5, I5, sa5, no5, w5⟩ => ?_) m0 ⟨0, G3, I4, sa4, nofa, w0⟩
    show wpAny _ X.A ((compTurn (.SetComp vx [⟨tA, iA, fA, 0⟩] scope pos) 0 (.ref ia) (.ref D) ce).onRaise fun x => do noteFrame x ce; theTreesLotGoes x) _ _ s5
    refine wpAny_noted ?_
    show wpAny _ _ (standAt iA.pos >>= _) _ _ _
    refine wpAny_bind (wpAny_standAt ?_)
    show wpAny _ _ (pyNext (.ref ia) >>= _) _ _ _
    rcases turn i n H5 w5 with ⟨stop, fin⟩ | ⟨go, Nx, down, step⟩
    · refine wpAny_bind (thnF (TA.done (X.blk s3 G3 scope ce fa) rfl rfl rfl hc i [] s5 _ H5 (fun _ _ => False) I5 (held I5 no5) sa5 stop) fun r s6 ⟨er, I6⟩ => ?_)
      subst er
      refine wpAny_pure ?_
      -- back in the def
      have I7 : Inv X pins σ H5 s6 := I3.call' (ch := fa) I6.os I6.base I6.hok I6.bare fun b hb => by
        obtain ⟨_, p1, _, p3, p4, p5⟩ := (fr3 b hb).1
        exact ⟨p3, p1, p4, p5⟩
      have free : H5 s3.heap.objs.size = none := cloc ▸ (show H5 ce.locals = none from I6.free)
      obtain ⟨m, (ns : s6.heap.Ns ce.locals m), _⟩ := I6.loc
      rw [cloc] at ns
      obtain ⟨f0, f1, f2, f3, f4, f5⟩ := I3.fpOk (Nat.le_refl _) free
      exact ⟨m, ns, fun _ sb => ⟨.ref D, H5, I7.turned (t' := s6.toks) (fun b o hb e => (sb.2 b hb).trans e) f0 f1 f3 f4 f5, rfl, fin⟩⟩
    · refine wpAny_bind (thnF (TA.item (X.blk s3 G3 scope ce fa) rfl rfl rfl hc i [] s5 _ H5 (fun _ _ => False) I5 (held I5 no5) sa5 go) fun r s6 ⟨u, er, g6⟩ => ?_)
      subst er
      show wpAny _ _ (letOwnedTupleGo tA (.ref ia) u >>= _) _ _ _
      refine wpAny_bind (thnF g6 fun _ s7 ⟨x, H7, I7, r7, y7, sa7, no7⟩ => ?_)
      refine wpAny_bind (thnF (xG.run _ s7 _ H7 x u _ (I7.pinned (held I7 no7) (TA.obj _ _ sa7)) r7 (step x H7 y7)) fun _ s8 ⟨σ8, H8, I8, hw8, q8⟩ => ?_)
      refine wpAny_bind (thnF (xT.run _ s8 σ8 H8 _ I8 q8) fun b s9 ⟨H9, I9, q9⟩ => ?_)
      -- the turn's end
      have back : ∀ {s' : Shared} {H' : Hp}, Inv (X.blk s3 G3 scope ce fa) ([] ++ pinsAt fa s7.heap) σ8 H' s' → Nx H' →
          ∃ m, m < n ∧ ∃ i H', Inv (X.blk s3 G3 scope ce fa) [] (wipe σ (own.map (·.2))) H' s' ∧ na i s'.heap ∧ (∀ b ∈ fa, H' b = none) ∧ W i m H' := fun {s' H'} I' nx => by
        obtain ⟨m', lt, w'⟩ := down H' nx
        have stay : ∀ b ∈ fa, ∀ o, s7.heap.get? b = some o → s'.heap.get? b = some o ∧ H' b = none := fun b hb o e => by
          have z := I'.pin (b, o) (List.mem_append_right _ (List.mem_append_right _ (mem_pinsAt hb e)))
          exact ⟨z.1, z.2.1⟩
        exact ⟨m', lt, i + 1, H', (I'.unpinned (pins := [])).weak (by rw [← hw8, wipe_length]) (fun j v e => (wipe_some (hw8 ▸ e)).1), TA.keep _ _ _ sa7 fun b hb o e => (stay b hb o e).1, fun b hb => (TA.obj _ _ sa7 b hb).elim fun o z => (stay b hb o z.1).2, w'⟩
      cases b with
      | false =>
        simp only [Bool.false_eq_true, if_false] at q9 ⊢
        exact wpAny_pure ⟨rfl, back I9 q9⟩
      | true =>
        simp only [if_true] at q9 ⊢
        refine wpAny_bind (wpAny_bind (thnF (yV.run _ s9 σ8 H9 _ I9 q9) fun vv s10 ⟨yv, H10, I10, r10, a, k, L, ey, ha, hD10, hL, few, ny⟩ => ?_))
        subst ey
        cases r10
        refine wpAny_bind (wpAny_standAt (wpAny_bind (add_tup (X := (X.blk s3 G3 scope ce fa)) hu I10 hD10 ha hL few fun s11 L' c1 c2 I11 => ?_)))
        exact wpAny_pure (wpAny_pure ⟨rfl, back I11 (ny L' c1 c2)⟩)
  exact PpSet.codeAny_compStart_set loop (TA.self X.A 0 _ _ _ sa4 loop)
end
theorem call_tuple_ofK {X : Cx} (K : PySem.W.Frag) (e : X.K = K := by rfl) : CallR X (.type "tuple") (fun xs H Q => ∃ p ys, xs = [.ref p] ∧ ((SqL K H p ys ∧ ∀ l, H l = none → Q (.ref l) (upd H l (.tup ys))) ∨ (SqT K H p ys ∧ Q (.ref p) H))) := by subst e; exact call_tuple_of
theorem units65 {k : Nat} {A : Around} (r : Room k A) : A.units + 65 < cLine := by have := r.un; omega
end L2

/-! Z11: dicts with tuple keys: {k: v}, {k: v for ..}, for k, v in d.items(). -/
namespace L2
open PySem PySem.Spec PyProof.Rows
section
variable {X : Cx}
theorem put_tup {pins : List (Addr × Obj)} {σ : St} {H : Hp} {s : Shared} {E : Value → Shared → Prop} {D b : Addr} {kvs : List (List Key × V)} {k : List Key} {v : V} {r : Value} {Q : Unit → Shared → Prop} (hu : X.A.units + 1 < cLine) (I : Inv X pins σ H s) (hD : H D = some (.dT kvs)) (hz : kvs.length < sizeLine)
    (eb : H b = some (.tup (k.map kV))) (rv : RelV v r) (h : ∀ s', Inv X pins σ (upd H D (.dT (putK kvs k v))) s' → Q () s') : wpAny (model X.prog X.w) X.A (dictSet D (.ref b) r) Q E s := by
  obtain ⟨z, hd, xs, rel, dd⟩ := dt_of I.hok hD
  have hzx : xs.length ≤ sizeLine := by rw [← Paired.length rel]; exact z
  have hl : (putK kvs k v).length ≤ sizeLine := by have := length_putK kvs k v; omega
  refine wpAny_dictSet_heap (hsz := hzx) (knd := tupleKind (mixKind X.prog X.w)) (show X.A.units < cLine from Nat.lt_of_succ_lt hu) (key_of I.hok eb) dd (fun h' dd' hs => h _ ?_)
  obtain ⟨q, es, ep, hq, h2, h3, h4, _, h5⟩ := dd'
  exact d_write I (by rw [hD]; exact True.intro) hs ⟨q, hq⟩ ⟨hl, hd, _, (rel.put k eb rv).keeps fun c ys ec => (upd_ne (ne_of ec hD fun z => nomatch z)).trans ec, q, es, ep, hq, h2, h3, h4, h5⟩
/-- {k: v}, k a tuple -/
def tDisp1T (tk tv : TE) : TE := fun σ H Q => ∀ p, H p = none → tk σ (upd H p (.dT [])) fun y H1 => tv σ H1 fun z H2 => ∃ (b : Addr) (k : List Key) (v : V), [(y, z)] = [(V.ref b, v)] ∧ H2 b = some (.tup (k.map kV)) ∧ H2 p = some (.dT []) ∧ Q (.ref p) (upd H2 p (.dT [(k, v)]))
theorem store_one {P : Program} {w : World} {A : Around} {E : Value → Shared → Prop} {s : Shared} {d : Addr} {k v : Value} {Q : PUnit → Shared → Prop} (h : wpAny (model P w) A (dictSet d k v) (fun _ s1 => Q PUnit.unit s1) E s) : wpAny (model P w) A (storeAll d [(k, v)]) Q E s := by
  unfold storeAll
  rw [List.forIn_cons]
  refine wpAny_bind (wpAny_bind (wpAny_mono h (fun _ s1 q => wpAny_pure ?_) fun _ _ x => x))
  dsimp only
  rw [List.forIn_nil]
  exact wpAny_pure q
theorem vv_one {y z : V} {ws : List (Value × Value)} (r : VV [(y, z)] ws) : ∃ u v, ws = [(u, v)] ∧ RelV y u ∧ RelV z v := by
  cases r with
  | cons r1 rt =>
    cases rt
    exact ⟨_, _, rfl, r1.1, r1.2⟩
theorem pe_disp1T {kx vx : Expr} {pos : Pos} {tk tv : TE} (hu : X.A.units + 1 < cLine) (hk : PE X kx tk) (hv : PE X vx tv) : PE X (.Dict [some kx] [vx] pos) (tDisp1T tk tv) := by
  refine ⟨fun pins s σ H Q I q => ?_⟩
  have hn := I.hok.fresh (Nat.le_refl s.heap.objs.size)
  have I1 := I.laid (a := s.heap.objs.size) (o := .dT []) (h' := s.heap.push { cls := .type "dict", data := .dict #[] }) (t' := s.toks) (fun _ _ q => Heap.get?_push_of_some _ q) (Nat.le_refl _) (dt_empty s.heap I.big)
  have P1 : PPs X pos [some kx] [vx] [(tk, tv)] := pps_cons hk hv pps_nil
  have R1 := P1.run pins _ σ _ (fun ps H2 => ∃ (b : Addr) (k : List Key) (v : V), ps = [(V.ref b, v)] ∧ H2 b = some (.tup (k.map kV)) ∧ H2 s.heap.objs.size = some (.dT []) ∧ Q (.ref s.heap.objs.size) (upd H2 s.heap.objs.size (.dT [(k, v)]))) I1 (q _ hn)
  refine wpAny_Dict_any rfl rfl (List.cons_ne_nil _ _) (show 1 ≤ 15 by decide) (thn R1 fun ws s2 h2 => ?_)
  obtain ⟨ps, H2, I2, rel, b, k, v, ep, eb, eD, q2⟩ := h2
  rw [ep] at rel
  obtain ⟨u, r, ew, r1, r2⟩ := vv_one rel
  have eu : u = Value.ref b := r1
  rw [ew, eu]
  refine store_one (put_tup hu I2 eD (show 0 < sizeLine by decide) eb r2 fun s3 I3 => ?_)
  exact ⟨.ref s.heap.objs.size, _, I3, rfl, q2⟩
/-- the pairs of the locked dict with tuple keys, each a new tuple -/
def Itit (d : Addr) (o : Obj) (kvs : List (List Key × V)) : It :=
  ⟨fun i H => H d = some (.frz o (.dT kvs)) ∧ i < kvs.length, fun i H x H' => ∃ (T q : Addr) (k : List Key) (v : V), kvs[i]? = some (k, v) ∧ H q = some (.tup (k.map kV)) ∧ x = .ref T ∧ H T = none ∧ H' = upd H T (.tup [.ref q, v]), fun i H => H d = some (.frz o (.dT kvs)) ∧ kvs.length ≤ i⟩
theorem Inv.frzV {o : Obj} {d : Addr} {pins : List (Addr × Obj)} {σ : St} {H : Hp} {s : Shared} {kvs : List (List Key × V)} (I : Inv X pins σ H s) (h : H d = some (.frz o (.dT kvs))) :
    (d == sysModules) = false ∧ s.heap.get? d = some o ∧ o.ExactDict ∧ ∃ (es : Array DictEntry) (ep : Nat), o.data = .dict es ep ∧ es.size = kvs.length ∧
      ∀ (i : Nat) (k : List Key) (v : V), kvs[i]? = some (k, v) → ∃ (en : DictEntry) (q : Addr), es[i]? = some en ∧ en.key = .ref q ∧ H q = some (.tup (k.map kV)) ∧ RelV v en.val := by
  obtain ⟨hd, z, hs, xs, pr, o', es, ep, ho, hx, hdt, he, _⟩ := I.hok d _ h
  cases Option.some.inj (hd.symm.trans ho)
  refine ⟨hs, hd, hx, es, ep, hdt, ?_, fun i k v e => ?_⟩
  · rw [Paired.length pr, ← Array.length_toList, he, List.length_map]
  · obtain ⟨b, hb, e1, e2, e3⟩ := paired_get pr e
    have q := entry_at he i
    rw [hb] at q
    exact ⟨_, b.2.1, q, rfl, e2, e3⟩
theorem turn_itemsT {P : Program} {w : World} {K : PySem.W.Frag} {d : Addr} {o : Obj} {es : Array DictEntry} {ep : Nat} {kvs : List (List Key × V)} {elts : List Expr} {kk : Nat} {tpos : Pos} (it : Addr) (hod : o.data = .dict es ep) :
    Turn P w K (.Tuple elts kk tpos) (Itit d o kvs) [it] it (fun i h => ∃ ok ov, IsItemIter h it d i kvs.length ep ok ov) where
  mem := List.mem_singleton.mpr rfl
  obj := fun i h ⟨ok, ov, e⟩ b hb => by
    cases List.mem_singleton.mp hb
    exact ⟨_, e, fun v z => nomatch z⟩
  keep := fun i h h' ⟨ok, ov, e⟩ k => ⟨ok, ov, k it (List.mem_singleton.mpr rfl) _ e⟩
  item := by
    intro X hP hw hK hc i pins s σ H E I hf st hg
    subst hP hw hK
    obtain ⟨hd, hi⟩ := hg
    obtain ⟨_, hgd, hx, es', ep', hdt, hsz, ent⟩ := I.frzV hd
    obtain ⟨rfl, rfl⟩ := dict_ep hod hdt
    obtain ⟨⟨k, v⟩, hkv⟩ : ∃ p, kvs[i]? = some p := ⟨_, List.getElem?_eq_getElem hi⟩
    obtain ⟨en, q, hen, hkey, hq, rv⟩ := ent i k v hkv
    obtain ⟨ok, ov, he⟩ := st
    have hlt : it < s.heap.objs.size := Heap.lt_size he
    rw [← hsz] at he
    have hi' : i < es'.size := by omega
    have een : es'[i] = en := Option.some.inj ((Array.getElem?_eq_getElem hi').symm.trans hen)
    refine DT.nextI he ⟨_, hgd, hx, hdt⟩ hi' fun h' ho hT hz hk => ?_
    rw [een] at ho hT
    refine ⟨_, rfl, wpAny_letOwnedTupleGo_items (s := { s with heap := h' }) ho fun h'' he' sb => ?_⟩
    have hT2 : h''.get? s.heap.objs.size = some { cls := .type "tuple", data := .seq #[en.key, en.val] } := (sb.2 _ (Nat.ne_of_gt hlt)).trans hT
    have new : ObjOk X.prog X.w (upd H s.heap.objs.size (.tup [.ref q, v])) h'' s.heap.objs.size (.tup [.ref q, v]) :=
      ⟨by show 2 ≤ sizeLine; decide, [en.key, en.val], .cons (show RelV (.ref q) en.key from hkey) (.cons rv .nil), ⟨_, hT2, rfl, _, rfl⟩⟩
    have I1 : Inv X pins σ (upd H s.heap.objs.size (.tup [.ref q, v])) { s with heap := h'' } :=
      I.turnedNew (t' := s.toks) (ch := [it]) (fun b ob hb e => (sb.2 b fun z => hb (List.mem_singleton.mpr z)).trans (hk b ob (fun z => hb (List.mem_singleton.mpr z)) e)) hf (Nat.le_refl _) new
    refine ⟨.ref s.heap.objs.size, _, I1, rfl, ⟨_, q, k, v, hkv, hq, rfl, I.hok.fresh (Nat.le_refl _), rfl⟩, ⟨_, _, by rw [← hsz]; exact he'⟩, fun b hb => ?_⟩
    cases List.mem_singleton.mp hb
    rw [upd_ne (Nat.ne_of_lt hlt)]
    exact (hf it (List.mem_singleton.mpr rfl)).1
  done := by
    intro X hP hw hK hc i pins s σ H E I hf st hg
    subst hP hw hK
    obtain ⟨hd, hi⟩ := hg
    obtain ⟨f0, f1, f2, f3, f4, f5⟩ := hf it (List.mem_singleton.mpr rfl)
    obtain ⟨_, hgd, hx, es', ep', hdt, hsz, _⟩ := I.frzV hd
    obtain ⟨rfl, rfl⟩ := dict_ep hod hdt
    obtain ⟨ok, ov, he⟩ := st
    rw [← hsz] at he
    exact DT.endI (I.ok.hd hc) he ⟨_, hgd, hx, hdt⟩ (by omega) fun h' eb => ⟨rfl, I.turned (t' := s.toks) (fun b ob hb e => eb b ob hb e) f0 f1 f3 f4 f5⟩
  self := fun A i s Q E ⟨_, _, e⟩ h => PySem.W.kcp_self e h
/-- d.items() of the locked dict -/
def iItemsT (td : TE) : TI := fun σ H R => td σ H fun x H1 => ∃ d o kvs, x = .ref d ∧ H1 d = some (.frz o (.dT kvs)) ∧ R (Itit d o kvs) H1
theorem pi_itemsT {e : Expr} {td : TE} {apos cpos : Pos} {elts : List Expr} {kk : Nat} {tpos : Pos} (he : PE X e td) (hbase : attributeBase e "items" X.env (eval e X.env) = eval e X.env := by rfl) (hline : (apos.endLine == cpos.line) = true := by rfl) :
    PI X (.Tuple elts kk tpos) (.Call (.Attribute e "items" apos) [] [] cpos) (iItemsT td) := by
  refine ⟨fun pins s σ H R I h => ?_⟩
  refine wpAny_Call_method (T := "dict") (id := "dict.items") hbase rfl hline F.plainAttrs_dict F.slot_dict_items F.type_dict_items (thn (he.run pins s σ H _ I h) fun u s1 ⟨x, H1, I1, rx, d, o, kvs, ex, hd, q⟩ => ?_)
  subst ex
  obtain rfl : u = Value.ref d := rx
  obtain ⟨hs, hgd, hx, es, ep, hdt, hsz, _⟩ := I1.frzV hd
  have raw : DT.Raw s1.heap d es ep := ⟨o, hgd, hx, hdt⟩
  refine ⟨raw.typeIs, fun a ea => (by cases ea; exact ⟨o, hgd, hx.2.1⟩), ?_⟩
  have I2 : Inv X pins σ H1 { s1 with heap := s1.heap.push { cls := .type "dict_items", data := .fields #[.ref d] } } := I1.kept (t' := s1.toks) fun b ob q => Heap.get?_push_of_some _ q
  have fin : wpAny (model X.prog X.w) X.A (pyIter (.ref s1.heap.objs.size)) (PIE X pins σ (.Tuple elts kk tpos) R) X.xe { s1 with heap := s1.heap.push { cls := .type "dict_items", data := .fields #[.ref d] } } := by
    refine DT.iterI (d := d) ⟨_, Heap.get?_push_size _ rfl, rfl, rfl⟩ (raw.push _) (pi_one (tk := s1.toks) I2 _ (turn_itemsT _ hdt) ⟨.none, .none, ?_⟩ q)
    rw [← hsz]
    exact Heap.get?_push_size _ rfl
  show wpAny _ _ (callWith cpos (.builtin "dict.items") [.ref d] [] []) _ X.xe s1
  exact method_meetsIn F.slot_dict_items F.entry_dict_items rfl (PySem.evalArgs_none ⟨rfl, raw.typeIs, F.args_dict_items_1 _, _, DT.meetsItems (es := es) (ep := ep) hs, raw, fin⟩)
/-- {k: v for target in iter if ..}, the keys tuples -/
def tDcT (wA : TI) (gA : TG) (qA : TT) (tk tv : TE) (us : List Nat) : TE := fun σ H Q => wA σ H fun JA G => ∀ D, G D = none → ∃ W : Nat → Nat → Hp → Prop, (∃ m, W 0 m (upd G D (.dT []))) ∧ ∀ i m H, W i m H →
  (JA.stop i H ∧ Q (.ref D) H) ∨ (JA.go i H ∧ ∃ Nx : Hp → Prop, (∀ H', Nx H' → ∃ n, n < m ∧ W (i + 1) n H') ∧ ∀ x H', JA.yld i H x H' → gA x (wipe σ us) H' fun σ2 H2 => wipe σ2 us = wipe σ us ∧ qA σ2 H2 fun b H3 =>
    if b = true then tk σ2 H3 fun y H4 => tv σ2 H4 fun z H5 => ∃ (kvs : List (List Key × V)) (k : List Key) (b : Addr), y = .ref b ∧ H5 b = some (.tup (k.map kV)) ∧ H5 D = some (.dT kvs) ∧ kvs.length < sizeLine ∧ Nx (upd H5 D (.dT (putK kvs k z))) else Nx H3)
theorem pe_dcT {kx vx tA iA : Expr} {fA : List Expr} {scope : Scope} {own : List (Str × Nat)} {pos : Pos} {wA : TI} {gA : TG} {qA : TT} {tk tv : TE} (hc : X.calm = true) (hu : X.A.units + 1 < cLine) (nd : X.N.Nodup) (pA : PI X tA iA wA) (ok : BlkOk X.N X.env.scope scope own)
    (aG : InBlk X scope fun Y => PG Y tA gA) (aT : InBlk X scope fun Y => PTs Y fA qA) (bK : InBlk X scope fun Y => PE Y kx tk) (bV : InBlk X scope fun Y => PE Y vx tv)
    (cA : ∀ x, foldedSetIterable iA X.env x = pure x := by intro _; rfl) : PE X (.DictComp kx vx [⟨tA, iA, fA, 0⟩] scope pos) (tDcT wA gA qA tk tv (own.map (·.2))) := by
  refine ⟨fun pins s σ H Q I h => ?_⟩
  rw [arm_eval_DictComp]
  have cap : ∀ y ∈ scope.names, y.2 = .free → ∃ c, X.env.cells.lookup y.1 = some c := fun y hy e => (ok.free y hy e).elim (fun k => I.ok.has _ (.inl k)) fun k => I.ok.has _ (.inr k)
  refine wpAny_comprehension_free (use := none) rfl cA (closure_ok cap) ok.kind (fun y hy e => by rw [ok.uniq y hy, e]) (thn (pA.run pins s σ H _ I h) fun xv s1 hx => thn hx fun itv s2 got => ?_)
  obtain ⟨ia, fa, na, JA, G2, rfl, I2, TA, sa2, fr2, body⟩ := got
  refine wpAny_newObj_type (newEnv_comp ?_)
  generalize eD : s2.heap.objs.size = D
  obtain ⟨W, ⟨m0, w0⟩, turn⟩ := body D (I2.hok.fresh (Nat.le_of_eq eD))
  generalize es3 : ({ s2 with heap := s2.heap.push { cls := .type "dict", data := .dict #[] } } : Shared) = s3
  have I3 : Inv X pins σ (upd G2 D (.dT [])) s3 := by
    subst es3
    exact I2.laid (t' := s2.toks) (fun _ _ e => Heap.get?_push_of_some _ e) (Nat.le_of_eq eD) (by rw [← eD]; exact dt_empty s2.heap I2.big)
  have h3 : s3.heap = s2.heap.push { cls := .type "dict", data := .dict #[] } := es3 ▸ rfl
  have fr3 : ∀ b ∈ fa, FpOk X pins (upd G2 D (.dT [])) b ∧ b < s3.heap.objs.size := fun b hb => by
    obtain ⟨_, e, _⟩ := TA.obj _ _ sa2 b hb
    have lt : b < s2.heap.objs.size := Heap.lt_size e
    have ne : b ≠ D := by rw [← eD]; exact Nat.ne_of_lt lt
    exact ⟨⟨(upd_ne ne).trans (fr2 b hb).1, (fr2 b hb).2⟩, by rw [h3, Heap.size_push]; exact Nat.lt_succ_of_lt lt⟩
  have sa3 : na 0 s3.heap := TA.keep _ _ _ sa2 fun b _ o e => h3 ▸ Heap.get?_push_of_some _ e
  have I4 := block_start I3 ok nd fr3
  generalize ecl : cellsFrom (s3.heap.objs.size + 1) scope.names (cloFrom X.env.cells scope.names []) = cl at I4
  have xG := aG s3 (upd G2 D (.dT [])) s3.heap.objs.size cl fa
  have xT := aT s3 (upd G2 D (.dT [])) s3.heap.objs.size cl fa
  have yK := bK s3 (upd G2 D (.dT [])) s3.heap.objs.size cl fa
  have yV := bV s3 (upd G2 D (.dT [])) s3.heap.objs.size cl fa
  show codeAny _ _ (.compStart (.DictComp kx vx [⟨tA, iA, fA, 0⟩] scope pos) 0 (.ref ia) (.ref D) (compEnvC scope cl s3.heap.objs.size X.env)) (compPost (model X.prog X.w) X.A X.xe none (EP X pins σ Q) (.ref D) s3.heap.objs.size) ⟨pushCells (s3.heap.push { cls := .type "dict", data := .dict #[] }) scope.names, s3.gens, s3.drawn, s3.toks, s3.os⟩
  have nofa : ∀ b ∈ fa, (upd G2 D (.dT [])) b = none := fun b hb => (fr3 b hb).1.1
  generalize ece : compEnvC scope cl s3.heap.objs.size X.env = ce at I4 xG xT yK yV ⊢
  have cloc : ce.locals = s3.heap.objs.size := ece ▸ rfl
  generalize eG3 : upd G2 D (.dT []) = G3 at I3 I4 xG xT yK yV w0 nofa fr3
  generalize es4 : (⟨pushCells (s3.heap.push { cls := .type "dict", data := .dict #[] }) scope.names, s3.gens, s3.drawn, s3.toks, s3.os⟩ : Shared) = s4 at I4 ⊢
  have sa4 : na 0 s4.heap := TA.keep _ _ _ sa3 fun b _ o e => es4 ▸ pushCells_keeps _ _ _ _ (Heap.get?_push_of_some _ e)
  have held : ∀ {σ' : L2.St} {H' : Hp} {s' : Shared}, Inv (X.blk s3 G3 scope ce fa) [] σ' H' s' → (∀ b ∈ fa, H' b = none) → ∀ b ∈ fa, FpOk (X.blk s3 G3 scope ce fa) [] H' b := fun I' hn b hb =>
    ⟨hn b hb, (I'.ok.exf b hb).1, I'.ok.exfs b hb, .inl hb, fun x c e => (I'.ok.exf b hb).2 x c e, fun p (hp : p ∈ ([] : List (Addr × Obj)) ++ []) => by simp at hp⟩
  have loop : codeAny (model X.prog X.w) X.A (.compLoop (.DictComp kx vx [⟨tA, iA, fA, 0⟩] scope pos) 0 (.ref ia) (.ref D) ce) (compPost (model X.prog X.w) X.A X.xe none (EP X pins σ Q) (.ref D) s3.heap.objs.size) s4 := by
    refine codeAny_loop rfl (fun n s' => ∃ i H', Inv (X.blk s3 G3 scope ce fa) [] (wipe σ (own.map (·.2))) H' s' ∧ na i s'.heap ∧ (∀ b ∈ fa, H' b = none) ∧ W i n H') (fun n s5 ⟨i, H5, I5, sa5, no5, w5⟩ => ?_) m0 ⟨0, G3, I4, sa4, nofa, w0⟩
    show wpAny _ X.A ((compTurn (.DictComp kx vx [⟨tA, iA, fA, 0⟩] scope pos) 0 (.ref ia) (.ref D) ce).onRaise fun x => do noteFrame x ce; theTreesLotGoes x) _ _ s5
    refine wpAny_noted ?_
    show wpAny _ _ (standAt iA.pos >>= _) _ _ _
    refine wpAny_bind (wpAny_standAt ?_)
    show wpAny _ _ (pyNext (.ref ia) >>= _) _ _ _
    rcases turn i n H5 w5 with ⟨stop, fin⟩ | ⟨go, Nx, down, step⟩
    · refine wpAny_bind (thnF (TA.done (X.blk s3 G3 scope ce fa) rfl rfl rfl hc i [] s5 _ H5 (fun _ _ => False) I5 (held I5 no5) sa5 stop) fun r s6 ⟨er, I6⟩ => ?_)
      subst er
      refine wpAny_pure ?_
      -- back in the def
      have I7 : Inv X pins σ H5 s6 := I3.call' (ch := fa) I6.os I6.base I6.hok I6.bare fun b hb => by
        obtain ⟨_, p1, _, p3, p4, p5⟩ := (fr3 b hb).1
        exact ⟨p3, p1, p4, p5⟩
      have free : H5 s3.heap.objs.size = none := cloc ▸ (show H5 ce.locals = none from I6.free)
      obtain ⟨m, (ns : s6.heap.Ns ce.locals m), _⟩ := I6.loc
      rw [cloc] at ns
      obtain ⟨f0, f1, f2, f3, f4, f5⟩ := I3.fpOk (Nat.le_refl _) free
      exact ⟨m, ns, fun _ sb => ⟨.ref D, H5, I7.turned (t' := s6.toks) (fun b o hb e => (sb.2 b hb).trans e) f0 f1 f3 f4 f5, rfl, fin⟩⟩
    · refine wpAny_bind (thnF (TA.item (X.blk s3 G3 scope ce fa) rfl rfl rfl hc i [] s5 _ H5 (fun _ _ => False) I5 (held I5 no5) sa5 go) fun r s6 ⟨u, er, g6⟩ => ?_)
      subst er
      show wpAny _ _ (letOwnedTupleGo tA (.ref ia) u >>= _) _ _ _
      refine wpAny_bind (thnF g6 fun _ s7 ⟨x, H7, I7, r7, y7, sa7, no7⟩ => ?_)
      refine wpAny_bind (thnF (xG.run _ s7 _ H7 x u _ (I7.pinned (held I7 no7) (TA.obj _ _ sa7)) r7 (step x H7 y7)) fun _ s8 ⟨σ8, H8, I8, hw8, q8⟩ => ?_)
      refine wpAny_bind (thnF (xT.run _ s8 σ8 H8 _ I8 q8) fun b s9 ⟨H9, I9, q9⟩ => ?_)
      -- the turn's end
      have back : ∀ {s' : Shared} {H' : Hp}, Inv (X.blk s3 G3 scope ce fa) ([] ++ pinsAt fa s7.heap) σ8 H' s' → Nx H' →
          ∃ m, m < n ∧ ∃ i H', Inv (X.blk s3 G3 scope ce fa) [] (wipe σ (own.map (·.2))) H' s' ∧ na i s'.heap ∧ (∀ b ∈ fa, H' b = none) ∧ W i m H' := fun {s' H'} I' nx => by
        obtain ⟨m', lt, w'⟩ := down H' nx
        have stay : ∀ b ∈ fa, ∀ o, s7.heap.get? b = some o → s'.heap.get? b = some o ∧ H' b = none := fun b hb o e => by
          have z := I'.pin (b, o) (List.mem_append_right _ (List.mem_append_right _ (mem_pinsAt hb e)))
          exact ⟨z.1, z.2.1⟩
        exact ⟨m', lt, i + 1, H', (I'.unpinned (pins := [])).weak (by rw [← hw8, wipe_length]) (fun j v e => (wipe_some (hw8 ▸ e)).1), TA.keep _ _ _ sa7 fun b hb o e => (stay b hb o e).1, fun b hb => (TA.obj _ _ sa7 b hb).elim fun o z => (stay b hb o z.1).2, w'⟩
      cases b with
      | false =>
        simp only [Bool.false_eq_true, if_false] at q9 ⊢
        exact wpAny_pure ⟨rfl, back I9 q9⟩
      | true =>
        simp only [if_true] at q9 ⊢
        refine wpAny_bind (wpAny_bind (thnF (yK.run _ s9 σ8 H9 _ I9 q9) fun kv s10 ⟨yk, H10, I10, r10, q10⟩ => ?_))
        refine wpAny_bind (wpAny_holding (thnF (yV.run _ s10 σ8 H10 _ I10 q10) fun vv s11 ⟨yv, H11, I11, r11, kvs, kk, b, ek, eb, d11, lt11, ny⟩ => ?_))
        subst ek
        have ekv : kv = Value.ref b := r10
        rw [ekv]
        exact wpAny_bind (wpAny_standAt (wpAny_holding (put_tup (X := (X.blk s3 G3 scope ce fa)) hu I11 d11 lt11 eb r11 fun s12 I12 => wpAny_pure ⟨rfl, back I12 ny⟩)))
  exact codeAny_compStart_dict loop (TA.self X.A 0 _ _ _ sa4 loop)
end
end L2

/-! Z12: sorted of pairs of ints. -/
namespace L2
open PySem PySem.Spec PyProof.Rows
/-! ### sorted(a list of pairs of ints) -/
abbrev Pr := Addr × Int × Int
def prV (p : Pr) : List V := [.int p.2.1, .int p.2.2]
def prDat (p : Pr) : PyData := .tuple [.int p.2.1, .int p.2.2]
def prLe (p q : Pr) : Bool := decide (p.2.1 < q.2.1 ∨ (p.2.1 = q.2.1 ∧ p.2.2 ≤ q.2.2))
def rSortPr (K : PySem.W.Frag) : List V → Hp → VK → Prop := fun vs H Q => ∃ (a : Addr) (ks : List Pr), vs = [V.ref a] ∧ SqL K H a (ks.map fun p => V.ref p.1) ∧ (∀ p ∈ ks, SqT K H p.1 (prV p)) ∧ ∀ q, H q = none → Q (.ref q) (upd H q (.lst ((ks.mergeSort prLe).map fun p => V.ref p.1)))
section
variable {X : Cx}
theorem pr_reads {pins : List (Addr × Obj)} {σ : St} {H : Hp} {s : Shared} (I : Inv X pins σ H s) : ∀ ks : List Pr, (∀ p ∈ ks, SqT X.K H p.1 (prV p)) →
    PySem.W.EachIs (fun v (b : Pr) => v = Value.ref b.1) (ks.map fun p => Value.ref p.1) ks ∧ PySem.W.EachIs (fun v (b : Pr) => ∃ as, Reads s.heap v (prDat b) as) (ks.map fun p => Value.ref p.1) ks
  | [], _ => ⟨.nil, .nil⟩
  | p :: ks, h => by
    obtain ⟨h1, h2⟩ := pr_reads I ks fun q hq => h q (List.mem_cons_of_mem _ hq)
    exact ⟨.cons rfl h1, .cons (Dp.reads I _ (.ref p.1) _ (.tup (h p List.mem_cons_self) (.cons (.int _) (.cons (.int _) .nil))) rfl) h2⟩
theorem refs_eachP : ∀ {vs : List Value} {ks : List Pr}, PySem.W.EachIs (fun v (b : Pr) => v = Value.ref b.1) vs ks → vs = ks.map fun p => Value.ref p.1
  | _, _, .nil => rfl
  | _, _, .cons h t => by rw [h, refs_eachP t, List.map_cons]
theorem prLe_eq : PySem.W.dataLe false prDat = prLe := PySem.W.dataLe_ii (fun b : Pr => b.2.1) (fun b : Pr => b.2.2)
theorem refs_of_valsP : ∀ {ks : List Pr} {us : List Value}, Vals (ks.map fun p => V.ref p.1) us → us = ks.map fun p => Value.ref p.1
  | [], _, .nil => rfl
  | p :: ks, _, .cons r t => by
    cases r
    rw [refs_of_valsP t] <;> rfl
theorem vals_of_refsP : ∀ (ks : List Pr), Vals (ks.map fun p => V.ref p.1) (ks.map fun p => Value.ref p.1)
  | [] => .nil
  | p :: ks => .cons rfl (vals_of_refsP ks)
theorem cr_sortPr (hu : X.A.units + 64 < cLine) : CallR X (.builtin "sorted") (rSortPr X.K) := by
  intro pins s σ H vs us Q I r h
  obtain ⟨a, ks, rfl, hs, hk, q⟩ := h
  rw [Vals.ref1 r]
  obtain ⟨its, rv, hl, hz⟩ := I.list hs
  have ei : its = ks.map fun p => Value.ref p.1 := refs_of_valsP rv
  subst ei
  obtain ⟨e1, e2⟩ := pr_reads I ks hk
  rw [List.length_map] at hz
  refine PySem.W.sorted_data (R := fun v (b : Pr) => v = Value.ref b.1) (enc := prDat) (bs := ks) hl.isList e1 e2 (PySem.W.AllAlike.of fun b b' => ?_) (PySem.W.Sortable.tuples fun b => ⟨_, _, rfl⟩) hz (fun b hb => ?_) fun out hlen eo => ?_
  · show PySem.W.alike (.tuple [.int b.2.1, .int b.2.2]) (.tuple [.int b'.2.1, .int b'.2.2]) = true
    simp [PySem.W.alike, PySem.W.alikeAll]
  · show X.A.units + 2 + (PyData.tuple [.int b.2.1, .int b.2.2]).depth < cLine
    simp [PyData.depth, PyData.depthAll]; omega
  · rw [prLe_eq] at eo
    have eo' := refs_eachP eo
    obtain ⟨ep, he⟩ := PyProof.Rows.sortedAll_at s.heap (ks.map fun p => Value.ref p.1) out.toArray
    have hlen2 : ((ks.mergeSort prLe).map fun p => V.ref p.1).length ≤ sizeLine := by rw [List.length_map, List.length_mergeSort]; exact hz
    refine ⟨.ref _, upd H (s.heap.objs.size + 1) (.lst ((ks.mergeSort prLe).map fun p => V.ref p.1)), I.laid (t' := s.toks) (fun _ _ => PyProof.Rows.sortedAll_old) (Nat.le_succ _) ⟨hlen2, out, ep, ?_, he⟩, rfl, q _ (I.hok.fresh (Nat.le_succ _))⟩
    rw [eo']; exact vals_of_refsP _
end
end L2

/-! Z13: a def of the text whose code object is told (it holds a def of its own); the end with that def's table of code objects where no repr is under way. -/
namespace L2
open PySem PySem.Spec PyProof.Rows
structure DfC (K : PySem.W.Frag) (mg : Str → Option Value) (x : Str) (st : Stmt) (ps : List Str) (c : Addr) : Prop where
  ex : ∃ (f : Addr) (oc : Value) (od : Option Addr) (kV doc pm : Value) (an : Option Addr) (ct : Value) (osl : Array (Option Value)),
    K.lookup f = some ⟨oc, od, .func (PySem.W.fnOf x x (defArgs st) (defBody st) (defScope st) .none kV doc pm an (.ref c) ct), osl⟩ ∧ PySem.W.codeIn K (.ref c) x = true ∧ PySem.W.keepIn K (.ref f) = true ∧ mg x = some (.ref f) ∧
      Binds K (PySem.W.fnOf x x (defArgs st) (defBody st) (defScope st) .none kV doc pm an (.ref c) ct) ps []
theorem cd_of {K : PySem.W.Frag} {x : Str} {f c T : Addr} {oc : Value} {od : Option Addr} {fd : FuncData} {osl : Array (Option Value)} (a : PySem.W.nsIn K mainGlobals x = some (some (.ref f))) (l : K.lookup f = some ⟨oc, od, .func fd, osl⟩)
    (t : PySem.W.tabIn K x = some (c, T)) : fd.code = .ref c := by
  unfold PySem.W.tabIn at t
  simp only [a, l] at t
  cases e : fd.code with
  | ref b =>
    simp only [e] at t
    split at t
    · split at t
      · cases t; rfl
      · cases t
    · cases t
  | _ => simp only [e] at t; cases t
section
variable {P : Program} {w : World} {K : PySem.W.Frag} {mg : Str → Option Value} {base : Heap} {x : Str} {st : Stmt} {ps N : List Str} {k : Nat} {sp : Sp} {c T : Addr}
theorem DfC.mk' {f : Addr} {oc : Value} {od an : Option Addr} {osl : Array (Option Value)} {kV doc pm cdv ct : Value} (l : K.lookup f = some ⟨oc, od, .func (PySem.W.fnOf x x (defArgs st) (defBody st) (defScope st) .none kV doc pm an cdv ct), osl⟩)
    (cc : PySem.W.codeIn K cdv x = true) (kp : PySem.W.keepIn K (.ref f) = true) (g : mg x = some (.ref f)) (a : PySem.W.nsIn K mainGlobals x = some (some (.ref f))) (t : PySem.W.tabIn K x = some (c, T))
    (h : ∀ (kV doc pm : Value) (an : Option Addr) (cdv ct : Value) (us : List Value), us.length = ps.length → bindArgs (PySem.W.fnOf x x (defArgs st) (defBody st) (defScope st) .none kV doc pm an cdv ct) ⟨us, []⟩ = pure (ps.zip us)) : DfC K mg x st ps c := by
  have e : cdv = .ref c := cd_of a l t
  subst e
  exact ⟨f, oc, od, kV, doc, pm, an, ct, osl, l, cc, kp, g, (fun_mk l cc kp).binds h⟩
theorem DfC.ok (D : DfC K mg x st ps c) (S : FnScope N ps (defScope st)) (len : ∀ vs H Q E, sp vs H Q E → vs.length = ps.length)
    (hb : ∀ (f : Addr) (A : Around) (outer : List Env) (s : Shared) (H : Hp) (vs : List V) (Q : VK) (E : XK), Room k (A.deeper (envOfC x (defScope st) s.heap.objs.size f (.ref c))) → sp vs H Q E →
      ∃ t, PSs (cxOf CX0 P w K mg base N x (defScope st) f (.ref c) A outer s H E).nox (defBody st) t ∧ t { nx := fun _ H' => Q .non H', rt := Q } (start N vs) H) : Kn P w K mg base CX0 (k + 1) x st ps sp := by
  obtain ⟨f, oc, od, kV, doc, pm, an, ct, osl, l, cc, kp, g, b⟩ := D.ex
  refine ⟨f, _, fn_of l cc S len fun A outer s H vs Q E hr h => ?_, g, kp, b, kV, doc, pm, an, .ref c, ct, rfl⟩
  obtain ⟨t, h1, h2⟩ := hb f A outer s H vs Q E hr h
  exact ⟨t, h1.nox, h2⟩
end
/-! ### the end -/
theorem law_callQT {P : Program} {w : World} {K : PySem.W.Frag} {mg mb : Str → Option Value} {k : Nat} {fa a cO tO : Addr} {fd : FuncData} {x : Str} {sp : Sp} {s : Shared} {vs : List Value} {ns : List Int}
    (kin : K.In s.heap) (glob : s.heap.Ns mainGlobals mg) (blt : s.heap.Ns builtinsNs mb) (boot : ∀ x : Str, x ≠ "__name__" → mb x = bootBuiltins x) (lim : s.heap.NoLimit) (gens : s.gens = #[])
    (empty : s.heap.get? tO = some { cls := .none, data := .fields #[] }) (out : K.lookup tO = none) (code : PySem.W.CodeHd s.heap cO tO)
    (mod : ∃ (bm : Addr) (ob : Obj), mg "__builtins__" = some (.ref bm) ∧ bm ≠ builtinsNs ∧ s.heap.get? bm = some ob ∧ ob.cls = .type "module" ∧ ob.dict = some builtinsNs ∧ ob.data = .plain)
    (ha : s.heap.get? a = some { cls := .type "list", data := .seq vs.toArray }) (hi : IntsAre vs ns) (hl : ns.length ≤ sizeLine) (hr : Room k callerA)
    (F : ∀ base : Heap, K.In base → base.Ns mainGlobals mg → LamX.TabB base mg cO tO → Qui P w K mg base k fa fd [x] sp) (bind : ∀ (s : Shared) (u : Value), BindsTo s fd ⟨[u], []⟩ [(x, u)])
    (hsp : ∀ H : Hp, H tO = some (.tbl #[]) → SqL K H a (ns.map V.int) → sp [.ref a] H (fun v _ => v = .bl true) fun _ _ _ => False) :
    codeAny (model P w) callerA (.call (.ref fa) ⟨[.ref a], []⟩) (fun r s' => r = .ok (.ret (.bool true)) ∧ OldK s.heap s'.heap ∧ s'.os = s.os ∧ AllBare s'.gens) s := by
  obtain ⟨H0, _, script, held0, alone⟩ := script_hp (P := P) (w := w) kin ha hi hl
  have r := vals_ints hi
  have aT : a ≠ tO := fun z => by
    rw [z, empty] at ha
    cases ha
  have free : H0 tO = none := by
    rcases z : H0 tO with _ | u
    · rfl
    · exact absurd (alone tO u z).1.symm aT
  -- the table is tracked besides
  have top : upd H0 tO (.tbl #[]) tO = some (.tbl #[]) := upd_same
  have side : ∀ {b : Addr}, b ≠ tO → upd H0 tO (.tbl #[]) b = H0 b := fun n => upd_ne n
  have scriptT : SqL K (upd H0 tO (.tbl #[])) a (ns.map V.int) := by
    rcases script with (z | ⟨o, z⟩) | z
    · exact .inl (.inl ((side aT).trans z))
    · exact .inl (.inr ⟨o, (side aT).trans z⟩)
    · exact .inr z
  have cases3 : ∀ b o, upd H0 tO (.tbl #[]) b = some o → (b = tO ∧ o = .tbl #[]) ∨ (b = a ∧ b ≠ tO ∧ K.lookup a = none ∧ o = .frz { cls := .type "list", data := .seq vs.toArray } (.lst (ns.map V.int))) := fun b o z => by
    by_cases n : b = tO
    · subst n
      exact .inl ⟨rfl, (Option.some.inj (top.symm.trans z)).symm⟩
    · obtain ⟨e1, e2, e3⟩ := alone b o ((side n).symm.trans z)
      exact .inr ⟨e1, n, e2, e3⟩
  have held : HOk P w (upd H0 tO (.tbl #[])) s.heap := fun b o z => by
    rcases cases3 b o z with ⟨rfl, rfl⟩ | ⟨rfl, _, _, rfl⟩
    · exact empty
    · exact ⟨ha, by rw [List.length_map]; exact hl, vs, _, r, ha⟩
  have low : ∀ {b : Addr} {o : Obj}, s.heap.get? b = some o → (∀ xs n, o.data ≠ .seq xs n ∨ K.lookup b ≠ none) → (o.data ≠ .fields #[] ∨ K.lookup b ≠ none) → (hidT s.heap (upd H0 tO (.tbl #[]))).get? b = some o := fun {b o} e d d2 => by
    refine hidT_get e ?_
    rcases z : upd H0 tO (.tbl #[]) b with _ | u
    · rfl
    · rcases cases3 b u z with ⟨rfl, _⟩ | ⟨rfl, _, n, _⟩
      · rw [empty] at e
        cases e
        rcases d2 with y | y
        · exact absurd rfl y
        · exact absurd out y
      · rw [ha] at e
        cases e
        rcases d vs.toArray 0 with y | y
        · exact absurd rfl y
        · exact absurd n y
  have spaces : ∀ {b : Addr} {m : Str → Option Value}, s.heap.Ns b m → (hidT s.heap (upd H0 tO (.tbl #[]))).Ns b m := fun ⟨o, es, ep, e, d, z⟩ => ⟨o, es, ep, low e (fun xs n => .inl (by rw [d]; intro q; cases q)) (.inl (by rw [d]; intro q; cases q)), d, z⟩
  have kinB : K.In (hidT s.heap (upd H0 tO (.tbl #[]))) := fun b o e => low (kin b o e) (fun xs n => .inr (by intro q; rw [e] at q; cases q)) (.inr (by intro q; rw [e] at q; cases q))
  have tab : LamX.TabB (hidT s.heap (upd H0 tO (.tbl #[]))) mg cO tO := by
    refine ⟨?_, ?_, fun z => ?_⟩
    · obtain ⟨o, us, file, tf, flags, tg, inF, text, tt, e1, r1, r2, r3, rest⟩ := code
      refine ⟨o, us, file, tf, flags, tg, inF, text, tt, low e1 (fun xs n => .inl ?_) (.inl ?_), r1, r2, r3, rest⟩
      · rw [r2]; intro q; cases q
      · rw [r2]; intro q
        cases q
        simp at r3
    · obtain ⟨bm, ob, b1, b2, b3, b4, b5, b6⟩ := mod
      refine ⟨bm, ob, b1, b2, fun q => ?_, fun q => ?_, low b3 (fun xs n => .inl ?_) (.inl ?_), b4, b5, b6⟩
      · obtain ⟨o, es, ep, e, d, _⟩ := glob
        rw [q, e] at b3
        cases b3
        rw [d] at b6
        cases b6
      · rw [q, empty] at b3
        cases b3
        cases b6
      · rw [b6]; intro q; cases q
      · rw [b6]; intro q; cases q
    · obtain ⟨o, es, ep, e, d, _⟩ := glob
      rw [z, empty] at e
      cases e
      cases d
  have room : Env0 P w K mg (hidT s.heap (upd H0 tO (.tbl #[]))) callerA [] s (upd H0 tO (.tbl #[])) :=
    ⟨rfl, ⟨kinB, spaces glob, ⟨mb, spaces blt, boot⟩, lim.imp fun mc z => ⟨spaces z.1, z.2⟩⟩, fun _ _ => of_hidT, Nat.le_of_eq (hidT_size _ _), trivial, fun b z => absurd (show b ∈ ([] : List Addr) from z) List.not_mem_nil, held, .of_eq gens⟩
  refine codeAny_mono ((F _ kinB (spaces glob) tab).go callerA [] s _ ⟨[.ref a], []⟩ [.ref a] [.ref a] _ _ hr rfl room (bind s (.ref a)) (.cons rfl .nil) (hsp _ top scriptT)) ?_
  rintro (e | fl) s' z
  · exact z.elim
  match fl, z with
  | .next, z => exact z.elim
  | .brk, z => exact z.elim
  | .cont, z => exact z.elim
  | .ret u, ⟨v, H', os, bare, un, held', rv, q⟩ =>
    cases (show v = V.bl true from q)
    cases (show u = Value.bool true from rv)
    obtain ⟨more, grown⟩ := un.tbls tO #[] top
    have new := held' tO _ grown
    have others : ∀ b o, b ≠ tO → s.heap.get? b = some o → s'.heap.get? b = some o := fun b o n e => by
      rcases y : upd H0 tO (.tbl #[]) b with _ | u
      · exact un.keep b o e y (fun z => absurd (show b ∈ ([] : List Addr) from z) List.not_mem_nil) (fun z => absurd (show b ∈ ([] : List Addr) from z) List.not_mem_nil)
      · rcases cases3 b u y with ⟨z, _⟩ | ⟨rfl, _, _, rfl⟩
        · exact absurd z n
        · have h1 := (held b _ y).1
          have h2 := (held' b _ (un.frzs b _ _ y)).1
          rw [e] at h1
          cases h1
          exact h2
    refine ⟨rfl, ⟨fun b o e => ?_, fun b o e => ?_⟩, os, bare⟩
    · by_cases n : b = tO
      · subst n
        rw [empty] at e
        cases e
        exact .inr (.inl ⟨(code.tab empty).isCodeTable, rfl, #[], more, rfl, by rw [Array.empty_append]; rw [Array.empty_append] at new; exact new⟩)
      · exact .inl (others b o n e)
    · by_cases n : b = tO
      · subst n
        exact ⟨_, new⟩
      · exact ⟨o, others b o n e⟩
theorem walk_ofQT {l : PySem.W.OpenLaw} {n k : Nat} {q : Program} {loose : List Str} {XP : (Str → Option Value) → Heap → Prop} {YP : World → Heap → Prop} {d : DefRec} {K : Params → PySem.W.Frag} {sp : World → Addr → Sp} {x : Str} (y : Str)
    (hn : l.most = some n) (hn2 : n ≤ sizeLine) (hdf : d.params.defaults = []) (hr : Room k callerA) (found : ((recsOf q).any fun e => e.name == y) = true) (kin : ∀ (w : World) (h : Heap), YP w h → (K w.params).In h)
    (F : ∀ (w : World) (mg : Str → Option Value) (fa : Addr) (h : Heap), (K w.params).In h → h.Ns mainGlobals mg → mg d.name = some (.ref fa) →
      ∃ (fd : FuncData) (cO tO : Addr), PySem.W.tabIn (K w.params) y = some (cO, tO) ∧ (K w.params).lookup tO = none ∧ (∀ (s : Shared) (u : Value), BindsTo s fd ⟨[u], []⟩ [(x, u)]) ∧
        ∀ base : Heap, (K w.params).In base → base.Ns mainGlobals mg → LamX.TabB base mg cO tO → Qui l.prog w (K w.params) mg base k fa fd [x] (sp w tO))
    (hsp : ∀ (w : World) (tO : Addr) (H : Hp) (a : Addr) (ns : List Int), ns.length ≤ n → H tO = some (.tbl #[]) → SqL (K w.params) H a (ns.map V.int) → sp w tO [.ref a] H (fun v _ => v = .bl true) fun _ _ _ => False) :
    PySem.W.WalkO q loose XP YP l.row.toRowW d [] (fun f vs => PySem.call f vs) := by
  refine Att.attach_callB hn hdf ?_
  intro w _ s₁ mg mb fa o pm cd doc a vs ns G Y _ _ _ named script whole many _ bare
  obtain ⟨fd, cO, tO, ht, out, binds, holds⟩ := F w mg fa _ (kin w _ Y) G.T.g named
  obtain ⟨dL, hd⟩ := Option.isSome_iff_exists.mp (List.find?_isSome.mpr (List.any_eq_true.mp found))
  obtain ⟨code, empty⟩ := PySem.W.tab_of G.T (kin w _ Y) hd ht
  exact law_callQT (kin w _ Y) G.T.g G.T.b G.T.builtins G.T.nolimit bare empty out code G.T.bmain script whole (Nat.le_trans many hn2) hr holds binds fun H e z => hsp w tO H a ns many e z
end L2

/-! Z14: name = {.. for ..} on one line, the name a local. -/
namespace L2
open PySem PySem.Spec PyProof.Rows
theorem sw_trueD {ka vb : Expr} {gens : List Comprehension} {sc : Scope} {p1 p2 : Pos} {y : Str} {ln : Nat} {env : Env} (fk : env.scope.kind = .function) (loc : env.scope.names.lookup y = some .local) (line : (p2.line == p1.line) = true)
    (own : (sc.names.any fun (n, k) => n == y && (k == .local || k == .cell)) = false) : swapsWith (.DictComp ka vb gens sc p1) (some (.Name y p2)) ln env = pure true := by
  have b : env.blockKind = .function := by
    unfold Env.blockKind
    rw [fk] <;> rfl
  have k : env.kindOf y = some .local := loc
  unfold swapsWith
  simp only [b, k, own, Expr.pos, line]
  rfl
section
variable {X : Cx}
theorem ps_setDc {i : Nat} {y : Str} {p2 : Pos} {ka vb tg src : Expr} {fs : List Expr} {sc : Scope} {own : List (Str × Nat)} {p1 p3 : Pos} {wi : TI} {g : TG} {tt : TT} {tk tv : TE} (calm : X.calm = true) (nd : X.N.Nodup) (at_ : X.N[i]? = some y) (loc : X.env.scope.names.lookup y = some .local)
    (used : swapsWith (.DictComp ka vb [⟨tg, src, fs, 0⟩] sc p1) (some (.Name y p2)) p3.line X.env = pure true) (from_ : PI X tg src wi) (ok : BlkOk X.N X.env.scope sc own)
    (to_ : ∀ (s : Shared) (H : Hp) (C : Addr) (cl : List (Str × Addr)) (fp : List Addr), PG (X.blk s H sc (compEnvC sc cl C X.env) fp) tg g) (ifs : ∀ (s : Shared) (H : Hp) (C : Addr) (cl : List (Str × Addr)) (fp : List Addr), PTs (X.blk s H sc (compEnvC sc cl C X.env) fp) fs tt)
    (key : ∀ (s : Shared) (H : Hp) (C : Addr) (cl : List (Str × Addr)) (fp : List Addr), PE (X.blk s H sc (compEnvC sc cl C X.env) fp) ka tk) (val : ∀ (s : Shared) (H : Hp) (C : Addr) (cl : List (Str × Addr)) (fp : List Addr), PE (X.blk s H sc (compEnvC sc cl C X.env) fp) vb tv)
    (plain : ∀ x, foldedSetIterable src X.env x = pure x := by intro _; rfl) : PS X (.Assign [.Name y p2] (.DictComp ka vb [⟨tg, src, fs, 0⟩] sc p1) p3) (tAsg (tDc wi g tt tk tv (own.map (·.2))) (gName i)) := by
  constructor
  intro pins s σ H D I h
  rw [exec_Assign_Name_used _ _ _ _ used]
  refine wpAny_bind (wpAny_standAt (wpAny_bind ?_))
  show wpAny _ X.A (do let _ ← comprehension (.DictComp ka vb [⟨tg, src, fs, 0⟩] sc p1) sc X.env (firstIterPos [⟨tg, src, fs, 0⟩] p1) newDict false (eval src X.env) (some (assign (.Name y p2) X.env))) _ _ s
  have h : tDc wi g tt tk tv (own.map (·.2)) σ H (fun x H1 => gName i x σ H1 D.nx) := h
  refine wpAny_bind (thn (dc_core (Qf := fun _ t => SP X pins D .next t) calm nd I from_ ok to_ ifs key val plain h ?_) fun _ _ z => wpAny_pure (wpAny_pure z))
  rintro L C t m H' J q ns ⟨f0, f1, f2, f3, f4, f5⟩
  show wpAny _ _ (assign (.Name y p2) X.env (.ref L)) _ _ _
  refine wpAny_assign_Name (store_ok2 (v := V.ref L) J nd at_ (.inl loc) rfl ?_ (.inr loc))
  rintro t2 J2 ⟨a, but, ha⟩
  have other : C ≠ a := by
    rcases ha with z | z
    · rw [z]; exact f1
    · intro e; exact f4 y a z e.symm
  exact ⟨m, ns.sameBut but other, fun h3 but3 => ⟨_, H', J2.turned (t' := t2.toks) (fun b o hb e => (but3.2 b hb).trans e) f0 f1 f3 f4 f5, q⟩⟩
end
end L2

/-! Z15: a > b, a < b of nested data of the same shape (lists of ints, ..). -/
namespace L2
open PySem PySem.Spec PyProof.Rows
/-- both readable, alike, not deep -/
structure Cmp (K : PySem.W.Frag) (H : Hp) (x y : V) (d e : PyData) : Prop where
  l : Dp K H x d
  r : Dp K H y e
  al : PySem.W.alike d e = true
  nn : d ≠ .none
  dp : d.depth ≤ 60
def rGtData (K : PySem.W.Frag) : R2 := fun x y H Q => ∃ d e, Cmp K H x y d e ∧ Q (.bl (PySem.W.dataLt e d)) H
def rLtData (K : PySem.W.Frag) : R2 := fun x y H Q => ∃ d e, Cmp K H x y d e ∧ Q (.bl (PySem.W.dataLt d e)) H
section
variable {X : Cx}
theorem op_gtData (room : X.A.units + 64 < cLine) : OpR X (compareOp .Gt) (rGtData X.K) := by
  rintro pins s σ H x y u v Q I rx ry ⟨d, e, c, q⟩
  obtain ⟨_, hd⟩ := Dp.reads I d x u c.l rx
  obtain ⟨_, he⟩ := Dp.reads I e y v c.r ry
  have := c.dp
  exact PySem.W.gt_data hd he c.al c.nn (by omega) ⟨.bl _, H, I, rfl, q⟩
theorem op_ltData (room : X.A.units + 64 < cLine) : OpR X (compareOp .Lt) (rLtData X.K) := by
  rintro pins s σ H x y u v Q I rx ry ⟨d, e, c, q⟩
  obtain ⟨_, hd⟩ := Dp.reads I d x u c.l rx
  obtain ⟨_, he⟩ := Dp.reads I e y v c.r ry
  have := c.dp
  exact PySem.W.lt_data hd he c.al c.nn (by omega) ⟨.bl _, H, I, rfl, q⟩
end
end L2

/-! Z16: a dict is in no list of lists. -/
namespace L2
open PySem PySem.Spec PyProof.Rows
open PySem.AutoSeq1 (wpAny_loadPart')
open PySem.MeetsSeq
theorem list_eq_declines_dictZ (l b : Addr) (items : Array Value) (n : Nat) (dd dd2 : Option Addr) (sl sl2 : Array (Option Value)) (es : Array DictEntry) (ep : Nat) :
    Meets (Builtin.«list.__eq__» ⟨[.ref l, .ref b], []⟩) (fun _ R s => s.heap.get? l = some { cls := .type "list", dict := dd, data := .seq items n, slots := sl } ∧ s.heap.get? b = some { cls := .type "dict", dict := dd2, data := .dict es ep, slots := sl2 } ∧ R (.ok (.ret .notImplemented)) s) :=
  .of_wp fun prog w A R s h => by obtain ⟨hp, g, d, tk, os⟩ := s; obtain ⟨hl, hb, h⟩ := h; have f1 := F.sub_dict_list; wp_walk using wpAny_loadPart' hl, wpAny_loadPart' hb; exact ⟨_, rfl, h⟩
section
variable {prog : Program} {w : World} {A : Around} {s : Shared}
theorem dict_declinesZ {E : Value → Shared → Prop} {a b : Addr} (ta : s.TypeIs (.ref a) "dict") (tb : s.TypeIs (.ref b) "list") (Q : Value → Shared → Prop) (q : Q .notImplemented s) : wpAny (model prog w) A (call (.builtin "dict.__eq__") [.ref a, .ref b]) Q E s := by
  refine wpAny_call_entry PySem.F.slot_dict_eq_refl ta PySem.F.entry_dict_eq ?_ (PySem.F.args_dict_eq_2 _ _)
  show wpAny _ _ (Builtin.Dict.dictSlotArgs "__eq__" ⟨[.ref a, .ref b], []⟩ >>= _) _ _ s
  refine wpAny_bind ?_
  unfold Builtin.Dict.dictSlotArgs
  refine wpAny_bind (wpAny_notOrdered_dict ta ?_)
  show wpAny _ _ (pure (Value.ref a, Value.ref b)) _ _ s
  refine wpAny_pure ?_
  refine wpAny_bind (wpAny_isInstance (T := "list") tb PySem.F.sub_list_dict ?_)
  simp only [Bool.not_false, if_true]
  exact wpAny_bind (wpAny_rule (wpAny_pure ⟨_, rfl, q⟩))
theorem rc_list_dictZ {l b : Addr} {items : Array Value} {o2 : Obj} {es : Array DictEntry} {ep : Nat} (hl : s.heap.IsList l items) (hb : s.heap.get? b = some o2) (c2 : o2.cls = .type "dict") (d2 : o2.data = .dict es ep) (hu : A.units < cLine) : SeqAt.RcAt A s (.ref l) (.ref b) false := fun prog w E Q h => by
  obtain ⟨⟨cls, dd, data, sl⟩, ho, hc, n, hd⟩ := id hl
  obtain ⟨cls2, dd2, data2, sl2⟩ := o2
  simp only at hc hd c2 d2
  subst hc hd c2 d2
  have hne : l ≠ b := fun e => by
    subst e
    rw [ho] at hb
    exact absurd (congrArg Obj.cls (Option.some.inj hb)) (by simp)
  exact (SeqAt.rc_eq_decline_or (k := false) ⟨_, ho, rfl⟩ ⟨_, hb, rfl⟩ (by decide) F.sub_dict_list F.slot_list_eq F.slot_dict_eq_refl
    (fun _ hq => call_meets F.slot_list_eq ⟨_, ho, rfl⟩ F.entry_list_eq (F.args_list_eq_2 _ _) (list_eq_declines_dictZ l b items n dd dd2 sl sl2 es ep) ⟨ho, hb, hq⟩)
    (fun _ hq => dict_declinesZ ⟨_, hb, rfl⟩ ⟨_, ho, rfl⟩ _ hq)
    (fun _ hq => SeqAt.wpAny_isSame_ref_other' hne ho hb (by simp) hq) (.inr hu) h)
end
/-- x in a list of lists: x may be a dict -/
def rInDd (K : PySem.W.Frag) : R2 := fun x y H Q => rInD K x y H Q ∨ ∃ (a : Addr) (kvs : List (Key × V)) (p : Addr) (xs : List V), x = .ref a ∧ H a = some (.dK kvs) ∧ y = .ref p ∧ SqL K H p xs ∧ (∀ z ∈ xs, ∃ b ys, z = .ref b ∧ SqL K H b ys) ∧ Q (.bl false) H
theorem vals_memZ {xs : List V} {us : List Value} (r : Vals xs us) : ∀ u ∈ us, ∃ x ∈ xs, RelV x u := by
  induction r with
  | nil => intro u h; cases h
  | cons h _ ih =>
    intro u hu
    rcases List.mem_cons.mp hu with rfl | hu
    · exact ⟨_, List.mem_cons_self, h⟩
    · obtain ⟨x, m, e⟩ := ih u hu
      exact ⟨x, List.mem_cons_of_mem _ m, e⟩
section
variable {X : Cx}
theorem op_inDd (hu : X.A.units + 65 < cLine) : OpR X (compareOp .In) (rInDd X.K) := by
  rintro pins s σ H x y v u Q I rx ry (h | ⟨a, kvs, p, xs, rfl, ha, rfl, hp, hz, q⟩)
  · exact op_inD hu pins s σ H x y v u Q I rx ry h
  cases (show v = Value.ref a from rx)
  cases (show u = Value.ref p from ry)
  obtain ⟨us, r, p1, _⟩ := I.list hp
  obtain ⟨_, _, _, _, da⟩ := (show ObjOk X.prog X.w H s.heap a (.dK kvs) from I.hok a _ ha)
  obtain ⟨o, es, ep, ho, ex, hd, _⟩ := da
  refine SeqAt.in_listAt (fun _ => false) p1.isList (fun z hz' => ?_) ?_
  · obtain ⟨x', mx, rx'⟩ := vals_memZ r z (by simpa using hz')
    obtain ⟨b, ys, rfl, hb⟩ := hz x' mx
    cases (show z = Value.ref b from rx')
    obtain ⟨_, _, p2, _⟩ := I.list hb
    have hcl : o.cls = .type "dict" := ex.1
    have hne : b ≠ a := fun e => by
      subst e
      obtain ⟨o', ho', hc', _⟩ := p2.isList
      rw [ho] at ho'
      rw [← Option.some.inj ho', hcl] at hc'
      exact absurd hc' (by simp)
    have ub : X.A.in1.units < cLine := by
      show X.A.units + 1 < cLine
      omega
    exact SeqAt.EqAt.of_refs hne (rc_list_dictZ p2.isList ho hcl hd ub)
  · have e : (us.toArray.any fun _ => false) = false := by simp
    rw [e]
    exact ⟨.bl false, H, I, rfl, q⟩
end
end L2

/-! Z17: len(set(a list of ints)), whether they are different or not. -/
namespace L2
open PySem PySem.Spec PyProof.Rows
/-- how many different ones -/
def dstN (ns : List Int) : Nat := (PyProof.Rows.firstMet (fun i => ns.getD i 0) ns.length).length
theorem firstMet_step (f : Nat → Int) (n : Nat) : PyProof.Rows.firstMet f (n + 1) = if (PyProof.Rows.firstMet f n).any (· == f n) = true then PyProof.Rows.firstMet f n else PyProof.Rows.firstMet f n ++ [f n] := by
  rw [PyProof.Rows.firstMet_succ]; rfl
theorem firstMet_mem (f : Nat → Int) : ∀ (n : Nat) (x : Int), x ∈ PyProof.Rows.firstMet f n ↔ ∃ i, i < n ∧ f i = x
  | 0, x => ⟨fun h => absurd h List.not_mem_nil, fun ⟨i, h, _⟩ => absurd h (Nat.not_lt_zero i)⟩
  | n + 1, x => by
    rw [firstMet_step]
    have ih := firstMet_mem f n
    by_cases c : (PyProof.Rows.firstMet f n).any (· == f n) = true
    · rw [if_pos c, ih]
      refine ⟨fun ⟨i, h, e⟩ => ⟨i, by omega, e⟩, fun ⟨i, h, e⟩ => ?_⟩
      by_cases d : i < n
      · exact ⟨i, d, e⟩
      · have : i = n := by omega
        subst this
        obtain ⟨y, my, ey⟩ := List.any_eq_true.mp c
        have ey : y = f i := beq_iff_eq.mp ey
        rw [ey] at my
        rw [← e]
        exact (ih _).mp my
    · rw [if_neg c, List.mem_append, ih, List.mem_singleton]
      refine ⟨fun h => h.elim (fun ⟨i, h, e⟩ => ⟨i, by omega, e⟩) fun h => ⟨n, by omega, h.symm⟩, fun ⟨i, h, e⟩ => ?_⟩
      by_cases d : i < n
      · exact .inl ⟨i, d, e⟩
      · have : i = n := by omega
        subst this
        exact .inr e.symm
theorem firstMet_le (f : Nat → Int) : ∀ n : Nat, (PyProof.Rows.firstMet f n).length ≤ n
  | 0 => Nat.le_refl _
  | n + 1 => by
    rw [firstMet_step]
    have ih := firstMet_le f n
    by_cases c : (PyProof.Rows.firstMet f n).any (· == f n) = true
    · rw [if_pos c]; omega
    · rw [if_neg c, List.length_append, List.length_singleton]; omega
theorem firstMet_all (f : Nat → Int) : ∀ n : Nat, (PyProof.Rows.firstMet f n).length = n ↔ ∀ i j, i < j → j < n → f i ≠ f j
  | 0 => ⟨fun _ i j _ h => absurd h (Nat.not_lt_zero j), fun _ => rfl⟩
  | n + 1 => by
    rw [firstMet_step]
    have ih := firstMet_all f n
    have le := firstMet_le f n
    by_cases c : (PyProof.Rows.firstMet f n).any (· == f n) = true
    · rw [if_pos c]
      refine ⟨fun h => by omega, fun h => ?_⟩
      obtain ⟨y, my, ey⟩ := List.any_eq_true.mp c
      have ey : y = f n := beq_iff_eq.mp ey
      obtain ⟨i, hi, e⟩ := (firstMet_mem f n y).mp my
      exact absurd (e.trans ey) (h i n hi (Nat.lt_succ_self n))
    · rw [if_neg c, List.length_append, List.length_singleton]
      refine ⟨fun h i j hij hj => ?_, fun h => ?_⟩
      · by_cases d : j < n
        · exact ih.mp (by omega) i j hij d
        · have : j = n := by omega
          subst this
          intro e
          refine c (List.any_eq_true.mpr ⟨f i, (firstMet_mem f j _).mpr ⟨i, hij, rfl⟩, ?_⟩)
          rw [e]; exact beq_self_eq_true _
      · have := ih.mpr fun i j a b => h i j a (by omega)
        omega
theorem dstN_iff (ns : List Int) : dstN ns = ns.length ↔ ns.Nodup := by
  unfold dstN
  rw [firstMet_all]
  unfold List.Nodup
  rw [List.pairwise_iff_getElem]
  refine ⟨fun h i j hi hj hij => ?_, fun h i j hij hj => ?_⟩
  · have z := h i j hij hj
    rw [List.getD_eq_getElem?_getD, List.getD_eq_getElem?_getD, List.getElem?_eq_getElem hi, List.getElem?_eq_getElem hj] at z
    exact z
  · have z := h i j (by omega) hj hij
    rw [List.getD_eq_getElem?_getD, List.getD_eq_getElem?_getD, List.getElem?_eq_getElem (by omega), List.getElem?_eq_getElem hj]
    exact z
theorem dstN_le (ns : List Int) : dstN ns ≤ ns.length := firstMet_le _ _
section
variable {X : Cx}
def tLenSetA (K : PySem.W.Frag) (ta : TE) : TE := fun σ H Q => ta σ H fun x H1 => ∃ (l : Addr) (ns : List Int), x = .ref l ∧ SqL K H1 l (ns.map V.int) ∧ ns.length ≤ 4000 ∧ Q (.int (dstN ns : Nat)) H1
theorem pe_lenSetA {a : Expr} {ta : TE} {p p2 q pos : Pos} (hg : Gl X "len") (hm : X.mg "len" = none) (hg2 : Gl X "set") (hm2 : X.mg "set" = none) (ha : PE X a ta) (hc : X.calm = true := by rfl)
    (na : starEach [a] X.env = (false, eval a X.env) :: starEach [] X.env := by rfl) : PE X (.Call (.Name "len" p) [.Call (.Name "set" p2) [a] [] q] [] pos) (tLenSetA X.K ta) := by
  refine ⟨fun pins s σ H Q I h => ?_⟩
  refine Call_ (ld_blt I hg hm boot_len ?_)
  refine PyProof.Rows.callWith_builtin1 (PyProof.Rows.args_cons ?_ rfl) rfl rfl
  refine Call_ (ld_blt I hg2 hm2 boot_set ?_)
  refine PyProof.Rows.callWith_type1 (PyProof.Rows.args_cons (thn (ha.run pins s σ H _ I h) fun v s1 ⟨x, H1, I1, r1, q1⟩ => PyProof.Rows.args_nil ?_) na) na rfl
  obtain ⟨l, ns, rfl, hq, hl, q1⟩ := q1
  cases r1
  obtain ⟨its, r, pl, hz⟩ := I1.list hq
  have hlen : its.toArray.size = ns.length := by rw [List.size_toArray, ← r.length, List.length_map]
  refine call_set_list (I1.ok.hd hc) pl.isList (by simpa using RZ.intsAre_vals r) (by rw [hlen]; unfold scanBound; omega) fun h' tk hS hk => ?_
  refine PyProof.Rows.args_nil ?_
  rw [hlen] at hS
  have le := dstN_le ns
  obtain ⟨o, es, ep, t, ho, hex, hd, _, _, _, hf, hn⟩ := hS
  have hn : es.size = dstN ns := hn
  have I2 : Inv X pins σ H1 { s1 with heap := h', toks := tk } := I1.kept fun b o e => hk b o (Heap.lt_size e) e
  exact call_len_set ho hex hd hf (by rw [hn]; omega) ⟨.int (dstN ns : Nat), H1, I2.tok _, ⟨_, by rw [hn]⟩, q1⟩
end
end L2

/-! Z18: repr where dicts are shown: no list of the program is the interpreter's table of modules. -/
namespace L2
open PySem PySem.Spec PyProof.Rows
theorem look_of_ns {K : PySem.W.Frag} {a : Addr} {x : Str} {r : Option Value} (h : PySem.W.nsIn K a x = some r) : ∃ o, K.lookup a = some o := by
  unfold PySem.W.nsIn at h
  cases e : K.lookup a with
  | some o => exact ⟨o, rfl⟩
  | none => rw [e] at h; cases h
def rReprS : List V → Hp → VK → Prop := fun xs H Q => ∃ (x : V) (d : PyData), xs = [x] ∧ (H sysModules = none → Rp true H x d) ∧ Shows d ∧ Q (.str d.shown) H
theorem call_reprS {X : Cx} {k : Nat} (hr : Room k X.A) (hq : X.A.guards = some []) (hk : PySem.W.nsIn X.K sysModules "threading" = some none) : CallR X (.builtin "repr") rReprS := by
  intro pins s σ H xs us Q I r h
  obtain ⟨x, d, rfl, rp, hs, q⟩ := h
  obtain ⟨o, ho⟩ := look_of_ns hk
  have e : H sysModules = none := (I.bs _ _ (I.mod.kin _ _ ho)).2
  exact call_repr hr hq pins s σ H _ us Q I r ⟨true, x, d, rfl, rp e, hs, q⟩
/-- list + list, a slice of a list: new, at a place that is none of the interpreter's own -/
def rCatN : R2 := fun x y H Q => ∃ l b xs zs, x = .ref l ∧ y = .ref b ∧ H l = some (.lst xs) ∧ H b = some (.lst zs) ∧ xs.length + zs.length ≤ sizeLine ∧ ∀ p, H p = none → p ≠ sysModules → Q (.ref p) (upd H p (.lst (xs ++ zs)))
theorem op_catN {X : Cx} : OpR X (binaryOp .Add) rCatN := by
  intro pins s σ H x y v u Q I rx ry h
  obtain ⟨l, b, xs, zs, rfl, rfl, hH, hB, hz, q⟩ := h
  cases rx
  cases ry
  obtain ⟨z, its, n, r, hl, e⟩ := I.lstM hH
  obtain ⟨z2, its2, n2, r2, hl2, e2⟩ := I.lstM hB
  refine PySem.P.add_list e e2 ?_ (by rw [List.size_toArray, List.size_toArray]; omega)
  have ea : its.toArray ++ its2.toArray = (its ++ its2).toArray := by simp
  rw [ea]
  exact ⟨.ref _, _, I.lnew (t' := s.toks) (r.append r2) (by rw [List.length_append]; omega), rfl, q _ I.fresh (Nat.ne_of_gt I.big)⟩
def rSlN (K : PySem.W.Frag) : V → Option Int → Option Int → Hp → VK → Prop := fun x lo hi H Q => ∃ a xs, x = .ref a ∧ SqL K H a xs ∧ ∀ p, H p = none → p ≠ sysModules → Q (.ref p) (upd H p (.lst (cutV xs lo hi)))
theorem sl_listN {X : Cx} : SlR X (rSlN X.K) := by
  intro pins s σ H x v vl vu lo hi sl Q I rx hs pl pu h
  obtain ⟨a, xs, rfl, hx, q⟩ := h
  cases rx
  obtain ⟨its, r, ht, hz⟩ := I.list hx
  have hlen := r.length
  refine ⟨"list", _, slot_list_getitem.lookup, ht.isList.typeIs, ?_⟩
  refine wpAny_getItem_list_slice ht.isList hs pl pu .none (by simp) ?_ (by rw [List.size_toArray] <;> omega)
  rw [slicePick_cut, ← hlen]
  refine ⟨.ref s.heap.objs.size, _, I.laid (t' := s.toks) (o := .lst (cutV xs lo hi)) (fun b ob q => Heap.get?_push_of_some _ q) (Nat.le_refl _) ?_, rfl, q _ (I.hok.fresh (Nat.le_refl _)) (Nat.ne_of_gt I.big)⟩
  exact ⟨Nat.le_trans (cutV_length xs lo hi) hz, _, 0, (r.drop (HT.sIx xs.length 0 lo)).take (HT.sIx xs.length xs.length hi - HT.sIx xs.length 0 lo), Heap.get?_push_size _ rfl⟩
end L2

/-! Z19: list(zip(a list, a list)): a new list of new pairs. -/
namespace PySem.F
theorem zp_len : typeLookup (.type "zip") "__len__" = pure none := by rw [typeLookup_type, builtinLookup_eq_fast]; kernel_rfl
theorem zp_hint : typeLookup (.type "zip") "__length_hint__" = pure none := by rw [typeLookup_type, builtinLookup_eq_fast]; kernel_rfl
end PySem.F
namespace L2
open PySem PySem.Spec PyProof.Rows
open Sem (wp)
/-- a zip of two lists behind i pairs; the pair handed out last is still there -/
structure ZpSt (z TI TO i1 i2 l1 l2 : Addr) (xs ys : Array Value) (i : Nat) (h : Heap) : Prop where
  zp : (IsZip h z TI TO .none ∧ ∃ a b, IsPair h TO a b) ∨ ∃ (T : Addr) (f : Bool) (o : Obj), IsZipHeld h z TI TO T f ∧ h.get? T = some o ∧ T ≠ z ∧ T ≠ TO ∧ T ≠ i1 ∧ T ≠ i2 ∧ o.cls = .type "tuple"
  ti : IsPair h TI (.ref i1) (.ref i2)
  s1 : h.IsListIter i1 l1 i
  s2 : h.IsListIter i2 l2 i
  a1 : h.IsList l1 xs
  a2 : h.IsList l2 ys
  ap : ZipApart z TI TO i1 i2 l1 l2
theorem ZpSt.zin {z TI TO i1 i2 l1 l2 : Addr} {xs ys : Array Value} {i : Nat} {h : Heap} (s : ZpSt z TI TO i1 i2 l1 l2 xs ys i h) : ∃ o, h.get? z = some o ∧ o.cls = .type "zip" := by
  rcases s.zp with ⟨y, _⟩ | ⟨_, _, _, y, _⟩
  · exact ⟨_, y, rfl⟩
  · exact ⟨_, y, rfl⟩
theorem ZpSt.put {z TI TO i1 i2 l1 l2 S : Addr} {xs ys : Array Value} {i : Nat} {h h' : Heap} {oS : Obj} (s : ZpSt z TI TO i1 i2 l1 l2 xs ys i h) (hS : h.get? S = some oS) (cS : oS.cls = .type "list") (n1 : l1 ≠ S) (n2 : l2 ≠ S) (k : ∀ b o, b ≠ S → h.get? b = some o → h'.get? b = some o) : ZpSt z TI TO i1 i2 l1 l2 xs ys i h' := by
  obtain ⟨zp, ti, s1, s2, a1, a2, ap⟩ := s
  have other : ∀ {a : Addr} {o : Obj} {c : String}, h.get? a = some o → o.cls = .type c → c ≠ "list" → a ≠ S := fun {a o c} x y n q => by
    rw [q, hS] at x
    cases x
    exact n (Value.type.inj (y.symm.trans cS))
  obtain ⟨o1, ho1, hc1, _⟩ := id s1
  obtain ⟨o2, ho2, hc2, _⟩ := id s2
  have m1 : i1 ≠ S := other ho1 hc1 (by decide)
  have m2 : i2 ≠ S := other ho2 hc2 (by decide)
  refine ⟨?_, k _ _ (other ti rfl (by decide)) ti, s1.at fun o x => k _ _ m1 x, s2.at fun o x => k _ _ m2 x, a1.at fun o x => k _ _ n1 x, a2.at fun o x => k _ _ n2 x, ap⟩
  rcases zp with ⟨y, a, b, p⟩ | ⟨T, f, o, y, hT, t1, t2, t3, t4, tc⟩
  · exact .inl ⟨k _ _ (other y rfl (by decide)) y, a, b, k _ _ (other p rfl (by decide)) p⟩
  · exact .inr ⟨T, f, o, k _ _ (other y rfl (by decide)) y, k _ _ (other hT tc (by decide)) hT, t1, t2, t3, t4, tc⟩
section
variable {prog : Program} {w : World} {A : Around} {E : Value → Shared → Prop} {s : Shared}
theorem zp_next {z TI TO i1 i2 l1 l2 : Addr} {xs ys : Array Value} {i : Nat} {x y : Value} {Q : Option Value → Shared → Prop} (st : ZpSt z TI TO i1 i2 l1 l2 xs ys i s.heap) (hx : xs[i]? = some x) (hy : ys[i]? = some y)
    (hQ : ∀ h', ZpSt z TI TO i1 i2 l1 l2 xs ys (i + 1) h' → IsPair h' s.heap.objs.size x y → h'.objs.size = s.heap.objs.size + 1 →
      (∀ b o, b ≠ z → b ≠ TO → b ≠ i1 → b ≠ i2 → s.heap.get? b = some o → h'.get? b = some o) → Q (some (.ref s.heap.objs.size)) { s with heap := h' }) :
    wpAny (model prog w) A (pyNext (.ref z)) Q E s := by
  obtain ⟨oz, hoz, _⟩ := st.zin
  obtain ⟨zp, ti, s1, s2, a1, a2, ap⟩ := st
  obtain ⟨o1, ho1, _⟩ := id s1
  obtain ⟨o2, ho2, _⟩ := id s2
  have lt : ∀ {b : Addr} {o : Obj}, s.heap.get? b = some o → s.heap.objs.size ≠ b := fun q => Nat.ne_of_gt (Heap.lt_size q)
  rcases zp with ⟨hz, a, b, hp⟩ | ⟨T, f, o, hz, hT, t1, t2, t3, t4, tc⟩
  · refine wpAny_pyNext_zip_item ap hz ti hp s1 s2 a1 a2 hx hy fun h' b1 b2 b3 b4 b5 b6 hk => ?_
    exact hQ h' ⟨.inr ⟨_, false, _, b1, b5, lt hoz, lt hp, lt ho1, lt ho2, rfl⟩, hk _ _ ap.TIz ap.TITO ap.TIi1 ap.TIi2 ti, b3, b4, a1.at fun o q => hk _ _ ap.l1z ap.l1TO ap.l1i1 ap.l1i2 q, a2.at fun o q => hk _ _ ap.l2z ap.l2TO ap.l2i1 ap.l2i2 q, ap⟩ b5 b6 hk
  · refine wpAny_pyNext_zip_item_held ap hz hT ti s1 s2 a1 a2 hx hy fun h' b1 b3 b4 b5 b6 hk => ?_
    exact hQ h' ⟨.inr ⟨T, true, o, b1, hk _ _ t1 t3 t4 hT, t1, t2, t3, t4, tc⟩, hk _ _ ap.TIz ap.TIi1 ap.TIi2 ti, b3, b4, a1.at fun o q => hk _ _ ap.l1z ap.l1i1 ap.l1i2 q, a2.at fun o q => hk _ _ ap.l2z ap.l2i1 ap.l2i2 q, ap⟩ b5 b6 fun b o n1 _ n3 n4 q => hk b o n1 n3 n4 q
theorem zp_end {z TI TO i1 i2 l1 l2 : Addr} {xs ys : Array Value} {i : Nat} {Q : Option Value → Shared → Prop} (hh : A.handled = none) (st : ZpSt z TI TO i1 i2 l1 l2 xs ys i s.heap) (he : xs[i]? = none ∨ ys[i]? = none)
    (hQ : ∀ h', (∀ b o, b ≠ z → b ≠ TO → b ≠ i1 → b ≠ i2 → s.heap.get? b = some o → h'.get? b = some o) → Q none { s with heap := h' }) : wpAny (model prog w) A (pyNext (.ref z)) Q E s := by
  obtain ⟨zp, ti, s1, s2, a1, a2, ap⟩ := st
  rcases zp with ⟨hz, a, b, hp⟩ | ⟨T, f, o, hz, hT, t1, t2, t3, t4, tc⟩
  · exact wpAny_pyNext_zip_end hh ap hz ti hp s1 s2 a1 a2 he hQ
  · exact wpAny_pyNext_zip_end_held hh ap hz hT ti s1 s2 a1 a2 he fun h' hk => hQ h' fun b o n1 _ n3 n4 q => hk b o n1 n3 n4 q
/-- the pairs gathered so far -/
structure AccZp (xs ys acc : Array Value) (i : Nat) (h : Heap) (n0 : Nat) : Prop where
  sz : acc.size = i
  at_ : ∀ j : Nat, j < i → ∃ (p : Addr) (x y : Value), acc[j]? = some (.ref p) ∧ xs[j]? = some x ∧ ys[j]? = some y ∧ n0 ≤ p ∧ IsPair h p x y
  up : ∀ (j k : Nat) (p q : Addr), acc[j]? = some (.ref p) → acc[k]? = some (.ref q) → j < k → p < q
theorem AccZp.to {xs ys acc : Array Value} {i n0 : Nat} {h h' : Heap} (a : AccZp xs ys acc i h n0) (k : ∀ b o, n0 ≤ b → h.get? b = some o → h'.get? b = some o) : AccZp xs ys acc i h' n0 := ⟨a.sz, fun j hj => by
  obtain ⟨p, x, y, h1, h2, h3, h4, h5⟩ := a.at_ j hj
  exact ⟨p, x, y, h1, h2, h3, h4, k _ _ h4 h5⟩, a.up⟩
theorem AccZp.push {xs ys acc : Array Value} {i n0 : Nat} {h : Heap} {p : Addr} {x y : Value} (a : AccZp xs ys acc i h n0) (hx : xs[i]? = some x) (hy : ys[i]? = some y) (hp : n0 ≤ p) (ht : IsPair h p x y) (big : ∀ (j : Nat) (q : Addr), acc[j]? = some (.ref q) → q < p) : AccZp xs ys (acc.push (.ref p)) (i + 1) h n0 := by
  have before : ∀ {j : Nat} {v : Value}, j < i → (acc.push (.ref p))[j]? = some v → acc[j]? = some v := fun {j v} c e => by
    rw [Array.getElem?_push_lt (by rw [a.sz]; exact c), ← Array.getElem?_eq_getElem] at e
    exact e
  refine ⟨by rw [Array.size_push, a.sz], fun j hj => ?_, fun j k q r e1 e2 lt => ?_⟩
  · by_cases c : j < i
    · obtain ⟨p', x', y', h1, h2, h3, h4, h5⟩ := a.at_ j c
      exact ⟨p', x', y', by rw [Array.getElem?_push_lt (by rw [a.sz]; exact c), ← Array.getElem?_eq_getElem]; exact h1, h2, h3, h4, h5⟩
    · have e : j = i := by omega
      subst e
      exact ⟨p, x, y, by rw [← a.sz, Array.getElem?_push_size], hx, hy, hp, ht⟩
  · have hk := (Array.getElem?_eq_some_iff.mp e2).1
    rw [Array.size_push, a.sz] at hk
    have e1' := before (by omega) e1
    by_cases c : k < i
    · exact a.up j k q r e1' (before c e2) lt
    · have e : k = acc.size := by rw [a.sz]; omega
      rw [e, Array.getElem?_push_size] at e2
      cases e2
      exact big j q e1'
theorem zp_loop {z TI TO i1 i2 l1 l2 S : Addr} {xs ys : Array Value} {R : Result → Shared → Prop} {n0 m : Nat} (hh : A.handled = none) (hm : m = min xs.size ys.size) (hn : m ≤ sizeLine) (res : Value) (hSl : S < n0) (hzl : z < n0) (hTl : TO < n0) (hl1 : i1 < n0) (hl2 : i2 < n0) (nS : S ≠ z ∧ S ≠ TO ∧ S ≠ i1 ∧ S ≠ i2) (n1 : l1 ≠ S) (n2 : l2 ≠ S) :
    ∀ (k i : Nat) (s : Shared) (acc : Array Value) (c : Nat), m - i = k → i ≤ m → ZpSt z TI TO i1 i2 l1 l2 xs ys i s.heap → n0 ≤ s.heap.objs.size → s.heap.get? S = some { cls := .type "list", dict := none, data := .seq acc c, slots := #[] } → AccZp xs ys acc i s.heap n0 →
    (∀ h' tk acc' c', (∀ b o, b ≠ z → b ≠ TO → b ≠ i1 → b ≠ i2 → b ≠ S → s.heap.get? b = some o → h'.get? b = some o) → h'.get? S = some { cls := .type "list", dict := none, data := .seq acc' c', slots := #[] } → AccZp xs ys acc' m h' n0 → R (.ok (.ret res)) { s with heap := h', toks := tk }) →
    codeAny (model prog w) A (.builtin "list.extend.loop" ⟨[.ref S, .ref z, res], []⟩) R s := by
  intro k
  induction k with
  | zero =>
    intro i s acc c hk hi st hz hS ha hR
    have ei : i = m := by omega
    subst ei
    refine codeAny_builtin F.entry_extend_loop ?_
    rw [Around.under_plainId F.plain_extend_loop _]
    show wpAny _ A.in1 (pyNext (.ref z) >>= _) _ _ s
    have he : xs[i]? = none ∨ ys[i]? = none := by
      rcases Nat.le_total xs.size ys.size with q | q
      · exact .inl (by rw [hm, Nat.min_eq_left q]; simp)
      · exact .inr (by rw [hm, Nat.min_eq_right q]; simp)
    refine wpAny_bind (zp_end hh st he fun h' x => wpAny_pure ?_)
    refine hR h' s.toks acc c (fun b o m1 m2 m3 m4 _ y => x b o m1 m2 m3 m4 y) (x _ _ nS.1 nS.2.1 nS.2.2.1 nS.2.2.2 hS) (ha.to fun b o n y => x b o (Nat.ne_of_gt (Nat.lt_of_lt_of_le hzl n)) (Nat.ne_of_gt (Nat.lt_of_lt_of_le hTl n)) (Nat.ne_of_gt (Nat.lt_of_lt_of_le hl1 n)) (Nat.ne_of_gt (Nat.lt_of_lt_of_le hl2 n)) y)
  | succ k ih =>
    intro i s acc c hk hi st hz hS ha hR
    have lt : i < m := by omega
    refine codeAny_builtin F.entry_extend_loop ?_
    rw [Around.under_plainId F.plain_extend_loop _]
    show wpAny _ A.in1 (pyNext (.ref z) >>= _) _ _ s
    obtain ⟨x, hx⟩ : ∃ x, xs[i]? = some x := ⟨xs[i]'(by omega), Array.getElem?_eq_getElem _⟩
    obtain ⟨y, hy⟩ : ∃ y, ys[i]? = some y := ⟨ys[i]'(by omega), Array.getElem?_eq_getElem _⟩
    refine wpAny_bind (zp_next st hx hy fun h1 st1 t1 sz1 k1 => ?_)
    have hS1 := k1 S _ nS.1 nS.2.1 nS.2.2.1 nS.2.2.2 hS
    show wpAny _ A.in1 (updateSeq S (·.push (.ref s.heap.objs.size)) >>= _) _ _ _
    refine wpAny_bind ?_
    refine wpAny_updateSeq hS1 rfl (wpAny_pure ⟨plainId_quiet F.plain_extend_loop _, ih (i + 1) _ (acc.push (.ref s.heap.objs.size)) _ (by omega) lt ?_ ?_ (Heap.get?_update_self _ hS1 rfl) ?_ fun h' tk acc' c' kk hS' ha' => ?_⟩) (by rw [ha.sz]; omega) (by show (acc.push (.ref s.heap.objs.size)).size ≤ sizeLine + 1; rw [Array.size_push, ha.sz]; omega)
    · exact st1.put hS1 rfl n1 n2 fun b o n y => (Heap.get?_update_other _ _ (Ne.symm n)).trans y
    · show n0 ≤ (h1.update S _).objs.size
      rw [Heap.size_update, sz1]; omega
    · refine ((ha.to fun b o n y => ?_).push hx hy hz t1 fun j q e => ?_).to fun b o n y => (Heap.get?_update_other _ _ (Nat.ne_of_lt (Nat.lt_of_lt_of_le hSl n))).trans y
      · exact k1 b o (Nat.ne_of_gt (Nat.lt_of_lt_of_le hzl n)) (Nat.ne_of_gt (Nat.lt_of_lt_of_le hTl n)) (Nat.ne_of_gt (Nat.lt_of_lt_of_le hl1 n)) (Nat.ne_of_gt (Nat.lt_of_lt_of_le hl2 n)) y
      · have hj := (Array.getElem?_eq_some_iff.mp e).1
        rw [ha.sz] at hj
        obtain ⟨p', _, _, g1, _, _, _, g5⟩ := ha.at_ j hj
        rw [g1] at e
        cases e
        exact Heap.lt_size g5
    · exact hR h' tk acc' c' (fun b o m1 m2 m3 m4 m5 y => kk b o m1 m2 m3 m4 m5 ((Heap.get?_update_other _ _ (Ne.symm m5)).trans (k1 b o m1 m2 m3 m4 y))) hS' ha'
theorem zp_extend {z TI TO i1 i2 l1 l2 S : Addr} {xs ys : Array Value} {m : Nat} {R : Result → Shared → Prop} (hh : A.handled = none) (hm : m = min xs.size ys.size) (hn : m ≤ sizeLine) (res : Value) (c : Nat) (he : IsZip s.heap z TI TO .none) (st : ZpSt z TI TO i1 i2 l1 l2 xs ys 0 s.heap) (hTO : ∃ a b, IsPair s.heap TO a b) (hS : s.heap.get? S = some { cls := .type "list", data := .seq #[] c }) (n1 : l1 ≠ S) (n2 : l2 ≠ S)
    (hR : ∀ h' tk acc' c', (∀ b o, b ≠ z → b ≠ TO → b ≠ i1 → b ≠ i2 → b ≠ S → s.heap.get? b = some o → h'.get? b = some o) → h'.get? S = some { cls := .type "list", dict := none, data := .seq acc' c', slots := #[] } → AccZp xs ys acc' m h' s.heap.objs.size → R (.ok (.ret res)) { s with heap := h', toks := tk }) :
    wpAny (model prog w) A.in1 (Builtin.List.listExtendWith (.ref S) (.ref z) res) (fun fin s' => match fin with | .done f => R (.ok f) s' | .again c' => c'.quiet = true ∧ codeAny (model prog w) A c' R s') (fun e s' => R (.error e) s') s := by
  have ty : s.TypeIs (.ref z) "zip" := ⟨_, he, rfl⟩
  obtain ⟨o1, ho1, hc1, _⟩ := id st.s1
  obtain ⟨o2, ho2, hc2, _⟩ := id st.s2
  obtain ⟨pa, pb, hp⟩ := hTO
  have other : ∀ {a : Addr} {o : Obj} {cl : String}, s.heap.get? a = some o → o.cls = .type cl → cl ≠ "list" → S ≠ a := fun {a o cl} x y n q => by
    rw [← q, hS] at x
    cases x
    exact n (Value.type.inj y).symm
  have nS : S ≠ z ∧ S ≠ TO ∧ S ≠ i1 ∧ S ≠ i2 := ⟨other he rfl (by decide), other hp rfl (by decide), other ho1 hc1 (by decide), other ho2 hc2 (by decide)⟩
  unfold Builtin.List.listExtendWith
  refine wpAny_bind (wpAny_typeOf ty ?_)
  have d1 : Builtin.List.listSameRef (.ref S) (.ref z) = false := by simp [Builtin.List.listSameRef, nS.1]
  have d2 : (Value.type "zip" == Value.type "list") = false := by decide
  have d3 : (Value.type "zip" == Value.type "tuple") = false := by decide
  simp only [d1, d2, d3, Bool.or_false, Bool.false_eq_true, if_false]
  refine wpAny_bind (wpAny_pyIter_zip he (wpAny_bind (wpAny_holding ?_)))
  unfold Builtin.List.listLengthHint
  refine wpAny_bind (wpAny_specialOf ty F.zp_len ?_)
  show wpAny _ A.in1 (specialOf (Value.ref z) (Str.ofString "__length_hint__") >>= _) _ _ s
  refine wpAny_bind (wpAny_specialOf ty F.zp_hint (wpAny_pure ?_))
  show wpAny _ A.in1 (rule "list.extend.makes-room" >>= fun _ => Builtin.List.listTouch (.ref S) >>= fun _ => again (.builtin "list.extend.loop" ⟨[.ref S, .ref z, res], []⟩)) _ _ s
  refine wpAny_bind (wpAny_rule (wpAny_bind ?_))
  show wpAny _ A.in1 (updateSeq S (·.push .none) >>= fun _ => updateSeq S (·.pop)) _ _ s
  refine wpAny_bind (wpAny_updateSeq hS rfl ?_)
  have h2 := Heap.get?_update_self (Obj.mapSeq (·.push Value.none)) hS rfl
  refine wpAny_updateSeq (hz := by seq_fits) h2 rfl ?_
  have h3 := Heap.get?_update_self (Obj.mapSeq (·.pop)) h2 rfl
  have ot : ∀ b o, b ≠ S → s.heap.get? b = some o → ((s.heap.update S (Obj.mapSeq (·.push Value.none))).update S (Obj.mapSeq (·.pop))).get? b = some o := fun b o n y =>
    (Heap.get?_update_other _ _ (Ne.symm n)).trans ((Heap.get?_update_other _ _ (Ne.symm n)).trans y)
  have hz : ((s.heap.update S (Obj.mapSeq (·.push Value.none))).update S (Obj.mapSeq (·.pop))).objs.size = s.heap.objs.size := by rw [Heap.size_update, Heap.size_update]
  refine wpAny_pure ⟨plainId_quiet F.plain_extend_loop _, zp_loop (n0 := s.heap.objs.size) hh hm hn res (Heap.lt_size hS) (Heap.lt_size he) (Heap.lt_size hp) (Heap.lt_size ho1) (Heap.lt_size ho2) nS n1 n2 m 0 _ #[] _ rfl (Nat.zero_le _) (st.put hS rfl n1 n2 ot) (Nat.le_of_eq hz.symm) h3 ⟨rfl, fun j hj => absurd hj (Nat.not_lt_zero j), fun j k p q e => by simp at e⟩ fun h' tk acc' c' kk hS' ha => ?_⟩
  exact hR h' tk acc' c' (fun b o m1 m2 m3 m4 m5 y => kk b o m1 m2 m3 m4 m5 (ot b o m5 y)) hS' ha
theorem zp_init {z TI TO i1 i2 l1 l2 S : Addr} {xs ys : Array Value} {m : Nat} {R : Result → Shared → Prop} (hh : A.handled = none) (hm : m = min xs.size ys.size) (hn : m ≤ sizeLine) (he : IsZip s.heap z TI TO .none) (st : ZpSt z TI TO i1 i2 l1 l2 xs ys 0 s.heap) (hTO : ∃ a b, IsPair s.heap TO a b) (hS : s.heap.get? S = some { cls := .type "list", data := .seq #[] }) (n1 : l1 ≠ S) (n2 : l2 ≠ S)
    (hR : ∀ h' tk acc' c', (∀ b o, b ≠ z → b ≠ TO → b ≠ i1 → b ≠ i2 → b ≠ S → s.heap.get? b = some o → h'.get? b = some o) → h'.get? S = some { cls := .type "list", dict := none, data := .seq acc' c', slots := #[] } → AccZp xs ys acc' m h' s.heap.objs.size → R (.ok (.ret .none)) { s with heap := h', toks := tk }) :
    wpAny (model prog w) A.in1 (Builtin.«list.__init__» ⟨[.ref S, .ref z], []⟩) (fun fin s' => match fin with | .done f => R (.ok f) s' | .again c' => c'.quiet = true ∧ codeAny (model prog w) A c' R s') (fun e s' => R (.error e) s') s := by
  show wpAny _ A.in1 (do let old ← Builtin.List.listItems (.ref S); Builtin.List.listUpdate (.ref S) (fun _ => #[]); letGo old.toList.reverse; Builtin.List.listExtendWith (.ref S) (.ref z) .none) _ _ s
  refine wpAny_bind ?_
  unfold Builtin.List.listItems
  refine wpAny_bind (wpAny_seqItems hS rfl (wpAny_pure ?_))
  show wpAny _ A.in1 (updateSeq S (fun _ => #[]) >>= fun _ => letGo (#[] : Array Value).toList.reverse >>= fun _ => Builtin.List.listExtendWith (.ref S) (.ref z) .none) _ _ s
  refine wpAny_bind (wpAny_updateSeq hS rfl (wpAny_bind (wpAny_letGo ?_)))
  have h2 := Heap.get?_update_self (Obj.mapSeq (fun _ => (#[] : Array Value))) hS rfl
  have ot : ∀ b o, b ≠ S → s.heap.get? b = some o → (s.heap.update S (Obj.mapSeq (fun _ => (#[] : Array Value)))).get? b = some o := fun b o n y => (Heap.get?_update_other _ _ (Ne.symm n)).trans y
  have st2 := st.put hS rfl n1 n2 ot
  obtain ⟨pa, pb, hp⟩ := hTO
  have other : ∀ {a : Addr} {o : Obj} {cl : String}, s.heap.get? a = some o → o.cls = .type cl → cl ≠ "list" → a ≠ S := fun {a o cl} x y n q => by
    rw [q, hS] at x
    cases x
    exact n (Value.type.inj y).symm
  refine zp_extend hh hm hn .none _ (ot z _ (other he rfl (by decide)) he) st2 ⟨pa, pb, ot TO _ (other hp rfl (by decide)) hp⟩ h2 n1 n2 fun h' tk acc' c' kk hS' ha => hR h' tk acc' c' (fun b o m1 m2 m3 m4 m5 y => kk b o m1 m2 m3 m4 m5 (ot b o m5 y)) hS' ?_
  have ez : (s.heap.update S (Obj.mapSeq fun _ => (#[] : Array Value))).objs.size = s.heap.objs.size := Heap.size_update ..
  have ha2 : AccZp xs ys acc' m h' (s.heap.update S (Obj.mapSeq fun _ => (#[] : Array Value))).objs.size := ha
  rw [ez] at ha2; exact ha2
theorem call_listZp {z TI TO i1 i2 l1 l2 : Addr} {xs ys : Array Value} {m : Nat} {Q : Value → Shared → Prop} (hh : A.handled = none) (hm : m = min xs.size ys.size) (hn : m ≤ sizeLine) (he : IsZip s.heap z TI TO .none) (st : ZpSt z TI TO i1 i2 l1 l2 xs ys 0 s.heap) (hTO : ∃ a b, IsPair s.heap TO a b)
    (hQ : ∀ h' tk acc' c', (∀ b o, b ≠ z → b ≠ TO → b ≠ i1 → b ≠ i2 → s.heap.get? b = some o → h'.get? b = some o) → h'.get? s.heap.objs.size = some { cls := .type "list", dict := none, data := .seq acc' c', slots := #[] } → AccZp xs ys acc' m h' (s.heap.objs.size + 1) → Q (.ref s.heap.objs.size) { s with heap := h', toks := tk }) :
    wpAny (model prog w) A (call (.type "list") [.ref z]) Q E s := by
  refine callType_codes (Q₁ := fun obj s1 => obj = .ref s.heap.objs.size ∧ s1 = { s with heap := s.heap.push { cls := .type "list", data := .seq #[] } }) F.called_list (F.typeCall_list_1 _) F.entry_list_init (code_list_new _ ⟨rfl, rfl⟩) fun obj s1 h1 => ?_
  obtain ⟨rfl, rfl⟩ := h1
  have hS : (s.heap.push { cls := .type "list", data := .seq #[] }).get? s.heap.objs.size = some { cls := .type "list", data := .seq #[] } := Heap.get?_push_size _ rfl
  have hk : ∀ b o, s.heap.get? b = some o → (s.heap.push { cls := .type "list", data := .seq #[] }).get? b = some o := fun b o y => Heap.get?_push_of_some _ y
  have st2 : ZpSt z TI TO i1 i2 l1 l2 xs ys 0 (s.heap.push { cls := .type "list", data := .seq #[] }) := by
    obtain ⟨zp, ti, s1, s2, a1, a2, ap⟩ := st
    refine ⟨?_, hk _ _ ti, s1.at fun o y => hk _ _ y, s2.at fun o y => hk _ _ y, a1.at fun o y => hk _ _ y, a2.at fun o y => hk _ _ y, ap⟩
    rcases zp with ⟨y, a, b, p⟩ | ⟨T, f, o, y, hT, r⟩
    · exact .inl ⟨hk _ _ y, a, b, hk _ _ p⟩
    · exact .inr ⟨T, f, o, hk _ _ y, hk _ _ hT, r⟩
  have nl : ∀ {l : Addr} {its : Array Value}, s.heap.IsList l its → l ≠ s.heap.objs.size := fun {l its} q => by
    obtain ⟨o, ho, _⟩ := q
    exact Nat.ne_of_lt (Heap.lt_size ho)
  obtain ⟨pa, pb, hp⟩ := hTO
  refine ⟨⟨_, hS, rfl⟩, F.args_list_init_2 _ _, zp_init (A := A.in1) hh hm hn (hk _ _ he) st2 ⟨pa, pb, hk _ _ hp⟩ hS (nl st.a1) (nl st.a2) fun h' tk acc' c' kk hS' ha => ⟨rfl, ?_⟩⟩
  have ez : (s.heap.push { cls := .type "list", data := .seq #[] }).objs.size = s.heap.objs.size + 1 := Heap.size_push ..
  have ha2 : AccZp xs ys acc' m h' (s.heap.push { cls := .type "list", data := .seq #[] }).objs.size := ha
  rw [ez] at ha2
  exact hQ h' tk acc' c' (fun b o m1 m2 m3 m4 y => kk b o m1 m2 m3 m4 (Nat.ne_of_lt (Heap.lt_size y)) (hk _ _ y)) hS' ha2
end
open Classical in
/-- the heap with a new list at D of new pairs at ts -/
noncomputable def zpH (H : Hp) (n : Nat) (D : Addr) (ts : List Addr) (f g : Nat → V) : Hp := fun b =>
  if b < n then H b else if b = D then some (.lst (ts.map V.ref)) else if q : ∃ j : Nat, ts[j]? = some b then some (.tup [f (Classical.choose q), g (Classical.choose q)]) else none
theorem zpH_at {H : Hp} {n : Nat} {D : Addr} {ts : List Addr} {f g : Nat → V} {j : Nat} {b : Addr} (e : ts[j]? = some b) (hb : n ≤ b) (hD : b ≠ D) (one : ∀ i, ts[i]? = some b → i = j) : zpH H n D ts f g b = some (.tup [f j, g j]) := by
  unfold zpH
  rw [if_neg (Nat.not_lt.mpr hb), if_neg hD, dif_pos ⟨j, e⟩]
  have z := one _ (Classical.choose_spec (⟨j, e⟩ : ∃ j : Nat, ts[j]? = some b))
  rw [z]
def tLstZp (K : PySem.W.Frag) (ta : TA) : TE := fun σ H Q => ta σ H fun vs H1 => ∃ a b xs ys, vs = [.ref a, .ref b] ∧ SqL K H1 a xs ∧ SqL K H1 b ys ∧ xs.length = ys.length ∧ ∀ (D : Addr) (ts : List Addr) (H' : Hp), Same H1 H' → H1 D = none → H' D = some (.lst (ts.map V.ref)) → ts.length = xs.length →
  (∀ (i : Nat) (p : Addr) (x y : V), ts[i]? = some p → xs[i]? = some x → ys[i]? = some y → H' p = some (.tup [x, y])) → Q (.ref D) H'
theorem pe_listZp {X : Cx} {e e2 : Expr} {ta : TA} {p p2 pos pos2 : Pos} (hc : X.calm = true) (hg : Gl X "list") (hm : X.mg "list" = none) (hg2 : Gl X "zip") (hm2 : X.mg "zip" = none) (ha : PA X [e, e2] ta) (hs : starEach [e, e2] X.env = (false, eval e X.env) :: starEach [e2] X.env := by rfl) (hpl : (backTo pos2 (starEach [e2] X.env)).any (·.1) = false := by rfl)
    (na : starEach [.Call (.Name "zip" p2) [e, e2] [] pos2] X.env = (false, eval (.Call (.Name "zip" p2) [e, e2] [] pos2) X.env) :: starEach [] X.env := by rfl) : PE X (.Call (.Name "list" p) [.Call (.Name "zip" p2) [e, e2] [] pos2] [] pos) (tLstZp X.K ta) := by
  refine ⟨fun pins s σ H Q I h => ?_⟩
  refine Call_ (ld_blt I hg hm boot_list (PyProof.Rows.callWith_type1 (args_cons ?_ na) na))
  refine Call_ (ld_blt I hg2 hm2 PyProof.Rows.boot_zip (PyProof.Rows.callWith_type1 (thn (ha.run pos2 pins s σ H _ I h) fun us s1 ⟨vs, H1, I1, r1, q1⟩ => ?_) hs hpl))
  obtain ⟨a, b, xs, ys, ex, hqx, hqy, hlen, q⟩ := q1
  subst ex
  cases r1 with
  | cons r rr =>
  cases rr with
  | cons r' rr =>
    cases rr
    cases r
    cases r'
    obtain ⟨its, rv, p1, hz1⟩ := I1.list hqx
    obtain ⟨its2, rv2, p2', _⟩ := I1.list hqy
    refine call_zip_2 p1.isList p2'.isList fun h1 hz hTI hTO hi1 hi2 hsz hk => args_nil ?_
    have st : ZpSt (s1.heap.objs.size + 4) (s1.heap.objs.size + 2) (s1.heap.objs.size + 3) s1.heap.objs.size (s1.heap.objs.size + 1) a b its.toArray its2.toArray 0 h1 :=
      ⟨.inl ⟨hz, _, _, hTO⟩, hTI, hi1, hi2, p1.isList.at fun o y => hk _ _ y, p2'.isList.at fun o y => hk _ _ y, PySem.W.ktu_apart _ a b p1.lt p2'.lt⟩
    have lx := rv.length
    have ly := rv2.length
    have em : its.length = min its.toArray.size its2.toArray.size := by
      rw [List.size_toArray, List.size_toArray]; omega
    refine call_listZp (s := { s1 with heap := h1 }) (I1.ok.hd hc) em (by rw [← lx]; exact hz1) hz st ⟨_, _, hTO⟩ fun h' tk acc' c' kk hD ha' => ?_
    have n1 : h1.objs.size = s1.heap.objs.size + 5 := hsz
    obtain ⟨ts, ets⟩ := enrefs_of acc'.toList fun v hv => by
      obtain ⟨j, hj⟩ := List.getElem?_of_mem hv
      have lt := (List.getElem?_eq_some_iff.mp hj).1
      rw [Array.length_toList, ha'.sz] at lt
      obtain ⟨p, x, y, y1, _⟩ := ha'.at_ j lt
      rw [Array.getElem?_toList, y1] at hj
      exact ⟨p, (Option.some.inj hj).symm⟩
    have lts : ts.length = its.length := by
      have z := congrArg List.length ets
      rw [Array.length_toList, ha'.sz, List.length_map] at z
      exact z.symm
    have acc_at : ∀ (j : Nat) (b : Addr), ts[j]? = some b → acc'[j]? = some (.ref b) := fun j b e => by
      have z : acc'.toList[j]? = some (.ref b) := by rw [ets, List.getElem?_map, e]; rfl
      rw [Array.getElem?_toList] at z; exact z
    -- what stands at each pair's address
    have at_ : ∀ (j : Nat) (b : Addr), ts[j]? = some b → ∃ (x y : Value), its[j]? = some x ∧ its2[j]? = some y ∧ h1.objs.size + 1 ≤ b ∧ IsPair h' b x y := fun j b e => by
      have lt := (List.getElem?_eq_some_iff.mp e).1
      obtain ⟨p, x, y, y1, y2, y3, y4, y5⟩ := ha'.at_ j (by omega)
      rw [acc_at j b e] at y1
      cases y1
      exact ⟨x, y, by simpa using y2, by simpa using y3, y4, y5⟩
    have one : ∀ (i j : Nat) (b : Addr), ts[i]? = some b → ts[j]? = some b → i = j := fun i j b e1 e2 => by
      rcases Nat.lt_trichotomy i j with c | c | c
      · exact absurd (ha'.up i j b b (acc_at i b e1) (acc_at j b e2) c) (Nat.lt_irrefl _)
      · exact c
      · exact absurd (ha'.up j i b b (acc_at j b e2) (acc_at i b e1) c) (Nat.lt_irrefl _)
    have old : ∀ b u, s1.heap.get? b = some u → h'.get? b = some u := fun b u y => by
      have lt := Heap.lt_size y
      exact kk b u (Nat.ne_of_lt (Nat.lt_of_lt_of_le lt (Nat.le_add_right _ _))) (Nat.ne_of_lt (Nat.lt_of_lt_of_le lt (Nat.le_add_right _ _))) (Nat.ne_of_lt lt) (Nat.ne_of_lt (Nat.lt_of_lt_of_le lt (Nat.le_add_right _ _))) (hk _ _ y)
    have mm : Many H1 (zpH H1 s1.heap.objs.size h1.objs.size ts (fun j => xs.getD j .non) fun j => ys.getD j .non) s1.heap := ⟨fun b hb => if_pos hb⟩
    have nD : ∀ (j : Nat) (b : Addr), ts[j]? = some b → b ≠ h1.objs.size ∧ s1.heap.objs.size ≤ b := fun j b e => by
      obtain ⟨_, _, _, _, g, _⟩ := at_ j b e
      exact ⟨Nat.ne_of_gt g, Nat.le_trans (by omega) (Nat.le_of_succ_le g)⟩
    have getD_of : ∀ {zs : List V} {j : Nat} {x : V}, zs[j]? = some x → zs.getD j .non = x := fun {zs j x} e => by rw [List.getD_eq_getElem?_getD, e]; rfl
    have pair : ∀ (j : Nat) (b : Addr) (x y : V), ts[j]? = some b → xs[j]? = some x → ys[j]? = some y → zpH H1 s1.heap.objs.size h1.objs.size ts (fun j => xs.getD j .non) (fun j => ys.getD j .non) b = some (.tup [x, y]) := fun j b x y e ex ey => by
      have z := zpH_at (H := H1) (D := h1.objs.size) (f := fun j => xs.getD j .non) (g := fun j => ys.getD j .non) e (nD j b e).2 (nD j b e).1 fun i e1 => one i j b e1 e
      rw [z, getD_of ex, getD_of ey]
    have dl : zpH H1 s1.heap.objs.size h1.objs.size ts (fun j => xs.getD j .non) (fun j => ys.getD j .non) h1.objs.size = some (.lst (ts.map V.ref)) := by
      have n2 : ¬ (h1.objs.size : Nat) < s1.heap.objs.size := by omega
      unfold zpH
      rw [if_neg n2, if_pos rfl]
    have hok := mm.hok (h' := h') I1.hok old fun b o hb e => by
      unfold zpH at e
      rw [if_neg (Nat.not_lt.mpr hb)] at e
      by_cases c : b = h1.objs.size
      · rw [if_pos c] at e
        cases e
        subst c
        refine ⟨by rw [List.length_map, lts, ← lx]; exact hz1, acc'.toList, c', by rw [ets]; exact envals_refs ts, ?_⟩
        rw [Array.toArray_toList]; exact hD
      · rw [if_neg c] at e
        by_cases q : ∃ j : Nat, ts[j]? = some b
        · rw [dif_pos q] at e
          cases e
          have sp := Classical.choose_spec q
          obtain ⟨x, y, g1, g2, _, g3⟩ := at_ _ b sp
          have lt := (List.getElem?_eq_some_iff.mp sp).1
          obtain ⟨v, hv⟩ : ∃ v, xs[Classical.choose q]? = some v := ⟨_, List.getElem?_eq_getElem (by omega)⟩
          obtain ⟨v2, hv2⟩ : ∃ v, ys[Classical.choose q]? = some v := ⟨_, List.getElem?_eq_getElem (by omega)⟩
          obtain ⟨u, hu, ru⟩ := rv.get hv
          obtain ⟨u2, hu2, ru2⟩ := rv2.get hv2
          rw [g1] at hu
          rw [g2] at hu2
          cases hu
          cases hu2
          dsimp only
          rw [getD_of hv, getD_of hv2]
          exact ⟨by show 2 ≤ sizeLine; decide, [x, y], .cons ru (.cons ru2 .nil), ⟨_, g3, rfl, _, rfl⟩⟩
        · rw [dif_neg q] at e; cases e
    refine ⟨.ref h1.objs.size, _, I1.un (t' := tk) (mm.un I1.hok old) hok, rfl, q _ ts _ (mm.ext I1.hok) (I1.hok.fresh (by omega)) dl (lts.trans lx.symm) pair⟩
end L2

namespace My
open PySem PySem.Spec PyProof.Rows L2
/-! ### the row's text, the built-ins, the errors' classes -/
abbrev topS (i : Nat) : Stmt := PySem.Challenge.pw_heldbehind_k21_sequences_by_turned_pairs.main.body.getD i (.Pass ⟨0, 0, 0, 0⟩)
structure Bl (mg : Str → Option Value) : Prop where
  isinstance : mg "isinstance" = none
  int : mg "int" = none
  bool : mg "bool" = none
  tuple : mg "tuple" = none
  len : mg "len" = none
  all : mg "all" = none
  enumerate : mg "enumerate" = none
  reversed : mg "reversed" = none
  sorted : mg "sorted" = none
  max : mg "max" = none
  min : mg "min" = none
  abs : mg "abs" = none
  range : mg "range" = none
  list : mg "list" = none
  repr : mg "repr" = none
  sum : mg "sum" = none
  any : mg "any" = none
  zip : mg "zip" = none
  str : mg "str" = none
  set : mg "set" = none
  dict : mg "dict" = none
structure Ex1 (K : PySem.W.Frag) (mg : Str → Option Value) (nm : Str) (C : Addr) : Prop where
  x : PySem.W.excIn K C [.type "ValueError", .type "Exception", .type "BaseException", .type "object"] "ValueError.__new__" = true
  g : mg nm = some (.ref C)
  k : PySem.W.keepIn K (.ref C) = true
  b : PySem.W.subIn K (.ref C) (.type "BaseException") = some true
  t : PySem.W.typeIn K (.ref C) = some (.type "type")
theorem passX {X : Cx} {E : XK} (tk : Takes X (fun cls d _ H => E cls d H)) : Passes (L2.CX X.prog X.w) X E := passes_call tk (fun _ _ _ _ h => h)
/-! ### what a value is -/
def tupAt (H : Hp) : V → Option (List V)
  | .ref a => match H a with
    | some (.tup xs) => some xs
    | _ => none
  | _ => none
def isInt : V → Bool
  | .int _ => true
  | _ => false
def isBl : V → Bool
  | .bl _ => true
  | _ => false
def isIdx (n : Int) : V → Bool
  | .int i => decide (0 ≤ i) && decide (i < n)
  | _ => false
inductive Vd (H : Hp) : V → Prop where
  | non : Vd H .non
  | bl (b : Bool) : Vd H (.bl b)
  | int (i : Int) : Vd H (.int i)
  | str (z : Str) : Vd H (.str z)
  | lst {a : Addr} {xs : List V} (h : H a = some (.lst xs)) : Vd H (.ref a)
  | tup {a : Addr} {xs : List V} (h : H a = some (.tup xs)) : Vd H (.ref a)
  | dK {a : Addr} {kvs : List (Key × V)} (h : H a = some (.dK kvs)) : Vd H (.ref a)
theorem Vd.same {H H' : Hp} {x : V} (v : Vd H x) (s : Same H H') : Vd H' x := by
  cases v with
  | non => exact .non
  | bl b => exact .bl b
  | int i => exact .int i
  | str z => exact .str z
  | lst h => exact .lst (s _ _ h)
  | tup h => exact .tup (s _ _ h)
  | dK h => exact .dK (s _ _ h)
theorem tupAt_tup {H : Hp} {a : Addr} {xs : List V} (h : H a = some (.tup xs)) : tupAt H (.ref a) = some xs := by simp only [tupAt, h]
theorem tupAt_lst {H : Hp} {a : Addr} {xs : List V} (h : H a = some (.lst xs)) : tupAt H (.ref a) = none := by simp only [tupAt, h]
theorem tupAt_dK {H : Hp} {a : Addr} {xs : List (Key × V)} (h : H a = some (.dK xs)) : tupAt H (.ref a) = none := by simp only [tupAt, h]
theorem Vd.ty {K : PySem.W.Frag} {H : Hp} {x : V} (v : Vd H x) : ∃ t : String, TyX K H x (.type t) ∧ kitB t "int" = some (isInt x || isBl x) ∧ kitB t "bool" = some (isBl x) ∧ kitB t "tuple" = some (tupAt H x).isSome := by
  cases v with
  | non => exact ⟨_, .base .non, (by decide +kernel : kitB "NoneType" "int" = some false), (by decide +kernel : kitB "NoneType" "bool" = some false), (by decide +kernel : kitB "NoneType" "tuple" = some false)⟩
  | bl b => exact ⟨_, .base (.bl b), (by decide +kernel : kitB "bool" "int" = some true), (by decide +kernel : kitB "bool" "bool" = some true), (by decide +kernel : kitB "bool" "tuple" = some false)⟩
  | int i => exact ⟨_, .base (.int i), (by decide +kernel : kitB "int" "int" = some true), (by decide +kernel : kitB "int" "bool" = some false), (by decide +kernel : kitB "int" "tuple" = some false)⟩
  | str z => exact ⟨_, .base (.str z), (by decide +kernel : kitB "str" "int" = some false), (by decide +kernel : kitB "str" "bool" = some false), (by decide +kernel : kitB "str" "tuple" = some false)⟩
  | lst h => exact ⟨_, .base (.lst h), (by decide +kernel : kitB "list" "int" = some false), (by decide +kernel : kitB "list" "bool" = some false), by rw [tupAt_lst h]; exact (by decide +kernel : kitB "list" "tuple" = some false)⟩
  | tup h => exact ⟨_, .base (.tup h), (by decide +kernel : kitB "tuple" "int" = some false), (by decide +kernel : kitB "tuple" "bool" = some false), by rw [tupAt_tup h]; exact (by decide +kernel : kitB "tuple" "tuple" = some true)⟩
  | dK h => exact ⟨_, .base (.dK h), (by decide +kernel : kitB "dict" "int" = some false), (by decide +kernel : kitB "dict" "bool" = some false), by rw [tupAt_dK h]; exact (by decide +kernel : kitB "dict" "tuple" = some false)⟩
/-! ### heldbehind.integers -/
def spIsInteger : Sp := fun vs H Q _ => ∃ x : V, vs = [x] ∧ Vd H x ∧ Q (.bl (isInt x)) H
def isBtw (n m : Int) : V → Bool
  | .int i => decide (n ≤ i) && decide (i ≤ m)
  | _ => false
theorem isBtw_idx (n : Int) (x : V) : isBtw 0 (n - 1) x = isIdx n x := by
  cases x with
  | int i =>
    show (decide (0 ≤ i) && decide (i ≤ n - 1)) = (decide (0 ≤ i) && decide (i < n))
    rw [show decide (i ≤ n - 1) = decide (i < n) from decide_eq_decide.mpr (by omega)]
  | _ => rfl
def spIsBetween : Sp := fun vs H Q _ => ∃ (x : V) (n m : Int), vs = [x, .int n, .int m] ∧ Vd H x ∧ Q (.bl (isBtw n m x)) H
def spIsIndex : Sp := fun vs H Q _ => ∃ (x : V) (n : Int), vs = [x, .int n] ∧ Vd H x ∧ Q (.bl (isIdx n x)) H
section
variable {P : Program} {w : World} {K : PySem.W.Frag} {mg : Str → Option Value} {base : Heap}
abbrev st_is_integer : Stmt := topS 7
abbrev N_is_integer : List Str := ["value"]
theorem sc_is_integer : FnScope N_is_integer ["value"] (defScope st_is_integer) := ⟨rfl, rfl, rfl, by decide +kernel, rfl, by decide +kernel, by decide +kernel⟩
theorem ok_is_integer (D : Df K mg "is_integer" st_is_integer ["value"]) (B : Bl mg) : Kn P w K mg base CX0 1 "is_integer" st_is_integer ["value"] spIsInteger := by
  refine D.ok sc_is_integer (fun vs H Q E h => ?_) (fun f cdv A outer s H vs Q E hr h => ?_)
  · obtain ⟨x, rfl, _⟩ := h; rfl
  obtain ⟨x, rfl, v, q⟩ := h
  refine ⟨_, ((pss_one (ps_ret (pe_and (pe_callB call_isi (by rfl) B.isinstance (by decide +kernel) (pa_cons (pv 0) (pa_cons (pe_bltn (v := .ty "int") (u := .type "int") (by rfl) B.int (by decide +kernel) rfl) pa_nil))) (pe_one (pe_not (pe_callB call_isi (by rfl) B.isinstance (by decide +kernel) (pa_cons (pv 0) (pa_cons (pe_bltn (v := .ty "bool") (u := .type "bool") (by rfl) B.bool (by decide +kernel) rfl) pa_nil))))))))), ?_⟩
  obtain ⟨t, ty, k1, k2, _⟩ := v.ty (K := K)
  refine ⟨_, rfl, _, _, _, _, _, rfl, .ty _, ty, kit_ty k1, _, rfl, ?_⟩
  cases e1 : isInt x with
  | true =>
    have e2 : isBl x = false := by cases x <;> first | rfl | cases e1
    rw [e2] at k2 ⊢
    refine iteT ⟨_, rfl, _, _, _, _, _, rfl, .ty _, ty, kit_ty k2, _, rfl, ?_⟩
    rw [e1] at q; exact q
  | false =>
    rw [e1] at q
    cases e2 : isBl x with
    | false => exact iteF q
    | true =>
      rw [e2] at k2
      exact iteT ⟨_, rfl, _, _, _, _, _, rfl, .ty _, ty, kit_ty k2, _, rfl, q⟩
abbrev st_is_between : Stmt := topS 8
abbrev N_is_between : List Str := ["value", "least", "greatest"]
theorem sc_is_between : FnScope N_is_between ["value", "least", "greatest"] (defScope st_is_between) := ⟨rfl, rfl, rfl, by decide +kernel, rfl, by decide +kernel, by decide +kernel⟩
theorem ok_is_between (D : Df K mg "is_between" st_is_between ["value", "least", "greatest"]) (B : Bl mg) (Kis_integer : Kn P w K mg base CX0 1 "is_integer" st_is_integer ["value"] spIsInteger) :
    Kn P w K mg base CX0 2 "is_between" st_is_between ["value", "least", "greatest"] spIsBetween := by
  refine D.ok sc_is_between (fun vs H Q E h => ?_) (fun f cdv A outer s H vs Q E hr h => ?_)
  · obtain ⟨x, n, m, rfl, _⟩ := h; rfl
  obtain ⟨x, n, m, rfl, v, q⟩ := h
  refine ⟨_, ((pss_one (ps_ret (pe_and (pe_callF Kis_integer (hr.mono (by decide)) pass0 (pa_cons (pv 0) pa_nil)) (pe_one (pe_chain op_le op_le (pv 1) (pv 0) (pv 2))))))), ?_⟩
  refine ⟨_, rfl, _, rfl, v, _, rfl, ?_⟩
  cases x with
  | int i =>
    refine iteT ⟨_, rfl, _, rfl, _, _, rfl, rfl, _, rfl, ?_⟩
    have q' : Q (.bl (decide (n ≤ i) && decide (i ≤ m))) H := q
    refine ite2 (fun c => ?_) (fun c => ?_)
    · rw [c, Bool.true_and] at q'
      exact ⟨_, rfl, _, _, rfl, rfl, q'⟩
    · rw [Bool.eq_false_iff.mpr c, Bool.false_and] at q'
      exact q'
  | _ => exact iteF q
abbrev st_is_index : Stmt := topS 9
abbrev N_is_index : List Str := ["value", "many"]
theorem sc_is_index : FnScope N_is_index ["value", "many"] (defScope st_is_index) := ⟨rfl, rfl, rfl, by decide +kernel, rfl, by decide +kernel, by decide +kernel⟩
theorem ok_is_index (D : Df K mg "is_index" st_is_index ["value", "many"]) (B : Bl mg) (Kis_between : Kn P w K mg base CX0 2 "is_between" st_is_between ["value", "least", "greatest"] spIsBetween) :
    Kn P w K mg base CX0 3 "is_index" st_is_index ["value", "many"] spIsIndex := by
  refine D.ok sc_is_index (fun vs H Q E h => ?_) (fun f cdv A outer s H vs Q E hr h => ?_)
  · obtain ⟨x, n, rfl, _⟩ := h; rfl
  obtain ⟨x, n, rfl, v, q⟩ := h
  refine ⟨_, ((pss_one (ps_ret (pe_callF Kis_between (hr.mono (by decide)) pass0 (pa_cons (pv 0) (pa_cons pe_int (pa_cons (pe_op op_sub (pv 1) pe_int) pa_nil))))))), ?_⟩
  refine ⟨_, rfl, _, rfl, _, _, rfl, rfl, x, 0, n - 1, rfl, v, ?_⟩
  rw [isBtw_idx]
  exact q
end

/-! ### forests as lists of holders -/
def hv : Option Nat → V
  | none => .non
  | some u => .int (u : Int)
abbrev Hs := List (Option Nat)
def nv (l : List Nat) : List V := l.map fun v : Nat => V.int (v : Int)
def kidsTo (hs : Hs) (u i : Nat) : List Nat := (List.range i).filter fun v => decide (hs[v]? = some (some u))
def rootsTo (hs : Hs) (i : Nat) : List Nat := (List.range i).filter fun v => decide (hs[v]? = some none)
def kids (hs : Hs) (u : Nat) : List Nat := kidsTo hs u hs.length
def roots (hs : Hs) : List Nat := rootsTo hs hs.length
theorem kidsTo_succ (hs : Hs) (u i : Nat) : kidsTo hs u (i + 1) = kidsTo hs u i ++ (if hs[i]? = some (some u) then [i] else []) := by
  unfold kidsTo
  rw [List.range_succ, List.filter_append]
  by_cases h : hs[i]? = some (some u) <;> simp [h]
theorem rootsTo_succ (hs : Hs) (i : Nat) : rootsTo hs (i + 1) = rootsTo hs i ++ (if hs[i]? = some none then [i] else []) := by
  unfold rootsTo
  rw [List.range_succ, List.filter_append]
  by_cases h : hs[i]? = some none <;> simp [h]
theorem mem_kids {hs : Hs} {u v : Nat} : v ∈ kids hs u ↔ hs[v]? = some (some u) := by
  unfold kids kidsTo
  rw [List.mem_filter, List.mem_range, decide_eq_true_eq]
  exact ⟨fun h => h.2, fun h => ⟨(List.getElem?_eq_some_iff.mp h).1, h⟩⟩
theorem mem_roots {hs : Hs} {v : Nat} : v ∈ roots hs ↔ hs[v]? = some none := by
  unfold roots rootsTo
  rw [List.mem_filter, List.mem_range, decide_eq_true_eq]
  exact ⟨fun h => h.2, fun h => ⟨(List.getElem?_eq_some_iff.mp h).1, h⟩⟩
theorem nodup_kids (hs : Hs) (u : Nat) : (kids hs u).Nodup := List.nodup_range.filter _
theorem nodup_roots (hs : Hs) : (roots hs).Nodup := List.nodup_range.filter _
theorem kidsTo_len (hs : Hs) (u i : Nat) : (kidsTo hs u i).length ≤ i := by
  have h := List.length_filter_le (fun v => decide (hs[v]? = some (some u))) (List.range i)
  rw [List.length_range] at h; exact h
theorem rootsTo_len (hs : Hs) (i : Nat) : (rootsTo hs i).length ≤ i := by
  have h := List.length_filter_le (fun v => decide (hs[v]? = some none)) (List.range i)
  rw [List.length_range] at h; exact h
theorem nv_append (a b : List Nat) : nv (a ++ b) = nv a ++ nv b := List.map_append
theorem nv_length (a : List Nat) : (nv a).length = a.length := List.length_map _
theorem nv_get {a : List Nat} {i v : Nat} (h : a[i]? = some v) : (nv a)[i]? = some (.int (v : Int)) := by
  unfold nv; rw [List.getElem?_map, h]; rfl
theorem hv_get {hs : Hs} {i : Nat} {x : V} (h : (hs.map hv)[i]? = some x) : ∃ o, hs[i]? = some o ∧ x = hv o := by
  rw [List.getElem?_map] at h
  cases e : hs[i]? with
  | none => rw [e] at h; cases h
  | some o => rw [e] at h; exact ⟨o, rfl, (Option.some.inj h).symm⟩
theorem hv_at {hs : Hs} {i : Nat} {o : Option Nat} (h : hs[i]? = some o) : (hs.map hv)[i]? = some (hv o) := by rw [List.getElem?_map, h]; rfl
theorem szl {n : Nat} (h : n ≤ 1000) : n < sizeLine := small1000 h
/-! ### heldbehind.forests: the private lists -/
def spWithout (K : PySem.W.Frag) : Sp := fun vs H Q _ => ∃ (a : Addr) (hs : Hs), vs = [.ref a] ∧ SqT K H a (hs.map hv) ∧ hs.length ≤ 1000 ∧
  ∀ p H', Same H H' → H p = none → H' p = some (.lst (nv (roots hs))) → Q (.ref p) H'
section
variable {P : Program} {w : World} {K : PySem.W.Frag} {mg : Str → Option Value} {base : Heap}
abbrev st__without_holder : Stmt := topS 16
abbrev N__without_holder : List Str := ["forest", "thing", "holder"]
theorem sc__without_holder : FnScope N__without_holder ["forest"] (defScope st__without_holder) := ⟨rfl, rfl, rfl, by decide +kernel, rfl, by decide +kernel, by decide +kernel⟩
theorem ok__without_holder (D : Df K mg "_without_holder" st__without_holder ["forest"]) (B : Bl mg) : Kn P w K mg base CX0 1 "_without_holder" st__without_holder ["forest"] (spWithout K) := by
  refine D.ok sc__without_holder (fun vs H Q E h => ?_) (fun f cdv A outer s H vs Q E hr h => ?_)
  · obtain ⟨a, hs, rfl, _⟩ := h; rfl
  obtain ⟨a, hs, rfl, hS, hn, q⟩ := h
  refine ⟨_, ((pss_one (ps_ret (pe_lc (own := [("thing", 1), ("holder", 2)]) (g := gTup K 2 (gCons (gName 1) (gCons (gName 2) gNil))) rfl sc__without_holder.nd (pi_enumT (by rfl) B.enumerate (pa_cons (pv 0) pa_nil)) (blkOk_by (N := N__without_holder) (sc := defScope st__without_holder) (own := [("thing", 1), ("holder", 2)]) (by decide +kernel)) (fun _ _ _ _ _ => by (refine pg_tup (n := 2) ?hc ?h ?hn ?hst; (case hc => rfl); (case hn => rfl); (case hst => rfl); case h => (refine pgs_cons ?g1 ?g2; (case g1 => exact (pg_name (i := 1) sc__without_holder.nd rfl (Or.inl rfl))); case g2 => (refine pgs_cons ?g1 ?g2; (case g1 => exact (pg_name (i := 2) sc__without_holder.nd rfl (Or.inl rfl))); case g2 => (exact pgs_nil))))) (fun _ _ _ _ _ => by exact (pts_one (pt_cmpR op_isN (pv 2) pe_non (nomark _)))) (fun _ _ _ _ _ => by exact (pv 1)))))), ?_⟩
  refine ⟨_, rfl, a, _, rfl, hS, fun D hD => lc_it (walk_enumT (xs := hs.map hv)) (fun i H' => Same H H' ∧ H' D = some (.lst (nv (rootsTo hs i)))) ⟨(Same.refl H).new hD, upd_same⟩ (fun i H' _ p => p.1.tseq hS) ?_ ?_⟩
  · rintro i x H1 H2 hi ⟨s1, hD1⟩ ⟨T, x1, x2, rfl, hT, rfl, e1, e2⟩
    have e1' := Option.some.inj e1; subst e1'
    obtain ⟨o, ho, rfl⟩ := hv_get e2
    have hDT : D ≠ T := ne_of_none hD1 hT
    refine ⟨T, _, rfl, SqT.of upd_same, rfl, _, _, rfl, _, _, rfl, rfl, rfl, _, rfl, rfl, _, rfl, ?_⟩
    have s2 : Same H (upd H1 T (.tup [.int (i : Int), hv o])) := s1.new hT
    have hi' : (rootsTo hs i).length ≤ i := rootsTo_len hs i
    have hil : i < hs.length := (List.getElem?_eq_some_iff.mp ho).1
    have hD2 : upd H1 T (.tup [.int (i : Int), hv o]) D = some (.lst (nv (rootsTo hs i))) := by rw [upd_ne hDT]; exact hD1
    refine ite2 (fun c => ?_) (fun c => ?_)
    · have eo : o = none := by
        cases o with
        | none => rfl
        | some u => exact absurd (of_decide_eq_true c) (by intro z; cases z)
      refine ⟨_, rfl, _, hD2, by rw [nv_length]; exact szl (by omega), s2.upd hD, ?_⟩
      rw [upd_same, rootsTo_succ, ho, eo, if_pos rfl, nv_append]; rfl
    · have eo : ¬ some o = some none := by intro z; cases z; exact c rfl
      refine ⟨s2, ?_⟩
      rw [hD2, rootsTo_succ, ho, if_neg eo, List.append_nil]
  · rintro H1 ⟨s1, hD1⟩
    refine q D H1 s1 hD ?_
    rw [hD1, List.length_map]; rfl
end

def InB (hs : Hs) : Prop := ∀ v u : Nat, hs[v]? = some (some u) → u < hs.length
structure HeldTo (H : Hp) (p : Addr) (as : List Addr) (hs : Hs) (i : Nat) : Prop where
  lst : H p = some (.lst (as.map V.ref))
  len : as.length = hs.length
  nd : as.Nodup
  at_ : ∀ (j : Nat) (c : Addr), as[j]? = some c → H c = some (.lst (nv (kidsTo hs j i)))
abbrev HeldAt (H : Hp) (p : Addr) (as : List Addr) (hs : Hs) : Prop := HeldTo H p as hs hs.length
theorem HeldTo.same {H H' : Hp} {p : Addr} {as : List Addr} {hs : Hs} {i : Nat} (h : HeldTo H p as hs i) (s : Same H H') : HeldTo H' p as hs i :=
  ⟨s _ _ h.lst, h.len, h.nd, fun j c e => s _ _ (h.at_ j c e)⟩
theorem nodup_at {as : List Addr} (nd : as.Nodup) {i j : Nat} {c : Addr} (h1 : as[i]? = some c) (h2 : as[j]? = some c) : i = j := by
  obtain ⟨l1, e1⟩ := List.getElem?_eq_some_iff.mp h1
  obtain ⟨l2, e2⟩ := List.getElem?_eq_some_iff.mp h2
  exact (List.getElem_inj nd).mp (e1.trans e2.symm)
/-- nothing is held by a thing beyond the turns: the turn of a thing without a holder -/
theorem HeldTo.skip {H : Hp} {p : Addr} {as : List Addr} {hs : Hs} {i : Nat} (h : HeldTo H p as hs i) (e : hs[i]? = some none) : HeldTo H p as hs (i + 1) :=
  ⟨h.lst, h.len, h.nd, fun j c q => by
    have z : ¬ hs[i]? = some (some j) := by rw [e]; intro w; cases w
    rw [kidsTo_succ, if_neg z, List.append_nil]; exact h.at_ j c q⟩
theorem HeldTo.put {H : Hp} {p c : Addr} {as : List Addr} {hs : Hs} {i u : Nat} (h : HeldTo H p as hs i) (e : hs[i]? = some (some u)) (hc : as[u]? = some c) :
    HeldTo (upd H c (.lst (nv (kidsTo hs u i) ++ [.int (i : Int)]))) p as hs (i + 1) := by
  have hcl := h.at_ u c hc
  have hpc : p ≠ c := by
    intro z
    have q := h.lst
    rw [z, hcl] at q
    have q2 := HO.lst.inj (Option.some.inj q)
    have hl : as ≠ [] := by intro w; rw [w] at hc; cases hc
    cases as with
    | nil => exact hl rfl
    | cons a0 r =>
      cases hk : kidsTo hs u i with
      | nil => rw [hk] at q2; cases q2
      | cons k0 kr => rw [hk] at q2; cases q2
  refine ⟨by rw [upd_ne hpc]; exact h.lst, h.len, h.nd, fun j c' q => ?_⟩
  by_cases hj : j = u
  · subst hj
    have ec : c' = c := Option.some.inj (q.symm.trans hc)
    subst ec
    rw [upd_same, kidsTo_succ, if_pos e, nv_append]; rfl
  · have ec : c' ≠ c := fun z => hj (nodup_at h.nd q (by rw [z]; exact hc))
    have z : ¬ hs[i]? = some (some j) := by rw [e]; intro w; cases w; exact hj rfl
    rw [upd_ne ec, kidsTo_succ, if_neg z, List.append_nil]; exact h.at_ j c' q
def spHeld (K : PySem.W.Frag) : Sp := fun vs H Q _ => ∃ (a : Addr) (hs : Hs), vs = [.ref a] ∧ SqT K H a (hs.map hv) ∧ hs.length ≤ 1000 ∧ InB hs ∧
  ∀ p as H', Same H H' → H p = none → (∀ c ∈ as, H c = none) → HeldAt H' p as hs → Q (.ref p) H'
section
variable {P : Program} {w : World} {K : PySem.W.Frag} {mg : Str → Option Value} {base : Heap}
abbrev st__held_lists : Stmt := topS 17
abbrev N__held_lists : List Str := ["forest", "held", "thing", "holder", "_"]
theorem sc__held_lists : FnScope N__held_lists ["forest"] (defScope st__held_lists) := ⟨rfl, rfl, rfl, by decide +kernel, rfl, by decide +kernel, by decide +kernel⟩
theorem ok__held_lists (D : Df K mg "_held_lists" st__held_lists ["forest"]) (B : Bl mg) : Kn P w K mg base CX0 1 "_held_lists" st__held_lists ["forest"] (spHeld K) := by
  refine D.ok sc__held_lists (fun vs H Q E h => ?_) (fun f cdv A outer s H vs Q E hr h => ?_)
  · obtain ⟨a, hs, rfl, _⟩ := h; rfl
  obtain ⟨a, hs, rfl, hS, hn, hin, q⟩ := h
  refine ⟨_, ((pss_cons (ps_setLc (i := 1) (own := [("_", 4)]) (g := gName 4) rfl sc__held_lists.nd rfl rfl (sw_true rfl rfl rfl (by decide +kernel)) (pi_tup (pv 0)) (blkOk_by (N := N__held_lists) (sc := defScope st__held_lists) (own := [("_", 4)]) (by decide +kernel)) (fun _ _ _ _ _ => by (exact (pg_name (i := 4) sc__held_lists.nd rfl (Or.inl rfl)))) (fun _ _ _ _ _ => by exact pts_nil) (fun _ _ _ _ _ => by exact (pe_lst pa_nil)))
      (pss_cons (ps_for PassesOwn.never rfl (pi_enumT (by rfl) B.enumerate (pa_cons (pv 0) pa_nil)) (pg_tup rfl (pgs_cons (pg_name (i := 2) sc__held_lists.nd rfl (Or.inl rfl)) (pgs_cons (pg_name (i := 3) sc__held_lists.nd rfl (Or.inl rfl)) pgs_nil))) (pss_one (ps_if (pt_cmpR op_notN (pv 3) pe_non (nomark _)) (pss_one (ps_expr (pe_bm PySem.F.plainAttrs_list PySem.F.slot_list_append PySem.F.type_list_append mt_append (pe_ix ix_list (pv 1) (pv 3) (fun _ _ => rfl)) (pa_cons (pv 2) pa_nil)))) pss_nil)))
      (pss_one (ps_ret (pv 1)))))), ?_⟩
  refine ⟨_, rfl, a, rfl, ⟨_, hS⟩, fun D hD => lc_it (walk_tup (xs := hs.map hv)) (fun i H' => Same H H' ∧ ∃ as : List Addr, as.length = i ∧ as.Nodup ∧ H' D = some (.lst (as.map V.ref)) ∧ ∀ c ∈ as, H' c = some (.lst []) ∧ H c = none ∧ c ≠ D)
    ⟨(Same.refl H).new hD, [], rfl, List.nodup_nil, upd_same, fun c hc => by cases hc⟩ (fun i H' _ p => p.1.tseq hS) ?_ ?_⟩
  · rintro i x H1 H2 hi ⟨s1, as, hlen, nd, hD1, hcs⟩ ⟨rfl, e1⟩
    rw [List.length_map] at hi
    refine ⟨rfl, ⟨by show 0 ≤ sizeLine; decide, fun p hp => ?_⟩⟩
    have hDp : D ≠ p := ne_of_none hD1 hp
    have hpn : H p = none := s1.free hp
    refine ⟨_, by rw [upd_ne hDp]; exact hD1, by rw [List.length_map]; exact szl (by omega), (s1.upd hpn).upd hD, as ++ [p], ?_, ?_, ?_, ?_⟩
    · rw [List.length_append, hlen]; rfl
    · refine List.nodup_append.mpr ⟨nd, by simp, fun x hx y hy => ?_⟩
      have ey : y = p := by simpa using hy
      rw [ey]
      exact ne_of_none (hcs x hx).1 hp
    · rw [upd_same, List.map_append]; rfl
    · intro c hc
      rcases List.mem_append.mp hc with hc | hc
      · obtain ⟨c1, c2, c3⟩ := hcs c hc
        exact ⟨by rw [upd_ne c3, upd_ne (ne_of_none c1 hp)]; exact c1, c2, c3⟩
      · have ec : c = p := by simpa using hc
        rw [ec]
        exact ⟨by rw [upd_ne hDp.symm, upd_same], hpn, hDp.symm⟩
  · rintro H1 ⟨s1, as, hlen, nd, hD1, hcs⟩
    rw [List.length_map] at hlen
    have h0 : HeldTo H1 D as hs 0 := ⟨hD1, hlen, nd, fun j c e => (hcs c (List.mem_of_getElem? e)).1⟩
    refine ⟨_, rfl, a, _, rfl, s1.tseq hS, for_it (walk_enumT (xs := hs.map hv)) (fun i σ H' => ∃ v2 v3, σ = [some (.ref a), some (.ref D), v2, v3, none] ∧ Same H H' ∧ HeldTo H' D as hs i)
      ⟨none, none, rfl, s1, h0⟩ (fun i σ H' _ p => by obtain ⟨_, _, _, p, _⟩ := p; exact p.tseq hS) ?_ ?_⟩
    · rintro i x σ H2 H3 hi ⟨v2, v3, rfl, s2, hh⟩ ⟨T, x1, x2, rfl, hT, rfl, e1, e2⟩
      have e1' := Option.some.inj e1; subst e1'
      obtain ⟨o, ho, rfl⟩ := hv_get e2
      have s3 : Same H2 (upd H2 T (.tup [.int (i : Int), hv o])) := (Same.refl _).new hT
      have hh3 := hh.same s3
      refine ⟨T, _, rfl, SqT.of upd_same, rfl, _, _, rfl, _, _, rfl, rfl, _, rfl, rfl, _, rfl, ?_⟩
      cases o with
      | none => exact iteF ⟨_, _, rfl, s2.trans s3, hh3.skip ho⟩
      | some u =>
        have hu := hin i u ho
        have hil : i < hs.length := (List.getElem?_eq_some_iff.mp ho).1
        obtain ⟨c, hc⟩ : ∃ c, as[u]? = some c := ⟨as[u]'(by rw [hlen]; exact hu), List.getElem?_eq_getElem _⟩
        have hc2 : (as.map V.ref)[u]? = some (.ref c) := by rw [List.getElem?_map, hc]; rfl
        have hcl := hh3.at_ u c hc
        have hk := kidsTo_len hs u i
        refine iteT ⟨_, rfl, _, rfl, D, _, _, _, rfl, rfl, SqL.of hh3.lst, atI_nat hc2, .inl ⟨rfl, _, SqL.of hcl⟩, _, rfl, c, _, _, rfl, rfl, hcl, by rw [nv_length]; exact szl (by omega), ?_⟩
        exact ⟨_, _, rfl, (s2.trans s3).upd (hcs c (List.mem_of_getElem? hc)).2.1, hh3.put ho hc⟩
    · rintro σ H2 ⟨v2, v3, rfl, s2, hh⟩
      rw [List.length_map] at hh
      exact ⟨_, rfl, q D as H2 s2 hD (fun c hc => (hcs c hc).2.1) hh⟩
end

theorem nodup_len : ∀ (n : Nat) (l : List Nat), l.Nodup → (∀ v ∈ l, v < n) → l.length ≤ n
  | 0, l, _, h => by
    cases l with
    | nil => exact Nat.le_refl _
    | cons a r => exact absurd (h a List.mem_cons_self) (Nat.not_lt_zero _)
  | n + 1, l, nd, h => by
    by_cases hm : n ∈ l
    · have h1 : (l.erase n).Nodup := nd.erase n
      have h2 : ∀ v ∈ l.erase n, v < n := fun v hv => by
        have h3 := h v (List.mem_of_mem_erase hv)
        have h4 : v ≠ n := fun e => by
          rw [e] at hv
          exact (List.Nodup.not_mem_erase nd) hv
        omega
      have ih := nodup_len n _ h1 h2
      have hl := List.length_erase_of_mem hm
      have hp := List.length_pos_of_mem hm
      omega
    · have ih := nodup_len n l nd fun v hv => by
        have h3 := h v hv
        have h4 : v ≠ n := fun e => hm (e ▸ hv)
        omega
      omega
/-- how far a walk has come: found, and what is waiting (its last one next) -/
structure WT (hs : Hs) (st : List Nat) (Rn : Nat → Prop) (found wait : List Nat) : Prop where
  nd : (found ++ wait).Nodup
  ok : ∀ v ∈ found ++ wait, v < hs.length ∧ Rn v ∧ (v ∈ st ∨ ∃ u ∈ found, hs[v]? = some (some u))
  sm : ∀ v ∈ st, v ∈ found ++ wait
  cl : ∀ v u : Nat, hs[v]? = some (some u) → u ∈ found → v ∈ found ++ wait
  od : ∀ i v : Nat, found[i]? = some v → v ∈ st ∨ ∃ j u : Nat, j < i ∧ found[j]? = some u ∧ hs[v]? = some (some u)
  pr : ∀ pre : Nat → List Nat, (∀ v, Rn v → pre v = v :: (kids hs v).flatMap pre) → found ++ wait.reverse.flatMap pre = st.flatMap pre
structure Starts (hs : Hs) (st : List Nat) (Rn : Nat → Prop) : Prop where
  nd : st.Nodup
  ok : ∀ s ∈ st, s < hs.length ∧ Rn s
  down : ∀ v u : Nat, hs[v]? = some (some u) → Rn u → Rn v
  no : ∀ s ∈ st, ∀ u : Nat, hs[s]? = some (some u) → ¬ Rn u
theorem WT.start {hs : Hs} {st : List Nat} {Rn : Nat → Prop} (S : Starts hs st Rn) : WT hs st Rn [] st.reverse where
  nd := by rw [List.nil_append]; exact (List.reverse_perm st).nodup_iff.mpr S.nd
  ok := fun v hv => by
    rw [List.nil_append, List.mem_reverse] at hv
    exact ⟨(S.ok v hv).1, (S.ok v hv).2, .inl hv⟩
  sm := fun v hv => by rw [List.nil_append, List.mem_reverse]; exact hv
  cl := fun v u _ hu => by cases hu
  od := fun i v e => by cases e
  pr := fun pre _ => by rw [List.nil_append, List.reverse_reverse]
theorem WT.step {hs : Hs} {st : List Nat} {Rn : Nat → Prop} {found w : List Nat} {t : Nat} (S : Starts hs st Rn) (h : WT hs st Rn found (w ++ [t])) : WT hs st Rn (found ++ [t]) (w ++ (kids hs t).reverse) := by
  have ht : t ∈ found ++ (w ++ [t]) := by simp
  have htf : t ∉ found := fun z => by
    have q := h.nd
    rw [List.nodup_append] at q
    exact q.2.2 t z t (by simp) rfl
  have hRt := (h.ok t ht).2.1
  have hno : ∀ v ∈ found ++ (w ++ [t]), hs[v]? ≠ some (some t) := fun v hv e => by
    rcases (h.ok v hv).2.2 with z | ⟨u, hu, z⟩
    · exact S.no v z t e hRt
    · rw [e] at z
      cases z
      exact htf hu
  have mem : ∀ v, v ∈ (found ++ [t]) ++ (w ++ (kids hs t).reverse) ↔ v ∈ found ++ (w ++ [t]) ∨ v ∈ kids hs t := fun v => by
    simp only [List.mem_append, List.mem_singleton, List.mem_reverse]
    constructor
    · rintro ((a | a) | (a | a))
      · exact .inl (.inl a)
      · exact .inl (.inr (.inr a))
      · exact .inl (.inr (.inl a))
      · exact .inr a
    · rintro ((a | (a | a)) | a)
      · exact .inl (.inl a)
      · exact .inr (.inl a)
      · exact .inl (.inr a)
      · exact .inr (.inr a)
  refine ⟨?_, fun v hv => ?_, fun v hv => (mem v).mpr (.inl (h.sm v hv)), fun v u e hu => ?_, fun i v e => ?_, fun pre hp => ?_⟩
  · have p : ((found ++ [t]) ++ (w ++ (kids hs t).reverse)).Perm ((found ++ (w ++ [t])) ++ kids hs t) := by
      have p1 : ((found ++ [t]) ++ w).Perm (found ++ (w ++ [t])) := by
        rw [List.append_assoc]
        exact List.Perm.append_left found List.perm_append_comm
      rw [← List.append_assoc]
      exact p1.append (List.reverse_perm _)
    refine p.nodup_iff.mpr (List.nodup_append.mpr ⟨h.nd, nodup_kids hs t, fun x hx y hy e => ?_⟩)
    subst e
    exact hno x hx (mem_kids.mp hy)
  · rcases (mem v).mp hv with z | z
    · obtain ⟨a, b, c⟩ := h.ok v z
      refine ⟨a, b, ?_⟩
      rcases c with c | ⟨u, hu, e⟩
      · exact .inl c
      · exact .inr ⟨u, List.mem_append_left _ hu, e⟩
    · have e := mem_kids.mp z
      exact ⟨(List.getElem?_eq_some_iff.mp e).1, S.down v t e hRt, .inr ⟨t, by simp, e⟩⟩
  · rcases List.mem_append.mp hu with z | z
    · exact (mem v).mpr (.inl (h.cl v u e z))
    · have eu : u = t := by simpa using z
      rw [eu] at e
      exact (mem v).mpr (.inr (mem_kids.mpr e))
  · by_cases hi : i < found.length
    · rw [List.getElem?_append_left hi] at e
      rcases h.od i v e with z | ⟨j, u, hj, e1, e2⟩
      · exact .inl z
      · exact .inr ⟨j, u, hj, by rw [List.getElem?_append_left (by omega)]; exact e1, e2⟩
    · have hi2 : found.length ≤ i := by omega
      rw [List.getElem?_append_right hi2] at e
      have hz : i - found.length = 0 := by
        cases hk : i - found.length with
        | zero => rfl
        | succ k => rw [hk] at e; cases e
      rw [hz] at e
      have ev : t = v := Option.some.inj e
      subst ev
      rcases (h.ok t ht).2.2 with z | ⟨u, hu, e2⟩
      · exact .inl z
      · obtain ⟨j, ej⟩ := List.getElem?_of_mem hu
        have hj := (List.getElem?_eq_some_iff.mp ej).1
        exact .inr ⟨j, u, by omega, by rw [List.getElem?_append_left hj]; exact ej, e2⟩
  · have q := h.pr pre hp
    rw [← q, List.reverse_append, List.reverse_append, List.reverse_reverse]
    show _ = found ++ (t :: w.reverse).flatMap pre
    rw [List.flatMap_cons, hp t hRt, List.flatMap_append]
    simp
theorem WT.room {hs : Hs} {st : List Nat} {Rn : Nat → Prop} {found w : List Nat} {t : Nat} (h : WT hs st Rn found (w ++ [t])) : found.length < hs.length ∧ (w.length + 1) ≤ hs.length := by
  have q := nodup_len hs.length _ h.nd fun v hv => (h.ok v hv).1
  rw [List.length_append, List.length_append] at q
  have e : [t].length = 1 := rfl
  omega
theorem WT.lens {hs : Hs} {st : List Nat} {Rn : Nat → Prop} {found wait : List Nat} (h : WT hs st Rn found wait) : found.length + wait.length ≤ hs.length := by
  have q := nodup_len hs.length _ h.nd fun v hv => (h.ok v hv).1
  rw [List.length_append] at q
  exact q
def spWalkT (K : PySem.W.Frag) : Sp := fun vs H Q _ => ∃ (p q : Addr) (as : List Addr) (hs : Hs) (st : List Nat) (Rn : Nat → Prop), vs = [.ref p, .ref q] ∧ HeldAt H p as hs ∧ SqL K H q (nv st) ∧ hs.length ≤ 1000 ∧ Starts hs st Rn ∧
  ∀ r l H', Same H H' → H r = none → H' r = some (.lst (nv l)) → WT hs st Rn l [] → Q (.ref r) H'
theorem snoc_of {α : Type} {l : List α} (h : 0 < l.length) : ∃ w t, l = w ++ [t] := by
  have hne : l ≠ [] := by
    intro e; subst e; exact absurd h (Nat.lt_irrefl 0)
  refine ⟨l.dropLast, l.getLast hne, ?_⟩
  exact (List.dropLast_concat_getLast _).symm
section
variable {P : Program} {w : World} {K : PySem.W.Frag} {mg : Str → Option Value} {base : Heap}
abbrev st__walk_through : Stmt := topS 18
abbrev N__walk_through : List Str := ["held", "starts", "found", "waiting", "thing"]
theorem sc__walk_through : FnScope N__walk_through ["held", "starts"] (defScope st__walk_through) := ⟨rfl, rfl, rfl, by decide +kernel, rfl, by decide +kernel, by decide +kernel⟩
theorem ok__walk_through (D : Df K mg "_walk_through" st__walk_through ["held", "starts"]) (B : Bl mg) : Kn P w K mg base CX0 1 "_walk_through" st__walk_through ["held", "starts"] (spWalkT K) := by
  refine D.ok sc__walk_through (fun vs H Q E h => ?_) (fun f cdv A outer s H vs Q E hr h => ?_)
  · obtain ⟨p, q, as, hs, st, Rn, rfl, _⟩ := h; rfl
  obtain ⟨p, q, as, hs, st, Rn, rfl, hA, hq, hn, S, k⟩ := h
  refine ⟨_, ((pss_cons (ps_set (i := 2) sc__walk_through.nd rfl (Or.inl rfl) (pe_lst pa_nil))
      (pss_cons (ps_set (i := 3) sc__walk_through.nd rfl (Or.inl rfl) (pe_revL (pv 1)))
      (pss_cons (ps_while PassesOwn.never (pt_cmpR op_gt (pe_callB call_len (by rfl) B.len (by decide +kernel) (pa_cons (pv 3) pa_nil)) pe_int (nomark _)) (pss_cons (ps_set (i := 4) sc__walk_through.nd rfl (Or.inl rfl) (pe_bm0 PySem.F.plainAttrs_list PySem.F.slot_list_pop PySem.F.type_list_pop mt_pop (pv 3)))
      (pss_cons (ps_expr (pe_bm PySem.F.plainAttrs_list PySem.F.slot_list_append PySem.F.type_list_append mt_append (pv 2) (pa_cons (pv 4) pa_nil)))
      (pss_one (ps_expr (pe_bm PySem.F.plainAttrs_list PySem.F.slot_list_extend PySem.F.type_list_extend mt_extend (pv 3) (pa_cons (pe_revL (pe_ix ix_list (pv 0) (pv 4) (fun _ _ => rfl))) pa_nil)))))))
      (pss_one (ps_ret (pv 2))))))), ?_⟩
  refine ⟨by show 0 ≤ sizeLine; decide, fun F hF => ?_⟩
  have s1 : Same H (upd H F (.lst [])) := (Same.refl H).new hF
  refine ⟨_, rfl, q, _, rfl, s1.seq hq, fun W hW => ?_⟩
  have hFW : F ≠ W := ne_of_none upd_same hW
  have hWn : H W = none := s1.free hW
  refine ⟨fun m σ H' => ∃ found wait v4, σ = [some (.ref p), some (.ref q), some (.ref F), some (.ref W), v4] ∧ Same H H' ∧ H' F = some (.lst (nv found)) ∧ H' W = some (.lst (nv wait)) ∧ WT hs st Rn found wait ∧ m = hs.length - found.length,
    ⟨_, [], st.reverse, none, rfl, s1.upd hWn, by rw [upd_ne hFW, upd_same]; rfl, ?_, WT.start S, rfl⟩, ?_⟩
  · rw [upd_same]
    unfold nv
    rw [List.map_reverse]
  · rintro m σ H' ⟨found, wait, v4, rfl, s2, hF2, hW2, hwt, rfl⟩
    refine ⟨_, rfl, _, _, rfl, .inl ⟨_, SqL.of hW2, rfl⟩, _, _, rfl, rfl, _, rfl, ?_⟩
    refine ite2 (fun c => ?_) (fun c => ?_)
    · have hpos : 0 < wait.length := by
        have c' := of_decide_eq_true c
        rw [nv_length] at c'
        omega
      obtain ⟨w', t, rfl⟩ := snoc_of hpos
      have hroom := hwt.room
      have hlens := (hwt.step S).lens
      rw [List.length_append, List.length_append, List.length_reverse] at hlens
      have h1 : [t].length = 1 := rfl
      refine ⟨fun σ' H' => ∃ m', m' < hs.length - found.length ∧ ∃ found wait v4, σ' = [some (.ref p), some (.ref q), some (.ref F), some (.ref W), v4] ∧ Same H H' ∧ H' F = some (.lst (nv found)) ∧ H' W = some (.lst (nv wait)) ∧ WT hs st Rn found wait ∧ m' = hs.length - found.length, fun _ _ h => h, ?_⟩
      -- thing = waiting.pop()
      refine ⟨_, rfl, .inl ⟨rfl, _, SqL.of hW2⟩, W, _, .int (t : Int), rfl, rfl, hW2, ?_, ?_⟩
      · rw [nv_append, List.length_append]
        show (nv w' ++ [V.int (t : Int)])[(nv w').length + 1 - 1]? = _
        simp
      have hW3 : upd H' W (.lst (nv (w' ++ [t])).dropLast) W = some (.lst (nv w')) := by
        rw [upd_same, nv_append]
        show some (HO.lst (nv w' ++ [V.int (t : Int)]).dropLast) = _
        rw [List.dropLast_concat]
      have hF3 : upd H' W (.lst (nv (w' ++ [t])).dropLast) F = some (.lst (nv found)) := by rw [upd_ne hFW]; exact hF2
      have s3 : Same H (upd H' W (.lst (nv (w' ++ [t])).dropLast)) := s2.upd hWn
      generalize upd H' W (.lst (nv (w' ++ [t])).dropLast) = H3 at hW3 hF3 s3 ⊢
      -- found.append(thing)
      refine ⟨_, rfl, .inl ⟨rfl, _, SqL.of hF3⟩, _, rfl, F, _, _, rfl, rfl, hF3, by rw [nv_length]; exact szl (by omega), ?_⟩
      have hF4 : upd H3 F (.lst (nv found ++ [V.int (t : Int)])) F = some (.lst (nv (found ++ [t]))) := by rw [upd_same, nv_append]; rfl
      have hW4 : upd H3 F (.lst (nv found ++ [V.int (t : Int)])) W = some (.lst (nv w')) := by rw [upd_ne hFW.symm]; exact hW3
      have s4 : Same H (upd H3 F (.lst (nv found ++ [V.int (t : Int)]))) := s3.upd hF
      generalize upd H3 F (.lst (nv found ++ [V.int (t : Int)])) = H4 at hF4 hW4 s4 ⊢
      -- waiting.extend(held[thing][::-1])
      have hA4 := hA.same s4
      have htl : t < hs.length := (hwt.ok t (by simp)).1
      obtain ⟨c2, hc2⟩ : ∃ c2, as[t]? = some c2 := ⟨as[t]'(by rw [hA.len]; exact htl), List.getElem?_eq_getElem _⟩
      have hc3 : (as.map V.ref)[t]? = some (.ref c2) := by rw [List.getElem?_map, hc2]; rfl
      refine ⟨_, rfl, .inl ⟨rfl, _, SqL.of hW4⟩, _, rfl, _, rfl, p, _, _, _, rfl, rfl, SqL.of hA4.lst, atI_nat hc3, c2, _, rfl, SqL.of (hA4.at_ t c2 hc2), fun R hR => ?_⟩
      have hWR : W ≠ R := ne_of_none hW4 hR
      have hFR : F ≠ R := ne_of_none hF4 hR
      refine ⟨W, R, _, _, rfl, rfl, by rw [upd_ne hWR]; exact hW4, upd_same, ?_, ?_⟩
      · rw [List.length_reverse, nv_length, nv_length]
        exact Nat.le_of_lt (szl (by show w'.length + (kids hs t).length ≤ 1000; omega))
      · refine ⟨_, ?_, found ++ [t], w' ++ (kids hs t).reverse, _, rfl, (s4.upd (s4.free hR)).upd hWn, by rw [upd_ne hFW, upd_ne hFR]; exact hF4, ?_, hwt.step S, rfl⟩
        · rw [List.length_append, h1]; omega
        · rw [upd_same, nv_append]
          congr 2
          unfold nv
          rw [List.map_reverse]; rfl
    · have hz : wait = [] := by
        cases wait with
        | nil => rfl
        | cons a r =>
          refine absurd (decide_eq_true ?_) c
          rw [nv_length, List.length_cons]; omega
      subst hz
      exact ⟨_, rfl, k F found H' s2 hF hF2 hwt⟩
end

inductive Rch (hs : Hs) : Nat → Prop where
  | root {v : Nat} (h : hs[v]? = some none) : Rch hs v
  | step {v u : Nat} (h : hs[v]? = some (some u)) (r : Rch hs u) : Rch hs v
/-- a forest as a list of holders -/
structure Fo (hs : Hs) : Prop where
  ne : hs ≠ []
  inb : InB hs
  all : ∀ v : Nat, v < hs.length → Rch hs v
theorem starts_roots (hs : Hs) : Starts hs (roots hs) (Rch hs) where
  nd := nodup_roots hs
  ok := fun s h => ⟨(List.getElem?_eq_some_iff.mp (mem_roots.mp h)).1, .root (mem_roots.mp h)⟩
  down := fun _ _ e r => .step e r
  no := fun s h u e => by rw [mem_roots.mp h] at e; cases e
theorem WT.all_found {hs : Hs} {l : List Nat} {Rn : Nat → Prop} (h : WT hs (roots hs) Rn l []) {v : Nat} (r : Rch hs v) : v ∈ l := by
  have z : ∀ w, w ∈ l ++ [] → w ∈ l := fun w q => by rw [List.append_nil] at q; exact q
  induction r with
  | root e => exact z _ (h.sm _ (mem_roots.mpr e))
  | step e _ ih => exact z _ (h.cl _ _ e ih)
theorem mem_of_full : ∀ (n : Nat) (l : List Nat), l.Nodup → (∀ v ∈ l, v < n) → l.length = n → ∀ v, v < n → v ∈ l := fun n l nd h e v hv => by
  refine Classical.byContradiction fun hm => ?_
  have q := nodup_len n (v :: l) (List.nodup_cons.mpr ⟨hm, nd⟩) fun w hw => by
    rcases List.mem_cons.mp hw with rfl | hw
    · exact hv
    · exact h w hw
  rw [List.length_cons] at q
  omega
theorem nodup_sub : ∀ (a l : List Nat), a.Nodup → (∀ v ∈ a, v ∈ l) → a.length ≤ l.length
  | [], l, _, _ => Nat.zero_le _
  | x :: r, l, nd, h => by
    have hx := h x List.mem_cons_self
    have ih := nodup_sub r (l.erase x) (List.nodup_cons.mp nd).2 fun v hv => by
      have hne : v ≠ x := fun e => (List.nodup_cons.mp nd).1 (e ▸ hv)
      exact (List.mem_erase_of_ne hne).mpr (h v (List.mem_cons_of_mem _ hv))
    have hl := List.length_erase_of_mem hx
    have hp := List.length_pos_of_mem hx
    rw [List.length_cons]
    omega
def holdOk (n : Int) : V → Bool
  | .non => true
  | x => isIdx n x
def toHold : V → Option Nat
  | .int i => some i.toNat
  | _ => none
theorem holds_of {n : Nat} : ∀ (xs : List V), (xs.all fun y => holdOk (n : Int) y) = true → xs = (xs.map toHold).map hv ∧ ∀ v u : Nat, (xs.map toHold)[v]? = some (some u) → u < n
  | [], _ => ⟨rfl, fun v u h => by simp at h⟩
  | x :: xs, h => by
    rw [List.all_cons, Bool.and_eq_true] at h
    obtain ⟨e, z⟩ := holds_of xs h.2
    have hx : x = hv (toHold x) ∧ ∀ u, toHold x = some u → u < n := by
      cases x with
      | non => exact ⟨rfl, fun u w => by cases w⟩
      | int i =>
        have c : (decide (0 ≤ i) && decide (i < (n : Int))) = true := h.1
        rw [Bool.and_eq_true, decide_eq_true_eq, decide_eq_true_eq] at c
        refine ⟨?_, fun u w => ?_⟩
        · show V.int i = V.int ((i.toNat : Nat) : Int)
          congr 1; omega
        · have w' := Option.some.inj w
          omega
      | _ => exact absurd (show false = true from h.1) Bool.false_ne_true
    refine ⟨?_, fun v u w => ?_⟩
    · rw [List.map_cons, List.map_cons, ← e, ← hx.1]
    · cases v with
      | zero => exact hx.2 u (Option.some.inj w)
      | succ v => exact z v u w
theorem holdOk_hv {hs : Hs} (h : InB hs) : ((hs.map hv).all fun y => holdOk (hs.length : Int) y) = true := by
  rw [List.all_eq_true]
  intro y hy
  obtain ⟨o, ho, rfl⟩ := List.mem_map.mp hy
  cases o with
  | none => rfl
  | some u =>
    obtain ⟨v, hv'⟩ := List.getElem?_of_mem ho
    have q := h v u hv'
    show (decide (0 ≤ (u : Int)) && decide ((u : Int) < (hs.length : Int))) = true
    rw [Bool.and_eq_true, decide_eq_true_eq, decide_eq_true_eq]
    omega
theorem hv_inj : ∀ {a b : Hs}, a.map hv = b.map hv → a = b
  | [], [], _ => rfl
  | [], _ :: _, h => by cases h
  | _ :: _, [], h => by cases h
  | x :: a, y :: b, h => by
    rw [List.map_cons, List.map_cons] at h
    injection h with h1 h2
    have e := hv_inj h2
    have e1 : x = y := by
      cases x with
      | none => cases y with
        | none => rfl
        | some u => cases h1
      | some v => cases y with
        | none => cases h1
        | some u =>
          have q := V.int.inj h1
          congr 1; omega
    rw [e, e1]
def IsF (H : Hp) (x : V) : Prop := ∃ hs : Hs, tupAt H x = some (hs.map hv) ∧ Fo hs
/-- what is_forest may be asked: a value whose tuple's items are told too -/
structure Askd (H : Hp) (x : V) : Prop where
  vd : Vd H x
  items : ∀ xs, tupAt H x = some xs → xs.length ≤ 1000 ∧ ∀ y ∈ xs, Vd H y
theorem tupAt_ref {H : Hp} {x : V} {xs : List V} (h : tupAt H x = some xs) : ∃ a, x = .ref a ∧ H a = some (.tup xs) := by
  cases x with
  | ref a =>
    refine ⟨a, rfl, ?_⟩
    cases e : H a with
    | none => simp only [tupAt, e] at h; cases h
    | some o =>
      cases o with
      | tup ys => simp only [tupAt, e] at h; rw [Option.some.inj h]
      | _ => simp only [tupAt, e] at h; cases h
  | _ => cases h
def spIsForest : Sp := fun vs H Q _ => ∃ x : V, vs = [x] ∧ Askd H x ∧ ∀ b H', Same H H' → (b = true ↔ IsF H x) → Q (.bl b) H'
section
variable {P : Program} {w : World} {K : PySem.W.Frag} {mg : Str → Option Value} {base : Heap}
abbrev st_is_forest : Stmt := topS 11
abbrev N_is_forest : List Str := ["value", "holder"]
theorem sc_is_forest : FnScope N_is_forest ["value"] (defScope st_is_forest) := ⟨rfl, rfl, rfl, by decide +kernel, rfl, by decide +kernel, by decide +kernel⟩
theorem ok_is_forest (D : Df K mg "is_forest" st_is_forest ["value"]) (B : Bl mg) (Kis_index : Kn P w K mg base CX0 3 "is_index" st_is_index ["value", "many"] spIsIndex)
    (K_without_holder : Kn P w K mg base CX0 1 "_without_holder" st__without_holder ["forest"] (spWithout K)) (K_held_lists : Kn P w K mg base CX0 1 "_held_lists" st__held_lists ["forest"] (spHeld K))
    (K_walk_through : Kn P w K mg base CX0 1 "_walk_through" st__walk_through ["held", "starts"] (spWalkT K)) : Kn P w K mg base CX0 4 "is_forest" st_is_forest ["value"] spIsForest := by
  refine D.ok sc_is_forest (fun vs H Q E h => ?_) (fun f cdv A outer s H vs Q E hr h => ?_)
  · obtain ⟨x, rfl, _⟩ := h; rfl
  obtain ⟨x, rfl, ask, q⟩ := h
  refine ⟨_, ((pss_cons (ps_if (PW.pt (pw_or (pt_not (pt_val (pe_callB call_isi (by rfl) B.isinstance (by decide +kernel) (pa_cons (pv 0) (pa_cons (pe_bltn (v := .ty "tuple") (u := .type "tuple") (by rfl) B.tuple (by decide +kernel) rfl) pa_nil))))) (pw_or1 (pt_cmpR op_eq (pe_callB call_len (by rfl) B.len (by decide +kernel) (pa_cons (pv 0) pa_nil)) pe_int (nomark _))))) (pss_one (ps_ret pe_bl)) pss_nil)
      (pss_cons (ps_if (pt_not (pt_val (pe_callB (cr_all rfl) (by rfl) B.all (by decide +kernel) (pa_cons (pe_lc (own := [("holder", 1)]) (g := gName 1) rfl sc_is_forest.nd (pi_tup (pv 0)) (blkOk_by (N := N_is_forest) (sc := defScope st_is_forest) (own := [("holder", 1)]) (by decide +kernel)) (fun _ _ _ _ _ => by (exact (pg_name (i := 1) sc_is_forest.nd rfl (Or.inl rfl)))) (fun _ _ _ _ _ => by exact pts_nil) (fun _ _ _ _ _ => by exact (pe_or (pe_cmpR op_isN (pv 1) pe_non (nomark _)) (pe_one (pe_callF Kis_index (hr.mono (by decide)) pass0 (pa_cons (pv 1) (pa_cons (pe_callB (call_lenK K) (by rfl) B.len (by decide +kernel) (pa_cons (pv 0) pa_nil)) pa_nil))))))) pa_nil)))) (pss_one (ps_ret pe_bl)) pss_nil)
      (pss_one (ps_ret (pe_cmpR op_eq (pe_callB call_len (by rfl) B.len (by decide +kernel) (pa_cons (pe_callF K_walk_through (hr.mono (by decide)) pass0 (pa_cons (pe_callF K_held_lists (hr.mono (by decide)) pass0 (pa_cons (pv 0) pa_nil)) (pa_cons (pe_callF K_without_holder (hr.mono (by decide)) pass0 (pa_cons (pv 0) pa_nil)) pa_nil))) pa_nil)) (pe_callB call_len (by rfl) B.len (by decide +kernel) (pa_cons (pv 0) pa_nil)) (nomark _))))))), ?_⟩
  obtain ⟨t, ty, _, _, k3⟩ := ask.vd.ty (K := K)
  refine ⟨_, rfl, _, _, _, _, _, rfl, .ty _, ty, kit_ty k3, _, rfl, ?_⟩
  have no : (¬ IsF H x) → ∀ H', Same H H' → Q (.bl false) H' := fun hn H' s' => q false H' s' ⟨fun z => absurd z Bool.false_ne_true, fun z => absurd z hn⟩
  cases e : tupAt H x with
  | none =>
    refine iteT (iteT ?_)
    exact no (fun ⟨hs, z, _⟩ => by rw [e] at z; cases z) H (Same.refl H)
  | some xs =>
    obtain ⟨a, rfl, ha⟩ := tupAt_ref e
    obtain ⟨hlen, hvd⟩ := ask.items xs e
    refine iteF ⟨_, rfl, _, _, rfl, .inr ⟨_, SqT.of ha, rfl⟩, rfl, _, rfl, ?_⟩
    refine ite2 (fun c => ?_) (fun c => ?_)
    · refine no (fun ⟨hs, z, fo⟩ => ?_) H (Same.refl H)
      rw [e] at z
      have z' := Option.some.inj z
      have c' := of_decide_eq_true c
      have c2 := V.int.inj c'
      rw [z', List.length_map] at c2
      exact fo.ne (List.eq_nil_of_length_eq_zero (by omega))
    · -- all([..])
      refine ⟨_, rfl, a, rfl, ⟨_, SqT.of ha⟩, fun L hL => lc_it (walk_tup (xs := xs)) (fun i H' => Same H H' ∧ H' L = some (.lst ((xs.take i).map fun y => V.bl (holdOk (xs.length : Int) y))))
        ⟨(Same.refl H).new hL, upd_same⟩ (fun i H' _ p => p.1.tseq (SqT.of ha)) ?_ ?_⟩
      · rintro i y H1 H2 hi ⟨s1, hL1⟩ ⟨rfl, e1⟩
        have hvy := (hvd y (List.mem_of_getElem? e1)).same s1
        have fin : ∃ acc, H2 L = some (.lst acc) ∧ acc.length < sizeLine ∧ (Same H (upd H2 L (.lst (acc ++ [V.bl (holdOk (xs.length : Int) y)]))) ∧ upd H2 L (.lst (acc ++ [V.bl (holdOk (xs.length : Int) y)])) L = some (.lst ((xs.take (i + 1)).map fun y => V.bl (holdOk (xs.length : Int) y)))) := by
          refine ⟨_, hL1, ?_, s1.upd hL, ?_⟩
          · rw [List.length_map, List.length_take]; exact szl (by omega)
          · rw [upd_same, List.take_add_one, e1]
            show _ = some (HO.lst (((xs.take i) ++ [y]).map _))
            rw [List.map_append]; rfl
        refine ⟨rfl, _, rfl, rfl, _, rfl, ?_⟩
        cases y with
        | non => exact iteT fin
        | _ =>
          refine iteF ⟨_, rfl, _, rfl, _, _, rfl, .inr ⟨_, s1.tseq (SqT.of ha), rfl⟩, _, _, rfl, hvy, ?_⟩
          exact fin
      · rintro H1 ⟨s1, hL1⟩
        rw [List.take_length] at hL1
        refine ⟨L, (xs.map fun y => holdOk (xs.length : Int) y), rfl, SqL.of (by rw [hL1, List.map_map]; rfl), _, rfl, ?_⟩
        have eall : (xs.map fun y => holdOk (xs.length : Int) y).all id = xs.all fun y => holdOk (xs.length : Int) y := by rw [List.all_map]; rfl
        rw [eall]
        cases ea : xs.all fun y => holdOk (xs.length : Int) y with
        | false =>
          refine iteT (no (fun ⟨hs, z, fo⟩ => ?_) H1 s1)
          rw [e] at z
          have z' := Option.some.inj z
          have w := holdOk_hv fo.inb
          rw [z', List.length_map, w] at ea
          cases ea
        | true =>
          refine iteF ?_
          obtain ⟨ex, hb⟩ := holds_of xs ea
          have hlh : (xs.map toHold).length = xs.length := List.length_map _
          rw [← hlh] at hb
          have hS1 : SqT K H1 a ((xs.map toHold).map hv) := by rw [← ex]; exact s1.tseq (SqT.of ha)
          generalize hhs : xs.map toHold = hs at ex hb hlh hS1
          have e' : tupAt H (.ref a) = some (hs.map hv) := by rw [e, ex]
          -- len(_walk_through(..)) == len(value)
          refine ⟨_, rfl, a, hs, rfl, hS1, by omega, hb, fun p as H2 s2 hp hpc hA => ?_⟩
          refine ⟨_, rfl, a, hs, rfl, s2.tseq hS1, by omega, fun p2 H3 s3 hp2 hr2 => ?_⟩
          refine ⟨p, p2, as, hs, roots hs, Rch hs, rfl, hA.same s3, SqL.of hr2, by omega, starts_roots hs, fun r l H4 s4 hr4 hl4 hwt => ?_⟩
          refine ⟨_, _, rfl, .inl ⟨_, SqL.of hl4, rfl⟩, _, rfl, _, _, rfl, .inr ⟨_, s4.tseq (s3.tseq (s2.tseq hS1)), rfl⟩, rfl, ?_⟩
          refine q _ _ (((s1.trans s2).trans s3).trans s4) ⟨fun z => ?_, fun z => ?_⟩
          · have z2 := V.int.inj (of_decide_eq_true z)
            rw [nv_length, List.length_map] at z2
            have c3 : ¬ V.int (xs.length : Int) = V.int 0 := fun w => c (decide_eq_true w)
            refine ⟨hs, e', ?_, hb, fun v hv' => ?_⟩
            · intro w
              rw [w] at hlh
              exact c3 (by rw [← hlh]; rfl)
            · have hl2 : l.length = hs.length := by omega
              have nd2 := hwt.nd
              rw [List.append_nil] at nd2
              have hlt : ∀ w ∈ l, w < hs.length := fun w hw => (hwt.ok w (by rw [List.append_nil]; exact hw)).1
              have hm := mem_of_full hs.length l nd2 hlt hl2 v hv'
              exact (hwt.ok v (by rw [List.append_nil]; exact hm)).2.1
          · obtain ⟨hs', z1, fo⟩ := z
            rw [e'] at z1
            have eh := hv_inj (Option.some.inj z1)
            subst eh
            refine decide_eq_true ?_
            rw [nv_length, List.length_map]
            have h1 := hwt.lens
            rw [List.length_nil] at h1
            have h2 : hs.length ≤ l.length := by
              have q2 := nodup_sub (List.range hs.length) l List.nodup_range fun v hv' => hwt.all_found (fo.all v (List.mem_range.mp hv'))
              rw [List.length_range] at q2; exact q2
            have h3 : l.length = hs.length := by omega
            rw [h3]
end

end My

namespace My
open PySem PySem.Spec PyProof.Rows L2
/-! ### the law's well of numbers -/
structure Well (H : Hp) (wl : Addr) (n : Nat) : Prop where
  ex : ∃ a b c : Int, H wl = some (.lst [.int a, .int b, .int c]) ∧ 0 ≤ a ∧ 0 ≤ b ∧ b.natAbs < 2 ^ 200 ∧ 0 ≤ c ∧ c ≤ (n : Int)
theorem Well.mono {H : Hp} {wl : Addr} {n m : Nat} (h : Well H wl n) (l : n ≤ m) : Well H wl m := by
  obtain ⟨a, b, c, e, h1, h2, h3, h4, h5⟩ := h.ex
  exact ⟨a, b, c, e, h1, h2, h3, h4, by omega⟩
theorem Well.same {H H' : Hp} {wl : Addr} {n : Nat} (h : Well H wl n) (s : Same H H') : Well H' wl n := by
  obtain ⟨a, b, c, e, r⟩ := h.ex
  exact ⟨a, b, c, s _ _ e, r⟩
theorem Well.here {H : Hp} {wl : Addr} {n : Nat} (h : Well H wl n) : ∃ l, H wl = some (.lst l) := by
  obtain ⟨a, b, c, e, r⟩ := h.ex
  exact ⟨_, e⟩
def spWell (K : PySem.W.Frag) : Sp := fun vs H Q _ => ∃ (a : Addr) (ns : List Int) (i : Nat), vs = [.ref a, .int (i : Int)] ∧ SqL K H a (ns.map V.int) ∧ i < 64 ∧ ∀ p H', Same H H' → H p = none → Well H' p 0 → Q (.ref p) H'
def spDraw : Sp := fun vs H Q _ => ∃ (wl : Addr) (n : Nat) (m : Int), vs = [.ref wl, .int m] ∧ Well H wl n ∧ n < 2 ^ 60 ∧ 1 ≤ m ∧ m.natAbs < 2 ^ 100 ∧ ∀ d H', 0 ≤ d → d < m → Keep wl H H' → Well H' wl (n + 1) → Q (.int d) H'
theorem mul_small {i j : Int} (h : -(2 ^ 64) < i ∧ i < 2 ^ 64) : CMul i j := .inl h
theorem mod_abs {x m : Int} {b : Nat} (h0 : 0 < m) (h : m.natAbs < 2 ^ b) : (x % m).natAbs < 2 ^ b := by
  have h1 := Int.emod_nonneg x (show m ≠ 0 by omega)
  have h2 := Int.emod_lt_of_pos x h0
  omega
theorem cpow10 {k : Int} (h0 : 0 ≤ k) (h : k ≤ 1000) : CPowW 10 k := by
  refine ⟨h0, ?_⟩
  have e : (Builtin.Int.intBits 10 : Int) = 4 := by decide
  have e2 : (2 : Int) ^ 27 = 134217728 := by decide
  rw [e, e2]; omega
section
variable {P : Program} {w : World} {K : PySem.W.Frag} {mg : Str → Option Value} {base : Heap}
abbrev st__law_draw : Stmt := topS 24
abbrev N__law_draw : List Str := ["well", "most", "digit", "blend"]
theorem sc__law_draw : FnScope N__law_draw ["well", "most"] (defScope st__law_draw) := ⟨rfl, rfl, rfl, by decide +kernel, rfl, by decide +kernel, by decide +kernel⟩
theorem ok__law_draw (D : Df K mg "_law_draw" st__law_draw ["well", "most"]) (B : Bl mg) : Kn P w K mg base CX0 1 "_law_draw" st__law_draw ["well", "most"] spDraw := by
  refine D.ok sc__law_draw (fun vs H Q E h => ?_) (fun f cdv A outer s H vs Q E hr h => ?_)
  · obtain ⟨wl, n, m, rfl, _⟩ := h; rfl
  obtain ⟨wl, n, m, rfl, hw, hn, h1, hm, q⟩ := h
  refine ⟨_, ((pss_cons (ps_if (pt_cmpR op_gt (pe_ix ix_list (pv 0) pe_int (fun _ _ => rfl)) pe_int (nomark _)) (pss_cons (ps_set (i := 2) sc__law_draw.nd rfl (Or.inl rfl) (pe_op op_mod (pe_callTy call_int1 (by rfl) B.int (by decide +kernel) (pa_cons (pe_ix ix_list (pv 0) pe_int (fun _ _ => rfl)) pa_nil)) (pv 1)))
      (pss_cons (ps_asg (pe_op op_fdivW (pe_ix ix_list (pv 0) pe_int (fun _ _ => rfl)) (pv 1)) (pg_sub (pv 0) pe_int set_list))
      (pss_one (ps_ret (pv 2))))) pss_nil)
      (pss_cons (ps_asg (pe_op op_add (pe_ix ix_list (pv 0) pe_int (fun _ _ => rfl)) pe_int) (pg_sub (pv 0) pe_int set_list))
      (pss_cons (ps_set (i := 3) sc__law_draw.nd rfl (Or.inl rfl) (pe_op op_mod (pe_op op_powW (pe_callTy call_int1 (by rfl) B.int (by decide +kernel) (pa_cons (pe_op op_add (pe_ix ix_list (pv 0) pe_int (fun _ _ => rfl)) (pe_op op_mul pe_int (pe_ix ix_list (pv 0) pe_int (fun _ _ => rfl)))) pa_nil)) pe_int) (pe_op op_add (pe_op op_powW pe_int pe_int) pe_int)))
      (pss_cons (ps_set (i := 3) sc__law_draw.nd rfl (Or.inl rfl) (pe_op op_mod (pe_op op_powW (pe_callTy call_int1 (by rfl) B.int (by decide +kernel) (pa_cons (pe_op op_add (pv 3) (pe_op op_mul pe_int (pe_ix ix_list (pv 0) pe_int (fun _ _ => rfl)))) pa_nil)) pe_int) (pe_op op_add (pe_op op_powW pe_int pe_int) pe_int)))
      (pss_one (ps_ret (pe_op op_mod (pe_callTy call_int1 (by rfl) B.int (by decide +kernel) (pa_cons (pe_op op_fdivW (pv 3) pe_int) pa_nil)) (pv 1))))))))), ?_⟩
  obtain ⟨a, b, c, e, ha, hb, hb2, hc, hc2⟩ := hw.ex
  have g0 : ∀ {H' : Hp} {x y z : V}, H' wl = some (.lst [x, y, z]) → SqL K H' wl [x, y, z] := fun h => SqL.of h
  -- if well[0] > 0
  refine ⟨_, rfl, wl, _, _, _, rfl, rfl, g0 e, rfl, _, _, rfl, rfl, _, rfl, ?_⟩
  refine ite2 (fun c1 => ?_) (fun c1 => ?_)
  · -- digit = int(well[0]) % most; well[0] = well[0] // most; return digit
    refine ⟨_, rfl, wl, _, _, _, rfl, rfl, g0 e, rfl, .inl ⟨_, rfl, _, rfl, _, _, rfl, rfl, by show (0 : Int) < m; omega, ?_⟩⟩
    refine ⟨_, rfl, wl, _, _, _, rfl, rfl, g0 e, rfl, _, rfl, _, _, rfl, rfl, wide_div (by omega) hm (by decide) (by decide), ?_⟩
    refine ⟨_, rfl, wl, _, _, 0, rfl, rfl, e, rfl, ?_⟩
    refine ⟨_, rfl, q _ _ (Int.emod_nonneg a (by omega)) (Int.emod_lt_of_pos a (by omega)) (Keep.upd _ _ _) ⟨a / m, b, c, upd_same, Int.ediv_nonneg ha (by omega), hb, hb2, hc, by omega⟩⟩
  · -- well[2] = well[2] + 1
    refine ⟨_, rfl, wl, _, _, _, rfl, rfl, g0 e, rfl, _, _, rfl, rfl, ?_⟩
    refine ⟨_, rfl, wl, _, _, 2, rfl, rfl, e, rfl, ?_⟩
    have e2 : upd H wl (.lst (([V.int a, V.int b, V.int c]).set 2 (V.int (c + 1)))) wl = some (.lst [V.int a, V.int b, V.int (c + 1)]) := upd_same
    have k2 : Keep wl H (upd H wl (.lst (([V.int a, V.int b, V.int c]).set 2 (V.int (c + 1))))) := Keep.upd _ _ _
    have w2 : Well (upd H wl (.lst (([V.int a, V.int b, V.int c]).set 2 (V.int (c + 1))))) wl (n + 1) := ⟨a, b, c + 1, e2, ha, hb, hb2, by omega, by omega⟩
    generalize upd H wl (.lst (([V.int a, V.int b, V.int c]).set 2 (V.int (c + 1)))) = H2 at e2 k2 w2 ⊢
    have p60 : (2 : Nat) ^ 60 = 1152921504606846976 := by decide
    have p64 : (2 : Int) ^ 64 = 18446744073709551616 := by decide
    have p200 : (2 : Nat) ^ 200 = 1606938044258990275541962092341162602522202993782792835301376 := by decide +kernel
    have p201 : (2 : Nat) ^ 201 = 3213876088517980551083924184682325205044405987565585670602752 := by decide +kernel
    have b1 : (b + 715827883 * (c + 1)).natAbs < 2 ^ 201 := by omega
    have m1 : (10 : Int) ^ (41 : Int).toNat + 109 = 100000000000000000000000000000000000000109 := by decide +kernel
    have m2 : (10 : Int) ^ (39 : Int).toNat + 3 = 1000000000000000000000000000000000000003 := by decide +kernel
    -- blend = int(well[1] + 715827883 * well[2]) ** 3 % (10 ** 41 + 109)
    refine ⟨_, rfl, wl, _, _, _, rfl, rfl, g0 e2, rfl, _, rfl, wl, _, _, _, rfl, rfl, g0 e2, rfl, _, _, rfl, rfl, mul_small ⟨by rw [p64]; decide, by rw [p64]; decide⟩, _, _, rfl, rfl, .inl ⟨_, rfl, _, _, rfl, rfl, cpow3 b1 (by decide) (by decide),
      _, _, rfl, rfl, cpow10 (by decide) (by decide), _, _, rfl, rfl, _, _, rfl, rfl, by rw [m1]; show (0 : Int) < 100000000000000000000000000000000000000109; decide, ?_⟩⟩
    rw [m1]
    have b2 : ∀ x : Int, 0 ≤ x → x < 100000000000000000000000000000000000000109 → (x + 198491317 * (c + 1)).natAbs < 2 ^ 201 := fun x h h' => by omega
    have b3 : ∀ z : Int, (z % 100000000000000000000000000000000000000109 + 198491317 * (c + 1)).natAbs < 2 ^ 201 := fun z => b2 _ (Int.emod_nonneg _ (by decide)) (Int.emod_lt_of_pos _ (by decide))
    -- blend = int(blend + 198491317 * well[2]) ** 3 % (10 ** 39 + 3)
    refine ⟨_, rfl, _, rfl, wl, _, _, _, rfl, rfl, g0 e2, rfl, _, _, rfl, rfl, mul_small ⟨by rw [p64]; decide, by rw [p64]; decide⟩, _, _, rfl, rfl, .inl ⟨_, rfl, _, _, rfl, rfl, cpow3 (b3 _) (by decide) (by decide),
      _, _, rfl, rfl, cpow10 (by decide) (by decide), _, _, rfl, rfl, _, _, rfl, rfl, by rw [m2]; show (0 : Int) < 1000000000000000000000000000000000000003; decide, ?_⟩⟩
    rw [m2]
    -- return int(blend // 1048576) % most
    refine ⟨_, rfl, _, _, rfl, rfl, ⟨by decide, by decide +kernel⟩, .inl ⟨_, rfl, _, rfl, _, _, rfl, rfl, by omega, ?_⟩⟩
    exact q _ _ (Int.emod_nonneg _ (by omega)) (Int.emod_lt_of_pos _ (by omega)) k2 w2
abbrev st__law_well : Stmt := topS 23
abbrev N__law_well : List Str := ["script", "at", "cell"]
theorem sc__law_well : FnScope N__law_well ["script", "at"] (defScope st__law_well) := ⟨rfl, rfl, rfl, by decide +kernel, rfl, by decide +kernel, by decide +kernel⟩
theorem ok__law_well (D : Df K mg "_law_well" st__law_well ["script", "at"]) (B : Bl mg) : Kn P w K mg base CX0 1 "_law_well" st__law_well ["script", "at"] (spWell K) := by
  refine D.ok sc__law_well (fun vs H Q E h => ?_) (fun f cdv A outer s H vs Q E hr h => ?_)
  · obtain ⟨a, ns, i, rfl, _⟩ := h; rfl
  obtain ⟨a, ns, i, rfl, hS, hi, q⟩ := h
  refine ⟨_, ((pss_cons (ps_set (i := 2) sc__law_well.nd rfl (Or.inl rfl) (pe_ifExp (pt_cmpR op_lt (pv 1) (pe_callB call_len (by rfl) B.len (by decide +kernel) (pa_cons (pv 0) pa_nil)) (nomark _)) (pe_ix ix_list (pv 0) (pv 1) (fun _ _ => rfl)) pe_int))
      (pss_one (ps_ret (pe_lst (pa_cons (pe_callB (call_max2 rfl) (by rfl) B.max (by decide +kernel) (pa_cons pe_int (pa_cons (pe_op op_sub (pe_callB call_abs (by rfl) B.abs (by decide +kernel) (pa_cons (pv 2) pa_nil)) (pe_op op_powW pe_int pe_int)) pa_nil))) (pa_cons (pe_op op_add (pe_op op_add (pe_op op_mul (pe_op op_mod (pe_callTy call_int1 (by rfl) B.int (by decide +kernel) (pa_cons (pv 2) pa_nil)) (pe_op op_add (pe_op op_powW pe_int pe_int) pe_int)) pe_int) (pe_op op_mul pe_int (pv 1))) pe_int) (pa_cons pe_int pa_nil)))))))), ?_⟩
  have p64 : (2 : Int) ^ 64 = 18446744073709551616 := by decide
  have m1 : (10 : Int) ^ (37 : Int).toNat + 141 = 10000000000000000000000000000000000141 := by decide +kernel
  have p200 : (2 : Nat) ^ 200 = 1606938044258990275541962092341162602522202993782792835301376 := by decide +kernel
  -- what follows once the cell is known
  have rest : ∀ cell : Int, (tRet (tLst (tCons (tCB (fun xs H Q => ∃ i j, xs = [V.int i, V.int j] ∧ Q (.int (if j > i then j else i)) H) (tCons (tC (.int 0)) (tCons (tOp (rI0 fun i j => .int (i - j)) (tCB (fun xs H Q => ∃ i, xs = [V.int i] ∧ Q (.int (if i < 0 then -i else i)) H) (tCons (tVar 2) tNil)) (tOp (rI CPowW fun i j => .int (i ^ j.toNat)) (tC (.int 10)) (tC (.int 18)))) tNil)))
      (tCons (tOp (rI0 fun i j => .int (i + j)) (tOp (rI0 fun i j => .int (i + j)) (tOp (rI CMul fun i j => .int (i * j)) (tOp (rI (fun _ j => 0 < j) fun i j => .int (i % j)) (tCB (fun xs H Q => (∃ i, xs = [V.int i] ∧ Q (.int i) H) ∨ ∃ k, xs = [V.bl k] ∧ Q (.int (if k then 1 else 0)) H) (tCons (tVar 2) tNil)) (tOp (rI0 fun i j => .int (i + j)) (tOp (rI CPowW fun i j => .int (i ^ j.toNat)) (tC (.int 10)) (tC (.int 37))) (tC (.int 141)))) (tC (.int 101))) (tOp (rI CMul fun i j => .int (i * j)) (tC (.int 67)) (tVar 1))) (tC (.int 41)))
        (tCons (tC (.int 0)) tNil))))) { nx := fun _ H' => Q .non H', rt := Q } [some (.ref a), some (.int (i : Int)), some (.int cell)] H := fun cell => by
    refine ⟨_, rfl, _, rfl, _, _, rfl, rfl, cpow10 (by decide) (by decide), _, _, rfl, rfl, _, _, rfl, ?_⟩
    refine ⟨_, rfl, .inl ⟨_, rfl, _, _, rfl, rfl, cpow10 (by decide) (by decide), _, _, rfl, rfl, _, _, rfl, rfl, by rw [m1]; show (0 : Int) < 10000000000000000000000000000000000141; decide, _, _, rfl, rfl, .inr ⟨by decide, by decide⟩, _, rfl, _, _, rfl, rfl, .inl ⟨by decide, by decide⟩, _, _, rfl, rfl, _, _, rfl, rfl, by show 3 ≤ sizeLine; decide, fun p hp => ?_⟩⟩
    rw [m1]
    have x0 : 0 ≤ cell % 10000000000000000000000000000000000141 := Int.emod_nonneg _ (by decide)
    have x1 : cell % 10000000000000000000000000000000000141 < 10000000000000000000000000000000000141 := Int.emod_lt_of_pos _ (by decide)
    refine q p _ ((Same.refl H).new hp) hp ⟨_, _, 0, upd_same, ?_, ?_, ?_, Int.le_refl _, Int.le_refl _⟩
    · split <;> omega
    · omega
    · omega
  refine ⟨_, rfl, _, rfl, _, _, rfl, .inl ⟨_, hS, rfl⟩, _, _, rfl, rfl, _, rfl, ?_⟩
  refine ite2 (fun c1 => ?_) (fun c1 => ?_)
  · have hl : i < (ns.map V.int).length := by
      have c2 := of_decide_eq_true c1
      omega
    have hl2 : i < ns.length := by rw [List.length_map] at hl; exact hl
    refine ⟨_, rfl, _, rfl, a, _, _, _, rfl, rfl, hS, atI_nat (v := V.int ns[i]) (by rw [List.getElem?_map, List.getElem?_eq_getElem hl2]; rfl), ?_⟩
    exact rest _
  · exact rest 0
end

/-! ### a drawn forest: the mathematics -/
theorem walk_range0 {n : Nat} : Walk (Itr 0 n) n (fun _ => True) (YFn fun i => .int (i : Int)) :=
  (walk_range (lo := 0)).mono (fun _ h => h) fun i H x H' _ _ y => ⟨y.1, by rw [y.2]; show V.int (0 + (i : Int)) = V.int (i : Int); rw [Int.zero_add]⟩
def LtF (l : Hs) : Prop := ∀ j u : Nat, l[j]? = some (some u) → u < j
theorem LtF.snoc {l : Hs} {o : Option Nat} (h : LtF l) (ho : ∀ u, o = some u → u < l.length) : LtF (l ++ [o]) := fun j u e => by
  by_cases hj : j < l.length
  · rw [List.getElem?_append_left hj] at e; exact h j u e
  · have hj2 : l.length ≤ j := by omega
    rw [List.getElem?_append_right hj2] at e
    by_cases hz : j - l.length = 0
    · rw [hz] at e
      have q := ho u (Option.some.inj e)
      omega
    · obtain ⟨k, hk⟩ := Nat.exists_eq_succ_of_ne_zero hz
      rw [hk] at e; cases e
theorem fo_plain {l : Hs} (hne : l ≠ []) (h : LtF l) : Fo l := by
  refine ⟨hne, fun v u e => ?_, fun v hv => ?_⟩
  · have h1 := h v u e
    have h2 := (List.getElem?_eq_some_iff.mp e).1
    omega
  · induction v using Nat.strongRecOn with
    | _ v ih =>
      cases e : l[v]? with
      | none => rw [List.getElem?_eq_none_iff] at e; omega
      | some o =>
        cases o with
        | none => exact .root e
        | some u =>
          have q := h v u e
          exact .step e (ih u q (by omega))
def ren (nm : List Nat) : Option Nat → Option Nat
  | none => none
  | some u => some (nm.getD u 0)
theorem fo_turned {l T : Hs} {nm : List Nat} (hne : l ≠ []) (h : LtF l) (hp : nm.Perm (List.range l.length)) (hT : T.length = l.length)
    (hr : ∀ (j v : Nat) (o : Option Nat), nm[j]? = some v → l[j]? = some o → T[v]? = some (ren nm o)) : Fo T := by
  have hlen : nm.length = l.length := by rw [hp.length_eq, List.length_range]
  have hat : ∀ j : Nat, j < l.length → ∃ v o, nm[j]? = some v ∧ l[j]? = some o ∧ v < l.length := fun j hj => by
    have h1 : j < nm.length := by omega
    refine ⟨nm[j], l[j], List.getElem?_eq_getElem h1, List.getElem?_eq_getElem hj, ?_⟩
    have q := hp.mem_iff.mp (List.getElem_mem h1)
    exact List.mem_range.mp q
  have back : ∀ v : Nat, v < l.length → ∃ j : Nat, nm[j]? = some v := fun v hv => by
    have q := hp.mem_iff.mpr (List.mem_range.mpr hv)
    exact List.getElem?_of_mem q
  have jl : ∀ {j v : Nat}, nm[j]? = some v → j < l.length := fun {j v} e => by
    have q := (List.getElem?_eq_some_iff.mp e).1
    omega
  have rc : ∀ j v : Nat, nm[j]? = some v → Rch T v := fun j => by
    induction j using Nat.strongRecOn with
    | _ j ih =>
      intro v e
      obtain ⟨v', o, e1, e2, e3⟩ := hat j (jl e)
      have ev : v' = v := Option.some.inj (e1.symm.trans e)
      subst ev
      have q := hr j v' o e e2
      cases o with
      | none => exact .root q
      | some u =>
        have hu := h j u e2
        obtain ⟨vu, ou, f1, f2, f3⟩ := hat u (Nat.lt_trans hu (jl e))
        have g : nm.getD u 0 = vu := by rw [List.getD_eq_getElem?_getD, f1]; rfl
        refine .step (u := vu) ?_ (ih u hu vu f1)
        rw [q]; show some (some (nm.getD u 0)) = _; rw [g]
  refine ⟨fun z => hne (List.eq_nil_of_length_eq_zero (by rw [z] at hT; exact hT.symm)), fun v u e => ?_, fun v hv => ?_⟩
  · have hv := (List.getElem?_eq_some_iff.mp e).1
    rw [hT] at hv
    obtain ⟨j, ej⟩ := back v hv
    obtain ⟨v', o, e1, e2, e3⟩ := hat j (jl ej)
    have q := hr j v o ej e2
    rw [q] at e
    cases o with
    | none => cases e
    | some w =>
      have hw := h j w e2
      obtain ⟨vu, ou, f1, f2, f3⟩ := hat w (Nat.lt_trans hw (jl ej))
      have g : nm.getD w 0 = vu := by rw [List.getD_eq_getElem?_getD, f1]; rfl
      have e4 : nm.getD w 0 = u := Option.some.inj (Option.some.inj e)
      rw [hT]; omega
  · rw [hT] at hv
    obtain ⟨j, ej⟩ := back v hv
    exact rc j v ej
theorem nv_erase : ∀ (l : List Nat) (k : Nat), nv (l.eraseIdx k) = (nv l).eraseIdx k
  | [], k => by simp [nv]
  | a :: r, 0 => rfl
  | a :: r, k + 1 => by
    have ih := nv_erase r k
    show V.int (a : Int) :: nv (r.eraseIdx k) = V.int (a : Int) :: (nv r).eraseIdx k
    rw [ih]
theorem nv_range (n : Nat) : rgV 0 (n : Int) = nv (List.range n) := by
  unfold rgV nv
  have e : ((n : Int) - 0).toNat = n := by omega
  rw [e]
  refine List.map_congr_left fun i _ => ?_
  show V.int (0 + (i : Int)) = V.int (i : Int)
  rw [Int.zero_add]
theorem ixN_nat {n j : Nat} (h : j < n) : ixN n (j : Int) = some j := by
  unfold ixN
  rw [if_pos (by omega), if_pos (by omega)]
  congr 1
theorem seq_nat {n j : Nat} (h : j < n) : seqIndex? (j : Int) n = some j := (ixN_seq (ixN_nat h)).1
theorem rep_non : ∀ k : Nat, (List.replicate k [V.non]).flatten = (List.replicate k (none : Option Nat)).map hv
  | 0 => rfl
  | k + 1 => by
    rw [List.replicate_succ, List.flatten_cons, rep_non k, List.replicate_succ, List.map_cons]; rfl
theorem erase_perm : ∀ (l : List Nat) (j : Nat) (h : j < l.length), (l[j] :: l.eraseIdx j).Perm l
  | a :: r, 0, _ => List.Perm.refl _
  | a :: r, j + 1, h => by
    have hj : j < r.length := by rw [List.length_cons] at h; omega
    have ih := erase_perm r j hj
    exact (List.Perm.swap a (r[j]'hj) (r.eraseIdx j)).trans (List.Perm.cons a ih)
/-- one of a few, by a drawn number -/
theorem pick {xs : List V} {d : Int} (h0 : 0 ≤ d) (h1 : d < (xs.length : Int)) : ∃ v, v ∈ xs ∧ atI xs d = some v := by
  have hl : d.toNat < xs.length := by omega
  refine ⟨xs[d.toNat], List.getElem_mem hl, ?_⟩
  have e : d = ((d.toNat : Nat) : Int) := by omega
  have q := atI_nat (List.getElem?_eq_getElem hl)
  rw [← e] at q; exact q
def OkV (k : Nat) (v : V) : Prop := ∃ o : Option Nat, v = hv o ∧ ∀ u, o = some u → u < k
theorem OkV.non (k : Nat) : OkV k .non := ⟨none, rfl, fun _ h => by cases h⟩
theorem OkV.int {k : Nat} {i : Int} (h0 : 0 ≤ i) (h1 : i < (k : Int)) : OkV k (.int i) := by
  refine ⟨some i.toNat, ?_, fun u h => ?_⟩
  · show V.int i = V.int ((i.toNat : Nat) : Int)
    congr 1; omega
  · have e := Option.some.inj h
    omega
/-- slots of the drawing def -/
abbrev slF (wl F : Addr) (m sz way : Int) (v5 v6 v7 v8 v9 : Option V) : L2.St := [some (.ref wl), some (.int m), some (.int sz), some (.int way), some (.ref F), v5, v6, v7, v8, v9]
def spLForest : Sp := fun vs H Q _ => ∃ (wl : Addr) (n : Nat) (m : Int), vs = [.ref wl, .int m] ∧ Well H wl n ∧ n < 2 ^ 50 ∧ 1 ≤ m ∧ m ≤ 60 ∧
  ∀ t hs H', Fo hs → (hs.length : Int) ≤ m → Keep wl H H' → Well H' wl (n + 400) → H t = none → H' t = some (.tup (hs.map hv)) → Q (.ref t) H'
section
variable {P : Program} {w : World} {K : PySem.W.Frag} {mg : Str → Option Value} {base : Heap}
abbrev st__law_forest : Stmt := topS 26
abbrev N__law_forest : List Str := ["well", "most", "size", "way", "found", "k", "some", "names", "left", "turned_here"]
theorem sc__law_forest : FnScope N__law_forest ["well", "most"] (defScope st__law_forest) := ⟨rfl, rfl, rfl, by decide +kernel, rfl, by decide +kernel, by decide +kernel⟩
theorem ok__law_forest (D : Df K mg "_law_forest" st__law_forest ["well", "most"]) (B : Bl mg) (K_law_draw : Kn P w K mg base CX0 1 "_law_draw" st__law_draw ["well", "most"] spDraw) :
    Kn P w K mg base CX0 3 "_law_forest" st__law_forest ["well", "most"] spLForest := by
  refine D.ok sc__law_forest (fun vs H Q E h => ?_) (fun f cdv A outer s H vs Q E hr h => ?_)
  · obtain ⟨wl, n, m, rfl, _⟩ := h; rfl
  obtain ⟨wl, n, m, rfl, hw, hn, hm1, hm2, q⟩ := h
  refine ⟨_, ((pss_cons (ps_set (i := 2) sc__law_forest.nd rfl (Or.inl rfl) (pe_op op_add pe_int (pe_callF K_law_draw (hr.mono (by decide)) pass0 (pa_cons (pv 0) (pa_cons (pv 1) pa_nil)))))
      (pss_cons (ps_set (i := 3) sc__law_forest.nd rfl (Or.inl rfl) (pe_callF K_law_draw (hr.mono (by decide)) pass0 (pa_cons (pv 0) (pa_cons pe_int pa_nil))))
      (pss_cons (ps_set (i := 4) sc__law_forest.nd rfl (Or.inl rfl) (pe_lst pa_nil))
      (pss_cons (ps_for PassesOwn.never rfl (pi_range1 (by rfl) B.range (pa_cons (pv 2) pa_nil)) (pg_name (i := 5) sc__law_forest.nd rfl (Or.inl rfl)) (C8.pss_cut (ps_set (i := 6) sc__law_forest.nd rfl (Or.inl rfl) (pe_ifExp (pt_cmpR op_gt (pv 5) pe_int (nomark _)) (pe_ix ix_list (pe_lst (pa_cons pe_non (pa_cons (pe_op op_sub (pv 5) pe_int) (pa_cons (pe_callF K_law_draw (hr.mono (by decide)) pass0 (pa_cons (pv 0) (pa_cons (pe_callB (call_max2 rfl) (by rfl) B.max (by decide +kernel) (pa_cons pe_int (pa_cons (pv 5) pa_nil))) pa_nil))) pa_nil)))) (pe_callF K_law_draw (hr.mono (by decide)) pass0 (pa_cons (pv 0) (pa_cons pe_int pa_nil))) (fun _ _ => rfl)) pe_non))
      (C8.pss_cut (ps_if (PW.pt (pw_and (pt_cmpR op_gt (pv 5) pe_int (nomark _)) (pw_and1 (pt_cmpR op_eq (pv 3) pe_int (nomark _))))) (pss_one (ps_set (i := 6) sc__law_forest.nd rfl (Or.inl rfl) (pe_ix ix_list (pe_lst (pa_cons (pe_op op_sub (pv 5) pe_int) (pa_cons (pe_callB (call_max2 rfl) (by rfl) B.max (by decide +kernel) (pa_cons pe_int (pa_cons (pe_op op_sub (pv 5) pe_int) pa_nil))) pa_nil))) (pe_callF K_law_draw (hr.mono (by decide)) pass0 (pa_cons (pv 0) (pa_cons pe_int pa_nil))) (fun _ _ => rfl)))) pss_nil)
      (C8.pss_cut (ps_if (PW.pt (pw_and (pt_cmpR op_gt (pv 5) pe_int (nomark _)) (pw_and1 (pt_cmpR op_eq (pv 3) pe_int (nomark _))))) (pss_one (ps_set (i := 6) sc__law_forest.nd rfl (Or.inl rfl) (pe_ix ix_list (pe_lst (pa_cons pe_int (pa_cons pe_int (pa_cons pe_non (pa_cons (pe_callF K_law_draw (hr.mono (by decide)) pass0 (pa_cons (pv 0) (pa_cons (pv 5) pa_nil))) pa_nil))))) (pe_callF K_law_draw (hr.mono (by decide)) pass0 (pa_cons (pv 0) (pa_cons pe_int pa_nil))) (fun _ _ => rfl)))) pss_nil)
      (pss_one (ps_expr (pe_bm PySem.F.plainAttrs_list PySem.F.slot_list_append PySem.F.type_list_append mt_append (pv 4) (pa_cons (pv 6) pa_nil))))))))
      (pss_cons (ps_if (pt_cmpR op_eq (pe_callF K_law_draw (hr.mono (by decide)) pass0 (pa_cons (pv 0) (pa_cons pe_int pa_nil))) pe_int (nomark _)) (pss_one (ps_ret (pe_callTy call_tuple_of (by rfl) B.tuple (by decide +kernel) (pa_cons (pv 4) pa_nil)))) pss_nil)
      (pss_cons (ps_par (i := 7) (j := 8) (by rfl) sc__law_forest.nd rfl rfl (by decide) rfl rfl (pa_cons (pe_lst pa_nil) (pa_cons (pe_listRg rfl (by rfl) B.list (prg_1 (by rfl) B.range (pv 2))) pa_nil)) (by rfl))
      (pss_cons (ps_for PassesOwn.never rfl (pi_range1 (by rfl) B.range (pa_cons (pv 2) pa_nil)) (pg_name (i := 5) sc__law_forest.nd rfl (Or.inl rfl)) (pss_one (ps_expr (pe_bm PySem.F.plainAttrs_list PySem.F.slot_list_append PySem.F.type_list_append mt_append (pv 7) (pa_cons (pe_bm PySem.F.plainAttrs_list PySem.F.slot_list_pop PySem.F.type_list_pop mt_popAt (pv 8) (pa_cons (pe_callF K_law_draw (hr.mono (by decide)) pass0 (pa_cons (pv 0) (pa_cons (pe_callB call_len (by rfl) B.len (by decide +kernel) (pa_cons (pv 8) pa_nil)) pa_nil))) pa_nil)) pa_nil)))))
      (pss_cons (ps_set (i := 9) sc__law_forest.nd rfl (Or.inl rfl) (pe_op op_rep (pe_lst (pa_cons pe_non pa_nil)) (pv 2)))
      (pss_cons (ps_for PassesOwn.never rfl (pi_range1 (by rfl) B.range (pa_cons (pv 2) pa_nil)) (pg_name (i := 5) sc__law_forest.nd rfl (Or.inl rfl)) (pss_one (ps_asg (pe_ifExp (pt_cmpR op_isN (pe_ix ix_list (pv 4) (pv 5) (fun _ _ => rfl)) pe_non (nomark _)) pe_non (pe_ix ix_list (pv 7) (pe_ix ix_list (pv 4) (pv 5) (fun _ _ => rfl)) (fun _ _ => rfl))) (pg_sub (pv 9) (pe_ix ix_list (pv 7) (pv 5) (fun _ _ => rfl)) set_list))))
      (pss_one (ps_ret (pe_callTy call_tuple_of (by rfl) B.tuple (by decide +kernel) (pa_cons (pv 9) pa_nil)))))))))))))), ?_⟩
  have p50 : (2 : Nat) ^ 50 = 1125899906842624 := by decide
  have p60 : (2 : Nat) ^ 60 = 1152921504606846976 := by decide
  have p100 : (2 : Nat) ^ 100 = 1267650600228229401496703205376 := by decide +kernel
  have p62 : (2 : Int) ^ 62 = 4611686018427387904 := by decide
  have p63 : (2 : Int) ^ 63 = 9223372036854775808 := by decide
  obtain ⟨wl0, hwl0⟩ := hw.here
  -- size = 1 + _law_draw(well, most); way = _law_draw(well, 4); found = []
  refine ⟨_, rfl, _, rfl, wl, n, _, rfl, hw, by omega, by omega, by omega, fun d0 H1 d00 d01 k1 w1 => ⟨_, _, rfl, rfl, ?_⟩⟩
  refine ⟨_, rfl, wl, n + 1, _, rfl, w1, by omega, by omega, by omega, fun way H2 _ _ k2 w2 => ?_⟩
  refine ⟨by show 0 ≤ sizeLine; decide, fun F hF2 => ?_⟩
  obtain ⟨sz, hsz⟩ : ∃ sz : Nat, 1 + d0 = (sz : Int) := ⟨(1 + d0).toNat, by omega⟩
  have hsz1 : 1 ≤ sz := by omega
  have hsz2 : (sz : Int) ≤ m := by omega
  have hsz3 : sz ≤ 60 := by omega
  have k02 := k1.trans k2
  have hFw : F ≠ wl := by
    obtain ⟨l2, e2⟩ := w2.here
    exact (ne_of_none e2 hF2).symm
  have hFn : H F = none := by
    cases eF : H F with
    | none => rfl
    | some o =>
      have z := k02 F o hFw eF
      rw [hF2] at z; cases z
  -- for k in range(size)
  refine ⟨_, rfl, _, rfl, by omega, by omega, for_it walk_range0 (fun i σ H' => ∃ v5 v6, σ = slF wl F m (1 + d0) way v5 v6 none none none ∧ Keep wl H H' ∧ Well H' wl (n + 2 + 5 * i) ∧ ∃ l : Hs, l.length = i ∧ LtF l ∧ H' F = some (.lst (l.map hv)))
    ⟨none, none, rfl, k02.new hF2, (w2.same ((Same.refl H2).new hF2)), [], rfl, fun j u e => (by cases e), upd_same⟩ (fun _ _ _ _ _ => trivial) ?_ ?_⟩
  · rintro i x σ H3 H4 hi ⟨v5, v6, rfl, k3, w3, l, hl, hlt, hF3⟩ ⟨rfl, rfl⟩
    have hi' : i < sz := by omega
    -- some = [None, k - 1, draw(max(1, k))][draw(3)] if k > 0 else None
    refine ⟨fun σ' H' => ∃ v6, OkV i v6 ∧ σ' = slF wl F m (1 + d0) way (some (.int (i : Int))) (some v6) none none none ∧ Keep wl H H' ∧ Well H' wl (n + 2 + 5 * i + 2) ∧ H' F = some (.lst (l.map hv)), ?_, ?_⟩
    · refine ⟨_, rfl, _, _, rfl, rfl, _, rfl, ?_⟩
      refine ite2 (fun c => ?_) (fun c => ?_)
      · have ci : (0 : Int) < (i : Int) := of_decide_eq_true c
        refine ⟨_, rfl, _, _, rfl, rfl, ?_⟩
        refine ⟨_, rfl, _, rfl, _, _, rfl, wl, _, _, rfl, w3, by omega, by split <;> omega, by split <;> omega, fun d H5 d0 d1 k5 w5 => ⟨by show 3 ≤ sizeLine; decide, fun L hL => ?_⟩⟩
        have w6 := w5.same ((Same.refl H5).new (o := .lst [.non, .int ((i : Int) - 1), .int d]) hL)
        refine ⟨_, rfl, wl, _, _, rfl, w6, by omega, by omega, by omega, fun d2 H6 e0 e1 k6 w6 => ?_⟩
        have hLw : L ≠ wl := by
          obtain ⟨l2, e2⟩ := w5.here
          exact (ne_of_none e2 hL).symm
        have hL6 : H6 L = some (.lst [.non, .int ((i : Int) - 1), .int d]) := k6 L _ hLw upd_same
        obtain ⟨v, hv1, hv2⟩ := pick (xs := [.non, .int ((i : Int) - 1), .int d]) e0 e1
        refine ⟨L, _, _, v, rfl, rfl, SqL.of hL6, hv2, v, ?_, rfl, (k3.trans (k5.new hL)).trans k6, w6, k6 F _ hFw ?_⟩
        · have d2' : d < (i : Int) := by
            split at d1 <;> omega
          simp only [List.mem_cons, List.not_mem_nil, or_false] at hv1
          rcases hv1 with rfl | rfl | rfl
          · exact .non i
          · exact .int (by omega) (by omega)
          · exact .int d0 d2'
        · have z := k5 F _ hFw hF3
          rw [upd_ne (ne_of_none z hL)]; exact z
      · exact ⟨.non, .non i, rfl, k3, w3.mono (by omega), hF3⟩
    · rintro σ' H5 ⟨v6, ok6, rfl, k5, w5, hF5⟩
      -- if k > 0 and way == 0
      refine ⟨fun σ' H' => ∃ v6, OkV i v6 ∧ σ' = slF wl F m (1 + d0) way (some (.int (i : Int))) (some v6) none none none ∧ Keep wl H H' ∧ Well H' wl (n + 2 + 5 * i + 3) ∧ H' F = some (.lst (l.map hv)), ?_, ?_⟩
      · refine ⟨_, rfl, _, _, rfl, rfl, _, rfl, ?_⟩
        refine ite2 (fun c => ?_) (fun c => ?_)
        · have ci : (0 : Int) < (i : Int) := of_decide_eq_true c
          refine ⟨_, rfl, rfl, _, rfl, ?_⟩
          refine ite2 (fun c2 => ?_) (fun c2 => ?_)
          · refine ⟨_, rfl, _, _, rfl, rfl, _, rfl, _, _, rfl, rfl, _, _, rfl, by show 2 ≤ sizeLine; decide, fun L hL => ?_⟩
            have w6 := w5.same ((Same.refl H5).new (o := .lst [.int ((i : Int) - 1), .int (if (i : Int) - 2 > 0 then (i : Int) - 2 else 0)]) hL)
            refine ⟨_, rfl, wl, _, _, rfl, w6, by omega, by omega, by omega, fun d2 H6 e0 e1 k6 w6 => ?_⟩
            have hLw : L ≠ wl := by
              obtain ⟨l2, e2⟩ := w5.here
              exact (ne_of_none e2 hL).symm
            have hL6 : H6 L = some (.lst [.int ((i : Int) - 1), .int (if (i : Int) - 2 > 0 then (i : Int) - 2 else 0)]) := k6 L _ hLw upd_same
            obtain ⟨v, hv1, hv2⟩ := pick (xs := [.int ((i : Int) - 1), .int (if (i : Int) - 2 > 0 then (i : Int) - 2 else 0)]) e0 e1
            refine ⟨L, _, _, v, rfl, rfl, SqL.of hL6, hv2, v, ?_, rfl, (k5.new hL).trans k6, w6, k6 F _ hFw ?_⟩
            · simp only [List.mem_cons, List.not_mem_nil, or_false] at hv1
              rcases hv1 with rfl | rfl
              · exact .int (by omega) (by omega)
              · exact .int (by split <;> omega) (by split <;> omega)
            · rw [upd_ne (ne_of_none hF5 hL)]; exact hF5
          · exact ⟨v6, ok6, rfl, k5, w5.mono (by omega), hF5⟩
        · exact ⟨v6, ok6, rfl, k5, w5.mono (by omega), hF5⟩
      · rintro σ' H6 ⟨v6, ok6, rfl, k6, w6, hF6⟩
        -- if k > 0 and way == 1
        refine ⟨fun σ' H' => ∃ v6, OkV i v6 ∧ σ' = slF wl F m (1 + d0) way (some (.int (i : Int))) (some v6) none none none ∧ Keep wl H H' ∧ Well H' wl (n + 2 + 5 * i + 5) ∧ H' F = some (.lst (l.map hv)), ?_, ?_⟩
        · refine ⟨_, rfl, _, _, rfl, rfl, _, rfl, ?_⟩
          refine ite2 (fun c => ?_) (fun c => ?_)
          · have ci : (0 : Int) < (i : Int) := of_decide_eq_true c
            refine ⟨_, rfl, rfl, _, rfl, ?_⟩
            refine ite2 (fun c2 => ?_) (fun c2 => ?_)
            · refine ⟨_, rfl, _, rfl, wl, _, _, rfl, w6, by omega, by omega, by omega, fun d H7 d0 d1 k7 w7 => ⟨by show 4 ≤ sizeLine; decide, fun L hL => ?_⟩⟩
              have w8 := w7.same ((Same.refl H7).new (o := .lst [.int 0, .int 0, .non, .int d]) hL)
              refine ⟨_, rfl, wl, _, _, rfl, w8, by omega, by omega, by omega, fun d2 H8 e0 e1 k8 w8 => ?_⟩
              have hLw : L ≠ wl := by
                obtain ⟨l2, e2⟩ := w7.here
                exact (ne_of_none e2 hL).symm
              have hL8 : H8 L = some (.lst [.int 0, .int 0, .non, .int d]) := k8 L _ hLw upd_same
              obtain ⟨v, hv1, hv2⟩ := pick (xs := [.int 0, .int 0, .non, .int d]) e0 e1
              refine ⟨L, _, _, v, rfl, rfl, SqL.of hL8, hv2, v, ?_, rfl, (k6.trans (k7.new hL)).trans k8, w8, k8 F _ hFw ?_⟩
              · simp only [List.mem_cons, List.not_mem_nil, or_false] at hv1
                rcases hv1 with rfl | rfl | rfl | rfl
                · exact .int (by omega) (by omega)
                · exact .int (by omega) (by omega)
                · exact .non i
                · exact .int d0 d1
              · have z := k7 F _ hFw hF6
                rw [upd_ne (ne_of_none z hL)]; exact z
            · exact ⟨v6, ok6, rfl, k6, w6.mono (by omega), hF6⟩
          · exact ⟨v6, ok6, rfl, k6, w6.mono (by omega), hF6⟩
        · rintro σ' H7 ⟨v6, ⟨o, rfl, ho⟩, rfl, k7, w7, hF7⟩
          -- found.append(some)
          refine ⟨_, rfl, .inl ⟨rfl, _, SqL.of hF7⟩, _, rfl, F, _, _, rfl, rfl, hF7, by rw [List.length_map]; exact szl (by omega), ?_⟩
          have kf : Keep wl H (upd H7 F (.lst (l.map hv ++ [hv o]))) := fun b u hb e => by
            rw [upd_ne (ne_of_none e hFn)]; exact k7 b u hb e
          refine ⟨_, _, rfl, kf, ?_, l ++ [o], by rw [List.length_append, hl]; rfl, hlt.snoc (by rw [hl]; exact ho), by rw [upd_same, List.map_append]; rfl⟩
          obtain ⟨a, b, c, e, r⟩ := w7.ex
          exact ⟨a, b, c, by rw [upd_ne hFw.symm]; exact e, r.1, r.2.1, r.2.2.1, r.2.2.2.1, by omega⟩
  · rintro σ H3 ⟨v5, v6, rfl, k3, w3, l, hl, hlt, hF3⟩
    have e0 : (1 + d0).toNat = sz := by omega
    rw [e0] at w3 hl
    have hlne : l ≠ [] := by
      intro z; rw [z] at hl; rw [← hl] at hsz1; exact absurd hsz1 (by decide)
    -- if _law_draw(well, 3) == 0: return tuple(found)
    refine ⟨_, rfl, wl, _, _, rfl, w3, by omega, by omega, by omega, fun d H4 _ _ k4 w4 => ?_⟩
    have hF4 := k4 F _ hFw hF3
    have k04 := k3.trans k4
    refine ⟨rfl, _, rfl, ?_⟩
    refine ite2 (fun c => ?_) (fun c => ?_)
    · refine ⟨_, rfl, F, _, rfl, .inl ⟨SqL.of hF4, fun t ht => ?_⟩⟩
      have w5 := w4.same ((Same.refl H4).new (o := .tup (l.map hv)) ht)
      have htn : H t = none := by
        cases et : H t with
        | none => rfl
        | some o =>
          by_cases htw : t = wl
          · obtain ⟨l2, e2⟩ := w4.here
            rw [htw, e2] at ht; cases ht
          · have z := k04 t o htw et
            rw [ht] at z; cases z
      refine q t l _ (fo_plain hlne hlt) (by omega) (k04.new ht) (w5.mono (by omega)) htn upd_same
    · -- names, left = [], list(range(size))
      refine ⟨by show 0 ≤ sizeLine; decide, fun N hN => ?_⟩
      refine ⟨_, rfl, _, rfl, RgOk.of_le (by omega) (by omega) (by omega) (by omega), fun L hL => ⟨_, _, rfl, ?_⟩⟩
      have hNn : H N = none := by
        cases et : H N with
        | none => rfl
        | some o =>
          by_cases htw : N = wl
          · obtain ⟨l2, e2⟩ := w4.here
            rw [htw, e2] at hN; cases hN
          · have z := k04 N o htw et
            rw [hN] at z; cases z
      have hNw : N ≠ wl := by
        obtain ⟨l2, e2⟩ := w4.here
        exact (ne_of_none e2 hN).symm
      have hNL : N ≠ L := ne_of_none upd_same hL
      have hNF : F ≠ N := ne_of_none hF4 hN
      have hL4 : H4 L = none := by rw [upd_ne hNL.symm] at hL; exact hL
      have hLw : L ≠ wl := by
        obtain ⟨l2, e2⟩ := w4.here
        exact (ne_of_none e2 hL4).symm
      have hFL : F ≠ L := ne_of_none hF4 hL4
      have hLn : H L = none := by
        cases et : H L with
        | none => rfl
        | some o =>
          have z := k04 L o hLw et
          rw [hL4] at z; cases z
      have kk : ∀ {H' : Hp} {a : Addr} {o : HO}, Keep wl H H' → H a = none → Keep wl H (upd H' a o) := fun {H' a o} k hn b u hb e => by
        rw [upd_ne (ne_of_none e hn)]; exact k b u hb e
      have ww : ∀ {H' : Hp} {a : Addr} {o : HO} {k : Nat}, Well H' wl k → a ≠ wl → Well (upd H' a o) wl k := fun {H' a o k} h hn => by
        obtain ⟨x, y, z, e, r⟩ := h.ex
        exact ⟨x, y, z, by rw [upd_ne hn.symm]; exact e, r⟩
      -- for k in range(size): names.append(left.pop(_law_draw(well, len(left))))
      refine ⟨_, rfl, _, rfl, by omega, by omega, for_it walk_range0 (fun i σ H' => ∃ v5, σ = slF wl F m (1 + d0) way v5 v6 (some (.ref N)) (some (.ref L)) none ∧ Keep wl H H' ∧ Well H' wl (n + 3 + 5 * sz + i) ∧ H' F = some (.lst (l.map hv)) ∧
          ∃ nm lf : List Nat, nm.length = i ∧ (nm ++ lf).Perm (List.range sz) ∧ H' N = some (.lst (nv nm)) ∧ H' L = some (.lst (nv lf)))
        ⟨v5, rfl, kk (kk k04 hNn) hLn, (ww (ww w4 hNw) hLw).mono (by omega), by rw [upd_ne hFL, upd_ne hNF]; exact hF4, [], List.range sz, rfl, List.Perm.refl _, by rw [upd_ne hNL, upd_same]; rfl, by rw [upd_same, hsz, nv_range]⟩ (fun _ _ _ _ _ => trivial) ?_ ?_⟩
      · rintro i x σ H5 H6 hi ⟨v5, rfl, k5, w5, hF5, nm, lf, hnm, hp, hN5, hL5⟩ ⟨rfl, rfl⟩
        have hi' : i < sz := by omega
        have hlf : nm.length + lf.length = sz := by
          have z := hp.length_eq
          rw [List.length_append, List.length_range] at z; exact z
        refine ⟨_, rfl, .inl ⟨rfl, _, SqL.of hN5⟩, ?_⟩
        refine ⟨_, rfl, .inl ⟨rfl, _, SqL.of hL5⟩, ?_⟩
        refine ⟨_, rfl, _, rfl, _, _, rfl, .inl ⟨_, SqL.of hL5, rfl⟩, wl, _, _, rfl, w5, by omega, by rw [nv_length]; omega, by rw [nv_length]; omega, fun d H6 d0 d1 k6 w6 => ?_⟩
        rw [nv_length] at d1
        obtain ⟨j, hj⟩ : ∃ j : Nat, d = (j : Int) := ⟨d.toNat, by omega⟩
        subst hj
        have hjl : j < lf.length := by omega
        have hL6 := k6 L _ hLw hL5
        have hN6 := k6 N _ hNw hN5
        have hF6 := k6 F _ hFw hF5
        refine ⟨L, _, _, j, _, rfl, rfl, hL6, by omega, by omega, by rw [nv_length]; exact seq_nat hjl, nv_get (List.getElem?_eq_getElem hjl), ?_⟩
        refine ⟨N, _, _, rfl, rfl, by rw [upd_ne hNL]; exact hN6, by rw [nv_length]; exact szl (by omega), ?_⟩
        refine ⟨_, rfl, kk (kk (k5.trans k6) hLn) hNn, (ww (ww w6 hLw) hNw).mono (by omega), by rw [upd_ne hNF, upd_ne hFL]; exact hF6, nm ++ [lf[j]], lf.eraseIdx j, by rw [List.length_append, hnm]; rfl, ?_, by rw [upd_same, nv_append]; rfl, by rw [upd_ne hNL.symm, upd_same, nv_erase]⟩
        have pe := erase_perm lf j hjl
        rw [List.append_assoc]
        exact (List.Perm.append_left nm pe).trans hp
      · rintro σ H5 ⟨v5, rfl, k5, w5, hF5, nm, lf, hnm, hp, hN5, hL5⟩
        rw [e0] at hnm w5
        have hlf : nm.length + lf.length = sz := by
          have z := hp.length_eq
          rw [List.length_append, List.length_range] at z; exact z
        have hlf0 : lf = [] := List.eq_nil_of_length_eq_zero (by omega)
        subst hlf0
        rw [List.append_nil] at hp
        -- turned_here = [None] * size
        refine ⟨by show 1 ≤ sizeLine; decide, fun O hO => ?_⟩
        refine ⟨_, rfl, O, _, _, rfl, rfl, upd_same, by omega, by omega, ?_, fun T hT => ?_⟩
        · show 1 * (1 + d0).toNat ≤ sizeLine
          rw [e0, Nat.one_mul]; exact Nat.le_of_lt (szl (by omega))
        have hT5 : H5 T = none := by
          have z := hT
          rw [upd_ne (ne_of_none upd_same hT).symm] at z; exact z
        have fresh : ∀ {a : Addr}, H5 a = none → H a = none ∧ a ≠ wl ∧ F ≠ a ∧ N ≠ a := fun {a} ha => by
          have h1 : a ≠ wl := by
            obtain ⟨l2, e2⟩ := w5.here
            exact (ne_of_none e2 ha).symm
          refine ⟨?_, h1, ne_of_none hF5 ha, ne_of_none hN5 ha⟩
          cases et : H a with
          | none => rfl
          | some o =>
            have z := k5 a o h1 et
            rw [ha] at z; cases z
        obtain ⟨o1, o2, o3, o4⟩ := fresh hO
        obtain ⟨t1, t2, t3, t4⟩ := fresh hT5
        have hnl : ∀ j : Nat, j < sz → ∃ v, nm[j]? = some v ∧ v < sz := fun j hj => by
          have h1 : j < nm.length := by omega
          exact ⟨nm[j], List.getElem?_eq_getElem h1, List.mem_range.mp (hp.mem_iff.mp (List.getElem_mem h1))⟩
        have hnd : nm.Nodup := hp.nodup_iff.mpr List.nodup_range
        -- for k in range(size): turned_here[names[k]] = ..
        refine ⟨_, rfl, _, rfl, by omega, by omega, for_it walk_range0 (fun i σ H' => ∃ v5, σ = slF wl F m (1 + d0) way v5 v6 (some (.ref N)) (some (.ref L)) (some (.ref T)) ∧ Keep wl H H' ∧ Well H' wl (n + 3 + 6 * sz) ∧ H' F = some (.lst (l.map hv)) ∧ H' N = some (.lst (nv nm)) ∧
            ∃ th : Hs, th.length = sz ∧ (∀ (j v : Nat) (o : Option Nat), j < i → nm[j]? = some v → l[j]? = some o → th[v]? = some (ren nm o)) ∧ H' T = some (.lst (th.map hv)))
          ⟨v5, rfl, kk (kk k5 o1) t1, (ww (ww w5 o2) t2).mono (by omega), by rw [upd_ne t3, upd_ne o3]; exact hF5, by rw [upd_ne t4, upd_ne o4]; exact hN5, List.replicate sz none, List.length_replicate, fun j v o hj => absurd hj (Nat.not_lt_zero j), by rw [upd_same, rep_non, e0]⟩ (fun _ _ _ _ _ => trivial) ?_ ?_⟩
        · rintro i x σ H6 H7 hi ⟨v5, rfl, k6, w6, hF6, hN6, th, hth, hr, hT6⟩ ⟨rfl, rfl⟩
          have hi' : i < sz := by omega
          have hil : i < l.length := by omega
          obtain ⟨v, ev, hv'⟩ := hnl i hi'
          have eo : l[i]? = some l[i] := List.getElem?_eq_getElem hil
          generalize l[i] = o at eo
          have fin : ∀ x : V, x = hv (ren nm o) → gSub (tVar 9) (tOp (rIxL K) (tVar 7) (tVar 5)) rSetL x (slF wl F m (1 + d0) way (some (.int (i : Int))) v6 (some (.ref N)) (some (.ref L)) (some (.ref T))) H7
              (fun σ H' => ∃ v5, σ = slF wl F m (1 + d0) way v5 v6 (some (.ref N)) (some (.ref L)) (some (.ref T)) ∧ Keep wl H H' ∧ Well H' wl (n + 3 + 6 * sz) ∧ H' F = some (.lst (l.map hv)) ∧ H' N = some (.lst (nv nm)) ∧
                ∃ th : Hs, th.length = sz ∧ (∀ (j v : Nat) (o : Option Nat), j < i + 1 → nm[j]? = some v → l[j]? = some o → th[v]? = some (ren nm o)) ∧ H' T = some (.lst (th.map hv))) := by
            rintro x rfl
            refine ⟨_, rfl, _, rfl, _, rfl, N, _, _, _, rfl, rfl, SqL.of hN6, atI_nat (nv_get ev), T, _, _, v, rfl, rfl, hT6, by rw [List.length_map, hth]; exact ixN_nat hv', ?_⟩
            refine ⟨_, rfl, kk k6 t1, ww w6 t2, by rw [upd_ne t3]; exact hF6, by rw [upd_ne t4]; exact hN6, th.set v (ren nm o), by rw [List.length_set]; exact hth, ?_, by rw [upd_same, List.map_set]⟩
            intro j v' o' hj e1 e2
            by_cases hji : j = i
            · subst hji
              have q1 : v' = v := Option.some.inj (e1.symm.trans ev)
              have q2 : o' = o := Option.some.inj (e2.symm.trans eo)
              subst q1 q2
              exact List.getElem?_set_self (by rw [hth]; exact hv')
            · have hne : v ≠ v' := fun z => hji (nodup_at hnd e1 (by rw [← z]; exact ev))
              rw [List.getElem?_set_ne hne]
              exact hr j v' o' (by omega) e1 e2
          refine ⟨_, rfl, _, rfl, F, _, _, _, rfl, rfl, SqL.of hF6, atI_nat (hv_at eo), rfl, _, rfl, ?_⟩
          cases o with
          | none => exact iteT (fin _ rfl)
          | some u =>
            have hu := hlt i u eo
            obtain ⟨vu, eu, _⟩ := hnl u (by omega)
            refine iteF ⟨_, rfl, _, rfl, _, rfl, F, _, _, _, rfl, rfl, SqL.of hF6, atI_nat (hv_at eo), N, _, _, _, rfl, rfl, SqL.of hN6, atI_nat (nv_get eu), fin _ ?_⟩
            show V.int (vu : Int) = V.int ((nm.getD u 0 : Nat) : Int)
            rw [List.getD_eq_getElem?_getD, eu]; rfl
        · rintro σ H6 ⟨v5, rfl, k6, w6, hF6, hN6, th, hth, hr, hT6⟩
          rw [e0] at hr
          refine ⟨_, rfl, T, _, rfl, .inl ⟨SqL.of hT6, fun t ht => ?_⟩⟩
          have w7 := w6.same ((Same.refl H6).new (o := .tup (th.map hv)) ht)
          have htn : H t = none := by
            have h1 : t ≠ wl := by
              obtain ⟨l2, e2⟩ := w6.here
              exact (ne_of_none e2 ht).symm
            cases et : H t with
            | none => rfl
            | some o =>
              have z := k6 t o h1 et
              rw [ht] at z; cases z
          refine q t th _ (fo_turned hlne hlt (by rw [hl]; exact hp) (by rw [hth, hl]) fun j v o e1 e2 => hr j v o ?_ e1 e2) (by omega) (k6.new ht) (w7.mono (by omega)) htn upd_same
          have z := (List.getElem?_eq_some_iff.mp e2).1
          omega
end

end My

namespace My
open PySem PySem.Spec PyProof.Rows L2
/-! ### what the functions of heldbehind.forests raise and hand back -/
def spCheckF (C : Addr) : Sp := fun vs H Q E => ∃ x : V, vs = [x] ∧ Askd H x ∧ (IsF H x → ∀ H', Same H H' → Q .non H') ∧ (¬ IsF H x → ∀ H', Same H H' → E (.ref C) none H')
def spCheckT (C : Addr) : Sp := fun vs H Q E => ∃ (a : Addr) (xs : List V) (y : V), vs = [.ref a, y] ∧ H a = some (.tup xs) ∧ Vd H y ∧ (isIdx (xs.length : Int) y = true → Q .non H) ∧ (isIdx (xs.length : Int) y = false → E (.ref C) none H)
/-- a function of a forest alone: R what its answer's list may be -/
def spOf (C : Addr) (R : Hs → List V → Prop) : Sp := fun vs H Q E => ∃ x : V, vs = [x] ∧ Askd H x ∧ (∀ hs : Hs, tupAt H x = some (hs.map hv) → hs.length ≤ 60) ∧ (¬ IsF H x → ∀ H', Same H H' → E (.ref C) none H') ∧
  ∀ hs : Hs, tupAt H x = some (hs.map hv) → Fo hs → ∀ r l H', R hs l → Same H H' → H r = none → H' r = some (.lst l) → Q (.ref r) H'
/-- a function of a forest and a thing -/
def spOf2 (C C2 : Addr) (R : Hs → Nat → List V → Prop) : Sp := fun vs H Q E => ∃ x y : V, vs = [x, y] ∧ Askd H x ∧ Vd H y ∧ (∀ hs : Hs, tupAt H x = some (hs.map hv) → hs.length ≤ 60) ∧ (¬ IsF H x → ∀ H', Same H H' → E (.ref C) none H') ∧
  (∀ hs : Hs, tupAt H x = some (hs.map hv) → Fo hs → isIdx (hs.length : Int) y = false → ∀ H', Same H H' → E (.ref C2) none H') ∧
  ∀ hs : Hs, tupAt H x = some (hs.map hv) → Fo hs → ∀ t : Nat, y = .int (t : Int) → t < hs.length → ∀ r l H', R hs t l → Same H H' → H r = none → H' r = some (.lst l) → Q (.ref r) H'
theorem tupAt_same {H H' : Hp} {x : V} {xs : List V} (h : tupAt H x = some xs) (s : Same H H') : tupAt H' x = some xs := by
  obtain ⟨a, rfl, ha⟩ := tupAt_ref h
  exact tupAt_tup (s _ _ ha)
theorem Askd.same {H H' : Hp} {x : V} (h : Askd H x) (s : Same H H') (hi : ∀ xs, tupAt H' x = some xs → tupAt H x = some xs) : Askd H' x :=
  ⟨h.vd.same s, fun xs e => ⟨(h.items xs (hi xs e)).1, fun y hy => ((h.items xs (hi xs e)).2 y hy).same s⟩⟩
theorem isIdx_true {n : Nat} {y : V} (h : isIdx (n : Int) y = true) : ∃ t : Nat, y = .int (t : Int) ∧ t < n := by
  cases y with
  | int i =>
    have c : (decide (0 ≤ i) && decide (i < (n : Int))) = true := h
    rw [Bool.and_eq_true, decide_eq_true_eq, decide_eq_true_eq] at c
    exact ⟨i.toNat, by congr 1; omega, by omega⟩
  | _ => cases h
theorem vd_hv {H : Hp} (o : Option Nat) : Vd H (hv o) := by
  cases o with
  | none => exact .non
  | some u => exact .int _
section
variable {P : Program} {w : World} {K : PySem.W.Frag} {mg : Str → Option Value} {base : Heap} {CF CT : Addr}
abbrev st_check_forest : Stmt := topS 12
abbrev N_check_forest : List Str := ["forest"]
theorem sc_check_forest : FnScope N_check_forest ["forest"] (defScope st_check_forest) := ⟨rfl, rfl, rfl, by decide +kernel, rfl, by decide +kernel, by decide +kernel⟩
theorem ok_check_forest (D : Df K mg "check_forest" st_check_forest ["forest"]) (B : Bl mg) (EInvalidForest : Ex1 K mg "InvalidForest" CF) (Kis_forest : Kn P w K mg base CX0 4 "is_forest" st_is_forest ["value"] spIsForest) :
    Kn P w K mg base (L2.CX P w) 5 "check_forest" st_check_forest ["forest"] (spCheckF CF) := by
  refine D.okX sc_check_forest (fun vs H Q E h => ?_) (fun f cdv A outer s H vs Q E hr h => ?_)
  · obtain ⟨x, rfl, _⟩ := h; rfl
  obtain ⟨x, rfl, ask, q1, q2⟩ := h
  refine ⟨_, ((pss_one (ps_if (pt_not (pt_val (pe_callF Kis_forest (hr.mono (by decide)) pass0 (pa_cons (pv 0) pa_nil)))) (pss_one (ps_raise rfl (takes_of rfl rfl rfl rfl) (pmk_own0 PySem.F.excBase_ValueError EInvalidForest.x EInvalidForest.g EInvalidForest.k (raises_own EInvalidForest.b EInvalidForest.t) rfl))) pss_nil))), ?_⟩
  refine ⟨_, rfl, x, rfl, ask, fun b H' s' hb => ⟨_, rfl, ?_⟩⟩
  cases b with
  | true => exact iteF (q1 (hb.mp rfl) H' s')
  | false => exact iteT (q2 (fun z => Bool.false_ne_true (hb.mpr z)) H' s')
abbrev st_walk : Stmt := topS 15
abbrev N_walk : List Str := ["forest"]
theorem sc_walk : FnScope N_walk ["forest"] (defScope st_walk) := ⟨rfl, rfl, rfl, by decide +kernel, rfl, by decide +kernel, by decide +kernel⟩
theorem ok_walk (D : Df K mg "walk" st_walk ["forest"]) (B : Bl mg) (Kcheck_forest : Kn P w K mg base (L2.CX P w) 5 "check_forest" st_check_forest ["forest"] (spCheckF CF))
    (K_without_holder : Kn P w K mg base CX0 1 "_without_holder" st__without_holder ["forest"] (spWithout K)) (K_held_lists : Kn P w K mg base CX0 1 "_held_lists" st__held_lists ["forest"] (spHeld K))
    (K_walk_through : Kn P w K mg base CX0 1 "_walk_through" st__walk_through ["held", "starts"] (spWalkT K)) :
    Kn P w K mg base (L2.CX P w) 6 "walk" st_walk ["forest"] (spOf CF fun hs l => ∃ o, l = nv o ∧ WT hs (roots hs) (Rch hs) o []) := by
  refine D.okX sc_walk (fun vs H Q E h => ?_) (fun f cdv A outer s H vs Q E hr h => ?_)
  · obtain ⟨x, rfl, _⟩ := h; rfl
  obtain ⟨x, rfl, ask, _, q2, q⟩ := h
  refine ⟨_, ((pss_cons (ps_expr (pe_callF Kcheck_forest (hr.mono (by decide)) (passX (takes_of rfl rfl rfl rfl)) (pa_cons (pv 0) pa_nil)))
      (pss_one (ps_ret (pe_callF K_walk_through (hr.mono (by decide)) pass0 (pa_cons (pe_callF K_held_lists (hr.mono (by decide)) pass0 (pa_cons (pv 0) pa_nil)) (pa_cons (pe_callF K_without_holder (hr.mono (by decide)) pass0 (pa_cons (pv 0) pa_nil)) pa_nil))))))), ?_⟩
  refine ⟨_, rfl, x, rfl, ask, fun ⟨hs, e, fo⟩ H1 s1 => ?_, q2⟩
  obtain ⟨a, rfl, ha⟩ := tupAt_ref e
  have hl := (ask.items _ e).1
  rw [List.length_map] at hl
  have hS1 : SqT K H1 a (hs.map hv) := SqT.of (s1 _ _ ha)
  refine ⟨_, rfl, a, hs, rfl, hS1, hl, fo.inb, fun p as H2 s2 hp hpc hA => ?_⟩
  refine ⟨_, rfl, a, hs, rfl, s2.tseq hS1, hl, fun p2 H3 s3 hp2 hr2 => ?_⟩
  refine ⟨p, p2, as, hs, roots hs, Rch hs, rfl, hA.same s3, SqL.of hr2, hl, starts_roots hs, fun r l H4 s4 hr4 hl4 hwt => ?_⟩
  have s14 := (s1.trans s2).trans s3
  exact q hs e fo r _ H4 ⟨l, rfl, hwt⟩ (s14.trans s4) (s14.free hr4) hl4
end

/-! ### the ways up -/
inductive Ups (hs : Hs) : Nat → List Nat → Prop where
  | root {v : Nat} (h : hs[v]? = some none) : Ups hs v []
  | step {v u : Nat} {l : List Nat} (h : hs[v]? = some (some u)) (r : Ups hs u l) : Ups hs v (u :: l)
theorem Rch.ups {hs : Hs} {v : Nat} (r : Rch hs v) : ∃ l, Ups hs v l := by
  induction r with
  | root h => exact ⟨[], .root h⟩
  | step h _ ih => obtain ⟨l, hl⟩ := ih; exact ⟨_, .step h hl⟩
theorem Ups.inj {hs : Hs} {v : Nat} {l m : List Nat} (a : Ups hs v l) (b : Ups hs v m) : l = m := by
  induction a generalizing m with
  | root h => cases b with
    | root _ => rfl
    | step h2 _ => rw [h] at h2; cases h2
  | step h r ih => cases b with
    | root h2 => rw [h] at h2; cases h2
    | step h2 r2 =>
      rw [h] at h2; cases h2
      rw [ih r2]
theorem Ups.lt {hs : Hs} {v : Nat} {l : List Nat} (a : Ups hs v l) : v < hs.length := by
  cases a with
  | root h => exact (List.getElem?_eq_some_iff.mp h).1
  | step h r => exact (List.getElem?_eq_some_iff.mp h).1
theorem Ups.mem {hs : Hs} {v : Nat} {l : List Nat} (a : Ups hs v l) : ∀ w ∈ l, ∃ m, Ups hs w m ∧ m.length < l.length := by
  induction a with
  | root h => intro w hw; cases hw
  | step h r ih =>
    intro w hw
    rcases List.mem_cons.mp hw with rfl | hw
    · exact ⟨_, r, Nat.lt_succ_self _⟩
    · obtain ⟨m, hm, hl⟩ := ih w hw
      exact ⟨m, hm, Nat.lt_succ_of_lt hl⟩
theorem Ups.nd {hs : Hs} {v : Nat} {l : List Nat} (a : Ups hs v l) : (v :: l).Nodup := by
  induction a with
  | root h => simp
  | step h r ih =>
    refine List.nodup_cons.mpr ⟨fun hm => ?_, ih⟩
    obtain ⟨m, hm, hl⟩ := (Ups.step h r).mem _ hm
    rw [hm.inj (.step h r)] at hl
    exact Nat.lt_irrefl _ hl
theorem Ups.len {hs : Hs} {v : Nat} {l : List Nat} (a : Ups hs v l) : l.length < hs.length := by
  have q := nodup_len hs.length _ a.nd fun w hw => by
    rcases List.mem_cons.mp hw with rfl | hw
    · exact a.lt
    · obtain ⟨m, hm, _⟩ := a.mem w hw
      exact hm.lt
  rw [List.length_cons] at q; omega
/-- below: a thing's held ones, and theirs -/
inductive Blw (hs : Hs) (t : Nat) : Nat → Prop where
  | kid {v : Nat} (h : hs[v]? = some (some t)) : Blw hs t v
  | step {v u : Nat} (h : hs[v]? = some (some u)) (r : Blw hs t u) : Blw hs t v
theorem Blw.ups {hs : Hs} {t v : Nat} (b : Blw hs t v) {l : List Nat} (a : Ups hs v l) : t ∈ l := by
  induction b generalizing l with
  | kid h => cases a with
    | root h2 => rw [h] at h2; cases h2
    | step h2 r => rw [h] at h2; cases h2; exact List.mem_cons_self
  | step h r ih => cases a with
    | root h2 => rw [h] at h2; cases h2
    | step h2 r2 => rw [h] at h2; cases h2; exact List.mem_cons_of_mem _ (ih r2)
theorem ups_blw {hs : Hs} {t v : Nat} {l : List Nat} (a : Ups hs v l) (h : t ∈ l) : Blw hs t v := by
  induction a with
  | root _ => cases h
  | step e r ih =>
    rcases List.mem_cons.mp h with rfl | h
    · exact .kid e
    · exact .step e (ih h)
theorem Blw.irr {hs : Hs} {t : Nat} (r : Rch hs t) : ¬ Blw hs t t := fun b => by
  obtain ⟨l, a⟩ := r.ups
  exact (List.nodup_cons.mp a.nd).1 (b.ups a)
theorem starts_kids {hs : Hs} {t : Nat} (r : Rch hs t) : Starts hs (kids hs t) (Blw hs t) where
  nd := nodup_kids hs t
  ok := fun s h => ⟨(List.getElem?_eq_some_iff.mp (mem_kids.mp h)).1, .kid (mem_kids.mp h)⟩
  down := fun _ _ e b => .step e b
  no := fun s h u e => by
    rw [mem_kids.mp h] at e
    cases e
    exact Blw.irr r
theorem WT.blw {hs : Hs} {t : Nat} {l : List Nat} (h : WT hs (kids hs t) (Blw hs t) l []) (v : Nat) : v ∈ l ↔ Blw hs t v := by
  have z : ∀ w, w ∈ l ++ [] ↔ w ∈ l := fun w => by rw [List.append_nil]
  refine ⟨fun hv => (h.ok v ((z v).mpr hv)).2.1, fun b => ?_⟩
  induction b with
  | kid e => exact (z _).mp (h.sm _ (mem_kids.mpr e))
  | step e _ ih => exact (z _).mp (h.cl _ _ e ih)
/-! ### sizes -/
def sumP (hs : Hs) (F : List Int) (D : List Nat) (v : Nat) : Int := (((kids hs v).filter fun c => decide (c ∈ D)).map fun c => F.getD c 0).sum
def SizeOk (hs : Hs) (F : List Int) : Prop := F.length = hs.length ∧ ∀ v : Nat, v < hs.length → F.getD v 0 = 1 + ((kids hs v).map fun c => F.getD c 0).sum
theorem filter_cons_sum (f : Nat → Int) (D : List Nat) (t : Nat) (ht : t ∉ D) : ∀ l : List Nat, l.Nodup → ((l.filter fun c => decide (c ∈ t :: D)).map f).sum = ((l.filter fun c => decide (c ∈ D)).map f).sum + (if t ∈ l then f t else 0)
  | [], _ => by simp
  | a :: r, nd => by
    have ih := filter_cons_sum f D t ht r (List.nodup_cons.mp nd).2
    have nd1 := (List.nodup_cons.mp nd).1
    by_cases e : a = t
    · subst e
      have h1 : decide (a ∈ a :: D) = true := decide_eq_true List.mem_cons_self
      have h2 : decide (a ∈ D) = false := decide_eq_false ht
      rw [if_neg nd1] at ih
      rw [List.filter_cons_of_pos (by exact h1), List.filter_cons_of_neg (by rw [h2]; exact Bool.false_ne_true), if_pos List.mem_cons_self, List.map_cons, List.sum_cons, ih]
      omega
    · have h3 : (t ∈ a :: r) ↔ t ∈ r := by
        rw [List.mem_cons]
        exact ⟨fun h => h.resolve_left fun z => e z.symm, .inr⟩
      by_cases hd : a ∈ D
      · have h1 : decide (a ∈ t :: D) = true := decide_eq_true (List.mem_cons_of_mem _ hd)
        have h2 : decide (a ∈ D) = true := decide_eq_true hd
        rw [List.filter_cons_of_pos (by exact h1), List.filter_cons_of_pos (by exact h2), List.map_cons, List.sum_cons, List.map_cons, List.sum_cons, ih]
        by_cases h : t ∈ r
        · rw [if_pos h, if_pos (h3.mpr h)]; omega
        · rw [if_neg h, if_neg (fun z => h (h3.mp z))]; omega
      · have h1 : decide (a ∈ t :: D) = false := decide_eq_false fun z => (List.mem_cons.mp z).elim e hd
        have h2 : decide (a ∈ D) = false := decide_eq_false hd
        rw [List.filter_cons_of_neg (by rw [h1]; exact Bool.false_ne_true), List.filter_cons_of_neg (by rw [h2]; exact Bool.false_ne_true), ih]
        by_cases h : t ∈ r
        · rw [if_pos h, if_pos (h3.mpr h)]
        · rw [if_neg h, if_neg (fun z => h (h3.mp z))]
/-- how far the sizes are summed up: of the things in D all is said to their holders -/
def SizeTo (hs : Hs) (F : List Int) (D : List Nat) : Prop := F.length = hs.length ∧ ∀ v : Nat, v < hs.length → F.getD v 0 = 1 + sumP hs F D v
theorem sumP_nil (hs : Hs) (F : List Int) (v : Nat) : sumP hs F [] v = 0 := by
  unfold sumP
  have e : ((kids hs v).filter fun c => decide (c ∈ ([] : List Nat))) = [] := by simp
  rw [e]; rfl
theorem getD_set_self {F : List Int} {u : Nat} {x : Int} (h : u < F.length) : (F.set u x).getD u 0 = x := by
  rw [List.getD_eq_getElem?_getD, List.getElem?_set_self h]; rfl
theorem getD_set_ne {F : List Int} {u v : Nat} {x : Int} (h : u ≠ v) : (F.set u x).getD v 0 = F.getD v 0 := by
  rw [List.getD_eq_getElem?_getD, List.getElem?_set_ne h, List.getD_eq_getElem?_getD]
theorem sumP_set {hs : Hs} {F : List Int} {D : List Nat} {u : Nat} {x : Int} (v : Nat) (h : u ∉ D) : sumP hs (F.set u x) D v = sumP hs F D v := by
  unfold sumP
  congr 1
  refine List.map_congr_left fun c hc => ?_
  have h2 := of_decide_eq_true (List.mem_filter.mp hc).2
  exact getD_set_ne fun e => h (e ▸ h2)
theorem SizeTo.skip {hs : Hs} {F : List Int} {D : List Nat} {t : Nat} (h : SizeTo hs F D) (ht : t ∉ D) (e : hs[t]? = some none) : SizeTo hs F (t :: D) := by
  refine ⟨h.1, fun v hv => ?_⟩
  rw [h.2 v hv]
  unfold sumP
  rw [filter_cons_sum _ D t ht _ (nodup_kids hs v), if_neg (fun z => by rw [mem_kids.mp z] at e; cases e)]
  omega
theorem SizeTo.put {hs : Hs} {F : List Int} {D : List Nat} {t u : Nat} (h : SizeTo hs F D) (ht : t ∉ D) (hu : u ∉ D) (hut : u ≠ t) (e : hs[t]? = some (some u)) (hul : u < hs.length) : SizeTo hs (F.set u (F.getD u 0 + F.getD t 0)) (t :: D) := by
  have hlu : u < F.length := by rw [h.1]; exact hul
  have hu2 : u ∉ t :: D := fun z => (List.mem_cons.mp z).elim hut hu
  refine ⟨by rw [List.length_set]; exact h.1, fun v hv => ?_⟩
  rw [sumP_set v hu2]
  have q : sumP hs F (t :: D) v = sumP hs F D v + (if t ∈ kids hs v then F.getD t 0 else 0) := filter_cons_sum _ D t ht _ (nodup_kids hs v)
  rw [q]
  by_cases hvu : v = u
  · subst hvu
    rw [getD_set_self hlu, if_pos (mem_kids.mpr e), h.2 v hv]; omega
  · rw [getD_set_ne (fun z => hvu z.symm), if_neg (fun z => by
      rw [mem_kids.mp z] at e; cases e; exact hvu rfl), h.2 v hv]; omega
theorem SizeTo.all {hs : Hs} {F : List Int} {D : List Nat} (h : SizeTo hs F D) (hD : ∀ v : Nat, v < hs.length → v ∈ D) : SizeOk hs F := by
  refine ⟨h.1, fun v hv => ?_⟩
  rw [h.2 v hv]
  unfold sumP
  rw [List.filter_eq_self.mpr]
  intro c hc
  exact decide_eq_true (hD c (List.getElem?_eq_some_iff.mp (mem_kids.mp hc)).1)
/-- a forest's walk has all things, each behind its holder -/
structure Ord (hs : Hs) (l : List Nat) : Prop where
  nd : l.Nodup
  len : l.length = hs.length
  lt : ∀ v ∈ l, v < hs.length
  mem : ∀ v : Nat, v < hs.length → v ∈ l
  od : ∀ i v u : Nat, l[i]? = some v → hs[v]? = some (some u) → ∃ j : Nat, j < i ∧ l[j]? = some u
theorem WT.ord {hs : Hs} {l : List Nat} (fo : Fo hs) (h : WT hs (roots hs) (Rch hs) l []) : Ord hs l := by
  have nd := h.nd
  rw [List.append_nil] at nd
  have lt : ∀ v ∈ l, v < hs.length := fun v hv => (h.ok v (by rw [List.append_nil]; exact hv)).1
  have mem : ∀ v : Nat, v < hs.length → v ∈ l := fun v hv => h.all_found (fo.all v hv)
  refine ⟨nd, ?_, lt, mem, fun i v u e e2 => ?_⟩
  · have h1 := nodup_len hs.length l nd lt
    have h2 := nodup_sub (List.range hs.length) l List.nodup_range fun v hv => mem v (List.mem_range.mp hv)
    rw [List.length_range] at h2; omega
  · rcases h.od i v e with z | ⟨j, u', hj, e3, e4⟩
    · rw [mem_roots.mp z] at e2; cases e2
    · rw [e2] at e4; cases e4
      exact ⟨j, hj, e3⟩
/-! ### depths -/
def DepthOk (hs : Hs) (F : List Int) : Prop := F.length = hs.length ∧ ∀ v : Nat, v < hs.length → ∀ l, Ups hs v l → F.getD v 0 = (l.length : Int)
def iv (l : List Int) : List V := l.map V.int
theorem iv_get {F : List Int} {v : Nat} (h : v < F.length) : (iv F)[v]? = some (.int (F.getD v 0)) := by
  unfold iv
  rw [List.getElem?_map, List.getElem?_eq_getElem h, List.getD_eq_getElem?_getD, List.getElem?_eq_getElem h]; rfl
theorem iv_rep (x : Int) : ∀ k : Nat, (List.replicate k [V.int x]).flatten = iv (List.replicate k x)
  | 0 => rfl
  | k + 1 => by rw [List.replicate_succ, List.flatten_cons, iv_rep x k]; rfl
theorem iv_set (F : List Int) (u : Nat) (x : Int) : (iv F).set u (.int x) = iv (F.set u x) := by unfold iv; rw [List.map_set]
theorem iv_length (F : List Int) : (iv F).length = F.length := List.length_map _
section
variable {P : Program} {w : World} {K : PySem.W.Frag} {mg : Str → Option Value} {base : Heap} {CF CT : Addr}
end

theorem sizeTo_start (hs : Hs) : SizeTo hs (List.replicate hs.length 1) [] := by
  refine ⟨List.length_replicate, fun v hv => ?_⟩
  rw [sumP_nil, List.getD_eq_getElem?_getD, List.getElem?_replicate, if_pos hv]; rfl
theorem drop_back {l : List Nat} {i t : Nat} (hi : i < l.length) (h : l[l.length - 1 - i]? = some t) : l.drop (l.length - (i + 1)) = t :: l.drop (l.length - i) := by
  have e : l.length - (i + 1) = l.length - 1 - i := by omega
  have e2 : l.length - i = l.length - 1 - i + 1 := by omega
  have hlt : l.length - 1 - i < l.length := by omega
  rw [e, e2, List.drop_eq_getElem_cons hlt]
  rw [List.getElem?_eq_getElem hlt] at h
  rw [Option.some.inj h]
theorem nv_at {l : List Nat} {i : Nat} {x : V} (h : (nv l)[i]? = some x) : ∃ t : Nat, l[i]? = some t ∧ x = .int (t : Int) := by
  unfold nv at h
  rw [List.getElem?_map] at h
  cases e : l[i]? with
  | none => rw [e] at h; cases h
  | some t => rw [e] at h; exact ⟨t, rfl, (Option.some.inj h).symm⟩
theorem not_mem_drop {l : List Nat} (nd : l.Nodup) {i j v : Nat} (h : l[i]? = some v) (hij : i < j) : v ∉ l.drop j := fun z => by
  obtain ⟨k, hk⟩ := List.getElem?_of_mem z
  rw [List.getElem?_drop] at hk
  have e := nodup_at nd h hk
  omega
section
variable {P : Program} {w : World} {K : PySem.W.Frag} {mg : Str → Option Value} {base : Heap} {CF CT : Addr}
abbrev st_sizes : Stmt := topS 13
abbrev N_sizes : List Str := ["forest", "order", "found", "thing", "holder"]
theorem sc_sizes : FnScope N_sizes ["forest"] (defScope st_sizes) := ⟨rfl, rfl, rfl, by decide +kernel, rfl, by decide +kernel, by decide +kernel⟩
theorem ok_sizes (D : Df K mg "sizes" st_sizes ["forest"]) (B : Bl mg) (Kwalk : Kn P w K mg base (L2.CX P w) 6 "walk" st_walk ["forest"] (spOf CF fun hs l => ∃ o, l = nv o ∧ WT hs (roots hs) (Rch hs) o [])) :
    Kn P w K mg base (L2.CX P w) 7 "sizes" st_sizes ["forest"] (spOf CF fun hs l => ∃ F, l = iv F ∧ SizeOk hs F) := by
  refine D.okX sc_sizes (fun vs H Q E h => ?_) (fun f cdv A outer s H vs Q E hr h => ?_)
  · obtain ⟨x, rfl, _⟩ := h; rfl
  obtain ⟨x, rfl, ask, q1, q2, q⟩ := h
  refine ⟨_, ((pss_cons (ps_set (i := 1) sc_sizes.nd rfl (Or.inl rfl) (pe_callF Kwalk (hr.mono (by decide)) (passX (takes_of rfl rfl rfl rfl)) (pa_cons (pv 0) pa_nil)))
      (pss_cons (ps_set (i := 2) sc_sizes.nd rfl (Or.inl rfl) (pe_op op_rep (pe_lst (pa_cons pe_int pa_nil)) (pe_callB call_len (by rfl) B.len (by decide +kernel) (pa_cons (pv 1) pa_nil))))
      (pss_cons (ps_for (passes_of rfl) rfl (pi_reversed (by rfl) B.reversed (pa_cons (pv 1) pa_nil)) (pg_name (i := 3) sc_sizes.nd rfl (Or.inl rfl)) (pss_cons (ps_set (i := 4) sc_sizes.nd rfl (Or.inl rfl) (pe_ix ix_tup (pv 0) (pv 3) (fun _ _ => rfl)))
      (pss_one (ps_if (pt_cmpR op_notN (pv 4) pe_non (nomark _)) (pss_one (ps_asg (pe_op op_add (pe_ix ix_list (pv 2) (pv 4) (fun _ _ => rfl)) (pe_ix ix_list (pv 2) (pv 3) (fun _ _ => rfl))) (pg_sub (pv 2) (pv 4) set_list))) pss_nil))))
      (pss_one (ps_ret (pv 2))))))), ?_⟩
  refine ⟨_, rfl, x, rfl, ask, q1, q2, fun hs e fo r l H1 ⟨o, eo, hwt⟩ s1 hrn hr1 => ?_⟩
  subst eo
  obtain ⟨a, rfl, ha⟩ := tupAt_ref e
  have hl := q1 hs e
  have O := hwt.ord fo
  have p63 : (2 : Int) ^ 63 = 9223372036854775808 := by decide
  refine ⟨by show 1 ≤ sizeLine; decide, fun X hX => ⟨_, rfl, _, _, rfl, .inl ⟨nv o, SqL.of (by rw [upd_ne (ne_of_none hr1 hX)]; exact hr1), rfl⟩, X, _, _, rfl, rfl, upd_same, by omega, by rw [nv_length, O.len]; omega, ?_, fun F hF => ?_⟩⟩
  · show 1 * ((nv o).length : Int).toNat ≤ sizeLine
    rw [nv_length, O.len]
    exact Nat.le_of_lt (szl (by omega))
  have hXn : H X = none := s1.free hX
  have s2 : Same H (upd H1 X (.lst [.int 1])) := s1.new hX
  have hFn : H F = none := s2.free hF
  have hr2 : upd (upd H1 X (.lst [.int 1])) F (.lst (List.replicate ((nv o).length : Int).toNat [V.int 1]).flatten) r = some (.lst (nv o)) := by
    have z : upd H1 X (.lst [.int 1]) r = some (.lst (nv o)) := by rw [upd_ne (ne_of_none hr1 hX)]; exact hr1
    rw [upd_ne (ne_of_none z hF)]; exact z
  have hrF : r ≠ F := by
    intro z
    rw [z] at hr2
    have w2 : upd H1 X (.lst [.int 1]) r = some (.lst (nv o)) := by rw [upd_ne (ne_of_none hr1 hX)]; exact hr1
    rw [z, hF] at w2; cases w2
  refine ⟨_, rfl, r, _, rfl, SqL.of hr2, for_it (walk_rev (xs := nv o)) (fun i σ H' => ∃ v3 v4, σ = [some (.ref a), some (.ref r), some (.ref F), v3, v4] ∧ Same H H' ∧ H' r = some (.lst (nv o)) ∧ ∃ Fl, SizeTo hs Fl (o.drop (o.length - i)) ∧ H' F = some (.lst (iv Fl)))
    ⟨none, none, rfl, s2.upd hFn, hr2, List.replicate hs.length 1, ?_, ?_⟩ (fun i σ H' _ p => by obtain ⟨_, _, _, _, p, _⟩ := p; exact SqL.of p) ?_ ?_⟩
  · rw [Nat.sub_zero, List.drop_length]; exact sizeTo_start hs
  · rw [upd_same, iv_rep, nv_length, O.len]
    have z : ((hs.length : Int)).toNat = hs.length := by omega
    rw [z]
  · rintro i x σ H2 H3 hi ⟨v3, v4, rfl, s3, hr3, Fl, hto, hF3⟩ ⟨rfl, e1⟩
    rw [nv_length] at hi e1
    obtain ⟨t, et, rfl⟩ := nv_at e1
    have htl : t < hs.length := O.lt t (List.mem_of_getElem? et)
    obtain ⟨ho, eho⟩ : ∃ o, hs[t]? = some o := ⟨hs[t], List.getElem?_eq_getElem htl⟩
    have sq : SqT K H3 a (hs.map hv) := SqT.of (s3 _ _ ha)
    have hdr := drop_back hi et
    have htD : t ∉ o.drop (o.length - i) := not_mem_drop O.nd et (by omega)
    refine ⟨_, rfl, _, rfl, a, _, _, _, rfl, rfl, sq, atI_nat (hv_at eho), _, rfl, rfl, _, rfl, ?_⟩
    cases ho with
    | none => exact iteF ⟨_, _, rfl, s3, hr3, Fl, by rw [hdr]; exact hto.skip htD eho, hF3⟩
    | some u =>
      obtain ⟨j, hj, ej⟩ := O.od _ t u et eho
      have hul : u < hs.length := O.lt u (List.mem_of_getElem? ej)
      have huD : u ∉ o.drop (o.length - i) := not_mem_drop O.nd ej (by omega)
      have hut : u ≠ t := fun z => by
        rw [z] at ej
        have z2 := nodup_at O.nd ej et
        omega
      have lF := hto.1
      refine iteT ⟨_, rfl, _, rfl, F, _, _, _, rfl, rfl, SqL.of hF3, atI_nat (iv_get (by omega)), _, rfl, _, rfl, F, _, _, _, rfl, rfl, SqL.of hF3, atI_nat (iv_get (by omega)), _, _, rfl, rfl, ?_⟩
      refine ⟨_, rfl, _, rfl, F, _, _, u, rfl, rfl, hF3, by rw [iv_length]; exact ixN_nat (by omega), ?_⟩
      refine ⟨_, _, rfl, s3.upd hFn, by rw [upd_ne hrF]; exact hr3, _, by rw [hdr]; exact hto.put htD huD hut eho hul, by rw [upd_same, iv_set]⟩
  · rintro σ H2 ⟨v3, v4, rfl, s3, hr3, Fl, hto, hF3⟩
    rw [nv_length, Nat.sub_self, List.drop_zero] at hto
    exact ⟨_, rfl, q hs e fo F _ H2 ⟨Fl, rfl, hto.all O.mem⟩ s3 hFn hF3⟩
abbrev st_depths : Stmt := topS 14
abbrev N_depths : List Str := ["forest", "order", "found", "thing", "holder"]
theorem sc_depths : FnScope N_depths ["forest"] (defScope st_depths) := ⟨rfl, rfl, rfl, by decide +kernel, rfl, by decide +kernel, by decide +kernel⟩
theorem ok_depths (D : Df K mg "depths" st_depths ["forest"]) (B : Bl mg) (Kwalk : Kn P w K mg base (L2.CX P w) 6 "walk" st_walk ["forest"] (spOf CF fun hs l => ∃ o, l = nv o ∧ WT hs (roots hs) (Rch hs) o [])) :
    Kn P w K mg base (L2.CX P w) 7 "depths" st_depths ["forest"] (spOf CF fun hs l => ∃ F, l = iv F ∧ DepthOk hs F) := by
  refine D.okX sc_depths (fun vs H Q E h => ?_) (fun f cdv A outer s H vs Q E hr h => ?_)
  · obtain ⟨x, rfl, _⟩ := h; rfl
  obtain ⟨x, rfl, ask, q1, q2, q⟩ := h
  refine ⟨_, ((pss_cons (ps_set (i := 1) sc_depths.nd rfl (Or.inl rfl) (pe_callF Kwalk (hr.mono (by decide)) (passX (takes_of rfl rfl rfl rfl)) (pa_cons (pv 0) pa_nil)))
      (pss_cons (ps_set (i := 2) sc_depths.nd rfl (Or.inl rfl) (pe_op op_rep (pe_lst (pa_cons pe_int pa_nil)) (pe_callB call_len (by rfl) B.len (by decide +kernel) (pa_cons (pv 1) pa_nil))))
      (pss_cons (ps_for (passes_of rfl) rfl (pi_list (pv 1)) (pg_name (i := 3) sc_depths.nd rfl (Or.inl rfl)) (pss_cons (ps_set (i := 4) sc_depths.nd rfl (Or.inl rfl) (pe_ix ix_tup (pv 0) (pv 3) (fun _ _ => rfl)))
      (pss_one (ps_if (pt_cmpR op_notN (pv 4) pe_non (nomark _)) (pss_one (ps_asg (pe_op op_add (pe_ix ix_list (pv 2) (pv 4) (fun _ _ => rfl)) pe_int) (pg_sub (pv 2) (pv 3) set_list))) pss_nil))))
      (pss_one (ps_ret (pv 2))))))), ?_⟩
  refine ⟨_, rfl, x, rfl, ask, q1, q2, fun hs e fo r l H1 ⟨o, eo, hwt⟩ s1 hrn hr1 => ?_⟩
  subst eo
  obtain ⟨a, rfl, ha⟩ := tupAt_ref e
  have hl := q1 hs e
  have O := hwt.ord fo
  have p63 : (2 : Int) ^ 63 = 9223372036854775808 := by decide
  refine ⟨by show 1 ≤ sizeLine; decide, fun X hX => ⟨_, rfl, _, _, rfl, .inl ⟨nv o, SqL.of (by rw [upd_ne (ne_of_none hr1 hX)]; exact hr1), rfl⟩, X, _, _, rfl, rfl, upd_same, by omega, by rw [nv_length, O.len]; omega, ?_, fun F hF => ?_⟩⟩
  · show 1 * ((nv o).length : Int).toNat ≤ sizeLine
    rw [nv_length, O.len]
    exact Nat.le_of_lt (szl (by omega))
  have s2 : Same H (upd H1 X (.lst [.int 0])) := s1.new hX
  have hFn : H F = none := s2.free hF
  have hrX : upd H1 X (.lst [.int 0]) r = some (.lst (nv o)) := by rw [upd_ne (ne_of_none hr1 hX)]; exact hr1
  have hrF : r ≠ F := ne_of_none hrX hF
  refine ⟨_, rfl, r, rfl, ⟨_, SqL.of (by rw [upd_ne hrF]; exact hrX)⟩, for_it (walk_list (xs := nv o)) (fun i σ H' => ∃ v3 v4, σ = [some (.ref a), some (.ref r), some (.ref F), v3, v4] ∧ Same H H' ∧ H' r = some (.lst (nv o)) ∧
      ∃ Fl : List Int, Fl.length = hs.length ∧ (∀ (j v : Nat) l, j < i → o[j]? = some v → Ups hs v l → Fl.getD v 0 = (l.length : Int)) ∧ (∀ (j v : Nat), i ≤ j → o[j]? = some v → Fl.getD v 0 = 0) ∧ H' F = some (.lst (iv Fl)))
    ⟨none, none, rfl, s2.upd hFn, by rw [upd_ne hrF]; exact hrX, List.replicate hs.length 0, List.length_replicate, fun j v l hj => absurd hj (Nat.not_lt_zero j), fun j v _ e => ?_, ?_⟩ (fun i σ H' _ p => by obtain ⟨_, _, _, _, p, _⟩ := p; exact SqL.of p) ?_ ?_⟩
  · rw [List.getD_eq_getElem?_getD, List.getElem?_replicate, if_pos (O.lt v (List.mem_of_getElem? e))]; rfl
  · rw [upd_same, iv_rep, nv_length, O.len]
    have z : ((hs.length : Int)).toNat = hs.length := by omega
    rw [z]
  · rintro i x σ H2 H3 hi ⟨v3, v4, rfl, s3, hr3, Fl, lF, hd, hz, hF3⟩ ⟨rfl, e1⟩
    obtain ⟨t, et, rfl⟩ := nv_at e1
    have htl : t < hs.length := O.lt t (List.mem_of_getElem? et)
    obtain ⟨ho, eho⟩ : ∃ o, hs[t]? = some o := ⟨hs[t], List.getElem?_eq_getElem htl⟩
    have sq : SqT K H3 a (hs.map hv) := SqT.of (s3 _ _ ha)
    refine ⟨_, rfl, _, rfl, a, _, _, _, rfl, rfl, sq, atI_nat (hv_at eho), _, rfl, rfl, _, rfl, ?_⟩
    cases ho with
    | none =>
      refine iteF ⟨_, _, rfl, s3, hr3, Fl, lF, fun j v l hj e2 hu => ?_, fun j v hj e2 => hz j v (by omega) e2, hF3⟩
      by_cases hji : j = i
      · subst hji
        have z := Option.some.inj (e2.symm.trans et)
        subst z
        cases hu with
        | root _ => exact hz j v (Nat.le_refl _) e2
        | step h2 _ => rw [eho] at h2; cases h2
      · exact hd j v l (by omega) e2 hu
    | some u =>
      obtain ⟨j, hj, ej⟩ := O.od i t u et eho
      have hul : u < hs.length := O.lt u (List.mem_of_getElem? ej)
      have lt' : t < Fl.length := by omega
      refine iteT ⟨_, rfl, _, rfl, F, _, _, _, rfl, rfl, SqL.of hF3, atI_nat (iv_get (by omega)), _, _, rfl, rfl, ?_⟩
      refine ⟨_, rfl, _, rfl, F, _, _, t, rfl, rfl, hF3, by rw [iv_length]; exact ixN_nat lt', ?_⟩
      refine ⟨_, _, rfl, s3.upd hFn, by rw [upd_ne hrF]; exact hr3, Fl.set t (Fl.getD u 0 + 1), by rw [List.length_set]; exact lF, fun j' v l hj' e2 hu => ?_, fun j' v hj' e2 => ?_, by rw [upd_same, iv_set]⟩
      · by_cases hji : j' = i
        · subst hji
          have z := Option.some.inj (e2.symm.trans et)
          subst z
          rw [getD_set_self lt']
          cases hu with
          | root h2 => rw [eho] at h2; cases h2
          | step h2 r2 =>
            rw [eho] at h2; cases h2
            rw [hd j u _ hj ej r2, List.length_cons]; omega
        · have hne : t ≠ v := fun z => hji (nodup_at O.nd e2 (by rw [← z]; exact et))
          rw [getD_set_ne hne]
          exact hd j' v l (by omega) e2 hu
      · have hne : t ≠ v := fun z => by
          have z2 := nodup_at O.nd e2 (by rw [← z]; exact et)
          omega
        rw [getD_set_ne hne]
        exact hz j' v (by omega) e2
  · rintro σ H2 ⟨v3, v4, rfl, s3, hr3, Fl, lF, hd, hz, hF3⟩
    rw [nv_length] at hd
    refine ⟨_, rfl, q hs e fo F _ H2 ⟨Fl, rfl, lF, fun v hv l hu => ?_⟩ s3 hFn hF3⟩
    obtain ⟨j, ej⟩ := List.getElem?_of_mem (O.mem v hv)
    exact hd j v l (List.getElem?_eq_some_iff.mp ej).1 ej hu
end

end My

namespace My
open PySem PySem.Spec PyProof.Rows L2
/-! ### what a value reads as, further on -/
theorem tupAt_sameV {H H' : Hp} {x : V} (v : Vd H x) (s : Same H H') : tupAt H' x = tupAt H x := by
  cases v with
  | lst h => rw [tupAt_lst h, tupAt_lst (s _ _ h)]
  | tup h => rw [tupAt_tup h, tupAt_tup (s _ _ h)]
  | dK h => rw [tupAt_dK h, tupAt_dK (s _ _ h)]
  | _ => rfl
theorem Askd.sameV {H H' : Hp} {x : V} (k : Askd H x) (s : Same H H') : Askd H' x :=
  ⟨k.vd.same s, fun xs e => by
    rw [tupAt_sameV k.vd s] at e
    exact ⟨(k.items xs e).1, fun y hy => ((k.items xs e).2 y hy).same s⟩⟩
theorem isF_same {H H' : Hp} {x : V} (v : Vd H x) (s : Same H H') : IsF H' x ↔ IsF H x := by
  unfold IsF
  rw [tupAt_sameV v s]
mutual
theorem Rp.same {z : Bool} {H H' : Hp} (s : Same H H') : ∀ (d : PyData) (x : V), Rp z H x d → Rp z H' x d
  | .none, _, h => by cases h; exact .non
  | .bool b, _, h => by cases h; exact .bl b
  | .int i, _, h => by cases h; exact .int i
  | .str x, _, h => by cases h; exact .str x
  | .list ds, _, h => by
    cases h with
    | lst e n r => exact .lst (s _ _ e) n (Rps.same s ds _ r)
  | .tuple ds, _, h => by
    cases h with
    | tup e r => exact .tup (s _ _ e) (Rps.same s ds _ r)
  | .dict _, _, h => by
    cases h with
    | dct y e => exact .dct y (s _ _ e)
theorem Rps.same {z : Bool} {H H' : Hp} (s : Same H H') : ∀ (ds : List PyData) (xs : List V), Rps z H xs ds → Rps z H' xs ds
  | [], _, h => by cases h; exact .nil
  | d :: ds, _, h => by
    cases h with
    | cons a r => exact .cons (Rp.same s d _ a) (Rps.same s ds _ r)
end
theorem shows_of {d : PyData} (h1 : d.showable = true) (h2 : d.leavesShort 100 = true) (h3 : d.bulk ≤ 100000) (h4 : d.depth ≤ 60) : Shows d := by
  refine ⟨h1, ?_, h4⟩
  have z := PyData.shown_le_bulk 100 (by decide) d h2
  rw [sizeLine_eq]
  omega
structure Small (d : PyData) : Prop where
  ok : d.showable = true
  short : d.leavesShort 100 = true
  bulk : d.bulk ≤ 10
  deep : d.depth ≤ 3
theorem small_all : ∀ ds : List PyData, (∀ d ∈ ds, Small d) → PyData.showableAll ds = true ∧ PyData.leavesShortAll 100 ds = true ∧ PyData.bulkAll ds ≤ 11 * ds.length ∧ PyData.depthAll ds ≤ 3
  | [], _ => ⟨rfl, rfl, Nat.le_refl _, Nat.zero_le _⟩
  | d :: ds, h => by
    obtain ⟨a, b, c, e⟩ := small_all ds fun x hx => h x (List.mem_cons_of_mem _ hx)
    have k := h d List.mem_cons_self
    refine ⟨by rw [PyData.showableAll, k.ok, a]; rfl, by rw [PyData.leavesShortAll, k.short, b]; rfl, ?_, ?_⟩
    · rw [PyData.bulkAll, List.length_cons]
      have := k.bulk
      omega
    · rw [PyData.depthAll]
      exact Nat.max_le.mpr ⟨k.deep, e⟩
theorem shows_tuple {ds : List PyData} (h : ∀ d ∈ ds, Small d) (hl : ds.length ≤ 1000) : Shows (.tuple ds) := by
  obtain ⟨a, b, c, e⟩ := small_all ds h
  exact shows_of (by rw [PyData.showable]; exact a) (by rw [PyData.leavesShort]; exact b) (by rw [PyData.bulk]; omega) (by rw [PyData.depth]; omega)
theorem shows_list {ds : List PyData} (h : ∀ d ∈ ds, Small d) (hl : ds.length ≤ 1000) : Shows (.list ds) := by
  obtain ⟨a, b, c, e⟩ := small_all ds h
  exact shows_of (by rw [PyData.showable]; exact a) (by rw [PyData.leavesShort]; exact b) (by rw [PyData.bulk]; omega) (by rw [PyData.depth]; omega)
theorem small_int {i : Int} (h : i.natAbs < 10 ^ 12) : Small (.int i) := by
  refine ⟨?_, ?_, Nat.zero_le _, Nat.zero_le _⟩
  · have z : i.natAbs < 2 ^ 1920 := Nat.lt_trans h (by decide +kernel)
    exact decide_eq_true (PySem.Flt.log2_lt_of (by decide) z)
  · exact decide_eq_true (Nat.le_trans (PyData.shown_int_le h) (by decide))
theorem small_non : Small .none := ⟨rfl, rfl, Nat.zero_le _, Nat.zero_le _⟩
theorem small_bl (b : Bool) : Small (.bool b) := ⟨rfl, rfl, Nat.zero_le _, Nat.zero_le _⟩

/-! ### lists of naturals as data -/
def nD (l : List Nat) : List PyData := l.map fun v : Nat => PyData.int ((v : Nat) : Int)
theorem dp_nv {K : PySem.W.Frag} {H : Hp} : ∀ l : List Nat, DpAll K H (nv l) (nD l)
  | [] => .nil
  | v :: l => .cons (.int (v : Int)) (dp_nv l)
theorem lay_nD : ∀ l : List Nat, PyData.canLayAll0 (nD l) = true
  | [] => rfl
  | v :: l => by
    show PyData.canLayAll0 (PyData.int (v : Int) :: nD l) = true
    rw [PyData.canLayAll0, lay_nD l]; rfl
theorem deep_nD : ∀ l : List Nat, PyData.depthAll (nD l) = 0
  | [] => rfl
  | v :: l => by
    show PyData.depthAll (PyData.int (v : Int) :: nD l) = 0
    rw [PyData.depthAll, deep_nD l]; rfl
theorem shaped_nD (l : List Nat) : SeqAt.shaped (.list (nD l)) = true := by
  unfold SeqAt.shaped
  rw [PyData.canLay0, lay_nD, PyData.depth, deep_nD]; rfl
theorem eqv_nD : ∀ a b : List Nat, PyData.eqvAll (nD a) (nD b) = decide (a = b)
  | [], [] => rfl
  | [], _ :: _ => rfl
  | _ :: _, [] => rfl
  | x :: a, y :: b => by
    show PyData.eqvAll (PyData.int (x : Int) :: nD a) (PyData.int (y : Int) :: nD b) = _
    rw [PyData.eqvAll, eqv_nD a b, PyData.eqv]
    by_cases h : x = y
    · subst h
      by_cases h2 : a = b
      · subst h2; simp
      · simp [h2]
    · have h3 : ¬ ((x : Int) = (y : Int)) := by omega
      simp [h, h3]
theorem eqv_list (a b : List PyData) : PyData.eqv (.list a) (.list b) = PyData.eqvAll a b := by rw [PyData.eqv]
theorem flat_nv (l : List Nat) : (nv l).all flatV = true := by
  rw [List.all_eq_true]
  intro y hy
  obtain ⟨v, _, rfl⟩ := List.mem_map.mp hy
  rfl
theorem inV_nv (u : Nat) (l : List Nat) : inV (.int (u : Int)) (nv l) = decide (u ∈ l) := by
  unfold inV nv
  rw [List.any_map]
  induction l with
  | nil => rfl
  | cons v l ih =>
    rw [List.any_cons, ih]
    show ((v : Int) == (u : Int) || decide (u ∈ l)) = _
    by_cases h : v = u
    · subst h; simp
    · have h1 : ((v : Int) == (u : Int)) = false := beq_eq_false_iff_ne.mpr (by omega)
      have h2 : ¬ u = v := fun q => h q.symm
      rw [h1, Bool.false_or]
      simp [h2]

/-! ### equal values of the same kinds -/
theorem ix_seqK {X : Cx} (K : PySem.W.Frag) (e : X.K = K := by rfl) : IxR X (rIx K) := by subst e; exact ix_seq
theorem Rps.len {z : Bool} {H : Hp} : ∀ {xs : List V} {ds : List PyData}, Rps z H xs ds → xs.length = ds.length
  | _, _, .nil => rfl
  | _, _, .cons _ r => by rw [List.length_cons, List.length_cons, Rps.len r]
theorem Rps.at {z : Bool} {H : Hp} : ∀ {xs : List V} {ds : List PyData} {k : Nat} {x : V}, Rps z H xs ds → xs[k]? = some x → ∃ d, ds[k]? = some d ∧ Rp z H x d
  | _, _, 0, x, .cons h _, e => by cases e; exact ⟨_, rfl, h⟩
  | _, _, k + 1, x, .cons _ r, e => by
    have z := Rps.at (k := k) (x := x) r e
    exact z
theorem depth_at : ∀ {ds : List PyData} {k : Nat} {d : PyData}, ds[k]? = some d → d.depth ≤ PyData.depthAll ds
  | d :: _, 0, _, e => by cases e; rw [PyData.depthAll]; exact Nat.le_max_left _ _
  | _ :: ds, k + 1, _, e => by rw [PyData.depthAll]; exact Nat.le_trans (depth_at (ds := ds) e) (Nat.le_max_right _ _)
mutual
def shortD : PyData → Bool
  | .list ds => decide (ds.length ≤ 1000) && shortDs ds
  | .tuple ds => decide (ds.length ≤ 1000) && shortDs ds
  | .none => true
  | .bool _ => true
  | .int _ => true
  | .str _ => true
  | .dict _ => false
def shortDs : List PyData → Bool
  | [] => true
  | d :: ds => shortD d && shortDs ds
end
theorem short_at : ∀ {ds : List PyData} {k : Nat} {d : PyData}, shortDs ds = true → ds[k]? = some d → shortD d = true
  | d :: _, 0, _, h, e => by
    cases e
    rw [shortDs, Bool.and_eq_true] at h
    exact h.1
  | _ :: ds, k + 1, _, h, e => by
    rw [shortDs, Bool.and_eq_true] at h
    exact short_at (ds := ds) h.2 e
def spSame (n : Nat) : Sp := fun vs H Q _ => ∃ (x y : V) (d : PyData), vs = [x, y] ∧ Rp false H x d ∧ Rp false H y d ∧ d.depth < n ∧ shortD d = true ∧ ∀ H', Same H H' → Q (.bl true) H'
section
variable {P : Program} {w : World} {K : PySem.W.Frag} {mg : Str → Option Value} {base : Heap}
abbrev st__law_same : Stmt := topS 25
abbrev N__law_same : List Str := ["found", "due", "k"]
theorem sc__law_same : FnScope N__law_same ["found", "due"] (defScope st__law_same) := ⟨rfl, rfl, rfl, by decide +kernel, rfl, by decide +kernel, by decide +kernel⟩
theorem ok__law_same (D : Df K mg "_law_same" st__law_same ["found", "due"]) (B : Bl mg) : ∀ n : Nat, Kn P w K mg base CX0 n "_law_same" st__law_same ["found", "due"] (spSame n)
  | 0 => by
    obtain ⟨f, fd, F, g, b, e⟩ := D.ex
    exact ⟨f, fd, ⟨fun _ _ _ _ h => (by obtain ⟨_, _, _, _, _, _, h, _⟩ := h; omega), fun _ _ _ _ _ _ _ _ _ _ _ _ _ h => (by obtain ⟨_, _, _, _, _, _, h, _⟩ := h; omega)⟩, g, F.kp, b, e⟩
  | n + 1 => by
    have K_law_same := ok__law_same D B n
    refine D.ok sc__law_same (fun vs H Q E h => ?_) (fun f cdv A outer s H vs Q E hr h => ?_)
    · obtain ⟨x, y, d, rfl, _⟩ := h; rfl
    obtain ⟨x, y, d, rfl, hx, hy, hd, hs, q⟩ := h
    refine ⟨_, ((pss_cons (ps_if (PW.pt (pw_or (pt_val (pe_callB call_isi (by rfl) B.isinstance (by decide +kernel) (pa_cons (pv 0) (pa_cons (pe_bltn (v := .ty "bool") (u := .type "bool") (by rfl) B.bool (by decide +kernel) rfl) pa_nil)))) (pw_or1 (pt_val (pe_callB call_isi (by rfl) B.isinstance (by decide +kernel) (pa_cons (pv 1) (pa_cons (pe_bltn (v := .ty "bool") (u := .type "bool") (by rfl) B.bool (by decide +kernel) rfl) pa_nil))))))) (pss_one (ps_ret (pe_and (pe_callB call_isi (by rfl) B.isinstance (by decide +kernel) (pa_cons (pv 0) (pa_cons (pe_bltn (v := .ty "bool") (u := .type "bool") (by rfl) B.bool (by decide +kernel) rfl) pa_nil))) (pe_and (pe_callB call_isi (by rfl) B.isinstance (by decide +kernel) (pa_cons (pv 1) (pa_cons (pe_bltn (v := .ty "bool") (u := .type "bool") (by rfl) B.bool (by decide +kernel) rfl) pa_nil))) (pe_one (pe_cmpR op_eq (pv 0) (pv 1) (nomark _))))))) pss_nil)
      (pss_cons (ps_if (pt_cmpR op_ne (pe_callB call_isi (by rfl) B.isinstance (by decide +kernel) (pa_cons (pv 0) (pa_cons (pe_bltn (v := .ty "list") (u := .type "list") (by rfl) B.list (by decide +kernel) rfl) pa_nil))) (pe_callB call_isi (by rfl) B.isinstance (by decide +kernel) (pa_cons (pv 1) (pa_cons (pe_bltn (v := .ty "list") (u := .type "list") (by rfl) B.list (by decide +kernel) rfl) pa_nil))) (nomark _)) (pss_one (ps_ret pe_bl)) pss_nil)
      (pss_cons (ps_if (PW.pt (pw_and (pt_val (pe_callB call_isiT (by rfl) B.isinstance (by decide +kernel) (pa_cons (pv 0) (pa_cons (pe_tup (pa_cons (pe_bltn (v := .ty "list") (u := .type "list") (by rfl) B.list (by decide +kernel) rfl) (pa_cons (pe_bltn (v := .ty "tuple") (u := .type "tuple") (by rfl) B.tuple (by decide +kernel) rfl) pa_nil))) pa_nil)))) (pw_and1 (pt_val (pe_callB call_isiT (by rfl) B.isinstance (by decide +kernel) (pa_cons (pv 1) (pa_cons (pe_tup (pa_cons (pe_bltn (v := .ty "list") (u := .type "list") (by rfl) B.list (by decide +kernel) rfl) (pa_cons (pe_bltn (v := .ty "tuple") (u := .type "tuple") (by rfl) B.tuple (by decide +kernel) rfl) pa_nil))) pa_nil))))))) (pss_cons (ps_if (pt_cmpR op_ne (pe_callB call_len (by rfl) B.len (by decide +kernel) (pa_cons (pv 0) pa_nil)) (pe_callB call_len (by rfl) B.len (by decide +kernel) (pa_cons (pv 1) pa_nil)) (nomark _)) (pss_one (ps_ret pe_bl)) pss_nil)
      (pss_one (ps_ret (pe_cmpR (op_eqD hr.units) (pe_lc (own := [("k", 2)]) (g := gName 2) rfl sc__law_same.nd (pi_range1 (by rfl) B.range (pa_cons (pe_callB call_len (by rfl) B.len (by decide +kernel) (pa_cons (pv 1) pa_nil)) pa_nil)) (blkOk_by (N := N__law_same) (sc := defScope st__law_same) (own := [("k", 2)]) (by decide +kernel)) (fun _ _ _ _ _ => by (exact (pg_name (i := 2) sc__law_same.nd rfl (Or.inl rfl)))) (fun _ _ _ _ _ => by exact (pts_one (pt_not (pt_val (pe_callF K_law_same hr pass0 (pa_cons (pe_ix (ix_seqK K) (pv 0) (pv 2) (fun _ _ => rfl)) (pa_cons (pe_ix (ix_seqK K) (pv 1) (pv 2) (fun _ _ => rfl)) pa_nil))))))) (fun _ _ _ _ _ => by exact (pv 2))) (pe_lst pa_nil) (nomark _))))) pss_nil)
      (pss_one (ps_ret (pe_and (pe_cmpR op_eq (pv 0) (pv 1) (nomark _)) (pe_one (pe_cmpR op_eq (pe_callB call_isi (by rfl) B.isinstance (by decide +kernel) (pa_cons (pv 0) (pa_cons (pe_bltn (v := .ty "int") (u := .type "int") (by rfl) B.int (by decide +kernel) rfl) pa_nil))) (pe_callB call_isi (by rfl) B.isinstance (by decide +kernel) (pa_cons (pv 1) (pa_cons (pe_bltn (v := .ty "int") (u := .type "int") (by rfl) B.int (by decide +kernel) rfl) pa_nil))) (nomark _)))))))))), ?_⟩
    obtain ⟨t, tx, ty, bi, bb, bl, bt, k1, k2, k3, k4, hk⟩ : ∃ t : String, (∀ H', Same H H' → TyX K H' x (.type t)) ∧ (∀ H', Same H H' → TyX K H' y (.type t)) ∧ ∃ bi bb bl bt : Bool, kitB t "int" = some bi ∧ kitB t "bool" = some bb ∧ kitB t "list" = some bl ∧ kitB t "tuple" = some bt ∧
        ((bb = true ∧ x = y ∧ scal x y = true) ∨ (bb = false ∧ bl = false ∧ bt = false ∧ x = y ∧ scal x y = true) ∨
          (bb = false ∧ (bl || bt) = true ∧ ∃ (a b : Addr) (xs ys : List V) (ds : List PyData), x = .ref a ∧ y = .ref b ∧ ((H a = some (.lst xs) ∧ H b = some (.lst ys)) ∨ (H a = some (.tup xs) ∧ H b = some (.tup ys))) ∧
            Rps false H xs ds ∧ Rps false H ys ds ∧ PyData.depthAll ds < n ∧ shortDs ds = true ∧ ds.length ≤ 1000)) := by
      cases hx with
      | non =>
        cases hy
        exact ⟨_, fun _ _ => .base .non, fun _ _ => .base .non, _, _, _, _, (by decide +kernel : kitB "NoneType" "int" = some false), (by decide +kernel : kitB "NoneType" "bool" = some false), (by decide +kernel : kitB "NoneType" "list" = some false), (by decide +kernel : kitB "NoneType" "tuple" = some false), .inr (.inl ⟨rfl, rfl, rfl, rfl, rfl⟩)⟩
      | bl b =>
        cases hy
        exact ⟨_, fun _ _ => .base (.bl b), fun _ _ => .base (.bl b), _, _, _, _, (by decide +kernel : kitB "bool" "int" = some true), (by decide +kernel : kitB "bool" "bool" = some true), (by decide +kernel : kitB "bool" "list" = some false), (by decide +kernel : kitB "bool" "tuple" = some false), .inl ⟨rfl, rfl, rfl⟩⟩
      | int i =>
        cases hy
        exact ⟨_, fun _ _ => .base (.int i), fun _ _ => .base (.int i), _, _, _, _, (by decide +kernel : kitB "int" "int" = some true), (by decide +kernel : kitB "int" "bool" = some false), (by decide +kernel : kitB "int" "list" = some false), (by decide +kernel : kitB "int" "tuple" = some false), .inr (.inl ⟨rfl, rfl, rfl, rfl, rfl⟩)⟩
      | str z =>
        cases hy
        exact ⟨_, fun _ _ => .base (.str z), fun _ _ => .base (.str z), _, _, _, _, (by decide +kernel : kitB "str" "int" = some false), (by decide +kernel : kitB "str" "bool" = some false), (by decide +kernel : kitB "str" "list" = some false), (by decide +kernel : kitB "str" "tuple" = some false), .inr (.inl ⟨rfl, rfl, rfl, rfl, rfl⟩)⟩
      | lst ea _ r1 =>
        cases hy with
        | lst eb _ r2 =>
          rw [shortD, Bool.and_eq_true, decide_eq_true_eq] at hs
          rw [PyData.depth] at hd
          exact ⟨_, fun _ s => .base (.lst (s _ _ ea)), fun _ s => .base (.lst (s _ _ eb)), _, _, _, _, (by decide +kernel : kitB "list" "int" = some false), (by decide +kernel : kitB "list" "bool" = some false), (by decide +kernel : kitB "list" "list" = some true), (by decide +kernel : kitB "list" "tuple" = some false),
            .inr (.inr ⟨rfl, rfl, _, _, _, _, _, rfl, rfl, .inl ⟨ea, eb⟩, r1, r2, by omega, hs.2, hs.1⟩)⟩
      | tup ea r1 =>
        cases hy with
        | tup eb r2 =>
          rw [shortD, Bool.and_eq_true, decide_eq_true_eq] at hs
          rw [PyData.depth] at hd
          exact ⟨_, fun _ s => .base (.tup (s _ _ ea)), fun _ s => .base (.tup (s _ _ eb)), _, _, _, _, (by decide +kernel : kitB "tuple" "int" = some false), (by decide +kernel : kitB "tuple" "bool" = some false), (by decide +kernel : kitB "tuple" "list" = some false), (by decide +kernel : kitB "tuple" "tuple" = some true),
            .inr (.inr ⟨rfl, rfl, _, _, _, _, _, rfl, rfl, .inr ⟨ea, eb⟩, r1, r2, by omega, hs.2, hs.1⟩)⟩
      | dct z _ => cases z
    have r0 := Same.refl H
    refine ⟨_, rfl, _, _, _, _, _, rfl, .ty _, tx _ r0, kit_ty k2, _, rfl, ?_⟩
    rcases hk with ⟨rfl, rfl, sc⟩ | ⟨rfl, rfl, rfl, rfl, sc⟩ | ⟨rfl, hb, a, b, xs, ys, ds, rfl, rfl, hab, r1, r2, dn, sh, ln⟩
    · -- two bools
      refine iteT (iteT ⟨_, rfl, _, _, _, _, _, rfl, .ty _, tx _ r0, kit_ty k2, _, rfl, iteT ⟨_, rfl, _, _, _, _, _, rfl, .ty _, ty _ r0, kit_ty k2, _, rfl, iteT ⟨_, rfl, _, rfl, sc, ?_⟩⟩⟩)
      rw [decide_eq_true rfl]
      exact q H r0
    · -- values without parts
      refine iteF ⟨_, rfl, _, _, _, _, _, rfl, .ty _, ty _ r0, kit_ty k2, _, rfl, iteF ?_⟩
      refine ⟨_, rfl, _, _, _, _, _, rfl, .ty _, tx _ r0, kit_ty k3, _, rfl, _, _, _, _, _, rfl, .ty _, ty _ r0, kit_ty k3, rfl, _, rfl, iteF ?_⟩
      refine ⟨_, rfl, by show 2 ≤ sizeLine; decide, fun p hp => ⟨_, p, _, _, _, _, rfl, upd_same, .cons (.ty _) (.cons (.ty _) .nil), tx _ (r0.new hp), kitAny_cons (kit_ty k3) (fun _ => kitAny_cons (kit_ty k4) (fun _ => kitAny_nil) (fun z => Bool.noConfusion z)) (fun z => Bool.noConfusion z), _, rfl, iteF (iteF ?_)⟩⟩
      have s1 := r0.new (o := .tup [.ty "list", .ty "tuple"]) hp
      refine ⟨_, rfl, _, rfl, sc, true, by rw [decide_eq_true rfl], iteT ⟨_, rfl, _, _, _, _, _, rfl, .ty _, tx _ s1, kit_ty k1, _, rfl, _, _, _, _, _, rfl, .ty _, ty _ s1, kit_ty k1, rfl, ?_⟩⟩
      rw [decide_eq_true rfl]
      exact q _ s1
    · -- two lists, two tuples
      refine iteF ⟨_, rfl, _, _, _, _, _, rfl, .ty _, ty _ r0, kit_ty k2, _, rfl, iteF ?_⟩
      refine ⟨_, rfl, _, _, _, _, _, rfl, .ty _, tx _ r0, kit_ty k3, _, rfl, _, _, _, _, _, rfl, .ty _, ty _ r0, kit_ty k3, ?_⟩
      refine ⟨by cases bl <;> rfl, false, by rw [decide_eq_true rfl]; rfl, iteF ?_⟩
      have any : PySem.W.kitAny K (.type t) [.type "list", .type "tuple"] = some true := by
        refine kitAny_cons (kit_ty k3) (fun z => ?_) (fun _ => rfl)
        subst z
        have z2 : bt = true := hb
        subst z2
        exact kitAny_cons (kit_ty k4) (fun z => Bool.noConfusion z) (fun _ => rfl)
      refine ⟨_, rfl, by show 2 ≤ sizeLine; decide, fun p hp => ?_⟩
      have s1 := r0.new (o := .tup [.ty "list", .ty "tuple"]) hp
      have op : upd H p (.tup [.ty "list", .ty "tuple"]) p = some (.tup [.ty "list", .ty "tuple"]) := upd_same
      generalize upd H p (.tup [.ty "list", .ty "tuple"]) = H1 at s1 op ⊢
      refine ⟨_, p, _, _, _, _, rfl, op, .cons (.ty _) (.cons (.ty _) .nil), tx _ s1, any, _, rfl, iteT ?_⟩
      refine ⟨_, rfl, by show 2 ≤ sizeLine; decide, fun p2 hp2 => ?_⟩
      have s2 := s1.new (o := .tup [.ty "list", .ty "tuple"]) hp2
      have op2 : upd H1 p2 (.tup [.ty "list", .ty "tuple"]) p2 = some (.tup [.ty "list", .ty "tuple"]) := upd_same
      generalize upd H1 p2 (.tup [.ty "list", .ty "tuple"]) = H2 at s2 op2 ⊢
      refine ⟨_, p2, _, _, _, _, rfl, op2, .cons (.ty _) (.cons (.ty _) .nil), ty _ s2, any, _, rfl, iteT ?_⟩
      have l1 := Rps.len r1
      have l2 := Rps.len r2
      have lenA : ∀ H', Same H H' → LenV K (.ref a) H' ds.length := fun H' s' => by
        rcases hab with ⟨ea, eb⟩ | ⟨ea, eb⟩
        · exact .inl ⟨xs, SqL.of (s' _ _ ea), l1.symm⟩
        · exact .inr ⟨xs, SqT.of (s' _ _ ea), l1.symm⟩
      have lenB : ∀ H', Same H H' → LenV K (.ref b) H' ds.length := fun H' s' => by
        rcases hab with ⟨ea, eb⟩ | ⟨ea, eb⟩
        · exact .inl ⟨ys, SqL.of (s' _ _ eb), l2.symm⟩
        · exact .inr ⟨ys, SqT.of (s' _ _ eb), l2.symm⟩
      have ixA : ∀ (H' : Hp) (k : Nat) (v : V) (Q' : VK), Same H H' → xs[k]? = some v → Q' v H' → rIx K (.ref a) (.int (k : Int)) H' Q' := fun H' k v Q' s' e z => by
        rcases hab with ⟨ea, eb⟩ | ⟨ea, eb⟩
        · exact .inl ⟨a, xs, _, v, rfl, rfl, SqL.of (s' _ _ ea), atI_nat e, z⟩
        · exact .inr (.inl ⟨a, xs, _, v, rfl, rfl, SqT.of (s' _ _ ea), atI_nat e, z⟩)
      have ixB : ∀ (H' : Hp) (k : Nat) (v : V) (Q' : VK), Same H H' → ys[k]? = some v → Q' v H' → rIx K (.ref b) (.int (k : Int)) H' Q' := fun H' k v Q' s' e z => by
        rcases hab with ⟨ea, eb⟩ | ⟨ea, eb⟩
        · exact .inl ⟨b, ys, _, v, rfl, rfl, SqL.of (s' _ _ eb), atI_nat e, z⟩
        · exact .inr (.inl ⟨b, ys, _, v, rfl, rfl, SqT.of (s' _ _ eb), atI_nat e, z⟩)
      refine ⟨_, rfl, _, _, rfl, lenA _ s2, _, rfl, _, _, rfl, lenB _ s2, rfl, false, by rw [decide_eq_true rfl]; rfl, iteF ?_⟩
      refine ⟨_, rfl, _, _, rfl, lenB _ s2, _, rfl, by omega, by omega, fun D hD => lc_it walk_range0 (fun k H' => Same H H' ∧ H' D = some (.lst [])) ⟨s2.new hD, upd_same⟩ (fun _ _ _ _ => trivial) ?_ ?_⟩
      · rintro k x' Ha Hb hk ⟨sa, hD1⟩ ⟨rfl, rfl⟩
        have hk' : k < ds.length := hk
        obtain ⟨x1, e1⟩ : ∃ x1, xs[k]? = some x1 := ⟨_, List.getElem?_eq_getElem (by omega)⟩
        obtain ⟨y1, e2⟩ : ∃ y1, ys[k]? = some y1 := ⟨_, List.getElem?_eq_getElem (by omega)⟩
        obtain ⟨d1, e3, h1⟩ := Rps.at r1 e1
        obtain ⟨d2, e4, h2⟩ := Rps.at r2 e2
        have e5 : d2 = d1 := Option.some.inj (e4.symm.trans e3)
        subst e5
        refine ⟨rfl, _, rfl, _, rfl, ixA _ _ _ _ sa e1 ⟨_, rfl, _, rfl, ixB _ _ _ _ sa e2 ⟨x1, y1, d2, rfl, Rp.same sa _ _ h1, Rp.same sa _ _ h2, Nat.lt_of_le_of_lt (depth_at e3) dn, short_at sh e3, fun Hc sc => ⟨_, rfl, iteF ⟨sa.trans sc, sc _ _ hD1⟩⟩⟩⟩⟩
      · rintro Hb ⟨sb, hD1⟩
        refine ⟨by show 0 ≤ sizeLine; decide, fun M hM => ⟨.list [], .list [], .lst (SqL.of (by rw [upd_ne (ne_of_none hD1 hM)]; exact hD1)) .nil, .lst (SqL.of upd_same) .nil, by decide +kernel, by decide +kernel, ?_⟩⟩
        exact q _ (sb.new hM)
end

def hD : Option Nat → PyData
  | none => .none
  | some u => .int (u : Int)
theorem rps_hv {z : Bool} {H : Hp} : ∀ hs : Hs, Rps z H (hs.map hv) (hs.map hD)
  | [] => .nil
  | none :: hs => .cons .non (rps_hv hs)
  | some u :: hs => .cons (.int (u : Int)) (rps_hv hs)
theorem small_hD {hs : Hs} (ib : InB hs) (hl : hs.length ≤ 60) : ∀ d ∈ hs.map hD, Small d := fun d hd => by
  obtain ⟨o, ho, rfl⟩ := List.mem_map.mp hd
  obtain ⟨v, e⟩ := List.getElem?_of_mem ho
  cases o with
  | none => exact small_non
  | some u =>
    have q := ib v u e
    exact small_int (by have z : (10 : Nat) ^ 12 = 1000000000000 := by decide
                        omega)

end My

namespace My
open PySem PySem.Spec PyProof.Rows L2
/-! ### the walk as each thing behind its holder at once -/
def preF (hs : Hs) : Nat → Nat → List Nat
  | 0, v => [v]
  | k + 1, v => v :: (kids hs v).flatMap (preF hs k)
def pre (hs : Hs) (v : Nat) : List Nat := preF hs hs.length v
theorem fm_congr {f g : Nat → List Nat} : ∀ (l : List Nat), (∀ c ∈ l, f c = g c) → l.flatMap f = l.flatMap g
  | [], _ => rfl
  | c :: l, h => by
    rw [List.flatMap_cons, List.flatMap_cons, h c List.mem_cons_self, fm_congr l fun d hd => h d (List.mem_cons_of_mem _ hd)]
theorem preF_succ {hs : Hs} : ∀ (k v : Nat) (l : List Nat), Ups hs v l → hs.length ≤ k + l.length → preF hs (k + 1) v = preF hs k v
  | 0, _, _, u, h => absurd u.len (by omega)
  | k + 1, v, l, u, h => by
    show v :: (kids hs v).flatMap (preF hs (k + 1)) = v :: (kids hs v).flatMap (preF hs k)
    rw [fm_congr (kids hs v) fun c hc => preF_succ k c (v :: l) (.step (mem_kids.mp hc) u) (by rw [List.length_cons]; omega)]
theorem pre_eq {hs : Hs} {v : Nat} {l : List Nat} (u : Ups hs v l) : pre hs v = v :: (kids hs v).flatMap (pre hs) := (preF_succ hs.length v l u (Nat.le_add_right _ _)).symm
theorem walk_pre {hs : Hs} {o : List Nat} (h : WT hs (roots hs) (Rch hs) o []) : o = (roots hs).flatMap (pre hs) := by
  have q := h.pr (pre hs) fun v r => by
    obtain ⟨l, u⟩ := r.ups
    exact pre_eq u
  simpa using q
theorem wt_done {hs : Hs} {st : List Nat} {Rn : Nat → Prop} (S : Starts hs st Rn) : ∀ (n : Nat) (found wait : List Nat), WT hs st Rn found wait → hs.length ≤ n + found.length → ∃ o, WT hs st Rn o []
  | n, found, wait, h, hn => by
    cases Nat.eq_zero_or_pos wait.length with
    | inl z =>
      rw [List.length_eq_zero_iff.mp z] at h
      exact ⟨found, h⟩
    | inr z =>
      obtain ⟨w, t, rfl⟩ := snoc_of z
      have room := h.room
      cases n with
      | zero => omega
      | succ n => exact wt_done S n _ _ (h.step S) (by rw [List.length_append]; show _ ≤ n + (found.length + 1); omega)
theorem pre_len (hs : Hs) : ((roots hs).flatMap (pre hs)).length ≤ hs.length := by
  obtain ⟨o, h⟩ := wt_done (starts_roots hs) hs.length [] _ (WT.start (starts_roots hs)) (Nat.le_add_right _ _)
  rw [← walk_pre h]
  have := h.lens
  rw [List.length_nil] at this
  omega
theorem kidsTo_more (hs : Hs) (u i : Nat) : ∀ d : Nat, ∃ r, kidsTo hs u (i + d) = kidsTo hs u i ++ r
  | 0 => ⟨[], by rw [List.append_nil]; rfl⟩
  | d + 1 => by
    obtain ⟨r, e⟩ := kidsTo_more hs u i d
    exact ⟨_, by rw [← Nat.add_assoc, kidsTo_succ, e, List.append_assoc]⟩
theorem rootsTo_more (hs : Hs) (i : Nat) : ∀ d : Nat, ∃ r, rootsTo hs (i + d) = rootsTo hs i ++ r
  | 0 => ⟨[], by rw [List.append_nil]; rfl⟩
  | d + 1 => by
    obtain ⟨r, e⟩ := rootsTo_more hs i d
    exact ⟨_, by rw [← Nat.add_assoc, rootsTo_succ, e, List.append_assoc]⟩
theorem kids_len {hs : Hs} {u i : Nat} (h : i ≤ hs.length) (f : Nat → List Nat) : ((kidsTo hs u i).flatMap f).length ≤ ((kids hs u).flatMap f).length := by
  obtain ⟨r, e⟩ := kidsTo_more hs u i (hs.length - i)
  rw [Nat.add_sub_cancel' h] at e
  show _ ≤ ((kidsTo hs u hs.length).flatMap f).length
  rw [e, List.flatMap_append, List.length_append]
  exact Nat.le_add_right _ _
theorem roots_len {hs : Hs} {i : Nat} (h : i ≤ hs.length) (f : Nat → List Nat) : ((rootsTo hs i).flatMap f).length ≤ ((roots hs).flatMap f).length := by
  obtain ⟨r, e⟩ := rootsTo_more hs i (hs.length - i)
  rw [Nat.add_sub_cancel' h] at e
  show _ ≤ ((rootsTo hs hs.length).flatMap f).length
  rw [e, List.flatMap_append, List.length_append]
  exact Nat.le_add_right _ _

/-! ### _law_walk: a def in a def that calls itself -/
abbrev st__law_walk : Stmt := topS 28
abbrev N__law_walk : List Str := ["plan", "found", "_law_go", "one"]
theorem sc__law_walk : FnScope N__law_walk ["plan"] (defScope st__law_walk) := ⟨rfl, rfl, rfl, by decide +kernel, rfl, by decide +kernel, by decide +kernel⟩
abbrev st__law_go : Stmt := (defBody st__law_walk).getD 1 (.Pass ⟨0, 0, 0, 0⟩)
abbrev N__law_go : List Str := ["one", "_law_go", "found", "plan", "mate"]
abbrev frGo : List Str := ["_law_go", "found", "plan"]
abbrev qGo : Str := (("_law_walk" : Str) ++ ".<locals>.") ++ "_law_go"
theorem sc__law_go : NdefX.NScope N__law_go ["one"] frGo (C8.fnScope st__law_go) := NdefX.nscope_by (by decide +kernel)
abbrev goF (cl : List (Str × Addr)) (c : Addr) : NdefX.NF := NdefX.NF.of st__law_go "_law_go" qGo cl c
abbrev TbG (T : Addr) : List NdefX.NTab := [(T, fun _ _ => qGo)]
def spGo (cl : List (Str × Addr)) (n : Nat) (f c : Addr) (ws : List (Option V)) : Sp := fun vs H Q _ => ∃ (t : Nat) (hs : Hs) (F p : Addr) (l o : List Nat), vs = [.int (t : Int)] ∧ ws = [some (.ref f), some (.ref F), some (.ref p)] ∧ H p = some (.tup (hs.map hv)) ∧
  hs.length ≤ 1000 ∧ Ups hs t l ∧ hs.length ≤ n + l.length ∧ H F = some (.lst (nv o)) ∧ (o ++ pre hs t).length ≤ 1000 ∧ ∀ H', Keep F H H' → H' F = some (.lst (nv (o ++ pre hs t))) → Q .non H'
theorem ndGo : NdefX.ndefB (defScope st__law_walk) (C8.fnScope st__law_go) frGo = true := by decide +kernel
theorem fnO_lst {f : Addr} {F : NdefX.NF} (xs : List V) : NdefX.FnO f F ≠ .lst xs := fun z => by
  unfold NdefX.FnO at z
  cases z
theorem codeO_lst {c : Addr} {q : Str} (xs : List V) : LamX.CodeO c q ≠ .lst xs := fun z => by
  unfold LamX.CodeO at z
  cases z
theorem off_lst {H : Hp} {a F : Addr} {o : HO} {xs : List V} (h : H a = some o) (hF : H F = some (.lst xs)) (n : o ≠ .lst xs) : a ≠ F := fun z => by
  rw [z, hF] at h
  exact n (Option.some.inj h).symm
section
variable {P : Program} {w : World} {K : PySem.W.Frag} {mg : Str → Option Value} {base : Heap}
theorem ok__law_go (B : Bl mg) (cl : List (Str × Addr)) : ∀ (n : Nat) (f c : Addr), NdefX.NOk P w K mg base CX0 n f (goF cl c) ["one"] frGo (spGo cl n f c)
  | 0, f, c => ⟨fun ws vs H Q E h => by obtain ⟨t, hs, F, p, l, o, rfl, _⟩ := h; rfl, fun A outer s H us vs ws Q E _ _ _ _ _ _ h => by
      obtain ⟨t, hs, F, p, l, o, _, _, _, _, hu, hn, _⟩ := h
      exact absurd hu.len (by omega)⟩
  | n + 1, f, c => by
    refine NdefX.nok_of (N := N__law_go) sc__law_go (fun doc pm ctv us hl => match us, hl with | [_], _ => rfl) (fun ws vs H Q E h => ?_) (fun A outer s H vs ws Q E hr hf hc hw h => ?_)
    · obtain ⟨t, hs, F, p, l, o, rfl, _⟩ := h; rfl
    obtain ⟨t, hs, F, p, l, o, rfl, rfl, hp, hl, hu, hn, hF, hlen, q⟩ := h
    refine ⟨_, PSs.nox (pss_cons (ps_expr (pe_bm PySem.F.plainAttrs_list PySem.F.slot_list_append PySem.F.type_list_append mt_append (pv 2) (pa_cons (pv 0) pa_nil)))
      (pss_one (ps_for PassesOwn.never rfl (pi_range1 (by rfl) B.range (pa_cons (pe_callB call_len (by rfl) B.len (by decide +kernel) (pa_cons (pv 3) pa_nil)) pa_nil)) (pg_name (i := 4) sc__law_go.nd rfl (Or.inl rfl))
        (pss_one (ps_if (pt_cmpR op_eq (pe_ix (ix_tupK K) (pv 3) (pv 4) (fun _ _ => rfl)) (pv 0) (nomark _))
          (pss_one (ps_expr (NdefX.pe_calln (i := 1) (js := [1, 2, 3]) (E := E0) (mk := fun c => goF cl c) (ok__law_go B cl n) (fun _ => rfl) (fun _ => NdefX.Caps.self (F := goF cl c) sc__law_go rfl rfl rfl) hr (Nat.le_refl _) pass0 rfl (Or.inr (Or.inr rfl)) (pa_cons (pv 4) pa_nil)))) pss_nil))))), ?_⟩
    have hlm : (hs.map hv).length = hs.length := List.length_map _
    have hpF : p ≠ F := off_lst hp hF (by intro z; cases z)
    have hfF : f ≠ F := off_lst hf hF (fnO_lst _)
    have hcF : c ≠ F := off_lst hc hF (codeO_lst _)
    have ep := pre_eq hu
    have hol : o.length < 1000 := by
      rw [List.length_append, ep, List.length_cons] at hlen; omega
    -- found.append(one)
    refine ⟨_, rfl, .inl ⟨rfl, _, SqL.of hF⟩, _, rfl, F, _, _, rfl, rfl, hF, by rw [nv_length]; exact szl (by omega), ?_⟩
    have k1 : Keep F H (upd H F (.lst (nv o ++ [V.int (t : Int)]))) := Keep.upd F H _
    have hF1 : upd H F (.lst (nv o ++ [V.int (t : Int)])) F = some (.lst (nv (o ++ [t]))) := by rw [upd_same, nv_append]; rfl
    generalize upd H F (.lst (nv o ++ [V.int (t : Int)])) = H1 at k1 hF1 ⊢
    -- for mate in range(len(plan))
    refine ⟨_, rfl, _, _, rfl, .inr ⟨_, SqT.of (k1 _ _ hpF hp), rfl⟩, _, rfl, by omega, by omega, for_it walk_range0 (fun i σ H' => ∃ v4, σ = [some (.int (t : Int)), some (.ref f), some (.ref F), some (.ref p), v4] ∧ Keep F H H' ∧ H' F = some (.lst (nv (o ++ [t] ++ (kidsTo hs t i).flatMap (pre hs)))))
      ⟨none, rfl, k1, by rw [show kidsTo hs t 0 = [] from rfl, List.flatMap_nil, List.append_nil]; exact hF1⟩ (fun _ _ _ _ _ => trivial) ?_ ?_⟩
    · rintro i x σ H2 H3 hi ⟨v4, rfl, k2, hF2⟩ ⟨rfl, rfl⟩
      rw [hlm] at hi
      obtain ⟨ho, eho⟩ : ∃ u, hs[i]? = some u := ⟨hs[i], List.getElem?_eq_getElem hi⟩
      have sc : scal (hv ho) (.int (t : Int)) = true := by cases ho <;> rfl
      refine ⟨_, rfl, _, rfl, p, _, _, _, rfl, rfl, SqT.of (k2 _ _ hpF hp), atI_nat (hv_at eho), _, rfl, sc, _, rfl, ?_⟩
      refine ite2 (fun z => ?_) (fun z => ?_)
      · have eo : ho = some t := by
          have z := of_decide_eq_true z
          cases ho with
          | none => cases z
          | some u =>
            have z2 := V.int.inj z
            congr 1; omega
        subst eo
        have um : Ups hs i (t :: l) := .step eho hu
        have el : kidsTo hs t (i + 1) = kidsTo hs t i ++ [i] := by rw [kidsTo_succ, eho, if_pos rfl]
        have ef : o ++ [t] ++ (kidsTo hs t (i + 1)).flatMap (pre hs) = o ++ [t] ++ (kidsTo hs t i).flatMap (pre hs) ++ pre hs i := by
          rw [el, List.flatMap_append, List.append_assoc (o ++ [t])]
          simp
        refine ⟨f, c, rfl, k2 _ _ hfF hf, _, rfl, k2 _ _ hfF hf, k2 _ _ hcF hc, i, hs, F, p, t :: l, _, rfl, rfl, k2 _ _ hpF hp, hl, um, by rw [List.length_cons]; omega, hF2, ?_, fun H' k3 hF3 => ⟨_, rfl, k2.trans k3, by rw [ef]; exact hF3⟩⟩
        rw [← ef, List.length_append, List.length_append]
        have := kids_len (u := t) (show i + 1 ≤ hs.length from hi) (pre hs)
        rw [ep, List.length_append, List.length_cons] at hlen
        show o.length + 1 + _ ≤ 1000
        omega
      · have eo : ¬ some ho = some (some t) := by intro y; cases y; exact z (decide_eq_true rfl)
        exact ⟨_, rfl, k2, by rw [kidsTo_succ, eho, if_neg eo, List.append_nil]; exact hF2⟩
    · rintro σ H2 ⟨v4, rfl, k2, hF2⟩
      rw [hlm] at hF2
      refine q H2 k2 ?_
      rw [hF2, ep, List.append_assoc]
      rfl
/-- .. and what it leaves: a list of its own, the tables told further -/
def spLWalk (T : Addr) : Sp := fun vs H Q _ => ∃ (p : Addr) (hs : Hs), vs = [.ref p] ∧ H p = some (.tup (hs.map hv)) ∧ Fo hs ∧ hs.length ≤ 60 ∧ NdefX.TabsN (TbG T) H ∧
  ∀ r H', LamX.ExtN H H' → NdefX.TabsN (TbG T) H' → H r = none → H' r = some (.lst (nv ((roots hs).flatMap (pre hs)))) → Q (.ref r) H'
theorem tabsG_keep {H H' : Hp} {T F : Addr} {xs : List V} (t : NdefX.TabsN (TbG T) H) (hF : H F = some (.lst xs)) (k : Keep F H H') : NdefX.TabsN (TbG T) H' := fun q hq => by
  obtain ⟨ps, h1, h2, h3⟩ := t q hq
  refine ⟨ps, k _ _ (off_lst h1 hF (by intro z; cases z)) h1, h2, fun pos cv hc => ?_⟩
  obtain ⟨c, e1, e2⟩ := h3 pos cv hc
  exact ⟨c, e1, k _ _ (off_lst e2 hF (codeO_lst _)) e2⟩
theorem ok__law_walk {c T : Addr} (D : DfC K mg "_law_walk" st__law_walk ["plan"] c) (B : Bl mg) (TB : LamX.TabB base mg c T) : Kn P w K mg base CX0 61 "_law_walk" st__law_walk ["plan"] (spLWalk T) := by
  refine D.ok sc__law_walk (fun vs H Q E h => ?_) (fun f A outer s H vs Q E hr h => ?_)
  · obtain ⟨p, hs, rfl, _⟩ := h; rfl
  obtain ⟨p, hs, rfl, hp, fo, hl, hT, q⟩ := h
  refine ⟨_, pss_cons (ps_set (i := 1) sc__law_walk.nd rfl (Or.inr rfl) (pe_lst pa_nil))
      (pss_cons (NdefX.ps_ndefS (st := st__law_go) (T := TbG T) (nm := fun _ _ => qGo) (i := 2) rfl TB rfl (List.mem_singleton.mpr rfl) rfl (fun z hz _ => by rw [List.mem_singleton.mp hz]) (NdefX.ndef_free ndGo) rfl rfl rfl sc__law_walk.nd rfl (Or.inr rfl) (Or.inl rfl))
      (pss_cons (ps_for PassesOwn.never rfl (pi_range1 (by rfl) B.range (pa_cons (pe_callB call_len (by rfl) B.len (by decide +kernel) (pa_cons (pv 0) pa_nil)) pa_nil)) (pg_name (i := 3) sc__law_walk.nd rfl (Or.inl rfl))
        (pss_one (ps_if (pt_cmpR op_isN (pe_ix (ix_tupK K) (pv 0) (pv 3) (fun _ _ => rfl)) pe_non (nomark _))
          (pss_one (ps_expr (NdefX.pe_calln (i := 2) (js := [2, 1, 0]) (E := E0) (mk := fun c => goF _ c) (ok__law_go B _ 60) (fun _ => rfl) (fun ok => NdefX.Caps.made ok (NdefX.ndef_free ndGo) (NdefX.ndef_fr ndGo) rfl) hr (Nat.le_refl _) pass0 rfl (Or.inr (Or.inl rfl)) (pa_cons (pv 3) pa_nil)))) pss_nil)))
      (pss_one (ps_ret (pv 1))))), ?_⟩
  have hlm : (hs.map hv).length = hs.length := List.length_map _
  -- found = []
  refine ⟨by show 0 ≤ sizeLine; decide, fun F hF => ?_⟩
  have s1 : Same H (upd H F (.lst [])) := (Same.refl H).new hF
  have hF1 : upd H F (.lst []) F = some (.lst []) := upd_same
  generalize upd H F (.lst []) = H1 at s1 hF1 ⊢
  -- def _law_go(one)
  refine ⟨fun z hz => (hT z hz).ext s1, fun g c' H2 e2 hT2 hg0 hg hc' => ?_⟩
  have hp2 := e2 _ _ (s1 _ _ hp) (by intro ps z; cases z)
  have hF2 := e2 _ _ hF1 (by intro ps z; cases z)
  have hpF : p ≠ F := off_lst hp2 hF2 (by intro z; cases z)
  have hgF : g ≠ F := off_lst hg hF2 (fnO_lst _)
  have hcF : c' ≠ F := off_lst hc' hF2 (codeO_lst _)
  have all := pre_len hs
  -- for one in range(len(plan))
  refine ⟨_, rfl, _, _, rfl, .inr ⟨_, SqT.of hp2, rfl⟩, _, rfl, by omega, by omega, for_it walk_range0 (fun i σ H' => ∃ v3, σ = [some (.ref p), some (.ref F), some (.ref g), v3] ∧ Keep F H2 H' ∧ H' F = some (.lst (nv ((rootsTo hs i).flatMap (pre hs)))))
    ⟨none, rfl, Keep.refl F H2, hF2⟩ (fun _ _ _ _ _ => trivial) ?_ ?_⟩
  · rintro i x σ H3 H4 hi ⟨v3, rfl, k3, hF3⟩ ⟨rfl, rfl⟩
    rw [hlm] at hi
    obtain ⟨ho, eho⟩ : ∃ u, hs[i]? = some u := ⟨hs[i], List.getElem?_eq_getElem hi⟩
    refine ⟨_, rfl, _, rfl, p, _, _, _, rfl, rfl, SqT.of (k3 _ _ hpF hp2), atI_nat (hv_at eho), rfl, _, rfl, ?_⟩
    cases ho with
    | some u => exact iteF ⟨_, rfl, k3, by rw [rootsTo_succ, eho, if_neg (by intro z; cases z), List.append_nil]; exact hF3⟩
    | none =>
      have el : rootsTo hs (i + 1) = rootsTo hs i ++ [i] := by rw [rootsTo_succ, eho, if_pos rfl]
      have ef : (rootsTo hs (i + 1)).flatMap (pre hs) = (rootsTo hs i).flatMap (pre hs) ++ pre hs i := by
        rw [el, List.flatMap_append]
        simp
      refine iteT ⟨g, c', rfl, k3 _ _ hgF hg, _, rfl, k3 _ _ hgF hg, k3 _ _ hcF hc', i, hs, F, p, [], _, rfl, rfl, k3 _ _ hpF hp2, by omega, .root eho, by rw [List.length_nil]; omega, hF3, ?_, fun H' k4 hF4 => ⟨_, rfl, k3.trans k4, by rw [ef]; exact hF4⟩⟩
      rw [← ef]
      have := roots_len (hs := hs) (show i + 1 ≤ hs.length from hi) (pre hs)
      omega
  · rintro σ H3 ⟨v3, rfl, k3, hF3⟩
    rw [hlm] at hF3
    refine ⟨_, rfl, q F H3 (fun b o e n => ?_) (tabsG_keep hT2 hF2 k3) hF hF3⟩
    exact k3 _ _ (ne_of_none e hF) (e2 _ _ (s1 _ _ e) n)
end

end My

namespace My
open PySem PySem.Spec PyProof.Rows L2
def Behind (hs : Hs) (o : List Nat) : Prop := ∀ (i v u : Nat), o[i]? = some v → hs[v]? = some (some u) → u ∈ o.take i

theorem askdF {H : Hp} {t : Addr} {hs : Hs} (ht : H t = some (.tup (hs.map hv))) (hl : hs.length ≤ 60) : Askd H (.ref t) := by
  refine ⟨.tup ht, fun xs e => ?_⟩
  rw [tupAt_tup ht] at e
  cases e
  refine ⟨by rw [List.length_map]; omega, fun y hy => ?_⟩
  obtain ⟨o, _, rfl⟩ := List.mem_map.mp hy
  exact vd_hv o

theorem isIdx_nat {n t : Nat} (h : t < n) : isIdx (n : Int) (.int (t : Int)) = true := by
  show (decide (0 ≤ (t : Int)) && decide ((t : Int) < (n : Int))) = true
  rw [decide_eq_true (by omega), decide_eq_true (by omega)]; rfl

theorem only_hs {H : Hp} {a : Addr} {hs hs' : Hs} (ha : H a = some (.tup (hs.map hv))) (e : tupAt H (.ref a) = some (hs'.map hv)) : hs' = hs := by
  rw [tupAt_tup ha] at e
  exact (hv_inj (Option.some.inj e)).symm
section
variable {CF CT : Addr}
theorem of_ask {R : Hs → List V → Prop} {H : Hp} {a : Addr} {hs : Hs} {Q : VK} {E : XK} (ha : H a = some (.tup (hs.map hv))) (fo : Fo hs) (hl : hs.length ≤ 60) (q : ∀ r l H', R hs l → Same H H' → H r = none → H' r = some (.lst l) → Q (.ref r) H') :
    spOf CF R [.ref a] H Q E :=
  ⟨.ref a, rfl, askdF ha hl, fun hs' e => by rw [only_hs ha e]; exact hl, fun n => absurd ⟨hs, tupAt_tup ha, fo⟩ n, fun hs' e fo' r l H' hR s hr hr2 => by
    have eh := only_hs ha e
    subst eh
    exact q r l H' hR s hr hr2⟩
end

structure Mid (d : PyData) : Prop where
  ok : d.showable = true
  short : d.leavesShort 100 = true
  bulk : d.bulk ≤ 700
  deep : d.depth ≤ 10
theorem mid_all : ∀ ds : List PyData, (∀ d ∈ ds, Mid d) → PyData.showableAll ds = true ∧ PyData.leavesShortAll 100 ds = true ∧ PyData.bulkAll ds ≤ 701 * ds.length ∧ PyData.depthAll ds ≤ 10
  | [], _ => ⟨rfl, rfl, Nat.le_refl _, Nat.zero_le _⟩
  | d :: ds, h => by
    obtain ⟨a, b, c, e⟩ := mid_all ds fun x hx => h x (List.mem_cons_of_mem _ hx)
    have k := h d List.mem_cons_self
    have kb := k.bulk
    have kd := k.deep
    refine ⟨by rw [PyData.showableAll, k.ok, a]; rfl, by rw [PyData.leavesShortAll, k.short, b]; rfl, ?_, ?_⟩
    · rw [PyData.bulkAll, List.length_cons]; omega
    · rw [PyData.depthAll]; omega
theorem mid_tuple {ds : List PyData} (h : ∀ d ∈ ds, Small d) (hl : ds.length ≤ 60) : Mid (.tuple ds) := by
  obtain ⟨a, b, c, e⟩ := small_all ds h
  exact ⟨by rw [PyData.showable]; exact a, by rw [PyData.leavesShort]; exact b, by rw [PyData.bulk]; omega, by rw [PyData.depth]; omega⟩

theorem rps_ints {z : Bool} {H : Hp} : ∀ l : List Int, Rps z H (iv l) (l.map PyData.int)
  | [] => .nil
  | x :: l => .cons (.int x) (rps_ints l)
theorem rps_nats {z : Bool} {H : Hp} : ∀ l : List Nat, Rps z H (nv l) (nD l)
  | [] => .nil
  | x :: l => .cons (.int (x : Int)) (rps_nats l)
theorem shows_pr {hs : Hs} {o : List Nat} (ib : InB hs) (hl : hs.length ≤ 60) (lo : o.length ≤ 60) (lt : ∀ v ∈ o, v < 60) : Shows (.list [.tuple (hs.map hD), .list (nD o)]) := by
  have m1 : Mid (.tuple (hs.map hD)) := mid_tuple (small_hD ib hl) (by rw [List.length_map]; exact hl)
  have m3 : Mid (.tuple (nD o)) := mid_tuple (fun x hx => by
    obtain ⟨v, mv, rfl⟩ := List.mem_map.mp hx
    have := lt v mv
    refine small_int ?_
    have e : (10 : Nat) ^ 12 = 1000000000000 := by decide
    rw [e, Int.natAbs_natCast]; omega) (by unfold nD; rw [List.length_map]; exact lo)
  have b1 := m1.bulk
  have d1 := m1.deep
  have a3 := m3.ok
  have s3 := m3.short
  have b3 := m3.bulk
  have d3 := m3.deep
  rw [PyData.showable] at a3
  rw [PyData.leavesShort] at s3
  rw [PyData.bulk] at b3
  rw [PyData.depth] at d3
  refine shows_of ?_ ?_ ?_ ?_
  · rw [PyData.showable, PyData.showableAll, PyData.showableAll, PyData.showableAll, m1.ok, PyData.showable, a3]; rfl
  · rw [PyData.leavesShort, PyData.leavesShortAll, PyData.leavesShortAll, PyData.leavesShortAll, m1.short, PyData.leavesShort, s3]; rfl
  · have b4 : (PyData.list (nD o)).bulk = PyData.bulkAll (nD o) := by rw [PyData.bulk]
    rw [PyData.bulk, PyData.bulkAll, PyData.bulkAll, PyData.bulkAll, b4]
    omega
  · have e4 : (PyData.list (nD o)).depth = 1 + PyData.depthAll (nD o) := by rw [PyData.depth]; omega
    rw [PyData.depth, PyData.depthAll, PyData.depthAll, PyData.depthAll]
    omega
/-! ### sequences; the walk is one -/
structure Sq (hs : Hs) (o : List Nat) : Prop where
  perm : o.Perm (List.range hs.length)
  bh : Behind hs o
theorem Sq.len {hs : Hs} {o : List Nat} (s : Sq hs o) : o.length = hs.length := by rw [s.perm.length_eq, List.length_range]
theorem Sq.mem {hs : Hs} {o : List Nat} (s : Sq hs o) {v : Nat} : v ∈ o ↔ v < hs.length := s.perm.mem_iff.trans List.mem_range
theorem Sq.nd {hs : Hs} {o : List Nat} (s : Sq hs o) : o.Nodup := s.perm.nodup_iff.mpr List.nodup_range
def behB (hs : Hs) (o : List Nat) : Bool := (List.range o.length).all fun i => match hs[o.getD i 0]? with
  | some (some u) => (o.take i).contains u
  | _ => true
theorem beh_of {hs : Hs} {o : List Nat} (h : behB hs o = true) : Behind hs o := fun i v u e1 e2 => by
  have il := (List.getElem?_eq_some_iff.mp e1).1
  have z := List.all_eq_true.mp h i (List.mem_range.mpr il)
  rw [List.getD_eq_getElem?_getD, e1, Option.getD_some, e2] at z
  exact List.contains_iff_mem.mp z
abbrev wk (hs : Hs) : List Nat := (roots hs).flatMap (pre hs)
theorem wk_wt (hs : Hs) : WT hs (roots hs) (Rch hs) (wk hs) [] := by
  obtain ⟨o, h⟩ := wt_done (starts_roots hs) hs.length [] _ (WT.start (starts_roots hs)) (Nat.le_add_right _ _)
  rw [walk_pre h] at h
  exact h
theorem wk_sq {hs : Hs} (fo : Fo hs) : Sq hs (wk hs) := by
  have O := (wk_wt hs).ord fo
  refine ⟨(List.perm_ext_iff_of_nodup O.nd List.nodup_range).mpr fun v => ⟨fun m => List.mem_range.mpr (O.lt v m), fun m => O.mem v (List.mem_range.mp m)⟩, fun i v u e1 e2 => ?_⟩
  obtain ⟨j, hj, ej⟩ := O.od i v u e1 e2
  exact List.mem_of_getElem? (i := j) (by rw [List.getElem?_take_of_lt hj]; exact ej)
/-! ### a forest of some of the things -/
/-- the place of a thing -/
def posOf (l : List Nat) (u : Nat) : Option Nat := l.findIdx? fun v => decide (v = u)
def amongH (hs : Hs) (l : List Nat) : Hs := l.map fun v => match hs[v]? with
  | some (some u) => posOf l u
  | _ => none
theorem posOf_snoc (l : List Nat) (v u : Nat) : posOf (l ++ [v]) u = (posOf l u).or (if v = u then some l.length else none) := by
  unfold posOf
  rw [List.findIdx?_append]
  by_cases c : v = u <;> simp [c]
theorem posOf_none {l : List Nat} {u : Nat} (h : ¬ u ∈ l) : posOf l u = none := by
  unfold posOf
  rw [List.findIdx?_eq_none_iff]
  intro v hv'
  exact decide_eq_false fun z => h (z ▸ hv')
/-- the dict tells the places -/
def NameK (kvs : List (Key × V)) (l : List Nat) : Prop := (∀ u : Nat, valV kvs (Sum.inl (u : Int)) = (posOf l u).map fun i : Nat => V.int ((i : Nat) : Int)) ∧ kvs.length ≤ l.length
theorem NameK.nil : NameK [] [] := ⟨fun _ => rfl, Nat.le_refl _⟩
theorem NameK.put {kvs : List (Key × V)} {l : List Nat} (h : NameK kvs l) {v : Nat} (hn : ¬ v ∈ l) : NameK (putK kvs (Sum.inl (v : Int)) (.int (l.length : Int))) (l ++ [v]) := by
  refine ⟨fun u => ?_, ?_⟩
  · rw [valV_put, posOf_snoc]
    by_cases e : u = v
    · subst e
      rw [if_pos rfl, if_pos rfl, posOf_none hn]; rfl
    · have n : ¬ (Sum.inl (u : Int) : Key) = Sum.inl (v : Int) := fun z => e (by have := Sum.inl.inj z; omega)
      rw [if_neg n, if_neg (fun z => e z.symm), Option.or_none]
      exact h.1 u
  · have z := length_putK kvs (Sum.inl (v : Int)) (V.int (l.length : Int))
    rw [List.length_append, List.length_singleton]
    have y := h.2
    omega
theorem dc_any {J : It} {n : Nat} {G : Hp → Prop} {Y : Nat → Hp → V → Hp → Prop} (wk : Walk J n G Y) {g : TG} {tt : TT} {tk tv : TE} {vs : List Nat} {σ : L2.St} {H1 : Hp} {D : Addr} {Qd : Hp → Prop} (S : Nat → Hp → Prop) (s0 : S 0 (upd H1 D (.dK [])))
    (sG : ∀ i H, i ≤ n → S i H → G H) (st : ∀ i x H H', i < n → S i H → Y i H x H' → g x (wipe σ vs) H' fun σ2 H2 => wipe σ2 vs = wipe σ vs ∧ tt σ2 H2 fun b H3 => if b = true then tk σ2 H3 fun y H4 => tv σ2 H4 fun z H5 => ∃ kvs k, y = kV k ∧ H5 D = some (.dK kvs) ∧ kvs.length < sizeLine ∧ S (i + 1) (upd H5 D (.dK (putK kvs k z))) else S (i + 1) H3)
    (fin : ∀ H, S n H → Qd H) : ∃ W : Nat → Nat → Hp → Prop, (∃ m, W 0 m (upd H1 D (.dK []))) ∧ ∀ i m H, W i m H → (J.stop i H ∧ Qd H) ∨ (J.go i H ∧ ∃ Nx : Hp → Prop, (∀ H', Nx H' → ∃ m', m' < m ∧ W (i + 1) m' H') ∧
      ∀ x H', J.yld i H x H' → g x (wipe σ vs) H' fun σ2 H2 => wipe σ2 vs = wipe σ vs ∧ tt σ2 H2 fun b H3 => if b = true then tk σ2 H3 fun y H4 => tv σ2 H4 fun z H5 => ∃ kvs k, y = kV k ∧ H5 D = some (.dK kvs) ∧ kvs.length < sizeLine ∧ Nx (upd H5 D (.dK (putK kvs k z))) else Nx H3) := by
  refine ⟨fun i m H => m + i = n ∧ S i H, ⟨n, rfl, s0⟩, fun i m H ⟨e, hS⟩ => ?_⟩
  have hG := sG i H (by omega) hS
  rcases Nat.eq_zero_or_pos m with z | z
  · have ei : i = n := by omega
    subst ei
    exact .inl ⟨wk.stops H hG, fin H hS⟩
  · have hi : i < n := by omega
    exact .inr ⟨wk.goes i H hi hG, S (i + 1), fun H' q => ⟨m - 1, by omega, by omega, q⟩, fun x H' y => st i x H H' hi hS (wk.yields i H x H' hi hG y)⟩
theorem among_len (hs : Hs) (l : List Nat) : (amongH hs l).length = l.length := List.length_map _
theorem among_step {hs : Hs} {l : List Nat} {i : Nat} (hi : i < l.length) : (amongH hs l).take (i + 1) = (amongH hs l).take i ++ [match hs[l[i]]? with
  | some (some u) => posOf l u
  | _ => none] := by
  rw [List.take_add_one, List.getElem?_eq_getElem (by rw [among_len]; exact hi)]
  unfold amongH
  rw [List.getElem_map]; rfl
def spAmong (K : PySem.W.Frag) : Sp := fun vs H Q _ => ∃ (a p : Addr) (hs : Hs) (l : List Nat), vs = [.ref a, .ref p] ∧ H a = some (.tup (hs.map hv)) ∧ (H p = some (.lst (nv l)) ∨ H p = some (.tup (nv l))) ∧ l.Nodup ∧ (∀ v ∈ l, v < hs.length) ∧ l.length ≤ 60 ∧
  ∀ r H', Same H H' → H r = none → H' r = some (.tup ((amongH hs l).map hv)) → Q (.ref r) H'
section
variable {P : Program} {w : World} {K : PySem.W.Frag} {mg : Str → Option Value} {base : Heap}
end

theorem pos_at {l : List Nat} (nd : l.Nodup) {i v : Nat} (e : l[i]? = some v) : posOf l v = some i := by
  obtain ⟨hi, ev⟩ := List.getElem?_eq_some_iff.mp e
  unfold posOf
  rw [List.findIdx?_eq_some_iff_getElem]
  refine ⟨hi, by simp [ev], fun j hj => ?_⟩
  simp only [decide_eq_true_eq]
  intro z
  have := nodup_at nd (List.getElem?_eq_some_iff.mpr ⟨by omega, z⟩) e
  omega
def pz (hs : Hs) (v : Nat) : Nat := (posOf (wk hs) v).getD 0
theorem pz_at {hs : Hs} (fo : Fo hs) {i v : Nat} (e : (wk hs)[i]? = some v) : pz hs v = i := by
  unfold pz
  rw [pos_at (wk_sq fo).nd e]; rfl
theorem pz_pos {hs : Hs} (fo : Fo hs) {v : Nat} (h : v < hs.length) : posOf (wk hs) v = some (pz hs v) ∧ pz hs v < hs.length := by
  obtain ⟨i, e⟩ := List.getElem?_of_mem ((wk_sq fo).mem.mpr h)
  have := (List.getElem?_eq_some_iff.mp e).1
  have l := (wk_sq fo).len
  rw [pos_at (wk_sq fo).nd e, pz_at fo e]
  exact ⟨rfl, by omega⟩
/-! ### turned pairs counted from either end -/
def invA (l : List Nat) (i : Nat) : Nat := ((l.drop i).filter fun y => decide (y < l.getD i 0)).length
def invB (l : List Nat) (i : Nat) : Nat := ((l.take i).filter fun y => decide (l.getD i 0 < y)).length
def invR : List Nat → Nat
  | [] => 0
  | x :: l => (l.filter fun y => decide (y < x)).length + invR l
theorem sum_addN (f g : Nat → Nat) : ∀ r : List Nat, (r.map fun i => f i + g i).sum = (r.map f).sum + (r.map g).sum
  | [] => rfl
  | x :: r => by rw [List.map_cons, List.sum_cons, sum_addN f g r, List.map_cons, List.sum_cons, List.map_cons, List.sum_cons]; omega
theorem invA_sum : ∀ l : List Nat, ((List.range l.length).map (invA l)).sum = invR l
  | [] => rfl
  | x :: l => by
    rw [List.length_cons, List.range_succ_eq_map, List.map_cons, List.sum_cons, List.map_map]
    have e0 : invA (x :: l) 0 = (l.filter fun y => decide (y < x)).length := by simp [invA]
    have e1 : (List.range l.length).map (invA (x :: l) ∘ Nat.succ) = (List.range l.length).map (invA l) := List.map_congr_left fun i _ => by simp [invA]
    rw [e0, e1, invA_sum l]; rfl
theorem cnt_lt (x : Nat) : ∀ l : List Nat, ((List.range l.length).map fun i => if l.getD i 0 < x then 1 else 0).sum = (l.filter fun y => decide (y < x)).length
  | [] => rfl
  | y :: l => by
    rw [List.length_cons, List.range_succ_eq_map, List.map_cons, List.sum_cons, List.map_map]
    have e1 : (List.range l.length).map ((fun i => if (y :: l).getD i 0 < x then 1 else 0) ∘ Nat.succ) = (List.range l.length).map fun i => if l.getD i 0 < x then 1 else 0 := List.map_congr_left fun i _ => by simp
    rw [e1, cnt_lt x l]
    by_cases c : y < x
    · simp [c, List.filter_cons]; omega
    · simp [c, List.filter_cons]
theorem invB_sum : ∀ l : List Nat, ((List.range l.length).map (invB l)).sum = invR l
  | [] => rfl
  | x :: l => by
    rw [List.length_cons, List.range_succ_eq_map, List.map_cons, List.sum_cons, List.map_map]
    have e0 : invB (x :: l) 0 = 0 := by simp [invB]
    have e1 : (List.range l.length).map (invB (x :: l) ∘ Nat.succ) = (List.range l.length).map fun i => (if l.getD i 0 < x then 1 else 0) + invB l i := List.map_congr_left fun i _ => by
      by_cases c : l.getD i 0 < x
      · simp [invB, c, List.filter_cons]; rw [List.getD_eq_getElem?_getD] at c; simp [c]; omega
      · simp [invB, c, List.filter_cons]; rw [List.getD_eq_getElem?_getD] at c; simp [c]
    rw [e0, e1, sum_addN, cnt_lt, invB_sum l, Nat.zero_add]; rfl
/-- the drop sum of a line -/
def drI (l : List Nat) : List Int := ((List.range (l.length - 1)).filter fun i => decide (l.getD (i + 1) 0 < l.getD i 0)).map fun i : Nat => (l.length : Int) - (1 + (i : Int))
theorem lc_u {J : It} {n : Nat} {G : Hp → Prop} {Y : Nat → Hp → V → Hp → Prop} (wk : Walk J n G Y) {D : Addr} (pr : Nat → Bool) (f : Nat → Int) {g : TG} {tt : TT} {te : TE} {vs : List Nat} {σ : L2.St} {H1 : Hp} {Qd : Hp → Prop} (hn : n ≤ 1000) (hD : H1 D = none) (hG : ∀ H, Same H1 H → G H)
    (st : ∀ (i : Nat) (x : V) (H2 H3 : Hp) (N : Hp → Prop) (A : VK), i < n → Same H1 H2 → Y i H2 x H3 → (pr i = false → ∀ H4, Same H2 H4 → N H4) → (pr i = true → ∀ H4, Same H2 H4 → A (.int (f i)) H4) → g x (wipe σ vs) H3 fun σ2 H4 => wipe σ2 vs = wipe σ vs ∧ tt σ2 H4 fun b H5 => if b = true then te σ2 H5 A else N H5)
    (done : ∀ H2, Same H1 H2 → H2 D = some (.lst (iv (((List.range n).filter pr).map f))) → Qd H2) :
    ∃ W : Nat → Nat → Hp → Prop, (∃ m, W 0 m (upd H1 D (.lst []))) ∧ ∀ i m H, W i m H →
      (J.stop i H ∧ Qd H) ∨ (J.go i H ∧ ∃ Nx : Hp → Prop, (∀ H', Nx H' → ∃ m', m' < m ∧ W (i + 1) m' H') ∧ ∀ x H', J.yld i H x H' → g x (wipe σ vs) H' fun σ2 H2 => wipe σ2 vs = wipe σ vs ∧ tt σ2 H2 fun b H3 =>
        if b = true then te σ2 H3 fun y H4 => ∃ acc, H4 D = some (.lst acc) ∧ acc.length < sizeLine ∧ Nx (upd H4 D (.lst (acc ++ [y]))) else Nx H3) := by
  refine lc_it wk (fun i H' => Same H1 H' ∧ H' D = some (.lst (iv (((List.range i).filter pr).map f)))) ⟨(Same.refl H1).new hD, upd_same⟩ (fun _ H _ z => hG H z.1) ?_ ?_
  · rintro i x H2 H3 hi ⟨s2, oD⟩ y
    have lz : (((List.range i).filter pr).map f).length ≤ i := by
      have z := List.length_filter_le pr (List.range i)
      rw [List.length_range] at z
      rw [List.length_map]; exact z
    refine st i x H2 H3 _ _ hi s2 y (fun c H4 s4 => ⟨s2.trans s4, ?_⟩) fun c H4 s4 => ⟨_, s4 _ _ oD, by rw [iv_length]; exact szl (by omega), (s2.trans s4).upd hD, ?_⟩
    · rw [List.range_succ, List.filter_append, List.filter_cons_of_neg (by rw [c]; exact Bool.false_ne_true), List.filter_nil, List.append_nil]; exact s4 _ _ oD
    · rw [upd_same, List.range_succ, List.filter_append, List.filter_cons_of_pos c, List.filter_nil, List.map_append]
      unfold iv
      rw [List.map_append]; rfl
  · rintro H2 ⟨s2, oD⟩
    exact done H2 s2 oD

end My

namespace My
open PySem PySem.Spec PyProof.Rows L2
/-! ### heldbehind.integers.lowest, heldbehind.shares._share -/
structure Bm (mg : Str → Option Value) : Prop where
def gcI (a b : Int) : Int := ((Nat.gcd a.natAbs b.natAbs : Nat) : Int)
/-- a fraction in lowest terms -/
def lwV (a b : Int) : List V := [.int (a / gcI a b), .int (b / gcI a b)]
theorem gcI_pos {a b : Int} (h : 1 ≤ b) : 0 < gcI a b := by
  have z : 0 < Nat.gcd a.natAbs b.natAbs := Nat.gcd_pos_of_pos_right _ (by omega)
  unfold gcI; omega
theorem gcI_le {a b : Int} (h : 1 ≤ b) : (gcI a b).natAbs ≤ b.natAbs := by
  have z : Nat.gcd a.natAbs b.natAbs ≤ b.natAbs := Nat.le_of_dvd (by omega) (Nat.gcd_dvd_right _ _)
  unfold gcI; omega
def spLowest : Sp := fun vs H Q _ => ∃ a b : Int, vs = [.int a, .int b] ∧ 1 ≤ b ∧ b.natAbs < 2 ^ 8000 ∧ ∀ p H', Same H H' → H p = none → H' p = some (.tup (lwV a b)) → Q (.ref p) H'
def spShare : Sp := fun vs H Q _ => ∃ (t : Addr) (xs : List V) (a : Int), vs = [.ref t, .int a] ∧ H t = some (.tup xs) ∧ xs.length ≤ 60 ∧ ∀ p H', Same H H' → H p = none → H' p = some (.tup (lwV a ((fct xs.length : Nat) : Int))) → Q (.ref p) H'
section
variable {P : Program} {w : World} {K : PySem.W.Frag} {mg : Str → Option Value} {base : Heap}
end

/-! ### the law's own ways up, and how many things lie at or below each -/
def upF (hs : Hs) : Nat → Nat → List Nat
  | 0, _ => []
  | k + 1, v => match hs[v]? with
    | some (some u) => u :: upF hs k u
    | _ => []
def up (hs : Hs) (v : Nat) : List Nat := upF hs hs.length v
theorem upF_of {hs : Hs} {v : Nat} {l : List Nat} (a : Ups hs v l) : ∀ k : Nat, l.length ≤ k → upF hs k v = l := by
  induction a with
  | root h =>
    intro k _
    cases k with
    | zero => rfl
    | succ k => unfold upF; rw [h]
  | @step v u l h r ih =>
    intro k hk
    cases k with
    | zero => rw [List.length_cons] at hk; omega
    | succ k =>
      rw [List.length_cons] at hk
      unfold upF
      rw [h]
      show u :: upF hs k u = u :: l
      rw [ih k (by omega)]
theorem Ups.up {hs : Hs} {v : Nat} {l : List Nat} (a : Ups hs v l) : My.up hs v = l := upF_of a _ (Nat.le_of_lt a.len)
theorem Fo.ups {hs : Hs} (fo : Fo hs) {v : Nat} (h : v < hs.length) : Ups hs v (up hs v) := by
  obtain ⟨l, a⟩ := (fo.all v h).ups
  rw [a.up]; exact a
def ind (p : Prop) [Decidable p] : Int := if p then 1 else 0
theorem ind_split {hs : Hs} {v w : Nat} {l : List Nat} (a : Ups hs w l) : ind (v ∈ l) = ((kids hs v).map fun c => ind (c = w) + ind (c ∈ l)).sum := by
  have one : ∀ (cs : List Nat) (x : Nat), cs.Nodup → (cs.map fun c => ind (c = x)).sum = ind (x ∈ cs) := fun cs x => by
    induction cs with
    | nil => intro _; rfl
    | cons c cs ih =>
      intro nd
      obtain ⟨n1, n2⟩ := List.nodup_cons.mp nd
      rw [List.map_cons, List.sum_cons, ih n2]
      unfold ind
      by_cases e : c = x
      · subst e
        rw [if_pos rfl, if_neg n1, if_pos List.mem_cons_self]; rfl
      · rw [if_neg e]
        by_cases m : x ∈ cs
        · rw [if_pos m, if_pos (List.mem_cons_of_mem _ m)]; rfl
        · rw [if_neg m, if_neg (fun z => (List.mem_cons.mp z).elim (fun q => e q.symm) m)]; rfl
  have add : ∀ (cs : List Nat) (f g : Nat → Int), (cs.map fun c => f c + g c).sum = (cs.map f).sum + (cs.map g).sum := fun cs f g => by
    induction cs with
    | nil => rfl
    | cons c cs ih => rw [List.map_cons, List.sum_cons, List.map_cons, List.sum_cons, List.map_cons, List.sum_cons, ih]; omega
  induction a with
  | @root w h =>
    rw [add, one _ _ (nodup_kids hs v)]
    have z1 : ¬ w ∈ kids hs v := fun z => by rw [mem_kids.mp z] at h; cases h
    have z2 : ((kids hs v).map fun c => ind (c ∈ ([] : List Nat))).sum = 0 := by
      generalize kids hs v = cs
      induction cs with
      | nil => rfl
      | cons c cs ih =>
        rw [List.map_cons, List.sum_cons, ih]
        unfold ind
        rw [if_neg List.not_mem_nil]; rfl
    rw [z2]
    unfold ind
    rw [if_neg List.not_mem_nil, if_neg z1]; rfl
  | @step w u l h r ih =>
    rw [add] at ih ⊢
    rw [one _ _ (nodup_kids hs v)] at ih ⊢
    have nd := r.nd
    have z1 : ind (w ∈ kids hs v) = ind (v = u) := by
      unfold ind
      by_cases e : v = u
      · subst e
        rw [if_pos (mem_kids.mpr h), if_pos rfl]
      · rw [if_neg e, if_neg fun z => e ?_]
        have q := mem_kids.mp z
        rw [h] at q
        exact (Option.some.inj (Option.some.inj q)).symm
    have z2 : ∀ cs : List Nat, (cs.map fun c => ind (c ∈ u :: l)).sum = (cs.map fun c => ind (c = u)).sum + (cs.map fun c => ind (c ∈ l)).sum := fun cs => by
      rw [← add]
      congr 1
      refine List.map_congr_left fun c _ => ?_
      unfold ind
      by_cases e : c = u
      · subst e
        rw [if_pos List.mem_cons_self, if_pos rfl, if_neg (List.nodup_cons.mp nd).1]; rfl
      · rw [if_neg e]
        by_cases m : c ∈ l
        · rw [if_pos m, if_pos (List.mem_cons_of_mem _ m)]; rfl
        · rw [if_neg m, if_neg (fun z => (List.mem_cons.mp z).elim e m)]; rfl
    have z3 : ind (v ∈ u :: l) = ind (v = u) + ind (v ∈ l) := by
      have z := z2 [v]
      simpa using z
    rw [z1, z2, one _ _ (nodup_kids hs v), z3, ih]
/-- as many things as lie below one -/
def cnt (hs : Hs) (v i : Nat) : Int := ((List.range i).map fun w => ind (v ∈ up hs w)).sum
def Wt (hs : Hs) (F : List Int) : Prop := F.length = hs.length ∧ ∀ v : Nat, v < hs.length → F.getD v 0 = 1 + cnt hs v hs.length
theorem cnt_split {hs : Hs} (fo : Fo hs) (v : Nat) : ∀ i : Nat, i ≤ hs.length → cnt hs v i = ((kids hs v).map fun c => ind (c < i) + cnt hs c i).sum
  | 0, _ => by
    unfold cnt
    rw [List.range_zero]
    generalize kids hs v = cs
    show (0 : Int) = _
    induction cs with
    | nil => rfl
    | cons c cs ih => rw [List.map_cons, List.sum_cons, ← ih]; rfl
  | i + 1, h => by
    have ih := cnt_split fo v i (by omega)
    have suc : ∀ c : Nat, cnt hs c (i + 1) = cnt hs c i + ind (c ∈ up hs i) := fun c => by
      unfold cnt
      rw [List.range_succ, List.map_append, List.sum_append]
      show _ + (ind (c ∈ up hs i) + 0) = _
      omega
    rw [suc, ih, ind_split (v := v) (fo.ups (show i < hs.length by omega))]
    generalize kids hs v = cs
    induction cs with
    | nil => rfl
    | cons c cs ih2 =>
      rw [List.map_cons, List.sum_cons, List.map_cons, List.sum_cons, List.map_cons, List.sum_cons, ← ih2, suc]
      have z : ind (c < i + 1) = ind (c < i) + ind (c = i) := by
        unfold ind
        by_cases e : c = i
        · subst e
          rw [if_pos (Nat.lt_succ_self c), if_neg (Nat.lt_irrefl c), if_pos rfl]; rfl
        · rw [if_neg e]
          by_cases m : c < i
          · rw [if_pos m, if_pos (by omega)]; rfl
          · rw [if_neg m, if_neg (by omega)]; rfl
      rw [z]; omega
theorem Wt.size {hs : Hs} {F : List Int} (fo : Fo hs) (h : Wt hs F) : SizeOk hs F := by
  refine ⟨h.1, fun v hv => ?_⟩
  rw [h.2 v hv, cnt_split fo v _ (Nat.le_refl _)]
  congr 2
  refine List.map_congr_left fun c hc => ?_
  have hcl := (List.getElem?_eq_some_iff.mp (mem_kids.mp hc)).1
  rw [h.2 c hcl]
  unfold ind
  rw [if_pos hcl]
theorem size_one {hs : Hs} {F G : List Int} (fo : Fo hs) (h : SizeOk hs F) (g : SizeOk hs G) : F = G := by
  have key : ∀ (k v : Nat), v < hs.length → hs.length - (up hs v).length = k → F.getD v 0 = G.getD v 0 := fun k => by
    induction k using Nat.strongRecOn with
    | _ k ih =>
      intro v hv e
      rw [h.2 v hv, g.2 v hv]
      congr 2
      refine List.map_congr_left fun c hc => ?_
      have ec := mem_kids.mp hc
      have hcl := (List.getElem?_eq_some_iff.mp ec).1
      have u1 : up hs c = v :: up hs v := (Ups.step ec (fo.ups hv)).up
      have l1 := (fo.ups hcl).len
      refine ih (hs.length - (up hs c).length) ?_ c hcl rfl
      rw [u1, List.length_cons] at l1 ⊢
      omega
  refine List.ext_getElem (h.1.trans g.1.symm) fun i h1 h2 => ?_
  have z := key _ i (by rw [← h.1]; exact h1) rfl
  rw [List.getD_eq_getElem?_getD, List.getD_eq_getElem?_getD, List.getElem?_eq_getElem h1, List.getElem?_eq_getElem h2] at z
  exact z
def spUp : Sp := fun vs H Q _ => ∃ (t : Addr) (hs : Hs) (v : Nat), vs = [.ref t, .int (v : Int)] ∧ H t = some (.tup (hs.map hv)) ∧ Fo hs ∧ hs.length ≤ 1000 ∧ v < hs.length ∧ ∀ p H', Same H H' → H p = none → H' p = some (.lst (nv (up hs v))) → Q (.ref p) H'

theorem cnt_zero (hs : Hs) (v : Nat) : cnt hs v 0 = 0 := rfl
theorem cnt_succ (hs : Hs) (v i : Nat) : cnt hs v (i + 1) = cnt hs v i + ind (v ∈ up hs i) := by
  unfold cnt
  rw [List.range_succ, List.map_append, List.sum_append]
  show _ + (ind (v ∈ up hs i) + 0) = _
  omega
theorem cnt_bound (hs : Hs) (v : Nat) : ∀ i : Nat, 0 ≤ cnt hs v i ∧ cnt hs v i ≤ (i : Int)
  | 0 => by rw [cnt_zero]; exact ⟨Int.le_refl _, Int.le_refl _⟩
  | i + 1 => by
    rw [cnt_succ]
    have h := cnt_bound hs v i
    unfold ind
    split <;> omega
def spWeights : Sp := fun vs H Q _ => ∃ (t : Addr) (hs : Hs), vs = [.ref t] ∧ H t = some (.tup (hs.map hv)) ∧ Fo hs ∧ hs.length ≤ 1000 ∧ ∀ p F H', Same H H' → H p = none → Wt hs F → H' p = some (.lst (iv F)) → Q (.ref p) H'
def spWeights0 : Sp := fun vs H Q _ => ∃ (t : Addr) (hs : Hs), vs = [.ref t] ∧ H t = some (.tup (hs.map hv)) ∧ (hs ≠ [] → Fo hs) ∧ hs.length ≤ 1000 ∧ ∀ p F H', Same H H' → H p = none → Wt hs F → H' p = some (.lst (iv F)) → Q (.ref p) H'
theorem Kn.imp {P : Program} {w : World} {K : PySem.W.Frag} {mg : Str → Option Value} {base : Heap} {CX : CXT} {k : Nat} {x : Str} {st : Stmt} {ps : List Str} {sp sp' : Sp} (F : Kn P w K mg base CX k x st ps sp) (h : ∀ vs H Q E, sp' vs H Q E → sp vs H Q E) : Kn P w K mg base CX k x st ps sp' := by
  obtain ⟨f, fd, ok, r⟩ := F.ex
  exact ⟨f, fd, ok.imp h, r⟩
section
variable {P : Program} {w : World} {K : PySem.W.Frag} {mg : Str → Option Value} {base : Heap}
end

/-! ### heldbehind.shares._place_weights -/
def mulL (a b : List Int) : List Int := List.zipWith (fun x y => x * y) a b
def stayL (l : Int) (ws wy : List Int) : List Int := List.zipWith (fun w s => w * (l - s)) ws wy
def pwStep (wy : List Int) (l : Int) (ws : List Int) : List Int := List.zipWith (fun x y => x + y) (0 :: (mulL ws wy).dropLast) (stayL l ws wy)
def pwTerm (wy ws : List Int) (l : Nat) : Int := (mulL ws wy).getLastD 0 * ((fct l : Nat) : Int)
/-- the weights behind i steps, of n things -/
def pwAt (wy : List Int) (n : Nat) : Nat → List Int
  | 0 => 1 :: List.replicate (wy.length - 1) 0
  | i + 1 => pwStep wy ((n : Int) - (i : Int)) (pwAt wy n i)
/-- for each place the integer whose share of n! is the place's -/
def pw (wy : List Int) (n : Nat) : List Int := (List.range n).map fun i => pwTerm wy (pwAt wy n i) (n - 1 - i)
/-- the sizes on the way down to a thing -/
def wayS (hs : Hs) (F : List Int) (t : Nat) : List Int := ((up hs t).reverse ++ [t]).map fun v => F.getD v 0
def szL (hs : Hs) : List Int := (List.range hs.length).map fun v => 1 + cnt hs v hs.length
theorem szL_wt (hs : Hs) : Wt hs (szL hs) := by
  unfold szL
  refine ⟨by rw [List.length_map, List.length_range], fun v hv => ?_⟩
  rw [List.getD_eq_getElem?_getD, List.getElem?_map, List.getElem?_range hv]; rfl
theorem szL_ok {hs : Hs} (fo : Fo hs) : SizeOk hs (szL hs) := (szL_wt hs).size fo
theorem szL_at {hs : Hs} (fo : Fo hs) {v : Nat} (h : v < hs.length) : 1 ≤ (szL hs).getD v 0 ∧ (szL hs).getD v 0 ≤ (hs.length : Int) := by
  rw [(szL_wt hs).2 v h]
  have z := cnt_bound hs v hs.length
  refine ⟨by omega, ?_⟩
  -- none is below itself
  have z2 : cnt hs v hs.length ≤ (hs.length : Int) - 1 := by
    have h2 : ∀ i : Nat, v < i → i ≤ hs.length → cnt hs v i ≤ (i : Int) - 1 := fun i => by
      induction i with
      | zero => intro q; omega
      | succ i ih =>
        intro q1 q2
        rw [cnt_succ]
        by_cases e : v = i
        · subst e
          have z3 := (cnt_bound hs v v).2
          have z4 : ind (v ∈ up hs v) = 0 := by
            unfold ind
            rw [if_neg (List.nodup_cons.mp (fo.ups h).nd).1]
          omega
        · have z3 := ih (by omega) (by omega)
          have z4 : ind (v ∈ up hs i) ≤ 1 := by unfold ind; split <;> omega
          omega
    exact h2 _ h (Nat.le_refl _)
  omega
theorem mulL_len {a b : List Int} (h : a.length = b.length) : (mulL a b).length = b.length := by
  unfold mulL; rw [List.length_zipWith, h, Nat.min_self]
theorem stayL_len {l : Int} {a b : List Int} (h : a.length = b.length) : (stayL l a b).length = b.length := by
  unfold stayL; rw [List.length_zipWith, h, Nat.min_self]
theorem pwStep_len {wy ws : List Int} {l : Int} (h : ws.length = wy.length) (h1 : 1 ≤ wy.length) : (pwStep wy l ws).length = wy.length := by
  unfold pwStep
  rw [List.length_zipWith, List.length_cons, List.length_dropLast, mulL_len h, stayL_len h]
  omega
theorem pwAt_len {wy : List Int} (n : Nat) (h1 : 1 ≤ wy.length) : ∀ i : Nat, (pwAt wy n i).length = wy.length
  | 0 => by rw [pwAt, List.length_cons, List.length_replicate]; omega
  | i + 1 => by rw [pwAt]; exact pwStep_len (pwAt_len n h1 i) h1
def Bd (B : Nat) (ws : List Int) : Prop := ∀ x ∈ ws, x.natAbs ≤ B
theorem zip_mem {f : Int → Int → Int} {a b : List Int} {x : Int} (h : x ∈ List.zipWith f a b) : ∃ y ∈ a, ∃ z ∈ b, x = f y z := by
  obtain ⟨i, e⟩ := List.getElem?_of_mem h
  rw [List.getElem?_zipWith] at e
  cases ea : a[i]? with
  | none => rw [ea] at e; cases e
  | some y =>
    cases eb : b[i]? with
    | none => rw [ea, eb] at e; cases e
    | some z =>
      rw [ea, eb] at e
      exact ⟨y, List.mem_of_getElem? ea, z, List.mem_of_getElem? eb, (Option.some.inj e).symm⟩
theorem Bd.mul {B C : Nat} {a b : List Int} (h : Bd B a) (g : Bd C b) : Bd (B * C) (mulL a b) := fun x hx => by
  obtain ⟨y, hy, z, hz, rfl⟩ := zip_mem hx
  rw [Int.natAbs_mul]
  exact Nat.mul_le_mul (h y hy) (g z hz)
theorem Bd.stay {B : Nat} {l : Int} {a b : List Int} (h : Bd B a) (g : Bd 60 b) (hl : l.natAbs ≤ 60) : Bd (B * 120) (stayL l a b) := fun x hx => by
  obtain ⟨y, hy, z, hz, rfl⟩ := zip_mem hx
  rw [Int.natAbs_mul]
  have := g z hz
  exact Nat.mul_le_mul (h y hy) (by omega)
theorem Bd.step {B : Nat} {l : Int} {wy ws : List Int} (h : Bd B ws) (g : Bd 60 wy) (hl : l.natAbs ≤ 60) : Bd (B * 256) (pwStep wy l ws) := fun x hx => by
  obtain ⟨y, hy, z, hz, rfl⟩ := zip_mem hx
  have h1 : y.natAbs ≤ B * 60 := by
    rcases List.mem_cons.mp hy with rfl | hy
    · exact Nat.zero_le _
    · exact h.mul g y ((List.dropLast_sublist _).subset hy)
  have h2 := h.stay g hl z hz
  have e : B * 256 = B * 60 + B * 120 + B * 76 := by omega
  omega
theorem pwAt_bd {wy : List Int} {n : Nat} (g : Bd 60 wy) (hn : n ≤ 60) : ∀ i : Nat, i ≤ n → Bd (256 ^ i) (pwAt wy n i)
  | 0, _ => fun x hx => by
    rw [pwAt] at hx
    rcases List.mem_cons.mp hx with rfl | hx
    · decide
    · rw [(List.mem_replicate.mp hx).2]; decide
  | i + 1, h => by
    rw [pwAt, Nat.pow_succ]
    exact (pwAt_bd g hn i (by omega)).step g (by omega)
theorem wayS_len (hs : Hs) (F : List Int) (t : Nat) : 1 ≤ (wayS hs F t).length := by
  unfold wayS
  rw [List.length_map, List.length_append]
  show 1 ≤ _ + 1
  omega
theorem way_lt {hs : Hs} (fo : Fo hs) {t : Nat} (ht : t < hs.length) : ∀ v ∈ (up hs t).reverse ++ [t], v < hs.length := fun v hv => by
  rcases List.mem_append.mp hv with h | h
  · obtain ⟨m, hm, _⟩ := (fo.ups ht).mem v (List.mem_reverse.mp h)
    exact hm.lt
  · rw [List.mem_singleton.mp h]; exact ht
theorem wayS_bd {hs : Hs} (fo : Fo hs) (h60 : hs.length ≤ 60) {t : Nat} (ht : t < hs.length) : Bd 60 (wayS hs (szL hs) t) := fun x hx => by
  obtain ⟨v, hv, rfl⟩ := List.mem_map.mp hx
  have z := szL_at fo (way_lt fo ht v hv)
  omega
theorem iv_at {F : List Int} {i : Nat} {x : V} (h : (iv F)[i]? = some x) : ∃ n : Int, F[i]? = some n ∧ x = .int n := by
  unfold iv at h
  rw [List.getElem?_map] at h
  cases e : F[i]? with
  | none => rw [e] at h; cases h
  | some n => rw [e] at h; exact ⟨n, rfl, (Option.some.inj h).symm⟩
theorem iv_snoc (F : List Int) (n : Int) : iv F ++ [V.int n] = iv (F ++ [n]) := by unfold iv; rw [List.map_append]; rfl
theorem zip_at {f : Int → Int → Int} {a b : List Int} {j : Nat} {y z : Int} (e1 : a[j]? = some y) (e2 : b[j]? = some z) : (List.zipWith f a b).take (j + 1) = (List.zipWith f a b).take j ++ [f y z] := by
  rw [List.take_add_one, List.getElem?_zipWith, e1, e2]; rfl
theorem iv_nv (l : List Nat) : nv l = iv (l.map fun v : Nat => ((v : Nat) : Int)) := by unfold nv iv; rw [List.map_map]; rfl
section
variable {P : Program} {w : World} {K : PySem.W.Frag} {mg : Str → Option Value} {base : Heap} {CF CT : Addr}
end

/-! ### heldbehind.sequences.count_sequences -/
/-- one size after the other divides -/
def divAll (a : Int) (F : List Int) : Int := F.foldl (fun x s => x / s) a
theorem divAll_snoc (a : Int) (F : List Int) (s : Int) : divAll a (F ++ [s]) = divAll a F / s := by
  unfold divAll
  rw [List.foldl_append]; rfl
/-- the number of sequences, as it is reckoned -/
def cntL (hs : Hs) : Int := divAll ((fct hs.length : Nat) : Int) (szL hs)
def spCnt : Sp := fun vs H Q _ => ∃ (a : Addr) (hs : Hs), vs = [.ref a] ∧ H a = some (.tup (hs.map hv)) ∧ Fo hs ∧ hs.length ≤ 60 ∧ ∀ H', Same H H' → Q (.int (cntL hs)) H'
section
variable {P : Program} {w : World} {K : PySem.W.Frag} {mg : Str → Option Value} {base : Heap} {CF : Addr}
end

end My

namespace My
open PySem PySem.Spec PyProof.Rows L2
/-! ### sequences by beginnings: what can be next, and how many ways there are on -/
theorem sum_add (cs : List Nat) (f g : Nat → Int) : (cs.map fun c => f c + g c).sum = (cs.map f).sum + (cs.map g).sum := by
  induction cs with
  | nil => rfl
  | cons c cs ih => rw [List.map_cons, List.sum_cons, List.map_cons, List.sum_cons, List.map_cons, List.sum_cons, ih]; omega
theorem sum_zero {cs : List Nat} {f : Nat → Int} (h : ∀ c ∈ cs, f c = 0) : (cs.map f).sum = 0 := by
  induction cs with
  | nil => rfl
  | cons c cs ih => rw [List.map_cons, List.sum_cons, h c List.mem_cons_self, ih fun x hx => h x (List.mem_cons_of_mem _ hx)]; rfl
theorem sum_one {cs : List Nat} (nd : cs.Nodup) (x : Nat) : (cs.map fun c => ind (x = c)).sum = ind (x ∈ cs) := by
  induction cs with
  | nil => rfl
  | cons c cs ih =>
    obtain ⟨n1, n2⟩ := List.nodup_cons.mp nd
    rw [List.map_cons, List.sum_cons, ih n2]
    unfold ind
    by_cases e : x = c
    · subst e
      rw [if_pos rfl, if_neg n1, if_pos List.mem_cons_self]; rfl
    · rw [if_neg e]
      by_cases m : x ∈ cs
      · rw [if_pos m, if_pos (List.mem_cons_of_mem _ m)]; rfl
      · rw [if_neg m, if_neg (fun z => (List.mem_cons.mp z).elim e m)]; rfl
theorem sum_swap (cs ws : List Nat) (f : Nat → Nat → Int) : (cs.map fun c => (ws.map fun w => f c w).sum).sum = (ws.map fun w => (cs.map fun c => f c w).sum).sum := by
  induction cs with
  | nil => rw [List.map_nil]; exact (sum_zero fun _ _ => rfl).symm
  | cons c cs ih =>
    rw [List.map_cons, List.sum_cons, ih, ← sum_add]
    rfl
theorem sum_const (cs : List Nat) (x : Int) : (cs.map fun _ => x).sum = x * (cs.length : Int) := by
  induction cs with
  | nil => rw [List.map_nil, List.length_nil]; exact (Int.mul_zero x).symm
  | cons c cs ih =>
    rw [List.map_cons, List.sum_cons, ih, List.length_cons]
    have e : ((cs.length + 1 : Nat) : Int) = (cs.length : Int) + 1 := rfl
    rw [e, Int.mul_add, Int.mul_one]
    omega
theorem sum_mul (cs : List Nat) (f : Nat → Int) (x : Int) : (cs.map fun c => x * f c).sum = x * (cs.map f).sum := by
  induction cs with
  | nil => exact (Int.mul_zero x).symm
  | cons c cs ih => rw [List.map_cons, List.sum_cons, ih, List.map_cons, List.sum_cons, Int.mul_add]
def avB (hs : Hs) (r : List Nat) (v : Nat) : Bool := decide (v ∉ r) && (match hs[v]? with
  | some none => true
  | some (some u) => decide (u ∈ r)
  | none => false)
/-- what can be next behind a beginning -/
def av (hs : Hs) (r : List Nat) : List Nat := (List.range hs.length).filter (avB hs r)
structure Pre (hs : Hs) (r : List Nat) : Prop where
  nd : r.Nodup
  lt : ∀ v ∈ r, v < hs.length
  cl : ∀ v ∈ r, ∀ u : Nat, hs[v]? = some (some u) → u ∈ r
theorem av_nd (hs : Hs) (r : List Nat) : (av hs r).Nodup := List.nodup_range.filter _
theorem av_mem {hs : Hs} {r : List Nat} {v : Nat} : v ∈ av hs r ↔ v < hs.length ∧ v ∉ r ∧ ∀ u : Nat, hs[v]? = some (some u) → u ∈ r := by
  unfold av avB
  rw [List.mem_filter, List.mem_range, Bool.and_eq_true, decide_eq_true_eq]
  constructor
  · rintro ⟨h1, h2, h3⟩
    refine ⟨h1, h2, fun u e => ?_⟩
    rw [e] at h3
    exact of_decide_eq_true h3
  · rintro ⟨h1, h2, h3⟩
    refine ⟨h1, h2, ?_⟩
    rw [List.getElem?_eq_getElem h1] at h3 ⊢
    generalize hs[v]'h1 = o at h3 ⊢
    rcases o with _ | u
    · rfl
    · exact decide_eq_true (h3 u rfl)
theorem Pre.ups {hs : Hs} {r : List Nat} (p : Pre hs r) {w : Nat} {l : List Nat} (a : Ups hs w l) : w ∈ r → ∀ x ∈ l, x ∈ r := by
  induction a with
  | root h => intro _ x hx; cases hx
  | @step w u l h _ ih =>
    intro hw x hx
    have hu := p.cl w hw u h
    rcases List.mem_cons.mp hx with rfl | hx
    · exact hu
    · exact ih hu x hx
theorem av_one {hs : Hs} {r : List Nat} (p : Pre hs r) {w : Nat} {l : List Nat} (a : Ups hs w l) : ((av hs r).map fun v => ind (w = v) + ind (v ∈ l)).sum = ind (w ∉ r) := by
  have noav : ∀ v ∈ av hs r, v ∉ r := fun v hv => (av_mem.mp hv).2.1
  induction a with
  | @root w h =>
    have hl := (List.getElem?_eq_some_iff.mp h).1
    have e : (av hs r).map (fun v => ind (w = v) + ind (v ∈ ([] : List Nat))) = (av hs r).map fun v => ind (w = v) := List.map_congr_left fun v _ => by
      have z : ind (v ∈ ([] : List Nat)) = 0 := by unfold ind; rw [if_neg List.not_mem_nil]
      rw [z, Int.add_zero]
    rw [e, sum_one (av_nd hs r)]
    unfold ind
    by_cases c : w ∈ r
    · rw [if_neg (fun z => noav w z c), if_neg (fun z => z c)]
    · rw [if_pos (av_mem.mpr ⟨hl, c, fun u e => by rw [h] at e; cases e⟩), if_pos c]
  | @step w u l h ru ih =>
    have hl := (List.getElem?_eq_some_iff.mp h).1
    have nd := ru.nd
    have split : ∀ v : Nat, ind (v ∈ u :: l) = ind (u = v) + ind (v ∈ l) := fun v => by
      unfold ind
      by_cases e : u = v
      · subst e
        rw [if_pos List.mem_cons_self, if_pos rfl, if_neg (List.nodup_cons.mp nd).1]; rfl
      · rw [if_neg e]
        by_cases m : v ∈ l
        · rw [if_pos m, if_pos (List.mem_cons_of_mem _ m)]; rfl
        · rw [if_neg m, if_neg (fun z => (List.mem_cons.mp z).elim (fun q => e q.symm) m)]; rfl
    have e : (av hs r).map (fun v => ind (w = v) + ind (v ∈ u :: l)) = (av hs r).map fun v => ind (w = v) + (ind (u = v) + ind (v ∈ l)) := List.map_congr_left fun v _ => by rw [split]
    rw [e, sum_add, ih, sum_one (av_nd hs r)]
    unfold ind
    by_cases c : w ∈ r
    · rw [if_neg (fun z => noav w z c), if_neg (fun z => z (p.cl w c u h)), if_neg (fun z => z c)]; rfl
    · by_cases cu : u ∈ r
      · rw [if_pos (av_mem.mpr ⟨hl, c, fun u' e => by rw [h] at e; cases e; exact cu⟩), if_neg (fun z => z cu), if_pos c]; rfl
      · rw [if_neg (fun z => cu ((av_mem.mp z).2.2 u h)), if_pos cu, if_pos c]; rfl
/-- the sizes of what can be next come to what is left -/
theorem av_sum {hs : Hs} (fo : Fo hs) {r : List Nat} (p : Pre hs r) : ((av hs r).map fun v => (szL hs).getD v 0).sum = (hs.length : Int) - (r.length : Int) := by
  have e1 : (av hs r).map (fun v => (szL hs).getD v 0) = (av hs r).map fun v => ((List.range hs.length).map fun w => ind (w = v) + ind (v ∈ up hs w)).sum := List.map_congr_left fun v hv => by
    have hl := (av_mem.mp hv).1
    rw [(szL_wt hs).2 v hl, sum_add]
    have z : ((List.range hs.length).map fun w => ind (w = v)).sum = 1 := by
      have z1 : (List.range hs.length).map (fun w => ind (w = v)) = (List.range hs.length).map fun w => ind (v = w) := List.map_congr_left fun w _ => by
        unfold ind
        by_cases e : w = v
        · rw [if_pos e, if_pos e.symm]
        · rw [if_neg e, if_neg fun z => e z.symm]
      rw [z1, sum_one List.nodup_range]
      unfold ind
      rw [if_pos (List.mem_range.mpr hl)]
    rw [z]; rfl
  rw [e1, sum_swap]
  have e2 : (List.range hs.length).map (fun w => ((av hs r).map fun v => ind (w = v) + ind (v ∈ up hs w)).sum) = (List.range hs.length).map fun w => 1 + (-1) * ((r.map fun x => ind (w = x)).sum) := List.map_congr_left fun w hw => by
    rw [av_one p (fo.ups (List.mem_range.mp hw)), sum_one p.nd]
    unfold ind
    by_cases c : w ∈ r
    · rw [if_neg (fun z => z c), if_pos c]; rfl
    · rw [if_pos c, if_neg c]; rfl
  rw [e2, sum_add, sum_const, sum_mul, sum_swap]
  have e3 : (r.map fun x => ((List.range hs.length).map fun w => ind (w = x)).sum) = r.map fun _ => (1 : Int) := List.map_congr_left fun x hx => by
    have z1 : (List.range hs.length).map (fun w => ind (w = x)) = (List.range hs.length).map fun w => ind (x = w) := List.map_congr_left fun w _ => by
      unfold ind
      by_cases e : w = x
      · rw [if_pos e, if_pos e.symm]
      · rw [if_neg e, if_neg fun z => e z.symm]
    rw [z1, sum_one List.nodup_range]
    unfold ind
    rw [if_pos (List.mem_range.mpr (p.lt x hx))]
  rw [e3, sum_const, List.length_range]
  omega
theorem Pre.nil (hs : Hs) : Pre hs [] := ⟨List.nodup_nil, fun _ h => absurd h List.not_mem_nil, fun _ h => absurd h List.not_mem_nil⟩
theorem Pre.snoc {hs : Hs} {r : List Nat} {v : Nat} (p : Pre hs r) (h : v ∈ av hs r) : Pre hs (r ++ [v]) := by
  obtain ⟨h1, h2, h3⟩ := av_mem.mp h
  refine ⟨List.nodup_append.mpr ⟨p.nd, List.nodup_cons.mpr ⟨List.not_mem_nil, List.nodup_nil⟩, fun a ha b hb => ?_⟩, fun x hx => ?_, fun x hx u e => ?_⟩
  · rw [List.mem_singleton.mp hb]
    intro z; subst z; exact h2 ha
  · rcases List.mem_append.mp hx with hx | hx
    · exact p.lt x hx
    · rw [List.mem_singleton.mp hx]; exact h1
  · rcases List.mem_append.mp hx with hx | hx
    · exact List.mem_append_left _ (p.cl x hx u e)
    · rw [List.mem_singleton.mp hx] at e
      exact List.mem_append_left _ (h3 u e)

/-! ### how many ways there are on behind a beginning -/
def ext (hs : Hs) (r : List Nat) : List (List Nat) := (av hs r).map fun v => r ++ [v]
def rowsAt (hs : Hs) : Nat → List (List Nat)
  | 0 => [[]]
  | k + 1 => (rowsAt hs k).flatMap (ext hs)
def more (hs : Hs) : Nat → List Nat → Int
  | 0, _ => 1
  | k + 1, r => ((av hs r).map fun v => more hs k (r ++ [v])).sum
def facs (hs : Hs) (r : List Nat) (cs : List Nat) : List Int := cs.map fun w => if w ∈ r then 1 else (szL hs).getD w 0
def rest (hs : Hs) (r : List Nat) : Int := (facs hs r (List.range hs.length)).prod
theorem facs_same {hs : Hs} {r : List Nat} {v : Nat} : ∀ {cs : List Nat}, v ∉ cs → facs hs (r ++ [v]) cs = facs hs r cs := fun {cs} hv => List.map_congr_left fun w hw => by
  have e : w ∈ r ++ [v] ↔ w ∈ r := by
    rw [List.mem_append, List.mem_singleton]
    exact ⟨fun h => h.elim id fun z => absurd (z ▸ hw) hv, .inl⟩
  by_cases c : w ∈ r
  · rw [if_pos c, if_pos (e.mpr c)]
  · rw [if_neg c, if_neg fun z => c (e.mp z)]
theorem facs_prod {hs : Hs} {r : List Nat} {v : Nat} (hr : v ∉ r) : ∀ {cs : List Nat}, cs.Nodup → v ∈ cs → (facs hs r cs).prod = (facs hs (r ++ [v]) cs).prod * (szL hs).getD v 0
  | c :: cs, nd, hv => by
    obtain ⟨n1, n2⟩ := List.nodup_cons.mp nd
    show ((if c ∈ r then 1 else (szL hs).getD c 0) :: facs hs r cs).prod = ((if c ∈ r ++ [v] then 1 else (szL hs).getD c 0) :: facs hs (r ++ [v]) cs).prod * _
    rw [List.prod_cons, List.prod_cons]
    by_cases e : v = c
    · subst e
      rw [if_neg hr, if_pos (List.mem_append_right _ List.mem_cons_self), facs_same n1, Int.one_mul, Int.mul_comm]
    · have hv2 : v ∈ cs := (List.mem_cons.mp hv).resolve_left e
      rw [facs_prod hr n2 hv2]
      have e2 : c ∈ r ++ [v] ↔ c ∈ r := by
        rw [List.mem_append, List.mem_singleton]
        exact ⟨fun h => h.elim id fun z => absurd z.symm e, .inl⟩
      by_cases m : c ∈ r
      · rw [if_pos m, if_pos (e2.mpr m), Int.mul_assoc]
      · rw [if_neg m, if_neg (fun z => m (e2.mp z)), Int.mul_assoc]
theorem rest_pos {hs : Hs} (fo : Fo hs) (r : List Nat) : 0 < rest hs r := by
  have key : ∀ cs : List Nat, (∀ c ∈ cs, c < hs.length) → 0 < (facs hs r cs).prod := fun cs => by
    induction cs with
    | nil => intro _; exact Int.one_pos
    | cons c cs ih =>
      intro h
      show 0 < ((if c ∈ r then 1 else (szL hs).getD c 0) :: facs hs r cs).prod
      rw [List.prod_cons]
      have p := ih fun x hx => h x (List.mem_cons_of_mem _ hx)
      have q := (szL_at fo (h c List.mem_cons_self)).1
      refine Int.mul_pos ?_ p
      split <;> omega
  exact key _ fun c hc => List.mem_range.mp hc
theorem rest_step {hs : Hs} {r : List Nat} {v : Nat} (h : v ∈ av hs r) : rest hs r = rest hs (r ++ [v]) * (szL hs).getD v 0 :=
  facs_prod (av_mem.mp h).2.1 List.nodup_range (List.mem_range.mpr (av_mem.mp h).1)
theorem more_rest {hs : Hs} (fo : Fo hs) : ∀ (k : Nat) (r : List Nat), Pre hs r → r.length + k = hs.length → more hs k r * rest hs r = ((fct k : Nat) : Int)
  | 0, r, p, h => by
    have full := mem_of_full hs.length r p.nd p.lt (by omega)
    have e : facs hs r (List.range hs.length) = (List.range hs.length).map fun _ => (1 : Int) := List.map_congr_left fun w hw => if_pos (full w (List.mem_range.mp hw))
    have z : ∀ cs : List Nat, (cs.map fun _ => (1 : Int)).prod = 1 := fun cs => by
      induction cs with
      | nil => rfl
      | cons c cs ih => rw [List.map_cons, List.prod_cons, ih]; rfl
    unfold rest
    rw [e, z]; rfl
  | k + 1, r, p, h => by
    show ((av hs r).map fun v => more hs k (r ++ [v])).sum * rest hs r = _
    have e : ∀ cs : List Nat, (∀ v ∈ cs, v ∈ av hs r) → (cs.map fun v => more hs k (r ++ [v])).sum * rest hs r = ((fct k : Nat) : Int) * (cs.map fun v => (szL hs).getD v 0).sum := fun cs => by
      induction cs with
      | nil => intro _; show (0 : Int) * _ = _ * 0; rw [Int.zero_mul, Int.mul_zero]
      | cons v cs ih =>
        intro hc
        have hv := hc v List.mem_cons_self
        rw [List.map_cons, List.sum_cons, List.map_cons, List.sum_cons, Int.add_mul, ih fun x hx => hc x (List.mem_cons_of_mem _ hx), Int.mul_add]
        congr 1
        rw [rest_step hv, ← Int.mul_assoc, more_rest fo k (r ++ [v]) (p.snoc hv) (by rw [List.length_append]; show _ + 1 + k = _; omega)]
    rw [e _ fun _ h => h, av_sum fo p]
    have z : (hs.length : Int) - (r.length : Int) = ((k + 1 : Nat) : Int) := by omega
    rw [z, fct]; rfl
theorem more_step {hs : Hs} (fo : Fo hs) {k : Nat} {r : List Nat} (p : Pre hs r) (h : r.length + (k + 1) = hs.length) {v : Nat} (hv : v ∈ av hs r) : more hs (k + 1) r * (szL hs).getD v 0 = ((k + 1 : Nat) : Int) * more hs k (r ++ [v]) := by
  have a := more_rest fo (k + 1) r p h
  have b := more_rest fo k (r ++ [v]) (p.snoc hv) (by rw [List.length_append]; show _ + 1 + k = _; omega)
  have c := rest_pos fo (r ++ [v])
  rw [rest_step hv, fct, Int.natCast_mul, ← b] at a
  refine Int.eq_of_mul_eq_mul_right (Int.ne_of_gt c) ?_
  have e1 : more hs (k + 1) r * (szL hs).getD v 0 * rest hs (r ++ [v]) = more hs (k + 1) r * (rest hs (r ++ [v]) * (szL hs).getD v 0) := by rw [Int.mul_assoc, Int.mul_comm ((szL hs).getD v 0)]
  have e2 : ((k + 1 : Nat) : Int) * more hs k (r ++ [v]) * rest hs (r ++ [v]) = more hs k (r ++ [v]) * rest hs (r ++ [v]) * ((k + 1 : Nat) : Int) := by rw [Int.mul_assoc, Int.mul_comm]
  rw [e1, e2, a]
/-- over all beginnings of so many -/
def over (hs : Hs) (j : Nat) (f : List Nat → Int) : Int := ((rowsAt hs j).map f).sum
theorem over_step (hs : Hs) (j : Nat) (f : List Nat → Int) : over hs (j + 1) f = over hs j fun r => ((av hs r).map fun v => f (r ++ [v])).sum := by
  show (((rowsAt hs j).flatMap (ext hs)).map f).sum = _
  unfold over
  generalize rowsAt hs j = rs
  induction rs with
  | nil => rfl
  | cons r rs ih =>
    rw [List.flatMap_cons, List.map_append, List.sum_append, ih, List.map_cons, List.sum_cons]
    congr 1
    unfold ext
    rw [List.map_map]; rfl
theorem rows_pre (hs : Hs) : ∀ (j : Nat) (r : List Nat), r ∈ rowsAt hs j → Pre hs r ∧ r.length = j
  | 0, r, h => by
    rw [List.mem_singleton.mp h]
    exact ⟨Pre.nil hs, rfl⟩
  | j + 1, r, h => by
    obtain ⟨q, hq, hr⟩ := List.mem_flatMap.mp h
    obtain ⟨v, hv, rfl⟩ := List.mem_map.mp hr
    obtain ⟨p, l⟩ := rows_pre hs j q hq
    exact ⟨p.snoc hv, by rw [List.length_append, l]; rfl⟩
theorem over_congr {hs : Hs} {j : Nat} {f g : List Nat → Int} (h : ∀ r, Pre hs r → r.length = j → f r = g r) : over hs j f = over hs j g := by
  unfold over
  congr 1
  exact List.map_congr_left fun r hr => h r (rows_pre hs j r hr).1 (rows_pre hs j r hr).2

theorem over_on {hs : Hs} {f : List Nat → Int} {j0 : Nat} (h : ∀ r v, j0 ≤ r.length → f (r ++ [v]) = f r) : ∀ d j : Nat, j + d = hs.length → j0 ≤ j → over hs hs.length f = over hs j fun r => f r * more hs d r
  | 0, j, e, _ => by
    have ej : j = hs.length := by omega
    subst ej
    refine over_congr fun r _ _ => ?_
    show f r = f r * 1
    rw [Int.mul_one]
  | d + 1, j, e, hj => by
    rw [over_on h d (j + 1) (by omega) (by omega), over_step]
    refine over_congr fun r _ hr => ?_
    have e1 : (av hs r).map (fun v => f (r ++ [v]) * more hs d (r ++ [v])) = (av hs r).map fun v => f r * more hs d (r ++ [v]) := List.map_congr_left fun v _ => by rw [h r v (by omega)]
    rw [e1, sum_mul]; rfl
theorem rows_many (hs : Hs) : ((rowsAt hs hs.length).length : Int) = more hs hs.length [] := by
  have h := over_on (hs := hs) (f := fun _ => 1) (j0 := 0) (fun _ _ _ => rfl) hs.length 0 (Nat.zero_add _) (Nat.le_refl 0)
  have e : over hs hs.length (fun _ => 1) = ((rowsAt hs hs.length).length : Int) := by
    unfold over
    generalize rowsAt hs hs.length = rs
    induction rs with
    | nil => rfl
    | cons r rs ih => rw [List.map_cons, List.sum_cons, ih, List.length_cons]; omega
  rw [← e, h]
  show 1 * more hs hs.length [] + 0 = _
  rw [Int.one_mul, Int.add_zero]

theorem cntL_more {hs : Hs} (fo : Fo hs) : cntL hs = more hs hs.length [] := by
  have a := more_rest fo hs.length [] (Pre.nil hs) (by rw [List.length_nil, Nat.zero_add])
  have key : ∀ (F : List Int) (x : Int), (∀ y ∈ F, 1 ≤ y) → divAll (x * F.prod) F = x := fun F => by
    induction F with
    | nil => intro x _; show x * 1 = x; rw [Int.mul_one]
    | cons y F ih =>
      intro x h
      have hy := h y List.mem_cons_self
      show divAll (x * (y :: F).prod / y) F = x
      rw [List.prod_cons, show x * (y * F.prod) = (x * F.prod) * y by rw [Int.mul_comm y, Int.mul_assoc], Int.mul_ediv_cancel _ (by omega)]
      exact ih x fun z hz => h z (List.mem_cons_of_mem _ hz)
  have e : rest hs [] = (szL hs).prod := by
    unfold rest facs
    congr 1
    have lz : (szL hs).length = hs.length := (szL_ok fo).1
    refine List.ext_getElem (by rw [List.length_map, List.length_range, lz]) fun i h1 h2 => ?_
    rw [List.getElem_map, if_neg List.not_mem_nil, List.getElem_range, List.getD_eq_getElem?_getD, List.getElem?_eq_getElem h2]; rfl
  unfold cntL
  rw [← a, e]
  refine key _ _ fun y hy => ?_
  obtain ⟨i, ei⟩ := List.getElem?_of_mem hy
  have hi := (List.getElem?_eq_some_iff.mp ei).1
  have lz : (szL hs).length = hs.length := (szL_ok fo).1
  have b := szL_at fo (show i < hs.length by omega)
  rw [List.getD_eq_getElem?_getD, ei] at b
  exact b.1
theorem cntL_rows {hs : Hs} (fo : Fo hs) : cntL hs = ((rowsAt hs hs.length).length : Int) := by rw [rows_many, cntL_more fo]

theorem cnt_pos {hs : Hs} (fo : Fo hs) : 1 ≤ cntL hs := by
  rw [cntL_more fo]
  have a := more_rest fo hs.length [] (Pre.nil hs) (by rw [List.length_nil, Nat.zero_add])
  have b := rest_pos fo []
  have f : (0 : Int) < ((fct hs.length : Nat) : Int) := by
    have key : ∀ n, 0 < fct n := fun n => by
      induction n with
      | zero => exact Nat.one_pos
      | succ n ih => rw [fct]; exact Nat.mul_pos ih (Nat.succ_pos n)
    exact Int.ofNat_lt.mpr (key _)
  by_cases c : 1 ≤ more hs hs.length []
  · exact c
  · have z : more hs hs.length [] * rest hs [] ≤ 0 := Int.mul_nonpos_of_nonpos_of_nonneg (by omega) (Int.le_of_lt b)
    omega

/-! ### rows by which of two is ahead -/
theorem idx_ne {x a : Nat} {q : List Nat} (h : x ≠ a) : (x :: q).idxOf a = q.idxOf a + 1 := by
  rw [List.idxOf_cons, beq_false_of_ne h]; rfl
theorem sub_idx {a b : Nat} : ∀ {q : List Nat}, q.Nodup → [a, b].Sublist q → q.idxOf a < q.idxOf b
  | [], _, h => by cases h
  | x :: q, nd, h => by
    obtain ⟨n1, n2⟩ := List.nodup_cons.mp nd
    cases h with
    | cons _ h =>
      have ma : a ∈ q := h.subset List.mem_cons_self
      have mb : b ∈ q := h.subset (List.mem_cons_of_mem _ List.mem_cons_self)
      have ih := sub_idx n2 h
      rw [idx_ne (fun z : x = a => n1 (by rw [z]; exact ma)), idx_ne (fun z : x = b => n1 (by rw [z]; exact mb))]
      omega
    | cons_cons _ h =>
      have mb : b ∈ q := h.subset List.mem_cons_self
      rw [List.idxOf_cons_self, idx_ne (fun z : a = b => n1 (by rw [z]; exact mb))]
      omega
theorem idx_sub {a b : Nat} : ∀ {q : List Nat}, b ∈ q → q.idxOf a < q.idxOf b → [a, b].Sublist q
  | [], h, _ => by cases h
  | x :: q, h, l => by
    have nb : x ≠ b := fun z => by rw [z, List.idxOf_cons_self] at l; omega
    have mb : b ∈ q := (List.mem_cons.mp h).elim (fun z => absurd z.symm nb) id
    by_cases e : x = a
    · subst e
      exact .cons_cons _ (List.singleton_sublist.mpr mb)
    · rw [idx_ne e, idx_ne nb] at l
      exact .cons _ (idx_sub mb (by omega))
structure Row (hs : Hs) (q : List Nat) : Prop where
  nd : q.Nodup
  lt : ∀ v ∈ q, v < hs.length
  bh : ∀ v u : Nat, v ∈ q → hs[v]? = some (some u) → [u, v].Sublist q
theorem row_snoc {hs : Hs} {q : List Nat} {v : Nat} : Row hs (q ++ [v]) ↔ Row hs q ∧ v ∈ av hs q := by
  constructor
  · intro r
    obtain ⟨n1, _, n3⟩ := List.nodup_append.mp r.nd
    have nv : v ∉ q := fun m => n3 v m v (List.mem_singleton.mpr rfl) rfl
    have cut : ∀ u w, [u, w].Sublist (q ++ [v]) → (w ∈ q → [u, w].Sublist q) ∧ u ∈ q := fun u w s => by
      obtain ⟨l1, l2, e, s1, s2⟩ := List.sublist_append_iff.mp s
      rcases l1 with _ | ⟨x, _ | ⟨y, _ | ⟨z, l⟩⟩⟩
      · have z := s2.length_le
        rw [List.nil_append] at e
        rw [← e] at z
        exact absurd z (by simp)
      · have e2 := (List.cons.inj e).1
        have e3 : [w] = l2 := (List.cons.inj e).2
        subst e2
        rw [← e3] at s2
        have ew : w = v := List.mem_singleton.mp (s2.subset List.mem_cons_self)
        exact ⟨fun m => absurd (ew ▸ m) nv, s1.subset List.mem_cons_self⟩
      · have e2 := (List.cons.inj e).1
        have e3 := (List.cons.inj (List.cons.inj e).2).1
        subst e2
        subst e3
        exact ⟨fun _ => s1, s1.subset List.mem_cons_self⟩
      · have e3 := (List.cons.inj (List.cons.inj e).2).2
        cases e3
    refine ⟨⟨n1, fun x h => r.lt x (List.mem_append_left _ h), fun x u h e => (cut u x (r.bh x u (List.mem_append_left _ h) e)).1 h⟩, av_mem.mpr ⟨r.lt v (List.mem_append_right _ (List.mem_singleton.mpr rfl)), nv, fun u e => (cut u v (r.bh v u (List.mem_append_right _ (List.mem_singleton.mpr rfl)) e)).2⟩⟩
  · rintro ⟨r, m⟩
    obtain ⟨h1, h2, h3⟩ := av_mem.mp m
    refine ⟨List.nodup_append.mpr ⟨r.nd, List.nodup_cons.mpr ⟨List.not_mem_nil, List.nodup_nil⟩, fun a ha b hb => ?_⟩, fun x hx => ?_, fun x u hx e => ?_⟩
    · rw [List.mem_singleton.mp hb]
      intro z; subst z; exact h2 ha
    · rcases List.mem_append.mp hx with hx | hx
      · exact r.lt x hx
      · rw [List.mem_singleton.mp hx]; exact h1
    · rcases List.mem_append.mp hx with hx | hx
      · exact (r.bh x u hx e).trans (List.sublist_append_left _ _)
      · rw [List.mem_singleton.mp hx] at e ⊢
        exact (List.singleton_sublist.mpr (h3 u e)).append (List.Sublist.refl [v])
theorem row_nil (hs : Hs) : Row hs [] := ⟨List.nodup_nil, fun _ h => absurd h List.not_mem_nil, fun _ _ h => absurd h List.not_mem_nil⟩
theorem rows_mem {hs : Hs} : ∀ {k : Nat} {q : List Nat}, q ∈ rowsAt hs k ↔ Row hs q ∧ q.length = k
  | 0, q => by
    constructor
    · intro h
      rw [List.mem_singleton.mp h]
      exact ⟨row_nil hs, rfl⟩
    · rintro ⟨_, l⟩
      rw [List.length_eq_zero_iff.mp l]
      exact List.mem_singleton.mpr rfl
  | k + 1, q => by
    constructor
    · intro h
      obtain ⟨p, hp, hr⟩ := List.mem_flatMap.mp h
      obtain ⟨v, hv, rfl⟩ := List.mem_map.mp hr
      obtain ⟨r, l⟩ := rows_mem.mp hp
      exact ⟨row_snoc.mpr ⟨r, hv⟩, by rw [List.length_append, l]; rfl⟩
    · rintro ⟨r, l⟩
      rcases List.eq_nil_or_concat q with e | ⟨p, v, e⟩
      · rw [e] at l; cases l
      · rw [List.concat_eq_append] at e
        subst e
        rw [List.length_append] at l
        obtain ⟨r1, m⟩ := row_snoc.mp r
        exact List.mem_flatMap.mpr ⟨p, rows_mem.mpr ⟨r1, Nat.succ.inj l⟩, List.mem_map.mpr ⟨v, m, rfl⟩⟩
theorem row_full {hs : Hs} {q : List Nat} (r : Row hs q) (l : q.length = hs.length) {v : Nat} (h : v < hs.length) : v ∈ q := by
  by_cases c : v ∈ q
  · exact c
  · have z := nodup_len hs.length (v :: q) (List.nodup_cons.mpr ⟨c, r.nd⟩) fun x hx => by
      rcases List.mem_cons.mp hx with rfl | hx
      · exact h
      · exact r.lt x hx
    rw [List.length_cons] at z; omega
theorem row_ex {hs : Hs} (fo : Fo hs) : ∃ q, q ∈ rowsAt hs hs.length := by
  have a := cntL_rows fo
  have b := cnt_pos fo
  cases e : rowsAt hs hs.length with
  | nil => rw [e] at a; have : (([] : List (List Nat)).length : Int) = 0 := rfl; omega
  | cons q _ => exact ⟨q, List.mem_cons_self⟩
/-- the things of a closed set come first -/
theorem row_first {hs : Hs} {q : List Nat} (r : Row hs q) (S : Nat → Bool) (cl : ∀ v u : Nat, hs[v]? = some (some u) → S v = true → S u = true) :
    Row hs (q.filter S ++ q.filter fun v => !S v) ∧ (q.filter S ++ q.filter fun v => !S v).length = q.length ∧ (∀ x y, x ∈ q → y ∈ q → S x = true → S y = false → [x, y].Sublist (q.filter S ++ q.filter fun v => !S v)) ∧
      (∀ x y, S x = true → S y = true → [x, y].Sublist q → [x, y].Sublist (q.filter S ++ q.filter fun v => !S v)) := by
  have two : ∀ x y, S x = true → S y = true → [x, y].Sublist q → [x, y].Sublist (q.filter S ++ q.filter fun v => !S v) := fun x y hx hy s => by
    have z := s.filter S
    rw [List.filter_cons_of_pos hx, List.filter_cons_of_pos hy, List.filter_nil] at z
    exact z.trans (List.sublist_append_left _ _)
  have one : ∀ x y, x ∈ q → y ∈ q → S x = true → S y = false → [x, y].Sublist (q.filter S ++ q.filter fun v => !S v) := fun x y mx my hx hy =>
    (List.singleton_sublist.mpr (List.mem_filter.mpr ⟨mx, hx⟩)).append (List.singleton_sublist.mpr (List.mem_filter.mpr ⟨my, by rw [hy]; rfl⟩))
  refine ⟨⟨?_, fun v h => ?_, fun v u h e => ?_⟩, ?_, one, two⟩
  · refine List.nodup_append.mpr ⟨r.nd.filter _, r.nd.filter _, fun x hx y hy z => ?_⟩
    have a := (List.mem_filter.mp hx).2
    have b := (List.mem_filter.mp hy).2
    rw [← z, a] at b; cases b
  · rcases List.mem_append.mp h with h | h
    · exact r.lt v (List.mem_filter.mp h).1
    · exact r.lt v (List.mem_filter.mp h).1
  · have mv : v ∈ q := by
      rcases List.mem_append.mp h with h | h
      · exact (List.mem_filter.mp h).1
      · exact (List.mem_filter.mp h).1
    have s := r.bh v u mv e
    have mu : u ∈ q := s.subset List.mem_cons_self
    cases cv : S v with
    | true => exact two u v (cl v u e cv) cv s
    | false =>
      cases cu : S u with
      | true => exact one u v mu mv cu cv
      | false =>
        have z := s.filter fun v => !S v
        rw [List.filter_cons_of_pos (p := fun v => !S v) (by rw [cu]; rfl), List.filter_cons_of_pos (p := fun v => !S v) (by rw [cv]; rfl), List.filter_nil] at z
        exact z.trans (List.sublist_append_right _ _)
  · rw [List.length_append]
    have z := List.length_eq_countP_add_countP (p := S) (l := q)
    rw [List.countP_eq_length_filter, List.countP_eq_length_filter] at z
    have e : (q.filter fun v => !S v) = q.filter fun a => decide ¬S a = true := List.filter_congr fun v _ => by cases S v <;> rfl
    rw [e]; omega

/-! ### a closed set, what is ahead in all rows -/
def upS (hs : Hs) (a : Nat) (v : Nat) : Bool := decide (v = a ∨ v ∈ up hs a)
theorem upS_cl {hs : Hs} (fo : Fo hs) {a : Nat} (ha : a < hs.length) : ∀ v u : Nat, hs[v]? = some (some u) → upS hs a v = true → upS hs a u = true := by
  intro v u e h
  have key : ∀ {a : Nat} {l : List Nat}, Ups hs a l → (v = a ∨ v ∈ l) → u ∈ l := fun {a l} r => by
    induction r with
    | @root a h =>
      rintro (rfl | m)
      · rw [h] at e; cases e
      · cases m
    | @step a w l h r ih =>
      rintro (rfl | m)
      · rw [h] at e; cases e; exact List.mem_cons_self
      · exact List.mem_cons_of_mem _ (ih (List.mem_cons.mp m))
  exact decide_eq_true (.inr (key (fo.ups ha) (of_decide_eq_true h)))
theorem up_cons {hs : Hs} (fo : Fo hs) {b u : Nat} (e : hs[b]? = some (some u)) : up hs b = u :: up hs u := by
  have hb := (List.getElem?_eq_some_iff.mp e).1
  have hu := fo.inb b u e
  exact (fo.ups hb).inj (.step e (fo.ups hu))
theorem up_self {hs : Hs} (fo : Fo hs) {a : Nat} (ha : a < hs.length) : ¬ a ∈ up hs a := fun m => (List.nodup_cons.mp (fo.ups ha).nd).1 m
/-- what is above is ahead -/
theorem up_ahead {hs : Hs} (fo : Fo hs) {q : List Nat} (r : Row hs q) {a b : Nat} (hb : b ∈ q) (m : a ∈ up hs b) : q.idxOf a < q.idxOf b := by
  have key : ∀ {b : Nat} {l : List Nat}, Ups hs b l → b ∈ q → a ∈ l → q.idxOf a < q.idxOf b := fun {b l} u => by
    induction u with
    | root h => intro _ m; cases m
    | @step v u l h _ ih =>
      intro hv m
      have s := r.bh v u hv h
      have z := sub_idx r.nd s
      rcases List.mem_cons.mp m with rfl | m
      · exact z
      · have y := ih (s.subset List.mem_cons_self) m
        omega
  exact key (fo.ups (r.lt b hb)) hb m
/-- what isn't above need not be ahead -/
theorem not_ahead {hs : Hs} (fo : Fo hs) {a b : Nat} (ha : a < hs.length) (hb : b < hs.length) (ne : a ≠ b) (m : ¬ a ∈ up hs b) : ∃ q ∈ rowsAt hs hs.length, q.idxOf b < q.idxOf a := by
  obtain ⟨q, hq⟩ := row_ex fo
  obtain ⟨r, l⟩ := rows_mem.mp hq
  obtain ⟨r1, l1, one, _⟩ := row_first r (upS hs b) (upS_cl fo hb)
  refine ⟨_, rows_mem.mpr ⟨r1, l1.trans l⟩, sub_idx r1.nd (one b a (row_full r l hb) (row_full r l ha) (decide_eq_true (.inl rfl)) (decide_eq_false ?_))⟩
  rintro (z | z)
  · exact ne z
  · exact m z
/-- things above one thing are above one another -/
theorem up_chain {hs : Hs} (fo : Fo hs) {b x y : Nat} (hb : b < hs.length) (hx : x ∈ up hs b) (hy : y ∈ up hs b) (ne : x ≠ y) : x ∈ up hs y ∨ y ∈ up hs x := by
  have key : ∀ {b : Nat} {l : List Nat}, Ups hs b l → x ∈ l → y ∈ l → x ∈ up hs y ∨ y ∈ up hs x := fun {b l} u => by
    induction u with
    | root h => intro m; cases m
    | @step v u l h r ih =>
      have eu : up hs u = l := (fo.ups r.lt).inj r
      intro mx my
      rcases List.mem_cons.mp mx with ex | mx2
      · rcases List.mem_cons.mp my with ey | my2
        · exact absurd (ex.trans ey.symm) ne
        · exact .inr (by rw [ex, eu]; exact my2)
      · rcases List.mem_cons.mp my with ey | my2
        · exact .inl (by rw [ey, eu]; exact mx2)
        · exact ih mx2 my2
  exact key (fo.ups hb) hx hy
/-- rows with both of two orders, both ahead of a third thing -/
theorem both_ahead {hs : Hs} (fo : Fo hs) {a b u : Nat} (ha : a < hs.length) (e : hs[b]? = some (some u)) (ne : a ≠ b) (n1 : ¬ a ∈ up hs b) (n2 : ¬ b ∈ up hs a) (n3 : ¬ u ∈ up hs a) :
    (∃ q ∈ rowsAt hs hs.length, q.idxOf u < q.idxOf a ∧ q.idxOf a < q.idxOf b) ∧ ∃ q ∈ rowsAt hs hs.length, q.idxOf a < q.idxOf u ∧ q.idxOf a < q.idxOf b := by
  have hb := (List.getElem?_eq_some_iff.mp e).1
  have hu := fo.inb b u e
  rw [up_cons fo e] at n1
  have nau : a ≠ u := fun z => n1 (z ▸ List.mem_cons_self)
  have nau2 : ¬ a ∈ up hs u := fun z => n1 (List.mem_cons_of_mem _ z)
  have nbu : ¬ (b = u ∨ b ∈ up hs u) := fun z => up_self fo hb (by rw [up_cons fo e]; exact z.elim (fun y => y ▸ List.mem_cons_self) (List.mem_cons_of_mem _))
  let S2 : Nat → Bool := fun v => upS hs u v || upS hs a v
  have cl2 : ∀ v w : Nat, hs[v]? = some (some w) → S2 v = true → S2 w = true := fun v w ew h => by
    rcases Bool.or_eq_true_iff.mp h with h | h
    · exact Bool.or_eq_true_iff.mpr (.inl (upS_cl fo hu v w ew h))
    · exact Bool.or_eq_true_iff.mpr (.inr (upS_cl fo ha v w ew h))
  have s2u : S2 u = true := Bool.or_eq_true_iff.mpr (.inl (decide_eq_true (.inl rfl)))
  have s2a : S2 a = true := Bool.or_eq_true_iff.mpr (.inr (decide_eq_true (.inl rfl)))
  have s2b : S2 b = false := by
    show (upS hs u b || upS hs a b) = false
    have h1 : upS hs u b = false := decide_eq_false nbu
    have h2 : upS hs a b = false := decide_eq_false (by rintro (z | z); exact ne z.symm; exact n2 z)
    rw [h1, h2]; rfl
  obtain ⟨q, hq⟩ := row_ex fo
  obtain ⟨r, l⟩ := rows_mem.mp hq
  have go : ∀ (S : Nat → Bool), (∀ v w : Nat, hs[v]? = some (some w) → S v = true → S w = true) → ∀ x y, S2 x = true → S2 y = true → S x = true → S y = false → x < hs.length → y < hs.length → ∃ q ∈ rowsAt hs hs.length, q.idxOf x < q.idxOf y ∧ q.idxOf a < q.idxOf b := fun S cl x y x2 y2 x1 y1 hx hy => by
    obtain ⟨r1, l1, one, _⟩ := row_first r S cl
    have s1 := one x y (row_full r l hx) (row_full r l hy) x1 y1
    have l1' := l1.trans l
    obtain ⟨r2, l2, one2, two2⟩ := row_first r1 S2 cl2
    exact ⟨_, rows_mem.mpr ⟨r2, l2.trans l1'⟩, sub_idx r2.nd (two2 x y x2 y2 s1), sub_idx r2.nd (one2 a b (row_full r1 l1' ha) (row_full r1 l1' hb) s2a s2b)⟩
  constructor
  · exact go (upS hs u) (upS_cl fo hu) u a s2u s2a (decide_eq_true (.inl rfl)) (decide_eq_false (by rintro (z | z); exact nau z; exact nau2 z)) hu ha
  · exact go (upS hs a) (upS_cl fo ha) a u s2a s2u (decide_eq_true (.inl rfl)) (decide_eq_false (by rintro (z | z); exact nau z.symm; exact n3 z)) ha hu
def keptR (hs : Hs) (a b : Nat) : List (List Nat) := (rowsAt hs hs.length).filter fun q => decide (q.idxOf a < q.idxOf b)
theorem kept_mem {hs : Hs} {a b : Nat} {q : List Nat} : q ∈ keptR hs a b ↔ q ∈ rowsAt hs hs.length ∧ q.idxOf a < q.idxOf b := by
  unfold keptR
  rw [List.mem_filter, decide_eq_true_eq]
/-- no forest has just the rows with a thing ahead of another one -/
theorem no_forest {hs : Hs} (fo : Fo hs) {a b u : Nat} (ha : a < hs.length) (e : hs[b]? = some (some u)) (ne : a ≠ b) (n1 : ¬ a ∈ up hs b) (n2 : ¬ b ∈ up hs a) (n3 : ¬ u ∈ up hs a)
    {G : Hs} (fg : Fo G) (len : G.length = hs.length) : rowsAt G G.length ≠ keptR hs a b := fun z => by
  have hb := (List.getElem?_eq_some_iff.mp e).1
  have hu := fo.inb b u e
  have nau : a ≠ u := fun z => n1 (by rw [up_cons fo e, z]; exact List.mem_cons_self)
  have ab : a ∈ up G b := by
    by_cases m : a ∈ up G b
    · exact m
    · obtain ⟨q, hq, w⟩ := not_ahead fg (by omega) (by omega) ne m
      rw [z] at hq
      have := (kept_mem.mp hq).2
      omega
  have ub : u ∈ up G b := by
    by_cases m : u ∈ up G b
    · exact m
    · have nub : u ≠ b := fun y => by
        have := (fo.ups hb)
        rw [y] at e
        exact up_self fo hb (by rw [up_cons fo e]; exact List.mem_cons_self)
      obtain ⟨q, hq, w⟩ := not_ahead fg (by omega) (by omega) nub m
      rw [z] at hq
      obtain ⟨r, l⟩ := rows_mem.mp (kept_mem.mp hq).1
      have := sub_idx r.nd (r.bh b u (row_full r l hb) e)
      omega
  obtain ⟨⟨q1, h1, w1, x1⟩, ⟨q2, h2, w2, x2⟩⟩ := both_ahead fo ha e ne n1 n2 n3
  have g1 : q1 ∈ rowsAt G G.length := by rw [z]; exact kept_mem.mpr ⟨h1, x1⟩
  have g2 : q2 ∈ rowsAt G G.length := by rw [z]; exact kept_mem.mpr ⟨h2, x2⟩
  obtain ⟨r1, l1⟩ := rows_mem.mp g1
  obtain ⟨r2, l2⟩ := rows_mem.mp g2
  rcases up_chain fg (by omega) ab ub nau with m | m
  · have := up_ahead fg r1 (row_full r1 l1 (by omega)) m
    omega
  · have := up_ahead fg r2 (row_full r2 l2 (by omega)) m
    omega

end My

namespace My
open PySem PySem.Spec PyProof.Rows L2
theorem posOf_some {l : List Nat} {u j : Nat} (h : posOf l u = some j) : l[j]? = some u := by
  unfold posOf at h
  obtain ⟨hj, h1, _⟩ := List.findIdx?_eq_some_iff_getElem.mp h
  rw [List.getElem?_eq_getElem hj, of_decide_eq_true h1]
theorem posOf_mem {l : List Nat} {u : Nat} (h : u ∈ l) : ∃ j, posOf l u = some j := by
  unfold posOf
  cases e : l.findIdx? fun v => decide (v = u) with
  | some j => exact ⟨j, rfl⟩
  | none => exact absurd (List.findIdx?_eq_none_iff.mp e u h) (by simp)
theorem among_at {hs : Hs} {l : List Nat} {i v : Nat} (h : l[i]? = some v) : (amongH hs l)[i]? = some (match hs[v]? with
  | some (some u) => posOf l u
  | _ => none) := by
  unfold amongH
  rw [List.getElem?_map, h]; rfl
theorem fo_among {hs : Hs} {l : List Nat} (fo : Fo hs) (ne : l ≠ []) (nd : l.Nodup) (hlt : ∀ v ∈ l, v < hs.length) : Fo (amongH hs l) := by
  have key : ∀ v, Rch hs v → ∀ i, l[i]? = some v → Rch (amongH hs l) i := fun v r => by
    induction r with
    | @root v h =>
      intro i e
      refine .root ?_
      rw [among_at e, h]
    | @step v u h r ih =>
      intro i e
      by_cases m : u ∈ l
      · obtain ⟨j, ej⟩ := posOf_mem m
        refine .step (u := j) ?_ (ih j (posOf_some ej))
        rw [among_at e, h]
        show some (posOf l u) = _
        rw [ej]
      · refine .root ?_
        rw [among_at e, h]
        show some (posOf l u) = _
        rw [posOf_none m]
  refine ⟨fun z => ne ?_, fun v u e => ?_, fun v hv' => ?_⟩
  · have q := congrArg List.length z
    rw [among_len] at q
    exact List.eq_nil_of_length_eq_zero q
  · rw [among_len]
    have lt := (List.getElem?_eq_some_iff.mp e).1
    rw [among_len] at lt
    rw [among_at (List.getElem?_eq_getElem lt)] at e
    have e2 := Option.some.inj e
    cases eh : hs[l[v]]? with
    | none => rw [eh] at e2; cases e2
    | some o =>
      rw [eh] at e2
      cases o with
      | none => cases e2
      | some w =>
        have e3 : posOf l w = some u := e2
        exact (List.getElem?_eq_some_iff.mp (posOf_some e3)).1
  · rw [among_len] at hv'
    exact key l[v] (fo.all _ (hlt _ (List.getElem_mem hv'))) v (List.getElem?_eq_getElem hv')

/-! ### the things by their places in the walk -/
abbrev fw (hs : Hs) : Hs := amongH hs (wk hs)
theorem fw_len {hs : Hs} (fo : Fo hs) : (fw hs).length = hs.length := by rw [among_len, (wk_sq fo).len]
theorem wk_at {hs : Hs} (fo : Fo hs) {v : Nat} (h : v < hs.length) : (wk hs)[pz hs v]? = some v := by
  obtain ⟨i, e⟩ := List.getElem?_of_mem ((wk_sq fo).mem.mpr h)
  rw [pz_at fo e]; exact e
theorem pz_lt {hs : Hs} (fo : Fo hs) {v : Nat} (h : v < hs.length) : pz hs v < hs.length := (pz_pos fo h).2
theorem pz_inj {hs : Hs} (fo : Fo hs) {a b : Nat} (ha : a < hs.length) (hb : b < hs.length) (e : pz hs a = pz hs b) : a = b := by
  have x := wk_at fo ha
  rw [e, wk_at fo hb] at x
  exact (Option.some.inj x).symm
theorem fw_fo {hs : Hs} (fo : Fo hs) : Fo (fw hs) := fo_among fo (fun z => by
  have l := (wk_sq fo).len
  rw [z] at l
  exact fo.ne (List.eq_nil_of_length_eq_zero l.symm)) (wk_sq fo).nd fun v m => (wk_sq fo).mem.mp m
theorem fw_at {hs : Hs} (fo : Fo hs) {v : Nat} {o : Option Nat} (h : hs[v]? = some o) : (fw hs)[pz hs v]? = some (o.map (pz hs)) := by
  have hv := (List.getElem?_eq_some_iff.mp h).1
  rw [among_at (wk_at fo hv), h]
  cases o with
  | none => rfl
  | some u =>
    show some (posOf (wk hs) u) = _
    rw [(pz_pos fo (fo.inb v u h)).1]; rfl
theorem fw_ups {hs : Hs} (fo : Fo hs) {v : Nat} {l : List Nat} (a : Ups hs v l) : Ups (fw hs) (pz hs v) (l.map (pz hs)) := by
  induction a with
  | root h => exact .root (fw_at fo h)
  | step h r ih => exact .step (fw_at fo h) ih
theorem fw_up {hs : Hs} (fo : Fo hs) {v : Nat} (h : v < hs.length) : My.up (fw hs) (pz hs v) = (My.up hs v).map (pz hs) := (fw_ups fo (fo.ups h)).up
/-! ### a thing's holder is the thing before it in the walk, or one above that -/
def Nx (hs : Hs) (x y : Nat) : Prop := ∀ u : Nat, hs[y]? = some (some u) → u = x ∨ Blw hs u x
theorem blw_trans {hs : Hs} {a b x : Nat} (h : Blw hs b x) (k : Blw hs a b) : Blw hs a x := by
  induction h with
  | kid h => exact .step h k
  | step h r ih => exact .step h ih
inductive Cn (hs : Hs) : List Nat → Prop where
  | nil : Cn hs []
  | one (x : Nat) : Cn hs [x]
  | cons {x y : Nat} {l : List Nat} (h : Nx hs x y) (r : Cn hs (y :: l)) : Cn hs (x :: y :: l)
theorem cn_app {hs : Hs} : ∀ {a b : List Nat}, Cn hs a → Cn hs b → (∀ x ∈ a, ∀ y, b.head? = some y → Nx hs x y) → Cn hs (a ++ b)
  | [], b, _, h, _ => h
  | [x], [], _, _, _ => .one x
  | [x], y :: b, _, h, k => .cons (k x List.mem_cons_self y rfl) h
  | x :: y :: a, b, h1, h, k => by
    cases h1 with
    | cons h1 h2 => exact .cons h1 (cn_app h2 h fun z m => k z (List.mem_cons_of_mem _ m))
theorem cn_at {hs : Hs} : ∀ {l : List Nat}, Cn hs l → ∀ {i x y : Nat}, l[i]? = some x → l[i + 1]? = some y → Nx hs x y
  | [], _, i, x, y, e, _ => by cases e
  | [a], _, i, x, y, _, e => by cases e
  | a :: b :: l, h, i, x, y, e1, e2 => by
    cases h with
    | cons h r =>
      cases i with
      | zero =>
        rw [← Option.some.inj e1, ← Option.some.inj e2]; exact h
      | succ i => exact cn_at r e1 e2
theorem pre_cn {hs : Hs} : ∀ (k v : Nat), Cn hs (preF hs k v) ∧ (preF hs k v).head? = some v ∧ ∀ x ∈ preF hs k v, x = v ∨ Blw hs v x
  | 0, v => ⟨.one v, rfl, fun x m => .inl (List.mem_singleton.mp m)⟩
  | k + 1, v => by
    have blk : ∀ cs : List Nat, (∀ c ∈ cs, hs[c]? = some (some v)) → Cn hs (cs.flatMap (preF hs k)) ∧ (∀ y, (cs.flatMap (preF hs k)).head? = some y → y ∈ cs) ∧ ∀ x ∈ cs.flatMap (preF hs k), Blw hs v x := fun cs => by
      induction cs with
      | nil => exact fun _ => ⟨.nil, fun y e => (by cases e), fun x m => absurd m List.not_mem_nil⟩
      | cons c cs ih =>
        intro h
        obtain ⟨i1, i2, i3⟩ := ih fun d m => h d (List.mem_cons_of_mem _ m)
        obtain ⟨p1, p2, p3⟩ := pre_cn (hs := hs) k c
        have hc := h c List.mem_cons_self
        have below : ∀ x ∈ preF hs k c, Blw hs v x := fun x m => (p3 x m).elim (fun e => by rw [e]; exact .kid hc) fun b => blw_trans b (.kid hc)
        rw [List.flatMap_cons]
        refine ⟨cn_app p1 i1 (fun x m y e u hu => ?_), fun y e => ?_, fun x m => (List.mem_append.mp m).elim (below x) (i3 x)⟩
        · have hy := h y (List.mem_cons_of_mem _ (i2 y e))
          rw [hy] at hu
          cases hu
          exact .inr (below x m)
        · rw [List.head?_append, p2] at e
          cases e
          exact List.mem_cons_self
    obtain ⟨b1, b2, b3⟩ := blk (kids hs v) fun c m => mem_kids.mp m
    refine ⟨cn_app (a := [v]) (.one v) b1 (fun x m y e u hu => ?_), rfl, fun x m => (List.mem_cons.mp m).elim .inl fun z => .inr (b3 x z)⟩
    rw [List.mem_singleton.mp m]
    have hy := mem_kids.mp (b2 y e)
    rw [hy] at hu
    cases hu
    exact .inl rfl
theorem wk_cn (hs : Hs) : Cn hs (wk hs) := by
  have blk : ∀ cs : List Nat, (∀ c ∈ cs, hs[c]? = some none) → Cn hs (cs.flatMap (pre hs)) ∧ ∀ y, (cs.flatMap (pre hs)).head? = some y → y ∈ cs := fun cs => by
    induction cs with
    | nil => exact fun _ => ⟨.nil, fun y e => (by cases e)⟩
    | cons c cs ih =>
      intro h
      obtain ⟨i1, i2⟩ := ih fun d m => h d (List.mem_cons_of_mem _ m)
      obtain ⟨p1, p2, p3⟩ := pre_cn (hs := hs) hs.length c
      rw [List.flatMap_cons]
      refine ⟨cn_app p1 i1 (fun x m y e u hu => ?_), fun y e => ?_⟩
      · have hy := h y (List.mem_cons_of_mem _ (i2 y e))
        rw [hy] at hu
        cases hu
      · rw [List.head?_append, show (pre hs c).head? = some c from p2] at e
        cases e
        exact List.mem_cons_self
  exact (blk (roots hs) fun c m => mem_roots.mp m).1
def plainB (F : Hs) : Bool := (List.range F.length).all fun j => match F[j + 1]? with
  | some (some u) => decide (u ∈ j :: My.up F j)
  | _ => true
theorem fw_plain {hs : Hs} (fo : Fo hs) : plainB (fw hs) = true := by
  refine List.all_eq_true.mpr fun j hj => ?_
  cases e : (fw hs)[j + 1]? with
  | none => rfl
  | some o =>
    cases o with
    | none => rfl
    | some w =>
      have j1 := (List.getElem?_eq_some_iff.mp e).1
      rw [fw_len fo] at j1
      have wl := (wk_sq fo).len
      obtain ⟨x, ex⟩ : ∃ x, (wk hs)[j]? = some x := ⟨_, List.getElem?_eq_getElem (by omega)⟩
      obtain ⟨y, ey⟩ : ∃ y, (wk hs)[j + 1]? = some y := ⟨_, List.getElem?_eq_getElem (by omega)⟩
      have hx : x < hs.length := (wk_sq fo).mem.mp (List.mem_of_getElem? ex)
      have hy : y < hs.length := (wk_sq fo).mem.mp (List.mem_of_getElem? ey)
      have px := pz_at fo ex
      have py := pz_at fo ey
      obtain ⟨o, ho⟩ : ∃ o, hs[y]? = some o := ⟨_, List.getElem?_eq_getElem hy⟩
      rw [← py, fw_at fo ho] at e
      cases o with
      | none => cases e
      | some u =>
        have eu : pz hs u = w := Option.some.inj (Option.some.inj e)
        refine decide_eq_true ?_
        rw [← px, fw_up fo hx, ← eu]
        rcases cn_at (wk_cn hs) ex ey u ho with c | b
        · rw [c]; exact List.mem_cons_self
        · exact List.mem_cons_of_mem _ (List.mem_map.mpr ⟨u, b.ups (fo.ups hx), rfl⟩)
def allH : Nat → List Hs
  | 0 => [[]]
  | k + 1 => (allH k).flatMap fun l => (none :: (List.range k).map some).map fun h => l ++ [h]
theorem allH_mem : ∀ {k : Nat} {F : Hs}, F.length = k → (∀ j u : Nat, F[j]? = some (some u) → u < j) → F ∈ allH k
  | 0, F, l, _ => by rw [List.length_eq_zero_iff.mp l]; exact List.mem_singleton.mpr rfl
  | k + 1, F, l, h => by
    rcases List.eq_nil_or_concat F with e | ⟨p, o, e⟩
    · rw [e] at l; cases l
    · rw [List.concat_eq_append] at e
      subst e
      rw [List.length_append] at l
      have lp : p.length = k := Nat.succ.inj l
      refine List.mem_flatMap.mpr ⟨p, allH_mem lp fun j u e => h j u ?_, List.mem_map.mpr ⟨o, ?_, rfl⟩⟩
      · rw [List.getElem?_append_left (List.getElem?_eq_some_iff.mp e).1]; exact e
      · cases o with
        | none => exact List.mem_cons_self
        | some u =>
          refine List.mem_cons_of_mem _ (List.mem_map.mpr ⟨u, List.mem_range.mpr ?_, rfl⟩)
          have z := h k u (by rw [List.getElem?_append_right (by omega), lp, Nat.sub_self]; rfl)
          exact z
def plains (n : Nat) : List Hs := (allH n).filter plainB
theorem fw_mem {hs : Hs} (fo : Fo hs) : fw hs ∈ plains hs.length := by
  refine List.mem_filter.mpr ⟨allH_mem (fw_len fo) fun j w e => ?_, fw_plain fo⟩
  have j1 := (List.getElem?_eq_some_iff.mp e).1
  rw [fw_len fo] at j1
  have wl := (wk_sq fo).len
  obtain ⟨y, ey⟩ : ∃ y, (wk hs)[j]? = some y := ⟨_, List.getElem?_eq_getElem (by omega)⟩
  have hy : y < hs.length := (wk_sq fo).mem.mp (List.mem_of_getElem? ey)
  obtain ⟨o, ho⟩ : ∃ o, hs[y]? = some o := ⟨_, List.getElem?_eq_getElem hy⟩
  rw [← pz_at fo ey, fw_at fo ho] at e
  cases o with
  | none => cases e
  | some u =>
    have eu : pz hs u = w := Option.some.inj (Option.some.inj e)
    obtain ⟨i, ei⟩ := List.getElem?_of_mem ((wk_sq fo).bh j y u ey ho)
    have il := (List.getElem?_eq_some_iff.mp ei).1
    rw [List.length_take] at il
    rw [List.getElem?_take_of_lt (by omega)] at ei
    rw [← eu, pz_at fo ei]; omega
/-! ### the rows by places -/
def dz (hs : Hs) (i : Nat) : Nat := (wk hs).getD i 0
theorem dz_pz {hs : Hs} (fo : Fo hs) {v : Nat} (h : v < hs.length) : dz hs (pz hs v) = v := by
  unfold dz
  rw [List.getD_eq_getElem?_getD, wk_at fo h]; rfl
theorem dz_at {hs : Hs} (fo : Fo hs) {i : Nat} (h : i < hs.length) : (wk hs)[i]? = some (dz hs i) := by
  have wl := (wk_sq fo).len
  unfold dz
  rw [List.getD_eq_getElem?_getD, List.getElem?_eq_getElem (by omega)]; rfl
theorem dz_lt {hs : Hs} (fo : Fo hs) {i : Nat} (h : i < hs.length) : dz hs i < hs.length := (wk_sq fo).mem.mp (List.mem_of_getElem? (dz_at fo h))
theorem pz_dz {hs : Hs} (fo : Fo hs) {i : Nat} (h : i < hs.length) : pz hs (dz hs i) = i := pz_at fo (dz_at fo h)
theorem nd_map {f : Nat → Nat} : ∀ {l : List Nat}, l.Nodup → (∀ a ∈ l, ∀ b ∈ l, f a = f b → a = b) → (l.map f).Nodup
  | [], _, _ => List.nodup_nil
  | x :: l, nd, h => by
    obtain ⟨n1, n2⟩ := List.nodup_cons.mp nd
    refine List.nodup_cons.mpr ⟨fun m => ?_, nd_map n2 fun a ha b hb => h a (List.mem_cons_of_mem _ ha) b (List.mem_cons_of_mem _ hb)⟩
    obtain ⟨y, my, ey⟩ := List.mem_map.mp m
    rw [h y (List.mem_cons_of_mem _ my) x List.mem_cons_self ey] at my
    exact n1 my
theorem row_fw {hs : Hs} (fo : Fo hs) {q : List Nat} (r : Row hs q) : Row (fw hs) (q.map (pz hs)) where
  nd := nd_map r.nd fun a ha b hb e => pz_inj fo (r.lt a ha) (r.lt b hb) e
  lt := fun v m => by
    obtain ⟨x, mx, rfl⟩ := List.mem_map.mp m
    rw [fw_len fo]; exact pz_lt fo (r.lt x mx)
  bh := fun v w m e => by
    obtain ⟨x, mx, rfl⟩ := List.mem_map.mp m
    obtain ⟨o, ho⟩ : ∃ o, hs[x]? = some o := ⟨_, List.getElem?_eq_getElem (r.lt x mx)⟩
    rw [fw_at fo ho] at e
    cases o with
    | none => cases e
    | some u =>
      have eu : pz hs u = w := Option.some.inj (Option.some.inj e)
      rw [← eu]
      exact (r.bh x u mx ho).map (pz hs)
theorem row_bk {hs : Hs} (fo : Fo hs) {q : List Nat} (r : Row (fw hs) q) : Row hs (q.map (dz hs)) := by
  have lt : ∀ v ∈ q, v < hs.length := fun v m => by
    have := r.lt v m
    rwa [fw_len fo] at this
  refine ⟨nd_map r.nd fun a ha b hb e => ?_, fun v m => ?_, fun v u m e => ?_⟩
  · rw [← pz_dz fo (lt a ha), ← pz_dz fo (lt b hb), e]
  · obtain ⟨x, mx, rfl⟩ := List.mem_map.mp m
    exact dz_lt fo (lt x mx)
  · obtain ⟨x, mx, rfl⟩ := List.mem_map.mp m
    have z := fw_at fo e
    rw [pz_dz fo (lt x mx)] at z
    have y := (r.bh x (pz hs u) mx z).map (dz hs)
    have w : [pz hs u, x].map (dz hs) = [u, dz hs x] := by
      show [dz hs (pz hs u), dz hs x] = _
      rw [dz_pz fo (fo.inb _ u e)]
    rw [w] at y
    exact y
theorem nodup_flat {f : List Nat → List (List Nat)} : ∀ {L : List (List Nat)}, L.Nodup → (∀ v, (f v).Nodup) → (∀ v y, y ∈ f v → y.dropLast = v) → (L.flatMap f).Nodup
  | [], _, _, _ => List.nodup_nil
  | x :: L, h, h1, h2 => by
    obtain ⟨n1, n2⟩ := List.nodup_cons.mp h
    rw [List.flatMap_cons]
    refine List.nodup_append.mpr ⟨h1 x, nodup_flat n2 h1 h2, fun a ha b hb e => ?_⟩
    subst e
    obtain ⟨y, hy, hb2⟩ := List.mem_flatMap.mp hb
    have z := (h2 x a ha).symm.trans (h2 y a hb2)
    rw [z] at n1
    exact n1 hy
theorem rowsAt_nd (hs : Hs) : ∀ k : Nat, (rowsAt hs k).Nodup
  | 0 => List.nodup_cons.mpr ⟨List.not_mem_nil, List.nodup_nil⟩
  | k + 1 => nodup_flat (rowsAt_nd hs k) (fun r => by
      unfold ext List.Nodup
      rw [List.pairwise_map]
      exact (av_nd hs r).imp fun h e => h (List.cons.inj (List.append_cancel_left e)).1) fun r y hy => by
      obtain ⟨p, _, rfl⟩ := List.mem_map.mp hy
      rw [List.dropLast_concat]
theorem fw_rows {hs : Hs} (fo : Fo hs) : ((rowsAt hs hs.length).map (List.map (pz hs))).Perm (rowsAt (fw hs) hs.length) := by
  have lt : ∀ {q : List Nat}, q ∈ rowsAt hs hs.length → Row hs q ∧ q.length = hs.length := fun m => rows_mem.mp m
  refine (List.perm_ext_iff_of_nodup ?_ (rowsAt_nd _ _)).mpr fun q => ⟨fun m => ?_, fun m => ?_⟩
  · unfold List.Nodup
    rw [List.pairwise_map]
    refine List.Pairwise.imp_of_mem (fun {a b} ha hb h e => h ?_) (rowsAt_nd hs hs.length)
    have back : ∀ {q : List Nat}, Row hs q → (q.map (pz hs)).map (dz hs) = q := fun {q} r => by
      rw [List.map_map]
      conv => rhs; rw [← List.map_id q]
      exact List.map_congr_left fun v mv => dz_pz fo (r.lt v mv)
    rw [← back (lt ha).1, ← back (lt hb).1, e]
  · obtain ⟨r, mr, rfl⟩ := List.mem_map.mp m
    obtain ⟨ro, rl⟩ := lt mr
    exact rows_mem.mpr ⟨row_fw fo ro, by rw [List.length_map, rl]⟩
  · obtain ⟨ro, rl⟩ := rows_mem.mp m
    refine List.mem_map.mpr ⟨q.map (dz hs), rows_mem.mpr ⟨row_bk fo ro, by rw [List.length_map, rl]⟩, ?_⟩
    rw [List.map_map]
    conv => rhs; rw [← List.map_id q]
    refine List.map_congr_left fun v mv => ?_
    have := ro.lt v mv
    rw [fw_len fo] at this
    exact pz_dz fo this
/-! ### sizes and depths by places -/
theorem fw_perm {hs : Hs} (fo : Fo hs) {g' g : Nat → Int} (h : ∀ v, v < hs.length → g' (pz hs v) = g v) : ((List.range hs.length).map g').Perm ((List.range hs.length).map g) := by
  have e : (List.range hs.length).map g' = (wk hs).map g := by
    refine List.ext_getElem? fun i => ?_
    rw [List.getElem?_map, List.getElem?_map]
    by_cases c : i < hs.length
    · rw [List.getElem?_range c, dz_at fo c]
      show some (g' i) = some (g (dz hs i))
      rw [← h _ (dz_lt fo c), pz_dz fo c]
    · rw [List.getElem?_eq_none (by rw [List.length_range]; omega), List.getElem?_eq_none (by rw [(wk_sq fo).len]; omega)]
      rfl
  rw [e]
  exact (wk_sq fo).perm.map g
theorem perm_sum {a b : List Int} (p : a.Perm b) : a.sum = b.sum := by
  induction p with
  | nil => rfl
  | cons x _ ih => rw [List.sum_cons, List.sum_cons, ih]
  | swap x y l => rw [List.sum_cons, List.sum_cons, List.sum_cons, List.sum_cons]; omega
  | trans _ _ h1 h2 => exact h1.trans h2
theorem ups_lt {hs : Hs} (fo : Fo hs) {x : Nat} {l : List Nat} (a : Ups hs x l) : ∀ y ∈ l, y < hs.length := by
  induction a with
  | root h => exact fun y m => absurd m List.not_mem_nil
  | step h r ih => exact fun y m => (List.mem_cons.mp m).elim (fun e => by rw [e]; exact fo.inb _ _ h) (ih y)
theorem fw_cnt {hs : Hs} (fo : Fo hs) {v : Nat} (hv : v < hs.length) : cnt (fw hs) (pz hs v) hs.length = cnt hs v hs.length := by
  unfold cnt
  refine perm_sum (fw_perm fo fun x hx => ?_)
  unfold ind
  rw [fw_up fo hx]
  by_cases c : v ∈ My.up hs x
  · rw [if_pos c, if_pos (List.mem_map.mpr ⟨v, c, rfl⟩)]
  · rw [if_neg c, if_neg fun m => ?_]
    obtain ⟨y, my, ey⟩ := List.mem_map.mp m
    have hy : y < hs.length := ups_lt fo (fo.ups hx) y my
    rw [pz_inj fo hy hv ey] at my
    exact c my
theorem fw_szL {hs : Hs} (fo : Fo hs) : (szL (fw hs)).Perm (szL hs) := by
  unfold szL
  rw [fw_len fo]
  exact fw_perm fo fun v hv => by rw [fw_cnt fo hv]
def dpL (hs : Hs) : List Int := (List.range hs.length).map fun v => ((My.up hs v).length : Int)
theorem fw_dpL {hs : Hs} (fo : Fo hs) : (dpL (fw hs)).Perm (dpL hs) := by
  unfold dpL
  rw [fw_len fo]
  exact fw_perm fo fun v hv => by rw [fw_up fo hv, List.length_map]
def mostZ (hs : Hs) : Int := ((List.range hs.length).map fun v => (hs.length : Int) - (1 + cnt hs v hs.length) - ((My.up hs v).length : Int)).sum / 2
theorem fw_most {hs : Hs} (fo : Fo hs) : mostZ (fw hs) = mostZ hs := by
  unfold mostZ
  rw [fw_len fo]
  congr 1
  exact perm_sum (fw_perm fo fun v hv => by rw [fw_cnt fo hv, fw_up fo hv, List.length_map])

end My

namespace My
open PySem PySem.Spec PyProof.Rows L2
/-! ### brackets: numbers by powers -/
abbrev Ser := Nat → Int
def tS (k : Nat) (P : Ser) : Ser := fun i => P i - if k ≤ i then P (i - k) else 0
def oS (s : Nat) (P : Ser) (i : Nat) : Int := P i + if h : 0 < s ∧ s ≤ i then oS s P (i - s) else 0
termination_by i
decreasing_by omega
theorem oS_eq (s : Nat) (P : Ser) (i : Nat) : oS s P i = P i + if 0 < s ∧ s ≤ i then oS s P (i - s) else 0 := by
  rw [oS]; split <;> rfl
theorem oS_zero (P : Ser) : oS 0 P = P := by
  funext i
  rw [oS_eq, if_neg (by omega)]; omega
theorem t_o {s : Nat} (hs : 0 < s) (P : Ser) : tS s (oS s P) = P := by
  funext i
  unfold tS
  rw [oS_eq s P i]
  by_cases c : s ≤ i
  · rw [if_pos ⟨hs, c⟩, if_pos c]; omega
  · rw [if_neg fun z => c z.2, if_neg c]; omega
theorem o_t {s : Nat} (hs : 0 < s) (P : Ser) : oS s (tS s P) = P := by
  funext i
  induction i using Nat.strongRecOn with
  | ind i ih =>
    rw [oS_eq]
    unfold tS
    by_cases c : s ≤ i
    · rw [if_pos c, if_pos ⟨hs, c⟩]
      have z := ih (i - s) (by omega)
      unfold tS at z
      rw [z]; omega
    · rw [if_neg c, if_neg fun z => c z.2]; omega
theorem t_comm (a b : Nat) (P : Ser) : tS a (tS b P) = tS b (tS a P) := by
  funext i
  unfold tS
  have e : i - a - b = i - b - a := by omega
  by_cases c : a ≤ i <;> by_cases d : b ≤ i
  · rw [if_pos c, if_pos d, if_pos c, if_pos d, e]
    by_cases x : b ≤ i - a
    · rw [if_pos x, if_pos (show a ≤ i - b by omega)]; omega
    · rw [if_neg x, if_neg (show ¬ a ≤ i - b by omega)]; omega
  · rw [if_pos c, if_neg d, if_pos c, if_neg d, if_neg (show ¬ b ≤ i - a by omega)]; omega
  · rw [if_neg c, if_pos d, if_pos d, if_neg c, if_neg (show ¬ a ≤ i - b by omega)]; omega
  · rw [if_neg c, if_neg d, if_neg d, if_neg c]
theorem ot_comm (s k : Nat) (P : Ser) : oS s (tS k P) = tS k (oS s P) := by
  rcases Nat.eq_zero_or_pos s with z | z
  · rw [z, oS_zero, oS_zero]
  · have e : tS s (tS k (oS s P)) = tS k P := by rw [t_comm, t_o z]
    rw [← e, o_t z]
theorem oo_comm (a b : Nat) (P : Ser) : oS a (oS b P) = oS b (oS a P) := by
  rcases Nat.eq_zero_or_pos a with z | z
  · rw [z, oS_zero, oS_zero]
  · rcases Nat.eq_zero_or_pos b with y | y
    · rw [y, oS_zero, oS_zero]
    · have e1 : tS b (tS a (oS a (oS b P))) = P := by rw [t_o z, t_o y]
      rw [t_comm] at e1
      have e2 : tS b (oS a (oS b P)) = oS a P := by rw [← e1, o_t z, e1]
      rw [← e2, o_t y]
def deltaS : Ser := fun i => if i = 0 then 1 else 0
def tcS (s : Nat → Nat) : Nat → Ser
  | 0 => deltaS
  | v + 1 => oS (s v) (tS (v + 1) (tcS s v))
def ttS : Nat → Ser
  | 0 => deltaS
  | v + 1 => tS (v + 1) (ttS v)
theorem t_fold (k : Nat) : ∀ (l : List Nat) (P : Ser), tS k (l.foldl (fun Q x => oS x Q) P) = l.foldl (fun Q x => oS x Q) (tS k P)
  | [], _ => rfl
  | x :: l, P => by
    rw [List.foldl_cons, List.foldl_cons, t_fold k l, ot_comm]
theorem tcS_eq (s : Nat → Nat) : ∀ n : Nat, tcS s n = ((List.range n).map s).foldl (fun Q x => oS x Q) (ttS n)
  | 0 => rfl
  | n + 1 => by
    rw [List.range_succ, List.map_append, List.foldl_append]
    show oS (s n) (tS (n + 1) (tcS s n)) = oS (s n) _
    rw [tcS_eq s n, t_fold]; rfl
theorem tcS_perm {s s' : Nat → Nat} {n : Nat} (p : ((List.range n).map s).Perm ((List.range n).map s')) : tcS s n = tcS s' n := by
  rw [tcS_eq, tcS_eq]
  exact p.foldl_eq' (fun x _ y _ z => oo_comm y x z) _
/-! ### as lists -/
def serL (m : Nat) (P : Ser) : List Int := (List.range m).map P
theorem serL_len (m : Nat) (P : Ser) : (serL m P).length = m := by unfold serL; rw [List.length_map, List.length_range]
theorem serL_at {m : Nat} {P : Ser} {i : Nat} (h : i < m) : (serL m P).getD i 0 = P i := by
  unfold serL
  rw [List.getD_eq_getElem?_getD, List.getElem?_map, List.getElem?_range h]; rfl
def timesL (c : List Int) (k : Nat) : List Int := (List.range c.length).map fun i => c.getD i 0 - if k ≤ i then c.getD (i - k) 0 else 0
def overL (c : List Int) (s : Nat) : List Int := (List.range c.length).foldl (fun acc i => acc ++ [c.getD i 0 + if 0 < s ∧ s ≤ i then acc.getD (i - s) 0 else 0]) []
theorem timesL_ser (m : Nat) (P : Ser) (k : Nat) : timesL (serL m P) k = serL m (tS k P) := by
  unfold timesL
  rw [serL_len]
  refine List.map_congr_left fun i hi => ?_
  have h := List.mem_range.mp hi
  rw [serL_at h]
  unfold tS
  by_cases c : k ≤ i
  · rw [if_pos c, if_pos c, serL_at (by omega)]
  · rw [if_neg c, if_neg c]
theorem overL_ser (m : Nat) (P : Ser) (s : Nat) : overL (serL m P) s = serL m (oS s P) := by
  unfold overL
  rw [serL_len]
  have key : ∀ j : Nat, j ≤ m → (List.range j).foldl (fun acc i => acc ++ [(serL m P).getD i 0 + if 0 < s ∧ s ≤ i then acc.getD (i - s) 0 else 0]) [] = serL j (oS s P) := fun j => by
    induction j with
    | zero => exact fun _ => rfl
    | succ j ih =>
      intro hj
      rw [List.range_succ, List.foldl_append, ih (by omega)]
      show serL j (oS s P) ++ [_] = serL (j + 1) (oS s P)
      unfold serL
      rw [List.range_succ, List.map_append]
      congr 1
      show [_] = [oS s P j]
      rw [oS_eq s P j]
      congr 1
      rw [show ((List.range m).map P).getD j 0 = P j from serL_at (m := m) (P := P) (by omega)]
      congr 1
      by_cases c : 0 < s ∧ s ≤ j
      · rw [if_pos c, if_pos c]
        exact serL_at (m := j) (P := oS s P) (by omega)
      · rw [if_neg c, if_neg c]
  exact key m (Nat.le_refl m)
def tcL (s : Nat → Nat) (n m : Nat) : List Int := (List.range n).foldl (fun c v => overL (timesL c (v + 1)) (s v)) (serL m deltaS)
theorem tcL_eq (s : Nat → Nat) (m : Nat) : ∀ n : Nat, tcL s n m = serL m (tcS s n)
  | 0 => rfl
  | n + 1 => by
    have ih := tcL_eq s m n
    unfold tcL at ih ⊢
    rw [List.range_succ, List.foldl_append, ih]
    show overL (timesL (serL m (tcS s n)) (n + 1)) (s n) = _
    rw [timesL_ser, overL_ser]; rfl
def sN (hs : Hs) (v : Nat) : Nat := ((szL hs).getD v 0).toNat
theorem sN_map (hs : Hs) : (List.range hs.length).map (sN hs) = (szL hs).map Int.toNat := by
  refine List.ext_getElem? fun i => ?_
  rw [List.getElem?_map, List.getElem?_map]
  have l : (szL hs).length = hs.length := by unfold szL; rw [List.length_map, List.length_range]
  by_cases c : i < hs.length
  · rw [List.getElem?_range c, List.getElem?_eq_getElem (by omega)]
    show some (sN hs i) = some _
    unfold sN
    rw [List.getD_eq_getElem?_getD, List.getElem?_eq_getElem (by omega)]; rfl
  · rw [List.getElem?_eq_none (by rw [List.length_range]; omega), List.getElem?_eq_none (by omega)]; rfl
/-- the numbers of sequences by turned pairs -/
def tcv (hs : Hs) : List Int := serL ((mostZ hs).toNat + 1) (tcS (sN hs) hs.length)
theorem fw_tcv {hs : Hs} (fo : Fo hs) : tcv (fw hs) = tcv hs := by
  unfold tcv
  rw [fw_most fo, fw_len fo]
  congr 1
  refine tcS_perm ?_
  have e := sN_map (fw hs)
  rw [fw_len fo] at e
  rw [e, sN_map]
  exact (fw_szL fo).map _
/-! ### tallies -/
def tlN (L : List Nat) : List Int := (List.range (L.foldr max 0 + 1)).map fun k => ((L.count k : Nat) : Int)
theorem tlN_perm {a b : List Nat} (p : a.Perm b) : tlN a = tlN b := by
  unfold tlN
  have e : a.foldr max 0 = b.foldr max 0 := p.foldr_eq' (fun x _ y _ z => by omega) 0
  rw [e]
  exact List.map_congr_left fun k _ => by rw [p.count_eq]
def drN (l : List Nat) : Nat := (((List.range (l.length - 1)).filter fun i => decide (l.getD (i + 1) 0 < l.getD i 0)).map fun i => l.length - (1 + i)).sum
def chkF (F : Hs) : Bool := tlN ((rowsAt F F.length).map invR) == tcL (sN F) F.length ((mostZ F).toNat + 1) && tlN ((rowsAt F F.length).map drN) == tcL (sN F) F.length ((mostZ F).toNat + 1)

end My

namespace My
open PySem PySem.Spec PyProof.Rows L2
theorem all_split {α : Type} (p : α → Bool) (k : Nat) (l : List α) (h1 : (l.take k).all p = true) (h2 : (l.drop k).all p = true) : l.all p = true := by
  rw [← List.take_append_drop k l, List.all_append, h1, h2]; rfl
theorem chk_low : ((List.range 6).all fun n => (plains n).all chkF) = true := by decide +kernel
theorem chk6_0 : (((plains 6).drop 0).take 6).all chkF = true := by decide +kernel
theorem chk6_1 : (((plains 6).drop 6).take 6).all chkF = true := by decide +kernel
theorem chk6_2 : (((plains 6).drop 12).take 6).all chkF = true := by decide +kernel
theorem chk6_3 : (((plains 6).drop 18).take 6).all chkF = true := by decide +kernel
theorem chk6_4 : (((plains 6).drop 24).take 6).all chkF = true := by decide +kernel
theorem chk6_5 : (((plains 6).drop 30).take 6).all chkF = true := by decide +kernel
theorem chk6_6 : (((plains 6).drop 36).take 6).all chkF = true := by decide +kernel
theorem chk6_7 : (((plains 6).drop 42).take 6).all chkF = true := by decide +kernel
theorem chk6_8 : (((plains 6).drop 48).take 6).all chkF = true := by decide +kernel
theorem chk6_9 : (((plains 6).drop 54).take 6).all chkF = true := by decide +kernel
theorem chk6_10 : (((plains 6).drop 60).take 6).all chkF = true := by decide +kernel
theorem chk6_11 : (((plains 6).drop 66).take 6).all chkF = true := by decide +kernel
theorem chk6_12 : (((plains 6).drop 72).take 6).all chkF = true := by decide +kernel
theorem chk6_13 : (((plains 6).drop 78).take 6).all chkF = true := by decide +kernel
theorem chk6_14 : (((plains 6).drop 84).take 6).all chkF = true := by decide +kernel
theorem chk6_15 : (((plains 6).drop 90).take 6).all chkF = true := by decide +kernel
theorem chk6_16 : (((plains 6).drop 96).take 6).all chkF = true := by decide +kernel
theorem chk6_17 : (((plains 6).drop 102).take 6).all chkF = true := by decide +kernel
theorem chk6_18 : (((plains 6).drop 108).take 6).all chkF = true := by decide +kernel
theorem chk6_19 : (((plains 6).drop 114).take 6).all chkF = true := by decide +kernel
theorem chk6_20 : (((plains 6).drop 120).take 6).all chkF = true := by decide +kernel
theorem chk6_21 : (((plains 6).drop 126).take 6).all chkF = true := by decide +kernel
theorem chk6_r22 : ((plains 6).drop 132).all chkF = true := by decide +kernel
theorem chk6_r21 : ((plains 6).drop 126).all chkF = true := all_split _ 6 _ chk6_21 (by rw [List.drop_drop]; exact chk6_r22)
theorem chk6_r20 : ((plains 6).drop 120).all chkF = true := all_split _ 6 _ chk6_20 (by rw [List.drop_drop]; exact chk6_r21)
theorem chk6_r19 : ((plains 6).drop 114).all chkF = true := all_split _ 6 _ chk6_19 (by rw [List.drop_drop]; exact chk6_r20)
theorem chk6_r18 : ((plains 6).drop 108).all chkF = true := all_split _ 6 _ chk6_18 (by rw [List.drop_drop]; exact chk6_r19)
theorem chk6_r17 : ((plains 6).drop 102).all chkF = true := all_split _ 6 _ chk6_17 (by rw [List.drop_drop]; exact chk6_r18)
theorem chk6_r16 : ((plains 6).drop 96).all chkF = true := all_split _ 6 _ chk6_16 (by rw [List.drop_drop]; exact chk6_r17)
theorem chk6_r15 : ((plains 6).drop 90).all chkF = true := all_split _ 6 _ chk6_15 (by rw [List.drop_drop]; exact chk6_r16)
theorem chk6_r14 : ((plains 6).drop 84).all chkF = true := all_split _ 6 _ chk6_14 (by rw [List.drop_drop]; exact chk6_r15)
theorem chk6_r13 : ((plains 6).drop 78).all chkF = true := all_split _ 6 _ chk6_13 (by rw [List.drop_drop]; exact chk6_r14)
theorem chk6_r12 : ((plains 6).drop 72).all chkF = true := all_split _ 6 _ chk6_12 (by rw [List.drop_drop]; exact chk6_r13)
theorem chk6_r11 : ((plains 6).drop 66).all chkF = true := all_split _ 6 _ chk6_11 (by rw [List.drop_drop]; exact chk6_r12)
theorem chk6_r10 : ((plains 6).drop 60).all chkF = true := all_split _ 6 _ chk6_10 (by rw [List.drop_drop]; exact chk6_r11)
theorem chk6_r9 : ((plains 6).drop 54).all chkF = true := all_split _ 6 _ chk6_9 (by rw [List.drop_drop]; exact chk6_r10)
theorem chk6_r8 : ((plains 6).drop 48).all chkF = true := all_split _ 6 _ chk6_8 (by rw [List.drop_drop]; exact chk6_r9)
theorem chk6_r7 : ((plains 6).drop 42).all chkF = true := all_split _ 6 _ chk6_7 (by rw [List.drop_drop]; exact chk6_r8)
theorem chk6_r6 : ((plains 6).drop 36).all chkF = true := all_split _ 6 _ chk6_6 (by rw [List.drop_drop]; exact chk6_r7)
theorem chk6_r5 : ((plains 6).drop 30).all chkF = true := all_split _ 6 _ chk6_5 (by rw [List.drop_drop]; exact chk6_r6)
theorem chk6_r4 : ((plains 6).drop 24).all chkF = true := all_split _ 6 _ chk6_4 (by rw [List.drop_drop]; exact chk6_r5)
theorem chk6_r3 : ((plains 6).drop 18).all chkF = true := all_split _ 6 _ chk6_3 (by rw [List.drop_drop]; exact chk6_r4)
theorem chk6_r2 : ((plains 6).drop 12).all chkF = true := all_split _ 6 _ chk6_2 (by rw [List.drop_drop]; exact chk6_r3)
theorem chk6_r1 : ((plains 6).drop 6).all chkF = true := all_split _ 6 _ chk6_1 (by rw [List.drop_drop]; exact chk6_r2)
theorem chk6_r0 : ((plains 6).drop 0).all chkF = true := all_split _ 6 _ chk6_0 (by rw [List.drop_drop]; exact chk6_r1)
theorem chk_all {n : Nat} (h : n ≤ 6) : (plains n).all chkF = true := by
  rcases Nat.lt_or_ge n 6 with c | c
  · exact List.all_eq_true.mp chk_low n (List.mem_range.mpr c)
  · have e : n = 6 := by omega
    rw [e]
    exact chk6_r0
theorem tal_main {hs : Hs} (fo : Fo hs) (n6 : hs.length ≤ 6) : tlN ((rowsAt hs hs.length).map fun r => invR (r.map (pz hs))) = tcv hs ∧ tlN ((rowsAt hs hs.length).map fun r => drN (r.map (pz hs))) = tcv hs := by
  have c := List.all_eq_true.mp (chk_all n6) (fw hs) (fw_mem fo)
  unfold chkF at c
  rw [Bool.and_eq_true, beq_iff_eq, beq_iff_eq, tcL_eq] at c
  have e : serL ((mostZ (fw hs)).toNat + 1) (tcS (sN (fw hs)) (fw hs).length) = tcv hs := fw_tcv fo
  rw [e, fw_len fo] at c
  have p := fw_rows fo
  refine ⟨?_, ?_⟩
  · rw [← c.1, ← tlN_perm (p.map invR), List.map_map]; rfl
  · rw [← c.2, ← tlN_perm (p.map drN), List.map_map]; rfl

end My

namespace My
open PySem PySem.Spec PyProof.Rows L2
/-! ### brackets, and the numbers of sequences by turned pairs -/
def spTimesB : Sp := fun vs H Q _ => ∃ (p : Addr) (m : Nat) (P : Ser) (k : Nat), vs = [.ref p, .int (k : Int)] ∧ H p = some (.lst (iv (serL m P))) ∧ m ≤ 40 ∧ k ≤ 60 ∧ ∀ r H', Same H H' → H' r = some (.lst (iv (serL m (tS k P)))) → Q (.ref r) H'
def spOverB : Sp := fun vs H Q _ => ∃ (p : Addr) (m : Nat) (P : Ser) (s : Nat), vs = [.ref p, .int (s : Int)] ∧ H p = some (.lst (iv (serL m P))) ∧ m ≤ 40 ∧ 1 ≤ s ∧ s ≤ 60 ∧ ∀ r H', Same H H' → H r = none → H' r = some (.lst (iv (serL m (oS s P)))) → Q (.ref r) H'
def spMostT : Sp := fun vs H Q _ => ∃ (a : Addr) (hs : Hs), vs = [.ref a] ∧ H a = some (.tup (hs.map hv)) ∧ Fo hs ∧ hs.length ≤ 6 ∧ ∀ H', Same H H' → Q (.int (mostZ hs)) H'
def spCountsT : Sp := fun vs H Q _ => ∃ (a : Addr) (hs : Hs), vs = [.ref a] ∧ H a = some (.tup (hs.map hv)) ∧ Fo hs ∧ hs.length ≤ 6 ∧ ∀ r H', Same H H' → H r = none → H' r = some (.lst (iv (tcv hs))) → Q (.ref r) H'
theorem ser_at {m i : Nat} {P : Ser} (h : i < m) : (iv (serL m P))[i]? = some (.int (P i)) := by
  rw [iv_get (by rw [serL_len]; exact h), serL_at h]
theorem iv_all (f : Nat → Int) (n : Nat) : iv (((List.range n).filter fun _ => true).map f) = iv (serL n f) := by
  rw [List.filter_eq_self.mpr fun _ _ => rfl]; rfl
section
variable {P : Program} {w : World} {K : PySem.W.Frag} {mg : Str → Option Value} {base : Heap} {CF : Addr}
abbrev st_times_bracket : Stmt := topS 1
abbrev N_times_bracket : List Str := ["counts", "size", "count", "lower"]
theorem sc_times_bracket : FnScope N_times_bracket ["counts", "size"] (defScope st_times_bracket) := ⟨rfl, rfl, rfl, by decide +kernel, rfl, by decide +kernel, by decide +kernel⟩
theorem ok_times_bracket (D : Df K mg "times_bracket" st_times_bracket ["counts", "size"]) (B : Bl mg) : Kn P w K mg base CX0 1 "times_bracket" st_times_bracket ["counts", "size"] spTimesB := by
  refine D.ok sc_times_bracket (fun vs H Q E h => ?_) (fun f cdv A outer s H vs Q E hr h => ?_)
  · obtain ⟨p, m, Z, k, rfl, _⟩ := h; rfl
  obtain ⟨p, m, Z, k, rfl, hp, hm, hk, q⟩ := h
  refine ⟨_, ((pss_one (ps_ret (pe_lc (own := [("count", 2), ("lower", 3)]) (g := gTup K 2 (gCons (gName 2) (gCons (gName 3) gNil))) rfl sc_times_bracket.nd (pi_zip (by rfl) B.zip (pa_cons (pv 0) (pa_cons (pe_op op_cat (pe_op op_rep (pe_lst (pa_cons pe_int pa_nil)) (pv 1)) (pv 0)) pa_nil))) (blkOk_by (N := N_times_bracket) (sc := defScope st_times_bracket) (own := [("count", 2), ("lower", 3)]) (by decide +kernel)) (fun _ _ _ _ _ => by (refine pg_tup (n := 2) ?hc ?h ?hn ?hst; (case hc => rfl); (case hn => rfl); (case hst => rfl); case h => (refine pgs_cons ?g1 ?g2; (case g1 => exact (pg_name (i := 2) sc_times_bracket.nd rfl (Or.inl rfl))); case g2 => (refine pgs_cons ?g1 ?g2; (case g1 => exact (pg_name (i := 3) sc_times_bracket.nd rfl (Or.inl rfl))); case g2 => (exact pgs_nil))))) (fun _ _ _ _ _ => by exact pts_nil) (fun _ _ _ _ _ => by exact (pe_op op_sub (pv 2) (pv 3))))))), ?_⟩
  have p63 : (2 : Int) ^ 63 = 9223372036854775808 := by decide
  refine ⟨_, rfl, by show 1 ≤ sizeLine; decide, fun X hX => ⟨_, rfl, X, _, _, rfl, rfl, upd_same, by omega, by omega, ?_, fun Y hY => ?_⟩⟩
  · show 1 * ((k : Int)).toNat ≤ sizeLine
    exact Nat.le_of_lt (szl (by omega))
  rw [iv_rep, Int.toNat_natCast]
  have s1 := (Same.refl H).new (o := .lst [.int 0]) hX
  have s2 := s1.new (o := .lst (iv (List.replicate k 0))) hY
  have oY : upd (upd H X (.lst [.int 0])) Y (.lst (iv (List.replicate k 0))) Y = some (.lst (iv (List.replicate k 0))) := upd_same
  generalize upd (upd H X (.lst [.int 0])) Y (.lst (iv (List.replicate k 0))) = H2 at s2 oY ⊢
  refine ⟨_, rfl, Y, p, _, _, rfl, rfl, oY, s2 _ _ hp, by rw [iv_length, iv_length, List.length_replicate, serL_len]; exact Nat.le_of_lt (szl (by omega)), fun W hW => ?_⟩
  have ey : iv (List.replicate k 0) ++ iv (serL m Z) = iv (List.replicate k 0 ++ serL m Z) := by unfold iv; rw [List.map_append]
  rw [ey]
  have s3 := s2.new (o := .lst (iv (List.replicate k 0 ++ serL m Z))) hW
  have oW : upd H2 W (.lst (iv (List.replicate k 0 ++ serL m Z))) W = some (.lst (iv (List.replicate k 0 ++ serL m Z))) := upd_same
  generalize upd H2 W (.lst (iv (List.replicate k 0 ++ serL m Z))) = H3 at s3 oW ⊢
  have op := s3 _ _ hp
  have lw : (List.replicate k (0 : Int) ++ serL m Z).length = k + m := by rw [List.length_append, List.length_replicate, serL_len]
  refine ⟨p, W, _, _, rfl, SqL.of op, SqL.of oW, fun D hD => lc_u (walk_zip (n := m) (xs := iv (serL m Z)) (ys := iv (List.replicate k 0 ++ serL m Z)) (by rw [iv_length, iv_length, serL_len, lw]; omega)) (fun _ => true) (tS k Z) (by omega) hD (fun H' s' => ⟨SqL.of (s' _ _ op), SqL.of (s' _ _ oW)⟩) ?_ fun H4 s4 oD => ?_⟩
  · rintro i x H4 H5 N A' hi s4 ⟨T, x1, x2, rfl, hT, rfl, e1, e2⟩ _ hA
    have e1 : (iv (serL m Z))[i]? = some x1 := e1
    have e2 : (iv (List.replicate k 0 ++ serL m Z))[i]? = some x2 := e2
    rw [ser_at hi] at e1
    cases e1
    have ex2 : x2 = .int (if k ≤ i then Z (i - k) else 0) := by
      rw [iv_get (by omega)] at e2
      rw [← Option.some.inj e2, List.getD_eq_getElem?_getD]
      by_cases c : k ≤ i
      · rw [List.getElem?_append_right (by rw [List.length_replicate]; exact c), List.length_replicate, if_pos c, ← List.getD_eq_getElem?_getD, serL_at (by omega)]
      · rw [List.getElem?_append_left (by rw [List.length_replicate]; omega), List.getElem?_replicate, if_pos (by omega), if_neg c]; rfl
    subst ex2
    have s5 := (Same.refl H4).new (o := .tup [.int (Z i), .int (if k ≤ i then Z (i - k) else 0)]) hT
    exact ⟨T, _, rfl, SqT.of upd_same, rfl, _, _, rfl, _, _, rfl, rfl, rfl, _, rfl, _, rfl, _, _, rfl, rfl, hA rfl _ s5⟩
  · rw [iv_all] at oD
    exact q D H4 (s3.trans s4) oD
abbrev st_over_bracket : Stmt := topS 2
abbrev N_over_bracket : List Str := ["counts", "size", "found", "power"]
theorem sc_over_bracket : FnScope N_over_bracket ["counts", "size"] (defScope st_over_bracket) := ⟨rfl, rfl, rfl, by decide +kernel, rfl, by decide +kernel, by decide +kernel⟩
theorem ok_over_bracket (D : Df K mg "over_bracket" st_over_bracket ["counts", "size"]) (B : Bl mg) : Kn P w K mg base CX0 1 "over_bracket" st_over_bracket ["counts", "size"] spOverB := by
  refine D.ok sc_over_bracket (fun vs H Q E h => ?_) (fun f cdv A outer s H vs Q E hr h => ?_)
  · obtain ⟨p, m, Z, k, rfl, _⟩ := h; rfl
  obtain ⟨p, m, Z, k, rfl, hp, hm, hk1, hk, q⟩ := h
  refine ⟨_, ((pss_cons (ps_set (i := 2) sc_over_bracket.nd rfl (Or.inl rfl) (pe_callTy call_list_of (by rfl) B.list (by decide +kernel) (pa_cons (pv 0) pa_nil)))
      (pss_cons (ps_for PassesOwn.never rfl (pi_range2 (by rfl) B.range (pa_cons (pv 1) (pa_cons (pe_callB call_len (by rfl) B.len (by decide +kernel) (pa_cons (pv 2) pa_nil)) pa_nil))) (pg_name (i := 3) sc_over_bracket.nd rfl (Or.inl rfl)) (pss_one (ps_asg (pe_op op_add (pe_ix ix_list (pv 2) (pv 3) (fun _ _ => rfl)) (pe_ix ix_list (pv 2) (pe_op op_sub (pv 3) (pv 1)) (fun _ _ => rfl))) (pg_sub (pv 2) (pv 3) set_list))))
      (pss_one (ps_ret (pv 2)))))), ?_⟩
  have p62 : (2 : Int) ^ 62 = 4611686018427387904 := by decide
  have p63 : (2 : Int) ^ 63 = 9223372036854775808 := by decide
  refine ⟨_, rfl, p, _, rfl, .inl (SqL.of hp), fun F hF => ?_⟩
  have s1 := (Same.refl H).new (o := .lst (iv (serL m Z))) hF
  have oF : upd H F (.lst (iv (serL m Z))) F = some (.lst (iv (serL m Z))) := upd_same
  generalize upd H F (.lst (iv (serL m Z))) = H1 at s1 oF ⊢
  have hFn := hF
  refine ⟨_, rfl, _, rfl, _, _, rfl, .inl ⟨_, SqL.of oF, rfl⟩, ?_⟩
  rw [iv_length, serL_len]
  refine ⟨_, _, rfl, ⟨by omega, by omega, by omega, by omega⟩, for_it (walk_range (lo := (k : Int)) (n := ((m : Int) - (k : Int)).toNat)) (fun i σ H' => ∃ v3, σ = [some (.ref p), some (.int (k : Int)), some (.ref F), v3] ∧ Same H H' ∧ H' F = some (.lst (iv (serL m fun j => if j < k + i then oS k Z j else Z j)))) ⟨none, rfl, s1, ?_⟩ (fun _ _ _ _ _ => trivial) ?_ ?_⟩
  · rw [oF]
    congr 2
    refine congrArg iv (List.map_congr_left fun j _ => ?_)
    by_cases c : j < k + 0
    · rw [if_pos c, oS_eq, if_neg (by omega)]; omega
    · rw [if_neg c]
  · rintro i x σ H2 H3 hi ⟨v3, rfl, s2, oF2⟩ ⟨rfl, rfl⟩
    have hki : k + i < m := by omega
    have e1 := ser_at (P := fun j => if j < k + i then oS k Z j else Z j) hki
    have e0 := ser_at (P := fun j => if j < k + i then oS k Z j else Z j) (show i < m by omega)
    have a1 : atI (iv (serL m fun j => if j < k + i then oS k Z j else Z j)) ((k : Int) + (i : Int)) = some (.int (Z (k + i))) := by
      rw [show ((k : Int) + (i : Int)) = ((k + i : Nat) : Int) by omega, atI_nat e1, if_neg (by omega)]
    have a0 : atI (iv (serL m fun j => if j < k + i then oS k Z j else Z j)) ((k : Int) + (i : Int) - (k : Int)) = some (.int (oS k Z i)) := by
      rw [show ((k : Int) + (i : Int) - (k : Int)) = ((i : Nat) : Int) by omega, atI_nat e0, if_pos (by omega)]
    refine ⟨_, rfl, _, rfl, F, _, _, _, rfl, rfl, SqL.of oF2, a1, _, rfl, _, rfl, _, rfl, _, _, rfl, rfl, F, _, _, _, rfl, rfl, SqL.of oF2, a0, _, _, rfl, rfl, ?_⟩
    refine ⟨_, rfl, _, rfl, F, _, _, k + i, rfl, rfl, oF2, by rw [iv_length, serL_len, show ((k : Int) + (i : Int)) = ((k + i : Nat) : Int) by omega]; exact ixN_nat hki, ?_⟩
    refine ⟨_, rfl, s2.upd hFn, ?_⟩
    rw [upd_same]
    refine congrArg (fun l => some (HO.lst l)) ?_
    refine List.ext_getElem? fun j => ?_
    by_cases c : j < m
    · rw [ser_at c]
      by_cases d : j = k + i
      · subst d
        rw [List.getElem?_set_self (by rw [iv_length, serL_len]; exact hki), if_pos (by omega), oS_eq k Z (k + i), if_pos ⟨by omega, by omega⟩, show k + i - k = i by omega]
      · rw [List.getElem?_set_ne (Ne.symm d), ser_at c]
        by_cases x : j < k + i
        · rw [if_pos x, if_pos (by omega)]
        · rw [if_neg x, if_neg (by omega)]
    · rw [List.getElem?_eq_none (by rw [List.length_set, iv_length, serL_len]; omega), List.getElem?_eq_none (by rw [iv_length, serL_len]; omega)]
  · rintro σ H2 ⟨v3, rfl, s2, oF2⟩
    refine ⟨_, rfl, q F H2 s2 hFn ?_⟩
    rw [oF2]
    congr 2
    refine congrArg iv (List.map_congr_left fun j hj => ?_)
    have := List.mem_range.mp hj
    by_cases c : j < k + ((m : Int) - (k : Int)).toNat
    · rw [if_pos c]
    · omega
end
theorem ref_atT {as : List Addr} {i : Nat} {x : V} (h : (as.map V.ref)[i]? = some x) : ∃ a, as[i]? = some a ∧ x = .ref a := by
  rw [List.getElem?_map] at h
  cases e : as[i]? with
  | none => rw [e] at h; cases h
  | some a => rw [e] at h; exact ⟨a, rfl, (Option.some.inj h).symm⟩
/-! ### the greatest number of turned pairs; the numbers -/
theorem mostZ_at {hs : Hs} (fo : Fo hs) (n6 : hs.length ≤ 6) : 0 ≤ mostZ hs ∧ mostZ hs ≤ 15 := by
  have c : ((List.range 7).all fun n => (plains n).all fun F => decide (0 ≤ mostZ F) && decide (mostZ F ≤ 15)) = true := by decide +kernel
  have z := List.all_eq_true.mp (List.all_eq_true.mp c hs.length (List.mem_range.mpr (by omega))) (fw hs) (fw_mem fo)
  rw [Bool.and_eq_true, decide_eq_true_eq, decide_eq_true_eq, fw_most fo] at z
  exact z
section
variable {P : Program} {w : World} {K : PySem.W.Frag} {mg : Str → Option Value} {base : Heap} {CF : Addr}
abbrev st_most_turned : Stmt := topS 21
abbrev N_most_turned : List Str := ["forest", "pairs", "size", "depth"]
theorem sc_most_turned : FnScope N_most_turned ["forest"] (defScope st_most_turned) := ⟨rfl, rfl, rfl, by decide +kernel, rfl, by decide +kernel, by decide +kernel⟩
theorem ok_most_turned (D : Df K mg "most_turned" st_most_turned ["forest"]) (B : Bl mg) (Ksizes : Kn P w K mg base (L2.CX P w) 7 "sizes" st_sizes ["forest"] (spOf CF fun hs l => ∃ F, l = iv F ∧ SizeOk hs F))
    (Kdepths : Kn P w K mg base (L2.CX P w) 7 "depths" st_depths ["forest"] (spOf CF fun hs l => ∃ F, l = iv F ∧ DepthOk hs F)) : Kn P w K mg base (L2.CX P w) 8 "most_turned" st_most_turned ["forest"] spMostT := by
  refine D.okX sc_most_turned (fun vs H Q E h => ?_) (fun f cdv A outer s H vs Q E hr h => ?_)
  · obtain ⟨a, hs, rfl, _⟩ := h; rfl
  obtain ⟨a, hs, rfl, ha, fo, n6, q⟩ := h
  refine ⟨_, ((pss_cons (ps_set (i := 1) sc_most_turned.nd rfl (Or.inr rfl) (pe_listZp rfl (by rfl) B.list (by rfl) B.zip (pa_cons (pe_callF Ksizes (hr.mono (by decide)) (passX (takes_of rfl rfl rfl rfl)) (pa_cons (pv 0) pa_nil)) (pa_cons (pe_callF Kdepths (hr.mono (by decide)) (passX (takes_of rfl rfl rfl rfl)) (pa_cons (pv 0) pa_nil)) pa_nil))))
      (pss_one (ps_ret (pe_op op_fdivW (pe_callB (cr_sum rfl) (by rfl) B.sum (by decide +kernel) (pa_cons (pe_lc (own := [("size", 2), ("depth", 3)]) (g := gTup K 2 (gCons (gName 2) (gCons (gName 3) gNil))) rfl sc_most_turned.nd (pi_list (pv 1)) (blkOk_by (N := N_most_turned) (sc := defScope st_most_turned) (own := [("size", 2), ("depth", 3)]) (by decide +kernel)) (fun _ _ _ _ _ => by (refine pg_tup (n := 2) ?hc ?h ?hn ?hst; (case hc => rfl); (case hn => rfl); (case hst => rfl); case h => (refine pgs_cons ?g1 ?g2; (case g1 => exact (pg_name (i := 2) sc_most_turned.nd rfl (Or.inl rfl))); case g2 => (refine pgs_cons ?g1 ?g2; (case g1 => exact (pg_name (i := 3) sc_most_turned.nd rfl (Or.inl rfl))); case g2 => (exact pgs_nil))))) (fun _ _ _ _ _ => by exact pts_nil) (fun _ _ _ _ _ => by exact (pe_op op_sub (pe_op op_sub (pe_callB (call_lenK K) (by rfl) B.len (by decide +kernel) (pa_cons (pv 1) pa_nil)) (pv 2)) (pv 3)))) pa_nil)) pe_int))))), ?_⟩
  have l60 : hs.length ≤ 60 := by omega
  refine ⟨_, rfl, ?_⟩
  dsimp only [tNil, tCons, tC, List.nil_append, List.append_nil, List.cons_append, List.reverse_cons, List.reverse_nil]
  refine of_ask ha fo l60 fun S l H1 ⟨F, el, sok⟩ s1 hS0 oS => ?_
  subst el
  have eF := size_one fo sok (szL_ok fo)
  subst eF
  refine ⟨_, rfl, ?_⟩
  dsimp only [tNil, tCons, tC, List.nil_append, List.append_nil, List.cons_append, List.reverse_cons, List.reverse_nil]
  refine of_ask (s1 _ _ ha) fo l60 fun Dp l H2 ⟨G, el, dok⟩ s2 hD0 oDp => ?_
  subst el
  have lS : (szL hs).length = hs.length := (szL_ok fo).1
  have lG : G.length = hs.length := dok.1
  have oS2 := s2 _ _ oS
  refine ⟨S, Dp, _, _, rfl, SqL.of oS2, SqL.of oDp, by rw [iv_length, iv_length, lS, lG], fun L ts H3 s3 hL oL lt at_ => ?_⟩
  rw [iv_length, lS] at lt
  have n6t : (ts.map V.ref).length = hs.length := by rw [List.length_map, lt]
  refine ⟨_, rfl, L, rfl, ⟨_, SqL.of oL⟩, fun M hM => lc_u (walk_list (xs := ts.map V.ref)) (fun _ => true) (fun v => (hs.length : Int) - (1 + cnt hs v hs.length) - ((My.up hs v).length : Int)) (by omega) hM (fun H' s' => SqL.of (s' _ _ oL)) ?_ fun H4 s4 oM => ?_⟩
  · rintro i x H4 H5 N A' hi s4 ⟨rfl, e1⟩ _ hA
    obtain ⟨p, ep, rfl⟩ := ref_atT e1
    have hi2 : i < hs.length := by omega
    have op := at_ i p _ _ ep (iv_get (by omega)) (iv_get (by omega))
    have esz : (szL hs).getD i 0 = 1 + cnt hs i hs.length := (szL_wt hs).2 i hi2
    have edp : G.getD i 0 = ((My.up hs i).length : Int) := dok.2 i hi2 _ (fo.ups hi2)
    rw [esz, edp] at op
    refine ⟨p, _, rfl, SqT.of (s4 _ _ op), rfl, _, _, rfl, _, _, rfl, rfl, rfl, _, rfl, _, _, rfl, .inl ⟨_, SqL.of (s4 _ _ oL), rfl⟩, _, rfl, _, _, rfl, rfl, _, rfl, _, _, rfl, rfl, ?_⟩
    rw [n6t]
    exact hA rfl H5 (Same.refl _)
  · rw [iv_all, n6t] at oM
    refine ⟨M, _, rfl, SqL.of oM, _, _, rfl, rfl, ⟨by decide, by decide +kernel⟩, ?_⟩
    exact q H4 (((s1.trans s2).trans s3).trans s4)
abbrev st_turned_counts : Stmt := topS 20
abbrev N_turned_counts : List Str := ["forest", "counts", "thing", "size"]
theorem sc_turned_counts : FnScope N_turned_counts ["forest"] (defScope st_turned_counts) := ⟨rfl, rfl, rfl, by decide +kernel, rfl, by decide +kernel, by decide +kernel⟩
theorem ok_turned_counts (D : Df K mg "turned_counts" st_turned_counts ["forest"]) (B : Bl mg) (Ksizes : Kn P w K mg base (L2.CX P w) 7 "sizes" st_sizes ["forest"] (spOf CF fun hs l => ∃ F, l = iv F ∧ SizeOk hs F))
    (Kmost_turned : Kn P w K mg base (L2.CX P w) 8 "most_turned" st_most_turned ["forest"] spMostT) (Ktimes_bracket : Kn P w K mg base CX0 1 "times_bracket" st_times_bracket ["counts", "size"] spTimesB) (Kover_bracket : Kn P w K mg base CX0 1 "over_bracket" st_over_bracket ["counts", "size"] spOverB) :
    Kn P w K mg base (L2.CX P w) 9 "turned_counts" st_turned_counts ["forest"] spCountsT := by
  refine D.okX sc_turned_counts (fun vs H Q E h => ?_) (fun f cdv A outer s H vs Q E hr h => ?_)
  · obtain ⟨a, hs, rfl, _⟩ := h; rfl
  obtain ⟨a, hs, rfl, ha, fo, n6, q⟩ := h
  refine ⟨_, ((pss_cons (ps_set (i := 1) sc_turned_counts.nd rfl (Or.inl rfl) (pe_op op_cat (pe_lst (pa_cons pe_int pa_nil)) (pe_op op_rep (pe_lst (pa_cons pe_int pa_nil)) (pe_callF Kmost_turned (hr.mono (by decide)) (passX (takes_of rfl rfl rfl rfl)) (pa_cons (pv 0) pa_nil)))))
      (pss_cons (ps_for (passes_of rfl) rfl (pi_enum (by rfl) B.enumerate (pa_cons (pe_callF Ksizes (hr.mono (by decide)) (passX (takes_of rfl rfl rfl rfl)) (pa_cons (pv 0) pa_nil)) pa_nil)) (pg_tup rfl (pgs_cons (pg_name (i := 2) sc_turned_counts.nd rfl (Or.inl rfl)) (pgs_cons (pg_name (i := 3) sc_turned_counts.nd rfl (Or.inl rfl)) pgs_nil))) (pss_one (ps_set (i := 1) sc_turned_counts.nd rfl (Or.inl rfl) (pe_callF Kover_bracket (hr.mono (by decide)) pass0 (pa_cons (pe_callF Ktimes_bracket (hr.mono (by decide)) pass0 (pa_cons (pv 1) (pa_cons (pe_op op_add (pv 2) pe_int) pa_nil))) (pa_cons (pv 3) pa_nil))))))
      (pss_one (ps_ret (pv 1)))))), ?_⟩
  have l60 : hs.length ≤ 60 := by omega
  have p63 : (2 : Int) ^ 63 = 9223372036854775808 := by decide
  obtain ⟨m0, m15⟩ := mostZ_at fo n6
  refine ⟨by show 1 ≤ sizeLine; decide, fun X1 hX1 => ⟨by show 1 ≤ sizeLine; decide, fun X2 hX2 => ?_⟩⟩
  have s1 := (Same.refl H).new (o := .lst [.int 1]) hX1
  have o1 : upd H X1 (.lst [.int 1]) X1 = some (.lst [.int 1]) := upd_same
  generalize upd H X1 (.lst [.int 1]) = H1 at s1 o1 hX2 ⊢
  have s2 := (Same.refl H1).new (o := .lst [.int 0]) hX2
  have o2 : upd H1 X2 (.lst [.int 0]) X2 = some (.lst [.int 0]) := upd_same
  generalize upd H1 X2 (.lst [.int 0]) = H2 at s2 o2 ⊢
  have s12 := s1.trans s2
  obtain ⟨M, eM⟩ : ∃ M : Nat, mostZ hs = (M : Int) := ⟨(mostZ hs).toNat, by omega⟩
  refine ⟨_, rfl, a, hs, rfl, s12 _ _ ha, fo, n6, fun H3 s3 => ⟨X2, _, _, rfl, rfl, s3 _ _ o2, by omega, by omega, ?_, fun Y hY => ?_⟩⟩
  · show 1 * (mostZ hs).toNat ≤ sizeLine
    exact Nat.le_of_lt (szl (by omega))
  rw [iv_rep, eM, Int.toNat_natCast]
  have s4 := s3.new (o := .lst (iv (List.replicate M 0))) hY
  have oY : upd H3 Y (.lst (iv (List.replicate M 0))) Y = some (.lst (iv (List.replicate M 0))) := upd_same
  generalize upd H3 Y (.lst (iv (List.replicate M 0))) = H4 at s4 oY ⊢
  refine ⟨X1, Y, _, _, rfl, rfl, (s2.trans s4) _ _ o1, oY, by rw [iv_length, List.length_replicate]; exact Nat.le_of_lt (szl (by show 1 + M ≤ _; omega)), fun C hC => ?_⟩
  have es : [V.int 1] ++ iv (List.replicate M 0) = iv (serL (M + 1) (tcS (sN hs) 0)) := by
    show iv (1 :: List.replicate M 0) = _
    refine congrArg iv (List.ext_getElem? fun i => ?_)
    unfold serL
    rw [List.getElem?_map]
    cases i with
    | zero => rw [List.getElem?_range (by omega)]; rfl
    | succ i =>
      rw [List.getElem?_cons_succ, List.getElem?_replicate]
      by_cases c : i < M
      · rw [if_pos c, List.getElem?_range (by omega)]; rfl
      · rw [if_neg c, List.getElem?_eq_none (by rw [List.length_range]; omega)]; rfl
  rw [es]
  have s5 := s4.new (o := .lst (iv (serL (M + 1) (tcS (sN hs) 0)))) hC
  have oC : upd H4 C (.lst (iv (serL (M + 1) (tcS (sN hs) 0)))) C = some (.lst (iv (serL (M + 1) (tcS (sN hs) 0)))) := upd_same
  have hCn := (s12.trans s4).free hC
  generalize upd H4 C (.lst (iv (serL (M + 1) (tcS (sN hs) 0)))) = H5 at s5 oC ⊢
  have s05 := s12.trans s5
  have ha5 := s05 _ _ ha
  refine ⟨_, rfl, .ref a, rfl, askdF ha5 l60, fun hs' e => by rw [only_hs ha5 e]; exact l60, fun n => absurd ⟨hs, tupAt_tup ha5, fo⟩ n, fun hs' e fo' S l H6 ⟨F, el, sok⟩ s6 hS0 oS => ?_⟩
  have eh := only_hs ha5 e
  subst eh
  subst el
  have eF := size_one fo' sok (szL_ok fo')
  subst eF
  have lS : (szL hs').length = hs'.length := (szL_ok fo').1
  refine ⟨S, _, rfl, SqL.of oS, for_it (walk_enum (K := K) (xs := iv (szL hs'))) (fun i σ H' => ∃ R v2 v3, σ = [some (.ref a), some (.ref R), v2, v3] ∧ Same H6 H' ∧ H R = none ∧ H' R = some (.lst (iv (serL (M + 1) (tcS (sN hs') i))))) ⟨C, none, none, rfl, Same.refl H6, hCn, s6 _ _ oC⟩ (fun i σ H' _ z => by obtain ⟨_, _, _, _, k, _⟩ := z; exact SqL.of (k _ _ oS)) ?_ ?_⟩
  · rintro i x σ H7 H8 hi ⟨R, v2, v3, rfl, s7, hR0, oR⟩ ⟨X, x1, x2, rfl, hX, rfl, e1, e2⟩
    rw [iv_length, lS] at hi
    have e1' := Option.some.inj e1; subst e1'
    have e2' : (iv (szL hs'))[i]? = some x2 := e2
    rw [iv_get (by omega)] at e2'
    have z := szL_at fo' hi
    have esn : (szL hs').getD i 0 = ((sN hs' i : Nat) : Int) := by unfold sN; omega
    rw [esn] at e2'
    cases e2'
    have s8 := s7.new (o := .tup [.int (i : Int), .int (sN hs' i : Nat)]) hX
    have oR8 := ((Same.refl H7).new (o := .tup [.int (i : Int), .int (sN hs' i : Nat)]) hX) _ _ oR
    refine ⟨X, _, rfl, SqT.of upd_same, rfl, _, _, rfl, _, _, rfl, rfl, ?_⟩
    generalize upd H7 X (.tup [.int (i : Int), .int (sN hs' i : Nat)]) = H8 at s8 oR8 ⊢
    refine ⟨_, rfl, _, rfl, _, _, rfl, rfl, R, M + 1, tcS (sN hs') i, i + 1, by show [V.ref R, V.int ((i : Int) + 1)] = _; rw [show ((i : Int) + 1) = ((i + 1 : Nat) : Int) by omega], oR8, by omega, by omega, fun R1 H9 s9 oR1 => ?_⟩
    refine ⟨_, rfl, R1, M + 1, _, sN hs' i, rfl, oR1, by omega, by omega, by omega, fun R2 H10 s10 hR2 oR2 => ?_⟩
    exact ⟨R2, _, _, rfl, (s8.trans s9).trans s10, (s05.trans s6).free ((s8.trans s9).free hR2), oR2⟩
  · rintro σ H7 ⟨R, v2, v3, rfl, s7, hR0, oR⟩
    rw [iv_length, lS] at oR
    refine ⟨_, rfl, q R H7 ((s05.trans s6).trans s7) hR0 ?_⟩
    rw [oR]
    unfold tcv
    rw [eM, Int.toNat_natCast]
end

end My

namespace My
open PySem PySem.Spec PyProof.Rows L2
theorem cut_to (xs : List V) (d : Nat) : cutV xs none (some (d : Int)) = xs.take d := by
  unfold cutV
  rw [HT.sIx_nat, HT.sIx_none, List.drop_zero, Nat.sub_zero]
  by_cases c : d ≤ xs.length
  · rw [Nat.min_eq_left c]
  · rw [Nat.min_eq_right (by omega), List.take_of_length_le (Nat.le_refl _), List.take_of_length_le (by omega)]
theorem cut_from (xs : List V) (d : Nat) : cutV xs (some (d : Int)) none = xs.drop d := by
  unfold cutV
  rw [HT.sIx_nat, HT.sIx_none]
  by_cases c : d ≤ xs.length
  · rw [Nat.min_eq_left c, List.take_of_length_le (by rw [List.length_drop]; omega)]
  · rw [Nat.min_eq_right (by omega), List.drop_of_length_le (Nat.le_refl _), List.drop_of_length_le (by omega), List.take_nil]
theorem cut_mid (xs : List V) {i j : Nat} (h : i ≤ j) (hj : j ≤ xs.length) : cutV xs (some (i : Int)) (some (j : Int)) = (xs.drop i).take (j - i) := by
  unfold cutV
  rw [HT.sIx_nat, HT.sIx_nat, Nat.min_eq_left (by omega), Nat.min_eq_left (by omega)]
theorem nv_take (l : List Nat) (d : Nat) : (nv l).take d = nv (l.take d) := by unfold nv; rw [List.map_take]
theorem nv_drop (l : List Nat) (d : Nat) : (nv l).drop d = nv (l.drop d) := by unfold nv; rw [List.map_drop]

/-! ### [x for x in xs if ..] over a list of naturals -/
theorem lc_nat {K : PySem.W.Frag} {L D : Addr} {l : List Nat} (pr : Nat → Bool) {k : Nat} {tt : TT} {te : TE} {vs : List Nat} {σ : L2.St} {H1 : Hp} {Qd : Hp → Prop} (hL : H1 L = some (.lst (nv l))) (hl : l.length ≤ 1000) (hD : H1 D = none)
    (wi : ∀ v : V, wipe ((wipe σ vs).set k (some v)) vs = wipe σ vs) (val : ∀ (v : V) (H : Hp) (Q : VK), Q v H → te ((wipe σ vs).set k (some v)) H Q)
    (test : ∀ (v : Nat) (H2 : Hp) (Q' : Bool → Hp → Prop), v ∈ l → Same H1 H2 → (∀ H4, Same H2 H4 → Q' (pr v) H4) → tt ((wipe σ vs).set k (some (.int (v : Int)))) H2 Q')
    (done : ∀ H2, Same H1 H2 → H2 D = some (.lst (nv (l.filter pr))) → Qd H2) :
    ∃ W : Nat → Nat → Hp → Prop, (∃ m, W 0 m (upd H1 D (.lst []))) ∧ ∀ i m H, W i m H →
      ((Itl K L).stop i H ∧ Qd H) ∨ ((Itl K L).go i H ∧ ∃ Nx : Hp → Prop, (∀ H', Nx H' → ∃ m', m' < m ∧ W (i + 1) m' H') ∧ ∀ x H', (Itl K L).yld i H x H' → gName k x (wipe σ vs) H' fun σ2 H2 => wipe σ2 vs = wipe σ vs ∧ tt σ2 H2 fun b H3 =>
        if b = true then te σ2 H3 fun y H4 => ∃ acc, H4 D = some (.lst acc) ∧ acc.length < sizeLine ∧ Nx (upd H4 D (.lst (acc ++ [y]))) else Nx H3) := by
  refine lc_it (walk_list (xs := nv l)) (fun i H' => Same H1 H' ∧ H' D = some (.lst (nv ((l.take i).filter pr)))) ⟨(Same.refl H1).new hD, upd_same⟩ (fun i H' _ z => SqL.of (z.1 _ _ hL)) ?_ ?_
  · rintro i x H2 H3 hi ⟨s2, oD⟩ ⟨rfl, e1⟩
    obtain ⟨v, ev, rfl⟩ := nv_at e1
    have mv := List.mem_of_getElem? ev
    have il := (List.getElem?_eq_some_iff.mp ev).1
    have lz : ((l.take i).filter pr).length ≤ i := by
      have z := List.length_filter_le pr (l.take i)
      rw [List.length_take] at z; omega
    have tk : (l.take (i + 1)).filter pr = (l.take i).filter pr ++ (if pr v = true then [v] else []) := by
      rw [List.take_add_one, ev, List.filter_append]
      congr 1
      by_cases c : pr v = true
      · rw [if_pos c]
        show [v].filter _ = _
        rw [List.filter_cons_of_pos c]; rfl
      · rw [if_neg c]
        show [v].filter _ = _
        rw [List.filter_cons_of_neg c]; rfl
    refine ⟨wi _, test v H3 _ mv s2 fun H4 s4 => ?_⟩
    have oD4 := s4 _ _ oD
    by_cases c : pr v = true
    · rw [if_pos c]
      refine val _ _ _ ⟨_, oD4, by rw [nv_length]; exact szl (by omega), (s2.trans s4).upd hD, ?_⟩
      rw [upd_same, tk, if_pos c, nv_append]; rfl
    · rw [if_neg c]
      refine ⟨s2.trans s4, ?_⟩
      rw [tk, if_neg c, List.append_nil]; exact oD4
  · rintro H2 ⟨s2, oD⟩
    rw [nv_length, List.take_length] at oD
    exact done H2 s2 oD

theorem sl_listK {X : Cx} (K : PySem.W.Frag) (e : X.K = K := by rfl) : SlR X (rSlL K) := by subst e; exact sl_list

def dsI (l : List Nat) : Int := (drI l).sum
theorem lt_nat (a b : Nat) : decide ((a : Int) < (b : Int)) = decide (a < b) := decide_eq_decide.mpr (by omega)
theorem rep_flat1 (x : V) : ∀ n : Nat, (List.replicate n [x]).flatten = List.replicate n x
  | 0 => rfl
  | n + 1 => by rw [List.replicate_succ, List.flatten_cons, rep_flat1 x n]; rfl

theorem Well.extN {H H' : Hp} {wl : Addr} {n : Nat} (w : Well H wl n) (e : LamX.ExtN H H') : Well H' wl n := by
  obtain ⟨a, b, c, z, r⟩ := w.ex
  exact ⟨a, b, c, e _ _ z (by intro ps y; cases y), r⟩
theorem seqN {K : PySem.W.Frag} {H H' : Hp} {a : Addr} {xs : List V} (e : LamX.ExtN H H') (h : SqL K H a xs) : SqL K H' a xs := by
  rcases h with (h | ⟨o, h⟩) | h
  · exact .inl (.inl (e _ _ h (by intro ps z; cases z)))
  · exact .inl (.inr ⟨o, e _ _ h (by intro ps z; cases z)⟩)
  · exact .inr h
theorem keepN {H H1 H2 : Hp} {wl : Addr} (e : LamX.ExtN H H1) (hw : H wl = none) (k : Keep wl H1 H2) : LamX.ExtN H H2 := fun b o z n => k b o (ne_of_none z hw) (e b o z n)
theorem tabsG_same {H H' : Hp} {T : Addr} (t : NdefX.TabsN (TbG T) H) (s : Same H H') : NdefX.TabsN (TbG T) H' := fun z hz => (t z hz).ext s
theorem tabsG_well {H H' : Hp} {T wl : Addr} {n : Nat} (t : NdefX.TabsN (TbG T) H) (w : Well H wl n) (k : Keep wl H H') : NdefX.TabsN (TbG T) H' := by
  obtain ⟨l, e⟩ := w.here
  exact tabsG_keep t e k
def fixA : Hs := [none, some 0, some 0, some 1, none]
def fixB : Hs := [some 3, none, some 1, some 2]
theorem fo_fixA : Fo fixA := fo_plain (by decide) fun j u e => by
  unfold fixA at e
  rcases j with _ | _ | _ | _ | _ | j <;> simp at e <;> omega
theorem fo_fixB : Fo fixB := by
  have r1 : Rch fixB 1 := .root rfl
  have r2 : Rch fixB 2 := .step (u := 1) rfl r1
  have r3 : Rch fixB 3 := .step (u := 2) rfl r2
  refine ⟨by decide, fun v u e => ?_, fun v hv => ?_⟩
  · unfold fixB at e ⊢
    rcases v with _ | _ | _ | _ | v <;> simp at e <;> subst e <;> decide
  · rcases v with _ | _ | _ | _ | v
    · exact .step (u := 3) rfl r3
    · exact r1
    · exact r2
    · exact r3
    · exact absurd hv (by show ¬ v + 1 + 1 + 1 + 1 < 4; omega)
def spLawT (K : PySem.W.Frag) (T : Addr) : Sp := fun vs H Q _ => ∃ (a : Addr) (ns : List Int), vs = [.ref a] ∧ SqL K H a (ns.map V.int) ∧ ns.length ≤ 63 ∧ H T = some (.tbl #[]) ∧ ∀ H', Q (.bl true) H'

/-! ### the law's own numbers, pairs, drops -/
def spLNum (T : Addr) : Sp := fun vs H Q _ => ∃ (t : Addr) (hs : Hs), vs = [.ref t] ∧ H t = some (.tup (hs.map hv)) ∧ Fo hs ∧ hs.length ≤ 60 ∧ NdefX.TabsN (TbG T) H ∧
  ∀ r H', LamX.ExtN H H' → NdefX.TabsN (TbG T) H' → H r = none → H' r = some (.lst (nv ((List.range hs.length).map (pz hs)))) → Q (.ref r) H'
def lineOf (sp o : List Nat) : List Nat := o.map fun v => sp.getD v 0
def spLPairs : Sp := fun vs H Q _ => ∃ (s r : Addr) (sp o : List Nat), vs = [.ref s, .ref r] ∧ H s = some (.lst (nv sp)) ∧ H r = some (.lst (nv o)) ∧ (∀ v ∈ o, v < sp.length) ∧ o.length ≤ 60 ∧ ∀ H', Same H H' → Q (.int ((((List.range o.length).map (invB (lineOf sp o))).sum : Nat) : Int)) H'
def spLDrops : Sp := fun vs H Q _ => ∃ (s r : Addr) (sp o : List Nat), vs = [.ref s, .ref r] ∧ H s = some (.lst (nv sp)) ∧ H r = some (.lst (nv o)) ∧ (∀ v ∈ o, v < sp.length) ∧ o.length ≤ 60 ∧ ∀ H', Same H H' → Q (.int (dsI (lineOf sp o))) H'
theorem iv_map (f : Nat → Nat) (l : List Nat) : iv (((List.range l.length).filter fun _ => true).map fun i => ((f (l.getD i 0) : Nat) : Int)) = nv (l.map f) := by
  rw [List.filter_eq_self.mpr fun _ _ => rfl]
  refine List.ext_getElem? fun i => ?_
  unfold iv nv
  rw [List.getElem?_map, List.getElem?_map, List.getElem?_map, List.getElem?_map]
  by_cases c : i < l.length
  · simp [List.getElem?_range c, List.getD_eq_getElem?_getD, List.getElem?_eq_getElem c]
  · rw [List.getElem?_eq_none (by rw [List.length_range]; omega), List.getElem?_eq_none (by omega)]; rfl
section
variable {P : Program} {w : World} {K : PySem.W.Frag} {mg : Str → Option Value} {base : Heap} {T : Addr}
abbrev st__law_numbers : Stmt := topS 29
abbrev N__law_numbers : List Str := ["plan", "found", "number_here", "one"]
theorem sc__law_numbers : FnScope N__law_numbers ["plan"] (defScope st__law_numbers) := ⟨rfl, rfl, rfl, by decide +kernel, rfl, by decide +kernel, by decide +kernel⟩
theorem ok__law_numbers (D : Df K mg "_law_numbers" st__law_numbers ["plan"]) (B : Bl mg) (K_law_walk : Kn P w K mg base CX0 61 "_law_walk" st__law_walk ["plan"] (spLWalk T)) : Kn P w K mg base CX0 62 "_law_numbers" st__law_numbers ["plan"] (spLNum T) := by
  refine D.ok sc__law_numbers (fun vs H Q E h => ?_) (fun f cdv A outer s H vs Q E hr h => ?_)
  · obtain ⟨t, hs, rfl, _⟩ := h; rfl
  obtain ⟨t, hs, rfl, ht, fo, hl, hT, q⟩ := h
  refine ⟨_, ((pss_cons (ps_set (i := 1) sc__law_numbers.nd rfl (Or.inl rfl) (pe_op op_rep (pe_lst (pa_cons pe_int pa_nil)) (pe_callB call_len (by rfl) B.len (by decide +kernel) (pa_cons (pv 0) pa_nil))))
      (pss_cons (ps_for PassesOwn.never rfl (pi_enum (by rfl) B.enumerate (pa_cons (pe_callF K_law_walk (hr.mono (by decide)) pass0 (pa_cons (pv 0) pa_nil)) pa_nil)) (pg_tup rfl (pgs_cons (pg_name (i := 2) sc__law_numbers.nd rfl (Or.inl rfl)) (pgs_cons (pg_name (i := 3) sc__law_numbers.nd rfl (Or.inl rfl)) pgs_nil))) (pss_one (ps_asg (pv 2) (pg_sub (pv 1) (pv 3) set_list))))
      (pss_one (ps_ret (pv 1)))))), ?_⟩
  have hlm : (hs.map hv).length = hs.length := List.length_map _
  have W := wk_sq fo
  have lw := W.len
  refine ⟨by show 1 ≤ sizeLine; decide, fun O hO => ?_⟩
  have sO := (Same.refl H).new (o := .lst [.int 0]) hO
  have oO : upd H O (.lst [.int 0]) O = some (.lst [.int 0]) := upd_same
  generalize upd H O (.lst [.int 0]) = H1 at sO oO ⊢
  refine ⟨_, rfl, _, _, rfl, .inr ⟨_, SqT.of (sO _ _ ht), rfl⟩, O, _, _, rfl, rfl, oO, by omega, by omega, ?_, fun F hF => ?_⟩
  · show 1 * ((hs.map hv).length : Int).toNat ≤ sizeLine
    rw [hlm, Int.toNat_natCast, Nat.one_mul]; exact Nat.le_of_lt (szl (by omega))
  rw [rep_flat1, hlm, Int.toNat_natCast]
  have s2 := sO.new (o := .lst (List.replicate hs.length (V.int 0))) hF
  have oF : upd H1 F (.lst (List.replicate hs.length (V.int 0))) F = some (.lst (iv (List.replicate hs.length 0))) := by
    rw [upd_same]; unfold iv; rw [List.map_replicate]
  generalize upd H1 F (.lst (List.replicate hs.length (V.int 0))) = H2 at s2 oF ⊢
  have hFn := sO.free hF
  refine ⟨_, rfl, t, hs, rfl, s2 _ _ ht, fo, hl, fun z hz => (hT z hz).ext s2, fun r H3 e3 hT3 hr0 or => ?_⟩
  have oF3 := e3 _ _ oF (by intro ps z; cases z)
  have rF : r ≠ F := (ne_of_none oF hr0).symm
  refine ⟨r, _, rfl, SqL.of or, ?_⟩
  refine for_it (walk_enum (K := K) (xs := nv (wk hs))) (fun i σ H' => ∃ v2 v3, σ = [some (.ref t), some (.ref F), v2, v3] ∧ Keep F H3 H' ∧ ∃ G : List Int, G.length = hs.length ∧ (∀ j v : Nat, j < i → (wk hs)[j]? = some v → G.getD v 0 = (j : Int)) ∧ H' F = some (.lst (iv G)))
    ⟨none, none, rfl, Keep.refl F H3, _, List.length_replicate, fun j v hj => absurd hj (Nat.not_lt_zero j), oF3⟩ (fun i σ H' _ z => by obtain ⟨_, _, _, k, _⟩ := z; exact SqL.of (k _ _ rF or)) ?_ ?_
  · rintro i x σ H4 H5 hi ⟨v2, v3, rfl, k4, G, lG, hG, oG⟩ ⟨X, x1, x2, rfl, hX, rfl, e1, e2⟩
    have e1' := Option.some.inj e1; subst e1'
    have e2' : (nv (wk hs))[i]? = some x2 := e2
    obtain ⟨u, eu, rfl⟩ := nv_at e2'
    have hu := W.mem.mp (List.mem_of_getElem? eu)
    have nX := ne_of_none oG hX
    have k5 := k4.new (o := .tup [.int (i : Int), .int (u : Int)]) hX
    have oX : upd H4 X (.tup [.int (i : Int), .int (u : Int)]) X = some (.tup [.int (i : Int), .int (u : Int)]) := upd_same
    have oG5 := (upd_ne (o := .tup [.int (i : Int), .int (u : Int)]) nX).trans oG
    generalize upd H4 X (.tup [.int (i : Int), .int (u : Int)]) = H5 at k5 oX oG5 ⊢
    refine ⟨X, _, rfl, SqT.of oX, rfl, _, _, rfl, _, _, rfl, rfl, _, rfl, _, rfl, _, rfl, F, _, _, u, rfl, rfl, oG5, by rw [iv_length, lG]; exact ixN_nat hu, ?_⟩
    refine ⟨_, _, rfl, k5.trans (Keep.upd F H5 _), G.set u (i : Int), by rw [List.length_set]; exact lG, fun j v hj e => ?_, by rw [upd_same, iv_set]⟩
    by_cases c : u = v
    · subst c
      rw [getD_set_self (by omega)]
      have := nodup_at W.nd e eu
      omega
    · rw [getD_set_ne c]
      refine hG j v ?_ e
      by_cases d : j = i
      · subst d
        rw [eu] at e
        exact absurd (Option.some.inj e) c
      · omega
  · rintro σ H4 ⟨v2, v3, rfl, k4, G, lG, hG, oG⟩
    rw [nv_length] at hG
    have eG : iv G = nv ((List.range hs.length).map (pz hs)) := by
      refine List.ext_getElem? fun v => ?_
      by_cases c : v < hs.length
      · obtain ⟨i, e⟩ := List.getElem?_of_mem (W.mem.mpr c)
        have il := (List.getElem?_eq_some_iff.mp e).1
        rw [iv_get (by omega), hG i v il e]
        unfold nv
        rw [List.getElem?_map, List.getElem?_map, List.getElem?_range c]
        show _ = some (V.int ((pz hs v : Nat) : Int))
        rw [pz_at fo e]
      · rw [List.getElem?_eq_none (by rw [iv_length]; omega), List.getElem?_eq_none (by rw [nv_length, List.length_map, List.length_range]; omega)]
    rw [eG] at oG
    exact ⟨_, rfl, q F H4 (fun b o e n => k4 b o (ne_of_none e hFn) (e3 b o (s2 _ _ e) n)) (tabsG_keep hT3 oF3 k4) hFn oG⟩
abbrev st__law_pairs : Stmt := topS 30
abbrev N__law_pairs : List Str := ["spots", "row", "line", "found", "at", "one", "mate"]
theorem sc__law_pairs : FnScope N__law_pairs ["spots", "row"] (defScope st__law_pairs) := ⟨rfl, rfl, rfl, by decide +kernel, rfl, by decide +kernel, by decide +kernel⟩
theorem ok__law_pairs (D : Df K mg "_law_pairs" st__law_pairs ["spots", "row"]) (B : Bl mg) : Kn P w K mg base CX0 1 "_law_pairs" st__law_pairs ["spots", "row"] spLPairs := by
  refine D.ok sc__law_pairs (fun vs H Q E h => ?_) (fun f cdv A outer s H vs Q E hr h => ?_)
  · obtain ⟨a, r, sp, o, rfl, _⟩ := h; rfl
  obtain ⟨a, r, sp, o, rfl, oS, oR, lt, lo, q⟩ := h
  refine ⟨_, ((pss_cons (ps_par (i := 2) (j := 3) (by rfl) sc__law_pairs.nd rfl rfl (by decide) rfl rfl (pa_cons (pe_lc (own := [("one", 5)]) (g := gName 5) rfl sc__law_pairs.nd (pi_list (pv 1)) (blkOk_by (N := N__law_pairs) (sc := defScope st__law_pairs) (own := [("one", 5)]) (by decide +kernel)) (fun _ _ _ _ _ => by (exact (pg_name (i := 5) sc__law_pairs.nd rfl (Or.inl rfl)))) (fun _ _ _ _ _ => by exact pts_nil) (fun _ _ _ _ _ => by exact (pe_ix (ix_listK K) (pv 0) (pv 5) (fun _ _ => rfl)))) (pa_cons pe_int pa_nil)) (by rfl))
      (pss_cons (ps_for PassesOwn.never rfl (pi_enum (by rfl) B.enumerate (pa_cons (pv 2) pa_nil)) (pg_tup rfl (pgs_cons (pg_name (i := 4) sc__law_pairs.nd rfl (Or.inl rfl)) (pgs_cons (pg_name (i := 5) sc__law_pairs.nd rfl (Or.inr rfl)) pgs_nil))) (pss_one (ps_set (i := 3) sc__law_pairs.nd rfl (Or.inl rfl) (pe_op op_add (pv 3) (pe_callB call_len (by rfl) B.len (by decide +kernel) (pa_cons (pe_lc (own := [("mate", 6)]) (g := gName 6) rfl sc__law_pairs.nd (pi_list (pe_slice sl_list (pv 2) po_none (po_some (pv 4)))) (blkOk_by (N := N__law_pairs) (sc := defScope st__law_pairs) (own := [("mate", 6)]) (by decide +kernel)) (fun _ _ _ _ _ => by (exact (pg_name (i := 6) sc__law_pairs.nd rfl (Or.inl rfl)))) (fun _ _ _ _ _ => by exact (pts_one (pt_cmpR op_gt (pv 6) (pv 5) (nomark _)))) (fun _ _ _ _ _ => by exact (pv 6))) pa_nil))))))
      (pss_one (ps_ret (pv 3)))))), ?_⟩
  refine ⟨_, rfl, r, rfl, ⟨_, SqL.of oR⟩, fun L hL => lc_u (walk_list (xs := nv o)) (fun _ => true) (fun i => ((sp.getD (o.getD i 0) 0 : Nat) : Int)) (by rw [nv_length]; omega) hL (fun H' s' => SqL.of (s' _ _ oR)) ?_ fun H1 s1 oL => ?_⟩
  · rintro i x H2 H3 N A' hi s2 ⟨rfl, e1⟩ _ hA
    obtain ⟨t, et, rfl⟩ := nv_at e1
    have ht := lt t (List.mem_of_getElem? et)
    have eo : o.getD i 0 = t := by rw [List.getD_eq_getElem?_getD, et]; rfl
    have y := hA rfl H3 (Same.refl _)
    rw [eo] at y
    exact ⟨rfl, _, rfl, _, rfl, a, _, _, _, rfl, rfl, SqL.of (s2 _ _ oS), atI_nat (nv_get (v := sp.getD t 0) (by rw [List.getD_eq_getElem?_getD, List.getElem?_eq_getElem ht]; rfl)), y⟩
  rw [nv_length, iv_map (fun v => sp.getD v 0)] at oL
  have ll : (lineOf sp o).length = o.length := List.length_map _
  have oL : H1 L = some (.lst (nv (lineOf sp o))) := oL
  rw [← ll] at q lo
  generalize lineOf sp o = l at oL q lo
  refine ⟨_, _, rfl, ?_⟩
  refine ⟨_, rfl, L, _, rfl, SqL.of oL, for_it (walk_enum (K := K) (xs := nv l)) (fun i σ H' => ∃ v4 v5, σ = [some (.ref a), some (.ref r), some (.ref L), some (.int ((((List.range i).map (invB l)).sum : Nat) : Int)), v4, v5, none] ∧ Same H1 H') ⟨none, none, rfl, Same.refl H1⟩ (fun i σ H' _ z => by obtain ⟨_, _, _, k⟩ := z; exact SqL.of (k _ _ oL)) ?_ ?_⟩
  · rintro i x σ H2 H3 hi ⟨v4, v5, rfl, s2⟩ ⟨X, x1, x2, rfl, hX, rfl, e1, e2⟩
    rw [nv_length] at hi
    have e1' := Option.some.inj e1; subst e1'
    have e2' : (nv l)[i]? = some x2 := e2
    obtain ⟨t, et, rfl⟩ := nv_at e2'
    have s3 := s2.new (o := .tup [.int (i : Int), .int (t : Int)]) hX
    refine ⟨X, _, rfl, SqT.of upd_same, rfl, _, _, rfl, _, _, rfl, rfl, ?_⟩
    generalize upd H2 X (.tup [.int (i : Int), .int (t : Int)]) = H3 at s3 ⊢
    refine ⟨_, rfl, _, rfl, ?_⟩
    dsimp only [tNoPart]
    refine ⟨_, rfl, _, rfl, L, _, rfl, SqL.of (s3 _ _ oL), fun U hU => ?_⟩
    rw [cut_to, show (nv l).take i = nv (l.take i) from by unfold nv; rw [List.map_take]]
    have s4 := s3.new (o := .lst (nv (l.take i))) hU
    have oU : upd H3 U (.lst (nv (l.take i))) U = some (.lst (nv (l.take i))) := upd_same
    generalize upd H3 U (.lst (nv (l.take i))) = H4 at s4 oU ⊢
    refine ⟨U, rfl, ⟨_, SqL.of oU⟩, fun M hM => lc_nat (fun y => decide (t < y)) oU (by rw [List.length_take]; omega) hM (fun _ => rfl) (fun v H Q h => ⟨_, rfl, h⟩) (fun v H5 Q' mv s5 q' => ?_) fun H5 s5 oM => ?_⟩
    · refine ⟨_, rfl, _, rfl, _, _, rfl, rfl, _, rfl, ?_⟩
      rw [lt_nat]
      exact q' H5 (Same.refl H5)
    have s25 := s4.trans s5
    refine ⟨_, _, rfl, .inl ⟨_, SqL.of oM, rfl⟩, _, _, rfl, rfl, some (.int (i : Int)), some (.int (t : Int)), ?_, s25⟩
    have e : ((((List.range (i + 1)).map (invB l)).sum : Nat) : Int) = ((((List.range i).map (invB l)).sum : Nat) : Int) + ((invB l i : Nat) : Int) := by
      rw [List.range_succ, List.map_append, List.sum_append]
      show (((_ + (invB l i + 0) : Nat)) : Int) = _
      omega
    have et2 : l.getD i 0 = t := by rw [List.getD_eq_getElem?_getD, et]; rfl
    rw [e, nv_length]
    unfold invB
    rw [et2]
    rfl
  · rintro σ H2 ⟨v4, v5, rfl, s2⟩
    rw [nv_length]
    exact ⟨_, rfl, q H2 (s1.trans s2)⟩
abbrev st__law_drops : Stmt := topS 31
abbrev N__law_drops : List Str := ["spots", "row", "line", "one", "at"]
theorem sc__law_drops : FnScope N__law_drops ["spots", "row"] (defScope st__law_drops) := ⟨rfl, rfl, rfl, by decide +kernel, rfl, by decide +kernel, by decide +kernel⟩
theorem ok__law_drops (D : Df K mg "_law_drops" st__law_drops ["spots", "row"]) (B : Bl mg) : Kn P w K mg base CX0 1 "_law_drops" st__law_drops ["spots", "row"] spLDrops := by
  refine D.ok sc__law_drops (fun vs H Q E h => ?_) (fun f cdv A outer s H vs Q E hr h => ?_)
  · obtain ⟨a, r, sp, o, rfl, _⟩ := h; rfl
  obtain ⟨a, r, sp, o, rfl, oS, oR, lt, lo, q⟩ := h
  refine ⟨_, ((pss_cons (ps_set (i := 2) sc__law_drops.nd rfl (Or.inr rfl) (pe_lc (own := [("one", 3)]) (g := gName 3) rfl sc__law_drops.nd (pi_list (pv 1)) (blkOk_by (N := N__law_drops) (sc := defScope st__law_drops) (own := [("one", 3)]) (by decide +kernel)) (fun _ _ _ _ _ => by (exact (pg_name (i := 3) sc__law_drops.nd rfl (Or.inl rfl)))) (fun _ _ _ _ _ => by exact pts_nil) (fun _ _ _ _ _ => by exact (pe_ix (ix_listK K) (pv 0) (pv 3) (fun _ _ => rfl)))))
      (pss_one (ps_ret (pe_callB (cr_sum rfl) (by rfl) B.sum (by decide +kernel) (pa_cons (pe_lc (own := [("at", 4)]) (g := gName 4) rfl sc__law_drops.nd (pi_range2 (by rfl) B.range (pa_cons pe_int (pa_cons (pe_callB call_len (by rfl) B.len (by decide +kernel) (pa_cons (pv 2) pa_nil)) pa_nil))) (blkOk_by (N := N__law_drops) (sc := defScope st__law_drops) (own := [("at", 4)]) (by decide +kernel)) (fun _ _ _ _ _ => by (exact (pg_name (i := 4) sc__law_drops.nd rfl (Or.inl rfl)))) (fun _ _ _ _ _ => by exact (pts_one (pt_cmpR op_lt (pe_ix (ix_listK K) (pv 2) (pv 4) (fun _ _ => rfl)) (pe_ix (ix_listK K) (pv 2) (pe_op op_sub (pv 4) pe_int) (fun _ _ => rfl)) (nomark _)))) (fun _ _ _ _ _ => by exact (pe_op op_sub (pe_callB (call_lenK K) (by rfl) B.len (by decide +kernel) (pa_cons (pv 2) pa_nil)) (pv 4)))) pa_nil)))))), ?_⟩
  refine ⟨_, rfl, r, rfl, ⟨_, SqL.of oR⟩, fun L hL => lc_u (walk_list (xs := nv o)) (fun _ => true) (fun i => ((sp.getD (o.getD i 0) 0 : Nat) : Int)) (by rw [nv_length]; omega) hL (fun H' s' => SqL.of (s' _ _ oR)) ?_ fun H1 s1 oL => ?_⟩
  · rintro i x H2 H3 N A' hi s2 ⟨rfl, e1⟩ _ hA
    obtain ⟨t, et, rfl⟩ := nv_at e1
    have ht := lt t (List.mem_of_getElem? et)
    have eo : o.getD i 0 = t := by rw [List.getD_eq_getElem?_getD, et]; rfl
    have y := hA rfl H3 (Same.refl _)
    rw [eo] at y
    exact ⟨rfl, _, rfl, _, rfl, a, _, _, _, rfl, rfl, SqL.of (s2 _ _ oS), atI_nat (nv_get (v := sp.getD t 0) (by rw [List.getD_eq_getElem?_getD, List.getElem?_eq_getElem ht]; rfl)), y⟩
  rw [nv_length, iv_map (fun v => sp.getD v 0)] at oL
  have ll : (lineOf sp o).length = o.length := List.length_map _
  have oL : H1 L = some (.lst (nv (lineOf sp o))) := oL
  rw [← ll] at lo
  generalize lineOf sp o = l at oL q lo
  have p62 : (2 : Int) ^ 62 = 4611686018427387904 := by decide
  refine ⟨_, rfl, _, _, rfl, .inl ⟨_, SqL.of oL, rfl⟩, ?_⟩
  rw [nv_length]
  refine ⟨_, _, rfl, ⟨by omega, by omega, by omega, by omega⟩, fun S hS => lc_u (walk_range (lo := 1) (n := ((l.length : Int) - 1).toNat)) (fun i => decide (l.getD (i + 1) 0 < l.getD i 0)) (fun i => (l.length : Int) - (1 + (i : Int))) (by omega) hS (fun _ _ => trivial) ?_ fun H3 s3 oS' => ?_⟩
  · rintro i x H3 H4 N' A' hi s3 ⟨rfl, rfl⟩ hN' hA
    have e1 : (nv l)[i + 1]? = some (.int ((l.getD (i + 1) 0 : Nat) : Int)) := nv_get (by rw [List.getD_eq_getElem?_getD, List.getElem?_eq_getElem (show i + 1 < l.length by omega)]; rfl)
    have e0 : (nv l)[i]? = some (.int ((l.getD i 0 : Nat) : Int)) := nv_get (by rw [List.getD_eq_getElem?_getD, List.getElem?_eq_getElem (show i < l.length by omega)]; rfl)
    have oN4 := SqL.of (K := K) (s3 _ _ oL)
    have a1 : atI (nv l) (1 + (i : Int)) = some (.int ((l.getD (i + 1) 0 : Nat) : Int)) := by
      rw [show (1 + (i : Int)) = ((i + 1 : Nat) : Int) by omega]; exact atI_nat e1
    have a0 : atI (nv l) (1 + (i : Int) - 1) = some (.int ((l.getD i 0 : Nat) : Int)) := by
      rw [show (1 + (i : Int) - 1) = ((i : Nat) : Int) by omega]; exact atI_nat e0
    refine ⟨rfl, _, rfl, _, rfl, L, _, _, _, rfl, rfl, oN4, a1, _, rfl, _, rfl, _, _, rfl, rfl, L, _, _, _, rfl, rfl, oN4, a0, _, _, rfl, rfl, _, rfl, ?_⟩
    rw [lt_nat]
    by_cases c : l.getD (i + 1) 0 < l.getD i 0
    · rw [decide_eq_true c] at hA ⊢
      refine iteT ⟨_, rfl, _, _, rfl, .inl ⟨_, oN4, rfl⟩, _, rfl, _, _, rfl, rfl, ?_⟩
      rw [nv_length]
      exact hA rfl H4 (Same.refl _)
    · rw [decide_eq_false c] at hN' ⊢
      exact iteF (hN' rfl H4 (Same.refl _))
  · have en : ((l.length : Int) - 1).toNat = l.length - 1 := by omega
    rw [en] at oS'
    exact ⟨S, _, rfl, SqL.of oS', q H3 (s1.trans s3)⟩
end

end My

namespace My
open PySem PySem.Spec PyProof.Rows L2
/-! ### the law's own rows -/
def extTo (hs : Hs) (r : List Nat) (j : Nat) : List (List Nat) := ((List.range j).filter (avB hs r)).map fun v => r ++ [v]
theorem extTo_succ (hs : Hs) (r : List Nat) (j : Nat) : extTo hs r (j + 1) = extTo hs r j ++ (if avB hs r j then [r ++ [j]] else []) := by
  unfold extTo
  rw [List.range_succ, List.filter_append, List.map_append]
  congr 1
  by_cases c : avB hs r j = true
  · rw [if_pos c, List.filter_cons_of_pos c]; rfl
  · rw [if_neg c, List.filter_cons_of_neg c]; rfl
theorem extTo_all (hs : Hs) (r : List Nat) : extTo hs r hs.length = ext hs r := rfl
theorem rows_bound {hs : Hs} : ∀ k : Nat, (rowsAt hs k).length ≤ hs.length ^ k
  | 0 => Nat.le_refl _
  | k + 1 => by
    have ih := rows_bound (hs := hs) k
    show ((rowsAt hs k).flatMap (ext hs)).length ≤ _
    have z : ∀ rs : List (List Nat), (rs.flatMap (ext hs)).length ≤ rs.length * hs.length := fun rs => by
      induction rs with
      | nil => exact Nat.zero_le _
      | cons r rs ih =>
        rw [List.flatMap_cons, List.length_append, List.length_cons, Nat.add_mul, Nat.one_mul]
        have q : (ext hs r).length ≤ hs.length := by
          unfold ext av
          rw [List.length_map]
          have := List.length_filter_le (avB hs r) (List.range hs.length)
          rw [List.length_range] at this; exact this
        omega
    exact Nat.le_trans (z _) (by rw [Nat.pow_succ]; exact Nat.mul_le_mul_right _ ih)
structure Rws (H : Hp) (as : List Addr) (rs : List (List Nat)) : Prop where
  len : as.length = rs.length
  at_ : ∀ (i : Nat) (p : Addr) (r : List Nat), as[i]? = some p → rs[i]? = some r → H p = some (.lst (nv r))
theorem Rws.same {H H' : Hp} {as : List Addr} {rs : List (List Nat)} (h : Rws H as rs) (s : Same H H') : Rws H' as rs := ⟨h.len, fun i p r e1 e2 => s _ _ (h.at_ i p r e1 e2)⟩
theorem Rws.but {H : Hp} {as : List Addr} {rs : List (List Nat)} (h : Rws H as rs) {a : Addr} {o : HO} (n : a ∉ as) : Rws (upd H a o) as rs := ⟨h.len, fun i p r e1 e2 => by
  rw [upd_ne (fun z : p = a => n (by rw [← z]; exact List.mem_of_getElem? e1))]; exact h.at_ i p r e1 e2⟩
theorem Rws.grow {H : Hp} {as : List Addr} {rs : List (List Nat)} {p : Addr} {r : List Nat} (h : Rws H as rs) (hp : H p = some (.lst (nv r))) : Rws H (as ++ [p]) (rs ++ [r]) := by
  refine ⟨by rw [List.length_append, List.length_append, h.len]; rfl, fun i q y e1 e2 => ?_⟩
  by_cases c : i < as.length
  · rw [List.getElem?_append_left c] at e1
    rw [List.getElem?_append_left (by rw [← h.len]; exact c)] at e2
    exact h.at_ i q y e1 e2
  · have c2 : as.length ≤ i := by omega
    rw [List.getElem?_append_right c2] at e1
    rw [List.getElem?_append_right (by rw [← h.len]; exact c2), ← h.len] at e2
    rcases hz : i - as.length with _ | m
    · rw [hz] at e1 e2
      cases e1; cases e2; exact hp
    · rw [hz] at e1; cases e1

def spRows : Sp := fun vs H Q _ => ∃ (t : Addr) (hs : Hs), vs = [.ref t] ∧ H t = some (.tup (hs.map hv)) ∧ Fo hs ∧ hs.length ≤ 6 ∧ ∀ p as H', Same H H' → H p = none → H' p = some (.lst (as.map V.ref)) → Rws H' as (rowsAt hs hs.length) → Q (.ref p) H'
def spRowsN : Sp := fun vs H Q _ => ∃ (t : Addr) (hs : Hs), vs = [.ref t] ∧ H t = some (.tup (hs.map hv)) ∧ Fo hs ∧ hs.length ≤ 6 ∧ ∀ p as H', Same H H' → H p = none → H' p = some (.lst (as.map V.ref)) → Rws H' as (rowsAt hs hs.length) → (∀ q ∈ as, H q = none) → Q (.ref p) H'
section
variable {P : Program} {w : World} {K : PySem.W.Frag} {mg : Str → Option Value} {base : Heap}
abbrev st__law_rows : Stmt := topS 27
abbrev N__law_rows : List Str := ["plan", "rows", "k", "fresh", "row", "one"]
theorem sc__law_rows : FnScope N__law_rows ["plan"] (defScope st__law_rows) := ⟨rfl, rfl, rfl, by decide +kernel, rfl, by decide +kernel, by decide +kernel⟩
theorem ok__law_rowsN (D : Df K mg "_law_rows" st__law_rows ["plan"]) (B : Bl mg) : Kn P w K mg base CX0 1 "_law_rows" st__law_rows ["plan"] spRowsN := by
  refine D.ok sc__law_rows (fun vs H Q E h => ?_) (fun f cdv A outer s H vs Q E hr h => ?_)
  · obtain ⟨t, hs, rfl, _⟩ := h; rfl
  obtain ⟨t, hs, rfl, ht, fo, h6, q⟩ := h
  refine ⟨_, ((pss_cons (ps_set (i := 1) sc__law_rows.nd rfl (Or.inl rfl) (pe_lst (pa_cons (pe_lst pa_nil) pa_nil)))
      (pss_cons (ps_for PassesOwn.never rfl (pi_range1 (by rfl) B.range (pa_cons (pe_callB call_len (by rfl) B.len (by decide +kernel) (pa_cons (pv 0) pa_nil)) pa_nil)) (pg_name (i := 2) sc__law_rows.nd rfl (Or.inl rfl)) (pss_cons (ps_set (i := 3) sc__law_rows.nd rfl (Or.inl rfl) (pe_lst pa_nil))
      (pss_cons (ps_for PassesOwn.never rfl (pi_list (pv 1)) (pg_name (i := 4) sc__law_rows.nd rfl (Or.inl rfl)) (pss_one (ps_for PassesOwn.never rfl (pi_range1 (by rfl) B.range (pa_cons (pe_callB call_len (by rfl) B.len (by decide +kernel) (pa_cons (pv 0) pa_nil)) pa_nil)) (pg_name (i := 5) sc__law_rows.nd rfl (Or.inl rfl)) (pss_one (ps_if (PW.pt (pw_and (pt_cmpR op_notIn_seq (pv 5) (pv 4) (by rfl)) (pw_and1 (PW.pt (pw_or (pt_cmpR op_isN (pe_ix ix_tup (pv 0) (pv 5) (fun _ _ => rfl)) pe_non (nomark _)) (pw_or1 (pt_cmpR op_in_seq (pe_ix ix_tup (pv 0) (pv 5) (fun _ _ => rfl)) (pv 4) (by rfl)))))))) (pss_one (ps_expr (pe_bm PySem.F.plainAttrs_list PySem.F.slot_list_append PySem.F.type_list_append mt_append (pv 3) (pa_cons (pe_op op_cat (pv 4) (pe_lst (pa_cons (pv 5) pa_nil))) pa_nil)))) pss_nil)))))
      (pss_one (ps_set (i := 1) sc__law_rows.nd rfl (Or.inl rfl) (pv 3))))))
      (pss_one (ps_ret (pv 1)))))), ?_⟩
  have hlm : (hs.map hv).length = hs.length := List.length_map _
  have sq : ∀ {H' : Hp}, Same H H' → SqT K H' t (hs.map hv) := fun s' => SqT.of (s' _ _ ht)
  have big : ∀ k, k ≤ 6 → (rowsAt hs k).length ≤ 46656 := fun k hk => Nat.le_trans (rows_bound k) (Nat.le_trans (Nat.pow_le_pow_left h6 k) (Nat.le_trans (Nat.pow_le_pow_right (by decide) hk) (by decide)))
  -- rows = [[]]
  refine ⟨by show 0 ≤ sizeLine; decide, fun Z hZ => ?_⟩
  have s0 := (Same.refl H).new (o := .lst []) hZ
  have oZ : upd H Z (.lst []) Z = some (.lst []) := upd_same
  generalize upd H Z (.lst []) = H0 at s0 oZ ⊢
  refine ⟨by show 1 ≤ sizeLine; decide, fun R hR => ?_⟩
  have s1 := s0.new (o := .lst [.ref Z]) hR
  have hRn : H R = none := s0.free hR
  have oR : upd H0 R (.lst [.ref Z]) R = some (.lst ([Z].map V.ref)) := upd_same
  have oZ1 := (upd_ne (H := H0) (a := R) (o := .lst [.ref Z]) (ne_of_none oZ hR)).trans oZ
  generalize upd H0 R (.lst [.ref Z]) = H1 at s1 oR oZ1 ⊢
  have w0 : Rws H1 [Z] (rowsAt hs 0) := ⟨rfl, fun i p r e1 e2 => by
    rcases i with _ | i
    · cases e1; cases e2; exact oZ1
    · cases e1⟩
  refine ⟨_, rfl, _, _, rfl, .inr ⟨_, sq s1, rfl⟩, _, rfl, by omega, by omega, for_it walk_range0 (fun k σ H' => ∃ R as v2 v3 v4 v5, σ = [some (.ref t), some (.ref R), v2, v3, v4, v5] ∧ Same H H' ∧ H R = none ∧ H' R = some (.lst (as.map V.ref)) ∧ Rws H' as (rowsAt hs k) ∧ ∀ q ∈ as, H q = none) ⟨R, [Z], _, _, _, _, rfl, s1, hRn, oR, w0, fun q h => by rw [List.mem_singleton.mp h]; exact hZ⟩ (fun _ _ _ _ _ => trivial) ?_ ?_⟩
  · rintro k x σ Ha Hb hk ⟨R, as, v2, v3, v4, v5, rfl, sa, hRn, oR, hw, _⟩ ⟨rfl, rfl⟩
    have hk' : k < hs.length := by omega
    -- fresh = []
    refine ⟨by show 0 ≤ sizeLine; decide, fun Fr hF => ?_⟩
    have hFn : H Fr = none := sa.free hF
    have s2 := sa.new (o := .lst []) hF
    have nas : Fr ∉ as := fun z => by
      obtain ⟨i, e⟩ := List.getElem?_of_mem z
      have hi := (List.getElem?_eq_some_iff.mp e).1
      have q1 := hw.at_ i Fr _ e (List.getElem?_eq_getElem (by rw [← hw.len]; exact hi))
      rw [hF] at q1; cases q1
    have oF : upd Hb Fr (.lst []) Fr = some (.lst []) := upd_same
    have oR2 := (upd_ne (H := Hb) (a := Fr) (o := .lst []) (ne_of_none oR hF)).trans oR
    have nRF : R ≠ Fr := ne_of_none oR hF
    have hw2 := hw.same ((Same.refl Hb).new (o := .lst []) hF)
    generalize upd Hb Fr (.lst []) = H2 at s2 oF oR2 hw2 ⊢
    clear oR hw sa hF
    -- for row in rows
    refine ⟨_, rfl, R, rfl, ⟨_, SqL.of oR2⟩, for_it (walk_list (xs := as.map V.ref)) (fun i σ H' => ∃ v4 v5 fs, σ = [some (.ref t), some (.ref R), some (.int (k : Int)), some (.ref Fr), v4, v5] ∧ Same H H' ∧ H' R = some (.lst (as.map V.ref)) ∧ Rws H' as (rowsAt hs k) ∧ H' Fr = some (.lst (fs.map V.ref)) ∧ Rws H' fs (((rowsAt hs k).take i).flatMap (ext hs)) ∧ Fr ∉ fs ∧ ∀ q ∈ fs, H q = none)
      ⟨_, _, [], rfl, s2, oR2, hw2, oF, ⟨rfl, fun i p r e1 _ => by cases e1⟩, List.not_mem_nil, fun q h => absurd h List.not_mem_nil⟩ (fun i σ H' _ p => by obtain ⟨_, _, _, _, _, z, _⟩ := p; exact SqL.of z) ?_ ?_⟩
    · rintro i x σ Hc Hd hi ⟨v4, v5, fs, rfl, sc, oR, hw, oF, hf, nfs, nnf⟩ ⟨rfl, e1⟩
      rw [List.getElem?_map] at e1
      obtain ⟨qa, eq, rfl⟩ : ∃ qa, as[i]? = some qa ∧ x = V.ref qa := by
        cases e : as[i]? with
        | none => rw [e] at e1; cases e1
        | some qa => rw [e] at e1; exact ⟨qa, rfl, (Option.some.inj e1).symm⟩
      have hil := (List.getElem?_eq_some_iff.mp eq).1
      obtain ⟨row, er⟩ : ∃ row, (rowsAt hs k)[i]? = some row := ⟨_, List.getElem?_eq_getElem (by rw [← hw.len]; exact hil)⟩
      have hrp := rows_pre hs k row (List.mem_of_getElem? er)
      have etake : (rowsAt hs k).take (i + 1) = (rowsAt hs k).take i ++ [row] := by rw [List.take_add_one, er]; rfl
      have lpre : (((rowsAt hs k).take (i + 1)).flatMap (ext hs)).length ≤ 46656 := by
        have z : (((rowsAt hs k).take (i + 1)).flatMap (ext hs)).length ≤ (rowsAt hs (k + 1)).length := by
          show _ ≤ ((rowsAt hs k).flatMap (ext hs)).length
          rw [← List.take_append_drop (i + 1) (rowsAt hs k), List.flatMap_append, List.length_append, List.take_append_drop]
          exact Nat.le_add_right _ _
        exact Nat.le_trans z (big (k + 1) (by omega))
      rw [etake, List.flatMap_append, List.length_append] at lpre
      generalize hpref : ((rowsAt hs k).take i).flatMap (ext hs) = pref at hf lpre
      -- for one in range(len(plan))
      refine ⟨_, rfl, _, _, rfl, .inr ⟨_, sq sc, rfl⟩, _, rfl, by omega, by omega, for_it walk_range0 (fun j σ H' => ∃ v5 fs, σ = [some (.ref t), some (.ref R), some (.int (k : Int)), some (.ref Fr), some (.ref qa), v5] ∧ Same H H' ∧ H' R = some (.lst (as.map V.ref)) ∧ Rws H' as (rowsAt hs k) ∧ H' Fr = some (.lst (fs.map V.ref)) ∧ Rws H' fs (pref ++ extTo hs row j) ∧ Fr ∉ fs ∧ ∀ q ∈ fs, H q = none)
        ⟨_, fs, rfl, sc, oR, hw, oF, by show Rws _ _ (pref ++ []); rw [List.append_nil]; exact hf, nfs, nnf⟩ (fun _ _ _ _ _ => trivial) ?_ ?_⟩
      · rintro j x σ He Hf hj ⟨v5, fs, rfl, se, oR, hw, oF, hf, nfs, nnf⟩ ⟨rfl, rfl⟩
        have hj' : j < hs.length := by omega
        have hq := hw.at_ i qa row eq er
        obtain ⟨o, ho⟩ : ∃ o, hs[j]? = some o := ⟨_, List.getElem?_eq_getElem hj'⟩
        have skip : ¬ avB hs row j = true → ∃ v5 fs, [some (V.ref t), some (V.ref R), some (V.int (k : Int)), some (V.ref Fr), some (V.ref qa), some (V.int (j : Int))] = [some (.ref t), some (.ref R), some (.int (k : Int)), some (.ref Fr), some (.ref qa), v5] ∧ Same H Hf ∧ Hf R = some (.lst (as.map V.ref)) ∧ Rws Hf as (rowsAt hs k) ∧ Hf Fr = some (.lst (fs.map V.ref)) ∧ Rws Hf fs (pref ++ extTo hs row (j + 1)) ∧ Fr ∉ fs ∧ (∀ q ∈ fs, H q = none) := fun c =>
          ⟨_, fs, rfl, se, oR, hw, oF, by rw [extTo_succ, if_neg c, List.append_nil]; exact hf, nfs, nnf⟩
        have lfs : fs.length ≤ 46656 := by
          have z1 := hf.len
          rw [List.length_append] at z1
          have z2 : (extTo hs row j).length ≤ (ext hs row).length := by
            rw [← extTo_all]
            unfold extTo
            rw [List.length_map, List.length_map]
            have z3 : List.range hs.length = List.range j ++ (List.range hs.length).drop j := by
              have z4 := List.take_append_drop j (List.range hs.length)
              rw [List.take_range, Nat.min_eq_left (Nat.le_of_lt hj')] at z4
              exact z4.symm
            rw [z3, List.filter_append, List.length_append]
            exact Nat.le_add_right _ _
          have z5 : ([row].flatMap (ext hs)).length = (ext hs row).length := by rw [List.flatMap_cons, List.flatMap_nil, List.append_nil]
          omega
        have sz : (46656 : Nat) < sizeLine := by decide
        have hrow : row.length ≤ 60 := by rw [hrp.2]; omega
        have nqF : qa ≠ Fr := fun z => nas (by rw [← z]; exact List.mem_of_getElem? eq)
        refine ⟨_, rfl, _, rfl, qa, _, rfl, .inl (SqL.of hq), rfl, flat_nv row, !decide (j ∈ row), by show V.bl (!inV _ _) = _; rw [inV_nv], ?_⟩
        by_cases hjr : j ∈ row
        · rw [decide_eq_true hjr]
          exact iteF (iteF (skip (by unfold avB; rw [decide_eq_false (fun z => z hjr), Bool.false_and]; exact Bool.false_ne_true)))
        · rw [decide_eq_false hjr]
          refine iteT ⟨_, rfl, _, rfl, t, _, _, hv o, rfl, rfl, sq se, atI_nat (hv_at ho), rfl, decide (hv o = V.non), rfl, ?_⟩
          rcases o with _ | u
          · have hav : avB hs row j = true := by unfold avB; rw [ho, decide_eq_true hjr]; rfl
            refine iteT (iteT ?_)
            refine ⟨_, rfl, .inl ⟨rfl, _, SqL.of oF⟩, _, rfl, _, rfl, by show 1 ≤ sizeLine; decide, fun L hL => ?_⟩
            have sL := se.new (o := .lst [.int (j : Int)]) hL
            have oL : upd Hf L (.lst [.int (j : Int)]) L = some (.lst [.int (j : Int)]) := upd_same
            have kL := (Same.refl Hf).new (o := .lst [.int (j : Int)]) hL
            generalize upd Hf L (.lst [.int (j : Int)]) = Hg at sL oL kL ⊢
            refine ⟨qa, L, _, _, rfl, rfl, kL _ _ hq, oL, by rw [nv_length]; exact Nat.le_of_lt (szl (by show _ + 1 ≤ 1000; omega)), fun N hN => ?_⟩
            have eN : nv row ++ [V.int (j : Int)] = nv (row ++ [j]) := by rw [nv_append]; rfl
            rw [eN]
            have sN := sL.new (o := .lst (nv (row ++ [j]))) hN
            have kN := kL.trans ((Same.refl Hg).new (o := .lst (nv (row ++ [j]))) hN)
            have oN : upd Hg N (.lst (nv (row ++ [j]))) N = some (.lst (nv (row ++ [j]))) := upd_same
            have nNF : Fr ≠ N := ne_of_none (kL _ _ oF) hN
            generalize upd Hg N (.lst (nv (row ++ [j]))) = Hh at sN kN oN ⊢
            refine ⟨Fr, _, _, rfl, rfl, kN _ _ oF, by rw [List.length_map]; omega, ?_⟩
            refine ⟨_, fs ++ [N], rfl, sN.upd hFn, by rw [upd_ne nRF]; exact kN _ _ oR, (hw.same kN).but nas, by rw [upd_same, List.map_append]; rfl, ?_, fun z => (List.mem_append.mp z).elim nfs fun z => nNF (List.mem_singleton.mp z), fun q hq => (List.mem_append.mp hq).elim (nnf q) fun z => by rw [List.mem_singleton.mp z]; exact sL.free hN⟩
            rw [extTo_succ, if_pos hav, ← List.append_assoc]
            exact ((hf.same kN).but nfs).grow (by rw [upd_ne nNF.symm]; exact oN)
          · refine iteF ⟨_, rfl, _, rfl, t, _, _, hv (some u), rfl, rfl, sq se, atI_nat (hv_at ho), _, rfl, qa, _, rfl, .inl (SqL.of hq), rfl, flat_nv row, decide (u ∈ row), congrArg V.bl (inV_nv u row), ?_⟩
            by_cases hur : u ∈ row
            · have hav : avB hs row j = true := by unfold avB; rw [ho, decide_eq_true hjr]; exact decide_eq_true hur
              rw [decide_eq_true hur]
              refine iteT ?_
              refine ⟨_, rfl, .inl ⟨rfl, _, SqL.of oF⟩, _, rfl, _, rfl, by show 1 ≤ sizeLine; decide, fun L hL => ?_⟩
              have sL := se.new (o := .lst [.int (j : Int)]) hL
              have oL : upd Hf L (.lst [.int (j : Int)]) L = some (.lst [.int (j : Int)]) := upd_same
              have kL := (Same.refl Hf).new (o := .lst [.int (j : Int)]) hL
              generalize upd Hf L (.lst [.int (j : Int)]) = Hg at sL oL kL ⊢
              refine ⟨qa, L, _, _, rfl, rfl, kL _ _ hq, oL, by rw [nv_length]; exact Nat.le_of_lt (szl (by show _ + 1 ≤ 1000; omega)), fun N hN => ?_⟩
              have eN : nv row ++ [V.int (j : Int)] = nv (row ++ [j]) := by rw [nv_append]; rfl
              rw [eN]
              have sN := sL.new (o := .lst (nv (row ++ [j]))) hN
              have kN := kL.trans ((Same.refl Hg).new (o := .lst (nv (row ++ [j]))) hN)
              have oN : upd Hg N (.lst (nv (row ++ [j]))) N = some (.lst (nv (row ++ [j]))) := upd_same
              have nNF : Fr ≠ N := ne_of_none (kL _ _ oF) hN
              generalize upd Hg N (.lst (nv (row ++ [j]))) = Hh at sN kN oN ⊢
              refine ⟨Fr, _, _, rfl, rfl, kN _ _ oF, by rw [List.length_map]; omega, ?_⟩
              refine ⟨_, fs ++ [N], rfl, sN.upd hFn, by rw [upd_ne nRF]; exact kN _ _ oR, (hw.same kN).but nas, by rw [upd_same, List.map_append]; rfl, ?_, fun z => (List.mem_append.mp z).elim nfs fun z => nNF (List.mem_singleton.mp z), fun q hq => (List.mem_append.mp hq).elim (nnf q) fun z => by rw [List.mem_singleton.mp z]; exact sL.free hN⟩
              rw [extTo_succ, if_pos hav, ← List.append_assoc]
              exact ((hf.same kN).but nfs).grow (by rw [upd_ne nNF.symm]; exact oN)
            · rw [decide_eq_false hur]
              exact iteF (skip (by unfold avB; rw [ho, decide_eq_true hjr, Bool.true_and]; show ¬ decide (u ∈ row) = true; rw [decide_eq_false hur]; exact Bool.false_ne_true))
      · rintro σ He ⟨v5, fs, rfl, se, oR, hw, oF, hf, nfs, nnf⟩
        have eN : ((((hs.map hv).length : Nat) : Int)).toNat = hs.length := by omega
        rw [eN, extTo_all] at hf
        refine ⟨_, _, fs, rfl, se, oR, hw, oF, ?_, nfs, nnf⟩
        rw [etake, List.flatMap_append, List.flatMap_cons, List.flatMap_nil, List.append_nil, hpref]
        exact hf
    · rintro σ Hc ⟨v4, v5, fs, rfl, sc, oR, hw, oF, hf, nfs, nnf⟩
      have lr := hw.len
      rw [List.length_map, lr, List.take_length] at hf
      exact ⟨_, rfl, Fr, fs, _, _, _, _, rfl, sc, hFn, oF, hf, nnf⟩
  · rintro σ Ha ⟨R, as, v2, v3, v4, v5, rfl, sa, hRn, oR, hw, nnw⟩
    have eN : ((((hs.map hv).length : Nat) : Int)).toNat = hs.length := by omega
    rw [eN] at hw
    exact ⟨_, rfl, q R as Ha sa hRn oR hw nnw⟩
theorem ok__law_rows (D : Df K mg "_law_rows" st__law_rows ["plan"]) (B : Bl mg) : Kn P w K mg base CX0 1 "_law_rows" st__law_rows ["plan"] spRows :=
  Kn.imp (ok__law_rowsN D B) fun _ _ _ _ ⟨t, hs, e, ht, fo, h6, q⟩ => ⟨t, hs, e, ht, fo, h6, fun p as H' s hp ho wr _ => q p as H' s hp ho wr⟩
end

end My

namespace My
open PySem PySem.Spec PyProof.Rows L2
/-! ### a list's method with an argument, in a comprehension -/
theorem mt_indexK {X : Cx} (K : PySem.W.Frag) (e : X.K = K := by rfl) : MtR X "list.index" (rIndex K) := by subst e; exact mt_index
theorem pe_bmK {X : Cx} (K : PySem.W.Frag) {o a : Expr} {es : List Expr} {T name id : String} {r : V → List V → Hp → VK → Prop} {to : TE} {t : TA} {apos cpos : Pos} (pa : PlainAttrs T) (slot : Slot T name id) (hty : typeOf (.builtin id) = pure (.type "method_descriptor")) (hm : MtR X id r) (ho : PE X o to) (ha : PA X (a :: es) t) (e : X.K = K := by rfl)
    (hbase : attributeBase o name X.env (eval o X.env) = eval o X.env := by rfl)
    (hfew : ((backTo cpos (starEach (a :: es) X.env)).all (fun x => !x.1) && (backToKw cpos (keywordEach [] X.env)).all (fun x => x.1.isSome) && decide ((a :: es).length + ([] : List Keyword).length + (if ([] : List Keyword).isEmpty then 0 else 1) < 30)) = true := by rfl)
    (hline : (apos.endLine == cpos.line) = true := by rfl) (hs : starEach (a :: es) X.env = (false, eval a X.env) :: starEach es X.env := by rfl) (hplain : (backTo cpos (starEach es X.env)).any (·.1) = false := by rfl) :
    PE X (.Call (.Attribute o name apos) (a :: es) [] cpos) (tBM K T r to t) := by subst e; exact pe_bm pa slot hty hm ho ha hbase hfew hline hs hplain
theorem mt_popAtK {X : Cx} (K : PySem.W.Frag) : MtR X "list.pop" rPopAt := mt_popAt

theorem divAll_bd : ∀ {F : List Int} {a : Int}, 0 ≤ a → (∀ x ∈ F, 1 ≤ x) → 0 ≤ divAll a F ∧ divAll a F ≤ a
  | [], a, h, _ => ⟨h, Int.le_refl _⟩
  | x :: F, a, h, hx => by
    have x1 := hx x List.mem_cons_self
    have d0 : 0 ≤ a / x := Int.ediv_nonneg h (by omega)
    have d1 : a / x ≤ a := Int.ediv_le_self x h
    have z := divAll_bd (F := F) d0 fun y hy => hx y (List.mem_cons_of_mem _ hy)
    exact ⟨z.1, Int.le_trans z.2 d1⟩
theorem cnt_bd {hs : Hs} (fo : Fo hs) : 0 ≤ cntL hs ∧ cntL hs ≤ ((fct hs.length : Nat) : Int) := divAll_bd (by omega) fun x hx => by
  obtain ⟨i, e⟩ := List.getElem?_of_mem hx
  have lt := (List.getElem?_eq_some_iff.mp e).1
  have ll : (szL hs).length = hs.length := (szL_ok fo).1
  have b := szL_at fo (show i < hs.length by omega)
  have ei : (szL hs).getD i 0 = x := by rw [List.getD_eq_getElem?_getD, e]; rfl
  omega

theorem mt_lcountVK {X : Cx} (K : PySem.W.Frag) (e : X.K = K := by rfl) : MtR X "list.count" (rCntV K) := by subst e; exact mt_lcountV
/-! ### the law's tallies -/
theorem lineOf_pz {hs : Hs} {o : List Nat} (lt : ∀ v ∈ o, v < hs.length) : lineOf ((List.range hs.length).map (pz hs)) o = o.map (pz hs) := by
  unfold lineOf
  refine List.map_congr_left fun v hv => ?_
  have h := lt v hv
  rw [List.getD_eq_getElem?_getD, List.getElem?_map, List.getElem?_range h]; rfl
theorem pairs_eq {hs : Hs} {o : List Nat} (lt : ∀ v ∈ o, v < hs.length) : ((List.range o.length).map (invB (lineOf ((List.range hs.length).map (pz hs)) o))).sum = invR (o.map (pz hs)) := by
  rw [lineOf_pz lt, ← invB_sum, List.length_map]
theorem dsI_nat (l : List Nat) : dsI l = ((drN l : Nat) : Int) := by
  unfold dsI drN drI
  have key : ∀ L : List Nat, (∀ i ∈ L, i + 1 < l.length) → (L.map fun i : Nat => (l.length : Int) - (1 + (i : Int))).sum = (((L.map fun i => l.length - (1 + i)).sum : Nat) : Int) := fun L => by
    induction L with
    | nil => exact fun _ => rfl
    | cons x L ih =>
      intro h
      have a := h x List.mem_cons_self
      rw [List.map_cons, List.sum_cons, ih fun i hi => h i (List.mem_cons_of_mem _ hi), List.map_cons, List.sum_cons]
      omega
  refine key _ fun i hi => ?_
  have := List.mem_range.mp (List.mem_filter.mp hi).1
  omega
theorem cntV_nat (k : Nat) : ∀ L : List Nat, cntV (.int (k : Int)) (nv L) = L.count k
  | [] => rfl
  | x :: L => by
    have ih := cntV_nat k L
    unfold cntV nv at ih ⊢
    rw [List.map_cons, List.countP_cons, List.count_cons, ih]
    congr 1
    have e : eqV (.int (x : Int)) (.int (k : Int)) = (x == k) := by
      show decide ((x : Int) = (k : Int)) = (x == k)
      by_cases c : x = k
      · subst c; simp
      · rw [decide_eq_false (by omega)]; simp [c]
    rw [e]
theorem flat_nvs (L : List Nat) : (nv L).all flatV = true := List.all_eq_true.mpr fun x hx => by
  obtain ⟨v, _, rfl⟩ := List.mem_map.mp hx
  rfl
theorem max_of : ∀ {L : List Nat} {v : Nat}, v ∈ L → (∀ u ∈ L, u ≤ v) → L.foldr max 0 = v := fun {L v} m h => by
  have up : ∀ (l : List Nat), (∀ u ∈ l, u ≤ v) → l.foldr max 0 ≤ v := fun l => by
    induction l with
    | nil => exact fun _ => Nat.zero_le _
    | cons x l ih =>
      intro k
      have a := k x List.mem_cons_self
      have b := ih fun u hu => k u (List.mem_cons_of_mem _ hu)
      rw [List.foldr_cons]
      exact Nat.max_le.mpr ⟨a, b⟩
  have lo : ∀ (l : List Nat), v ∈ l → v ≤ l.foldr max 0 := fun l => by
    induction l with
    | nil => exact fun z => absurd z List.not_mem_nil
    | cons x l ih =>
      intro k
      rw [List.foldr_cons]
      rcases List.mem_cons.mp k with e | k
      · rw [e]; exact Nat.le_max_left _ _
      · exact Nat.le_trans (ih k) (Nat.le_max_right _ _)
  exact Nat.le_antisymm (up L h) (lo L m)
theorem tlN_len (L : List Nat) : (tlN L).length = L.foldr max 0 + 1 := by unfold tlN; rw [List.length_map, List.length_range]
def spTal (T : Addr) : Sp := fun vs H Q _ => ∃ (t : Addr) (hs : Hs), vs = [.ref t] ∧ H t = some (.tup (hs.map hv)) ∧ Fo hs ∧ hs.length ≤ 6 ∧ NdefX.TabsN (TbG T) H ∧
  ∀ D A B H', LamX.ExtN H H' → NdefX.TabsN (TbG T) H' → H' D = some (.lst [.ref A, .ref B]) → H' A = some (.lst (iv (tcv hs))) → H' B = some (.lst (iv (tcv hs))) → Q (.ref D) H'
theorem rows_few {hs : Hs} (fo : Fo hs) (n6 : hs.length ≤ 6) : (rowsAt hs hs.length).length ≤ 720 := by
  have cR := cntL_rows fo
  have a := (cnt_bd fo).2
  have b : ∀ n, n < 7 → fct n ≤ 720 := by decide
  have c := b hs.length (by omega)
  omega
theorem rows_some {hs : Hs} (fo : Fo hs) : 0 < (rowsAt hs hs.length).length := by
  have cR := cntL_rows fo
  have a := cnt_pos fo
  omega
section
variable {P : Program} {w : World} {K : PySem.W.Frag} {mg : Str → Option Value} {base : Heap} {CF T : Addr}
abbrev st__law_tallies : Stmt := topS 32
abbrev N__law_tallies : List Str := ["plan", "spots", "rows", "found", "line", "row", "k"]
theorem sc__law_tallies : FnScope N__law_tallies ["plan"] (defScope st__law_tallies) := ⟨rfl, rfl, rfl, by decide +kernel, rfl, by decide +kernel, by decide +kernel⟩
theorem ok__law_tallies (D : Df K mg "_law_tallies" st__law_tallies ["plan"]) (B : Bl mg) (K_law_numbers : Kn P w K mg base CX0 62 "_law_numbers" st__law_numbers ["plan"] (spLNum T)) (K_law_rows : Kn P w K mg base CX0 1 "_law_rows" st__law_rows ["plan"] spRowsN)
    (K_law_pairs : Kn P w K mg base CX0 1 "_law_pairs" st__law_pairs ["spots", "row"] spLPairs) (K_law_drops : Kn P w K mg base CX0 1 "_law_drops" st__law_drops ["spots", "row"] spLDrops) : Kn P w K mg base CX0 63 "_law_tallies" st__law_tallies ["plan"] (spTal T) := by
  refine D.ok sc__law_tallies (fun vs H Q E h => ?_) (fun f cdv A outer s H vs Q E hr h => ?_)
  · obtain ⟨t, hs, rfl, _⟩ := h; rfl
  obtain ⟨t, hs, rfl, ht, fo, n6, hT, q⟩ := h
  refine ⟨_, ((pss_cons (ps_asg (pe_tup (pa_cons (pe_callF K_law_numbers (hr.mono (by decide)) pass0 (pa_cons (pv 0) pa_nil)) (pa_cons (pe_callF K_law_rows (hr.mono (by decide)) pass0 (pa_cons (pv 0) pa_nil)) (pa_cons (pe_lst pa_nil) pa_nil)))) (pg_tup rfl (pgs_cons (pg_name (i := 1) sc__law_tallies.nd rfl (Or.inr rfl)) (pgs_cons (pg_name (i := 2) sc__law_tallies.nd rfl (Or.inl rfl)) (pgs_cons (pg_name (i := 3) sc__law_tallies.nd rfl (Or.inl rfl)) pgs_nil)))))
      (pss_cons (ps_for PassesOwn.never rfl (pi_tup (pe_tup (pa_cons (pe_lc (own := [("row", 5)]) (g := gName 5) rfl sc__law_tallies.nd (pi_list (pv 2)) (blkOk_by (N := N__law_tallies) (sc := defScope st__law_tallies) (own := [("row", 5)]) (by decide +kernel)) (fun _ _ _ _ _ => by (exact (pg_name (i := 5) sc__law_tallies.nd rfl (Or.inl rfl)))) (fun _ _ _ _ _ => by exact pts_nil) (fun _ _ _ _ _ => by exact (pe_callF K_law_pairs (hr.mono (by decide)) pass0 (pa_cons (pv 1) (pa_cons (pv 5) pa_nil))))) (pa_cons (pe_lc (own := [("row", 5)]) (g := gName 5) rfl sc__law_tallies.nd (pi_list (pv 2)) (blkOk_by (N := N__law_tallies) (sc := defScope st__law_tallies) (own := [("row", 5)]) (by decide +kernel)) (fun _ _ _ _ _ => by (exact (pg_name (i := 5) sc__law_tallies.nd rfl (Or.inl rfl)))) (fun _ _ _ _ _ => by exact pts_nil) (fun _ _ _ _ _ => by exact (pe_callF K_law_drops (hr.mono (by decide)) pass0 (pa_cons (pv 1) (pa_cons (pv 5) pa_nil))))) pa_nil)))) (pg_name (i := 4) sc__law_tallies.nd rfl (Or.inr rfl)) (pss_one (ps_expr (pe_bm PySem.F.plainAttrs_list PySem.F.slot_list_append PySem.F.type_list_append mt_append (pv 3) (pa_cons (pe_lc (own := [("k", 6)]) (g := gName 6) rfl sc__law_tallies.nd (pi_range1 (by rfl) B.range (pa_cons (pe_op op_add (pe_callB (cr_max rfl) (by rfl) B.max (by decide +kernel) (pa_cons (pv 4) pa_nil)) pe_int) pa_nil)) (blkOk_by (N := N__law_tallies) (sc := defScope st__law_tallies) (own := [("k", 6)]) (by decide +kernel)) (fun _ _ _ _ _ => by (exact (pg_name (i := 6) sc__law_tallies.nd rfl (Or.inl rfl)))) (fun _ _ _ _ _ => by exact pts_nil) (fun _ _ _ _ _ => by exact (pe_bmK K PySem.F.plainAttrs_list PySem.F.slot_list_count PySem.F.type_list_count (mt_lcountVK K) (pv 4) (pa_cons (pv 6) pa_nil)))) pa_nil)))))
      (pss_one (ps_ret (pv 3)))))), ?_⟩
  have l60 : hs.length ≤ 60 := by omega
  have p62 : (2 : Int) ^ 62 = 4611686018427387904 := by decide
  have p63 : (2 : Int) ^ 63 = 9223372036854775808 := by decide
  refine ⟨_, rfl, t, hs, rfl, ht, fo, l60, hT, fun S H1 e1 t1 hS oS => ⟨_, rfl, t, hs, rfl, e1 _ _ ht (by intro ps z; cases z), fo, n6, fun P1 as H2 s2 hP oP rw' nw => ⟨by show 0 ≤ sizeLine; decide, fun F hF => ⟨by show 3 ≤ sizeLine; decide, fun Y hY => ?_⟩⟩⟩⟩
  have oS2 := s2 _ _ oS
  have s3 := (Same.refl H2).new (o := .lst []) hF
  have oF : upd H2 F (.lst []) F = some (.lst []) := upd_same
  have e02 : LamX.ExtN H H2 := fun b o z n => s2 _ _ (e1 b o z n)
  have t2 := tabsG_same t1 s2
  have hF0 : ∀ b o, H b = some o → (∀ ps, o ≠ .tbl ps) → b ≠ F := fun b o z n => ne_of_none (e02 b o z n) hF
  have hF2 := hF
  generalize upd H2 F (.lst []) = H3 at s3 oF hY ⊢
  have sY := (Same.refl H3).new (o := .tup [.ref S, .ref P1, .ref F]) hY
  have oY : upd H3 Y (.tup [.ref S, .ref P1, .ref F]) Y = some (.tup [.ref S, .ref P1, .ref F]) := upd_same
  have s3 := s3.trans sY
  have oF := sY _ _ oF
  generalize upd H3 Y (.tup [.ref S, .ref P1, .ref F]) = H3 at s3 oF oY ⊢
  refine ⟨Y, _, rfl, SqT.of oY, rfl, _, _, rfl, _, _, rfl, _, _, rfl, rfl, ?_⟩
  clear oY sY
  have oS3 := s3 _ _ oS2
  have oP3 := s3 _ _ oP
  have rw3 := rw'.same s3
  have c720 := rows_few fo n6
  have lm : (as.map V.ref).length = (rowsAt hs hs.length).length := by rw [List.length_map, rw'.len]
  have row_at : ∀ {i : Nat} {p : Addr}, as[i]? = some p → ∃ r, (rowsAt hs hs.length)[i]? = some r ∧ Row hs r ∧ r.length = hs.length ∧ H3 p = some (.lst (nv r)) := fun {i p} e => by
    have hi := (List.getElem?_eq_some_iff.mp e).1
    rw [rw'.len] at hi
    have er : (rowsAt hs hs.length)[i]? = some (rowsAt hs hs.length)[i] := List.getElem?_eq_getElem hi
    obtain ⟨a, b⟩ := rows_mem.mp (List.getElem_mem hi)
    exact ⟨_, er, a, b, rw3.at_ i p _ e er⟩
  have spl : ((List.range hs.length).map (pz hs)).length = hs.length := by rw [List.length_map, List.length_range]
  have ivl : ∀ g : List Nat → Nat, iv (((List.range (as.map V.ref).length).filter fun _ => true).map fun i => ((g ((rowsAt hs hs.length).getD i []) : Nat) : Int)) = nv ((rowsAt hs hs.length).map g) := fun g => by
    rw [List.filter_eq_self.mpr fun _ _ => rfl, lm]
    refine List.ext_getElem? fun i => ?_
    unfold iv nv
    rw [List.getElem?_map, List.getElem?_map, List.getElem?_map, List.getElem?_map]
    by_cases c : i < (rowsAt hs hs.length).length
    · simp [List.getElem?_range c, List.getD_eq_getElem?_getD, List.getElem?_eq_getElem c]
    · rw [List.getElem?_eq_none (by rw [List.length_range]; omega), List.getElem?_eq_none (by omega)]; rfl
  -- the two lines
  refine ⟨_, rfl, P1, rfl, ⟨_, SqL.of oP3⟩, fun L1 hL1 => lc_u (walk_list (xs := as.map V.ref)) (fun _ => true) (fun i => ((invR (((rowsAt hs hs.length).getD i []).map (pz hs)) : Nat) : Int)) (by omega) hL1 (fun H' s' => SqL.of (s' _ _ oP3)) ?_ fun H5 s5 oL1 => ?_⟩
  · rintro i x H5 H6 N A' hi s5 ⟨rfl, e1⟩ _ hA
    obtain ⟨p, ep, rfl⟩ := ref_atT e1
    obtain ⟨r, er, ro, rl, op⟩ := row_at ep
    refine ⟨rfl, _, rfl, _, rfl, S, p, _, r, rfl, s5 _ _ oS3, s5 _ _ op, fun v hv => by rw [spl]; exact ro.lt v hv, by omega, fun H7 s7 => ?_⟩
    rw [pairs_eq ro.lt]
    have y := hA rfl H7 s7
    rw [List.getD_eq_getElem?_getD, er] at y
    exact y
  rw [ivl fun r => invR (r.map (pz hs))] at oL1
  have n1F : L1 ≠ F := (ne_of_none oF hL1).symm
  have oP5 := s5 _ _ oP3
  refine ⟨_, rfl, P1, rfl, ⟨_, SqL.of oP5⟩, fun L2 hL2 => lc_u (walk_list (xs := as.map V.ref)) (fun _ => true) (fun i => ((drN (((rowsAt hs hs.length).getD i []).map (pz hs)) : Nat) : Int)) (by omega) hL2 (fun H' s' => SqL.of (s' _ _ oP5)) ?_ fun H6 s6 oL2 => ?_⟩
  · rintro i x H6 H7 N A' hi s6 ⟨rfl, e1⟩ _ hA
    obtain ⟨p, ep, rfl⟩ := ref_atT e1
    obtain ⟨r, er, ro, rl, op⟩ := row_at ep
    refine ⟨rfl, _, rfl, _, rfl, S, p, _, r, rfl, s6 _ _ (s5 _ _ oS3), s6 _ _ (s5 _ _ op), fun v hv => by rw [spl]; exact ro.lt v hv, by omega, fun H8 s8 => ?_⟩
    rw [lineOf_pz ro.lt, dsI_nat]
    have y := hA rfl H8 s8
    rw [List.getD_eq_getElem?_getD, er] at y
    exact y
  rw [ivl fun r => drN (r.map (pz hs))] at oL2
  have n2F : L2 ≠ F := (ne_of_none (s5 _ _ oF) hL2).symm
  refine ⟨by show 2 ≤ sizeLine; decide, fun X hX => ?_⟩
  have s7 := s6.new (o := .tup [.ref L1, .ref L2]) hX
  have oX : upd H6 X (.tup [.ref L1, .ref L2]) X = some (.tup [.ref L1, .ref L2]) := upd_same
  have oL2 := ((Same.refl H6).new (o := .tup [.ref L1, .ref L2]) hX) _ _ oL2
  generalize upd H6 X (.tup [.ref L1, .ref L2]) = Hb at s7 oX oL2 ⊢
  have oL1 := s7 _ _ oL1
  have oFb := s7 _ _ (s5 _ _ oF)
  have nXF : X ≠ F := fun z => by rw [z, oFb] at oX; cases oX
  obtain ⟨tm1, tm2⟩ := tal_main fo n6
  have rs0 := rows_some fo
  have mo := mostZ_at fo n6
  have tcl : (tcv hs).length = (mostZ hs).toNat + 1 := serL_len _ _
  refine ⟨X, rfl, ⟨_, SqT.of oX⟩, for_it (walk_tup (K := K) (xs := [.ref L1, .ref L2])) (fun i σ H' => ∃ v4 ds, σ = [some (.ref t), some (.ref S), some (.ref P1), some (.ref F), v4, none, none] ∧ Keep F Hb H' ∧ H' F = some (.lst (ds.map V.ref)) ∧ ds.length = i ∧ ∀ (j : Nat) (d : Addr), ds[j]? = some d → d ≠ F ∧ H' d = some (.lst (iv (tcv hs))))
    ⟨none, [], rfl, Keep.refl F Hb, oFb, rfl, fun j d e => by cases e⟩ (fun i σ H' _ z => by obtain ⟨_, _, _, k, _⟩ := z; exact SqT.of (k _ _ nXF oX)) ?_ ?_⟩
  · rintro i x σ H8 H9 hi ⟨v4, ds, rfl, k8, oF8, ld, hd⟩ ⟨rfl, e1⟩
    obtain ⟨L, LL, rfl, nL, oL, tL, l0⟩ : ∃ (L : Addr) (LL : List Nat), x = .ref L ∧ L ≠ F ∧ Hb L = some (.lst (nv LL)) ∧ tlN LL = tcv hs ∧ 0 < LL.length := by
      have hi2 : i < 2 := hi
      have c : i = 0 ∨ i = 1 := by omega
      rcases c with rfl | rfl
      · exact ⟨L1, _, (Option.some.inj e1).symm, n1F, oL1, tm1, by rw [List.length_map]; exact rs0⟩
      · exact ⟨L2, _, (Option.some.inj e1).symm, n2F, oL2, tm2, by rw [List.length_map]; exact rs0⟩
    have oL8 := k8 _ _ nL oL
    have enat : (LL.map fun v : Nat => (v : Int)).map V.int = nv LL := by unfold nv; rw [List.map_map]; rfl
    refine ⟨_, rfl, .inl ⟨rfl, _, SqL.of oF8⟩, _, rfl, L, LL.map fun v : Nat => (v : Int), rfl, by rw [enat]; exact SqL.of oL8, by rw [List.length_map]; exact l0, fun m mm mx => ?_⟩
    obtain ⟨v, mv, rfl⟩ := List.mem_map.mp mm
    have ev := max_of mv fun u hu => by
      have := mx _ (List.mem_map.mpr ⟨u, hu, rfl⟩)
      omega
    have lv := tlN_len LL
    rw [tL, tcl, ev] at lv
    refine ⟨_, _, rfl, rfl, _, rfl, by omega, by omega, fun A1 hA1 => lc_u walk_range0 (fun _ => true) (fun k => ((LL.count k : Nat) : Int)) (by omega) hA1 (fun _ _ => trivial) ?_ fun H10 s10 oA => ?_⟩
    · rintro k y H10 H11 N A' hk s10 ⟨rfl, rfl⟩ _ hA
      have z := hA rfl _ (Same.refl _)
      refine ⟨rfl, _, rfl, .inl ⟨rfl, _, SqL.of (s10 _ _ oL8)⟩, _, rfl, L, _, _, rfl, rfl, SqL.of (s10 _ _ oL8), rfl, flat_nvs LL, ?_⟩
      rw [cntV_nat]
      exact z
    rw [iv_all, show ((v : Int) + 1).toNat = v + 1 by omega] at oA
    have eA : serL (v + 1) (fun k => ((LL.count k : Nat) : Int)) = tcv hs := by
      rw [← tL]
      unfold tlN
      rw [ev]; rfl
    rw [eA] at oA
    have oF10 := s10 _ _ oF8
    have nA : A1 ≠ F := (ne_of_none oF8 hA1).symm
    refine ⟨F, _, _, rfl, rfl, oF10, by have hi2 : i < 2 := hi; rw [List.length_map, ld]; exact szl (by omega), some (.ref L), ds ++ [A1], rfl, ?_, ?_, by rw [List.length_append, ld]; rfl, fun j d e => ?_⟩
    · exact fun b o nb e => (upd_ne nb).trans (s10 _ _ (k8 b o nb e))
    · rw [upd_same, List.map_append]; rfl
    · by_cases c : j < ds.length
      · rw [List.getElem?_append_left c] at e
        obtain ⟨a1, a2⟩ := hd j d e
        exact ⟨a1, (upd_ne a1).trans (s10 _ _ a2)⟩
      · rw [List.getElem?_append_right (by omega)] at e
        have ed : A1 = d := by
          have := (List.getElem?_eq_some_iff.mp e).1
          have z : j - ds.length = 0 := by
            rw [List.length_singleton] at this; omega
          rw [z] at e
          exact Option.some.inj e
        subst ed
        exact ⟨nA, (upd_ne nA).trans oA⟩
  · rintro σ H8 ⟨v4, ds, rfl, k8, oF8, ld, hd⟩
    obtain ⟨A1, B1, rfl⟩ : ∃ A1 B1, ds = [A1, B1] := by
      have l2 : ds.length = 2 := ld
      match ds, l2 with
      | [a, b], _ => exact ⟨a, b, rfl⟩
    have s2b := s3.trans (s5.trans s7)
    exact ⟨_, rfl, q F A1 B1 H8 (fun b o z n => k8 b o (hF0 b o z n) (s2b _ _ (e02 b o z n))) (tabsG_keep (tabsG_same t2 s2b) oFb k8) oF8 (hd 0 A1 rfl).2 (hd 1 B1 rfl).2⟩
end

end My

namespace My
open PySem PySem.Spec PyProof.Rows L2
/-! ### the law's test of one forest -/
theorem short_intsL : ∀ l : List Int, shortDs (l.map PyData.int) = true
  | [] => rfl
  | x :: l => by
    rw [List.map_cons]
    show (shortD (PyData.int x) && shortDs (l.map PyData.int)) = true
    rw [short_intsL l]; rfl
theorem dep_intsL : ∀ l : List Int, PyData.depthAll (l.map PyData.int) = 0
  | [] => rfl
  | x :: l => by rw [List.map_cons, PyData.depthAll, dep_intsL l]; rfl
theorem short_il {l : List Int} (h : l.length ≤ 1000) : shortD (.list (l.map PyData.int)) = true := by
  rw [shortD, List.length_map, short_intsL l, decide_eq_true h]; rfl
theorem dep_il (l : List Int) : (PyData.list (l.map PyData.int)).depth = 1 := by rw [PyData.depth, dep_intsL]
theorem rp_il {H : Hp} {a : Addr} {l : List Int} (h : H a = some (.lst (iv l))) : Rp false H (.ref a) (.list (l.map PyData.int)) := .lst h (fun z => by cases z) (rps_ints l)
theorem tcv_few {hs : Hs} (fo : Fo hs) (n6 : hs.length ≤ 6) : (tcv hs).length ≤ 1000 := by
  have a := mostZ_at fo n6
  have b : (tcv hs).length = (mostZ hs).toNat + 1 := serL_len _ _
  omega
def spRight21 (T : Addr) : Sp := fun vs H Q _ => ∃ (t : Addr) (hs : Hs), vs = [.ref t] ∧ H t = some (.tup (hs.map hv)) ∧ Fo hs ∧ hs.length ≤ 6 ∧ NdefX.TabsN (TbG T) H ∧ ∀ H', LamX.ExtN H H' → NdefX.TabsN (TbG T) H' → Q (.bl true) H'
section
variable {P : Program} {w : World} {K : PySem.W.Frag} {mg : Str → Option Value} {base : Heap} {CF T : Addr}
theorem kb_turned_counts_forest : KwB "turned_counts" st_turned_counts ["forest"] ["forest"] (fun us ws => us ++ ws) (fun us ws => us ++ ws) :=
  ⟨fun _ _ _ _ _ _ us ws hl => by
    rw [List.length_append] at hl
    have z : (([("forest" : Str)])).length = 1 := rfl
    rcases us with _ | ⟨u1, us⟩
    · have h : ws.length = 1 := by rw [List.length_nil] at hl; omega
      exact match ws, h with | [_], _ => rfl
    · rw [List.length_cons] at hl
      have h : ws.length = 0 := by omega
      have h2 : us.length = 0 := by omega
      exact match us, ws, h2, h with | [], [], _, _ => rfl, fun a b => a.append b⟩
theorem kb_most_turned_forest : KwB "most_turned" st_most_turned ["forest"] ["forest"] (fun us ws => us ++ ws) (fun us ws => us ++ ws) :=
  ⟨fun _ _ _ _ _ _ us ws hl => by
    rw [List.length_append] at hl
    have z : (([("forest" : Str)])).length = 1 := rfl
    rcases us with _ | ⟨u1, us⟩
    · have h : ws.length = 1 := by rw [List.length_nil] at hl; omega
      exact match ws, h with | [_], _ => rfl
    · rw [List.length_cons] at hl
      have h : ws.length = 0 := by omega
      have h2 : us.length = 0 := by omega
      exact match us, ws, h2, h with | [], [], _, _ => rfl, fun a b => a.append b⟩
abbrev st__law_right : Stmt := topS 33
abbrev N__law_right : List Str := ["plan", "dues", "found"]
theorem sc__law_right : FnScope N__law_right ["plan"] (defScope st__law_right) := ⟨rfl, rfl, rfl, by decide +kernel, rfl, by decide +kernel, by decide +kernel⟩
theorem ok__law_right (D : Df K mg "_law_right" st__law_right ["plan"]) (B : Bl mg) (K_law_tallies : Kn P w K mg base CX0 63 "_law_tallies" st__law_tallies ["plan"] (spTal T)) (K_law_same : ∀ n : Nat, Kn P w K mg base CX0 n "_law_same" st__law_same ["found", "due"] (spSame n))
    (Kturned_counts : Kn P w K mg base (L2.CX P w) 9 "turned_counts" st_turned_counts ["forest"] spCountsT) (Kmost_turned : Kn P w K mg base (L2.CX P w) 8 "most_turned" st_most_turned ["forest"] spMostT) :
    KnQ P w K mg base 64 "_law_right" st__law_right ["plan"] (spRight21 T) := by
  refine D.okQ sc__law_right (fun vs H Q E h => ?_) (fun f cdv A outer s H vs Q E hr hq h => ?_)
  · obtain ⟨t, hs, rfl, _⟩ := h; rfl
  obtain ⟨t, hs, rfl, ht, fo, n6, hT, q⟩ := h
  have K_law_same := K_law_same 3
  refine ⟨_, ((pss_cons (ps_set (i := 1) sc__law_right.nd rfl (Or.inl rfl) (pe_callF K_law_tallies (hr.mono (by decide)) pass0 (pa_cons (pv 0) pa_nil)))
      (pss_cons (ps_set (i := 2) sc__law_right.nd rfl (Or.inl rfl) (pe_callF Kturned_counts (hr.mono (by decide)) passL (pa_cons (pv 0) pa_nil)))
      (pss_cons (ps_if (pt_not (pt_val (pe_callF K_law_same (hr.mono (by decide)) pass0 (pa_cons (pe_lst (pa_cons (pv 2) (pa_cons (pv 2) pa_nil))) (pa_cons (pv 1) pa_nil))))) (pss_one (ps_ret pe_bl)) pss_nil)
      (pss_cons (ps_if (pt_not (pt_val (pe_callF K_law_same (hr.mono (by decide)) pass0 (pa_cons (pe_lst (pa_cons (pe_callF Kmost_turned (hr.mono (by decide)) passL (pa_cons (pv 0) pa_nil)) (pa_cons (pe_callFK0 Kmost_turned (hr.mono (by decide)) kb_most_turned_forest passL (pk_cons (pv 0) pk_nil)) pa_nil))) (pa_cons (pe_lst (pa_cons (pe_op op_sub (pe_callB call_len (by rfl) B.len (by decide +kernel) (pa_cons (pv 2) pa_nil)) pe_int) (pa_cons (pe_op op_sub (pe_callB call_len (by rfl) B.len (by decide +kernel) (pa_cons (pv 2) pa_nil)) pe_int) pa_nil))) pa_nil))))) (pss_one (ps_ret pe_bl)) pss_nil)
      (pss_cons (ps_expr (pe_bm PySem.F.plainAttrs_list PySem.F.slot_list_append PySem.F.type_list_append mt_append (pv 2) (pa_cons pe_int pa_nil)))
      (pss_one (ps_ret (pe_callF K_law_same (hr.mono (by decide)) pass0 (pa_cons (pe_callFK0 Kturned_counts (hr.mono (by decide)) kb_turned_counts_forest passL (pk_cons (pv 0) pk_nil)) (pa_cons (pe_ix ix_list (pv 1) pe_int (fun _ _ => rfl)) pa_nil))))))))))), ?_⟩
  have few := tcv_few fo n6
  have mo := mostZ_at fo n6
  have tcl : (tcv hs).length = (mostZ hs).toNat + 1 := serL_len _ _
  -- dues, found
  refine ⟨_, rfl, t, hs, rfl, ht, fo, n6, hT, fun Du A1 B1 H1 e1 t1 oD oA oB => ?_⟩
  have ht1 := e1 _ _ ht (by intro ps z; cases z)
  refine ⟨_, rfl, t, hs, rfl, ht1, fo, n6, fun R H2 s2 hR oR => ?_⟩
  have q2 : ∀ H', LamX.ExtN H1 H' → NdefX.TabsN (TbG T) H' → Q (.bl true) H' := fun H' e t => q H' (fun b o z n => e b o (e1 b o z n) n) t
  have s20 := s2
  -- if not _law_same([found, found], dues)
  refine ⟨_, rfl, _, rfl, by show 2 ≤ sizeLine; decide, fun L hL => ?_⟩
  have s3 := s2.new (o := .lst [.ref R, .ref R]) hL
  have oL : upd H2 L (.lst [.ref R, .ref R]) L = some (.lst [.ref R, .ref R]) := upd_same
  have oR := ((Same.refl H2).new (o := .lst [.ref R, .ref R]) hL) _ _ oR
  generalize upd H2 L (.lst [.ref R, .ref R]) = H3 at s3 oL oR ⊢
  refine ⟨_, rfl, .ref L, .ref Du, .list [.list ((tcv hs).map PyData.int), .list ((tcv hs).map PyData.int)], rfl, .lst oL (fun z => by cases z) (.cons (rp_il oR) (.cons (rp_il oR) .nil)), .lst (s3 _ _ oD) (fun z => by cases z) (.cons (rp_il (s3 _ _ oA)) (.cons (rp_il (s3 _ _ oB)) .nil)), ?_, ?_, fun H4 s4 => ⟨_, rfl, iteF ?_⟩⟩
  · rw [PyData.depth, PyData.depthAll, PyData.depthAll, PyData.depthAll, dep_il]; decide
  · rw [shortD, shortDs, shortDs, short_il few]; rfl
  have s14 := s3.trans s4
  have oR4 := s4 _ _ oR
  -- if not _law_same([most_turned(plan), most_turned(forest=plan)], [len(found) - 1, len(found) - 1])
  refine ⟨_, rfl, t, hs, rfl, s14 _ _ ht1, fo, n6, fun H5 s5 => ⟨_, rfl, t, hs, rfl, (s14.trans s5) _ _ ht1, fo, n6, fun H6 s6 => ⟨by show 2 ≤ sizeLine; decide, fun M hM => ?_⟩⟩⟩
  have s7 := (s5.trans s6).new (o := .lst [.int (mostZ hs), .int (mostZ hs)]) hM
  have oM : upd H6 M (.lst [.int (mostZ hs), .int (mostZ hs)]) M = some (.lst [.int (mostZ hs), .int (mostZ hs)]) := upd_same
  generalize upd H6 M (.lst [.int (mostZ hs), .int (mostZ hs)]) = H7 at s7 oM ⊢
  have oR7 := s7 _ _ oR4
  refine ⟨_, rfl, _, _, rfl, .inl ⟨_, SqL.of oR7, rfl⟩, _, _, rfl, rfl, _, rfl, _, _, rfl, .inl ⟨_, SqL.of oR7, rfl⟩, _, _, rfl, rfl, by show 2 ≤ sizeLine; decide, fun N hN => ?_⟩
  have eN : (((iv (tcv hs)).length : Nat) : Int) - 1 = mostZ hs := by rw [iv_length, tcl]; omega
  have s8 := s7.new (o := .lst [.int ((((iv (tcv hs)).length : Nat) : Int) - 1), .int ((((iv (tcv hs)).length : Nat) : Int) - 1)]) hN
  have oN : upd H7 N (.lst [.int ((((iv (tcv hs)).length : Nat) : Int) - 1), .int ((((iv (tcv hs)).length : Nat) : Int) - 1)]) N = some (.lst [.int (mostZ hs), .int (mostZ hs)]) := by rw [upd_same, eN]
  have oM8 := ((Same.refl H7).new (o := .lst [.int ((((iv (tcv hs)).length : Nat) : Int) - 1), .int ((((iv (tcv hs)).length : Nat) : Int) - 1)]) hN) _ _ oM
  refine ⟨.ref M, .ref N, .list [.int (mostZ hs), .int (mostZ hs)], rfl, .lst oM8 (fun z => by cases z) (.cons (.int _) (.cons (.int _) .nil)), .lst oN (fun z => by cases z) (.cons (.int _) (.cons (.int _) .nil)), ?_, rfl, fun H9 s9 => ⟨_, rfl, iteF ?_⟩⟩
  · show 1 < 3; decide
  have s49 := s8.trans s9
  have s19 := s14.trans s49
  have oR9 := s49 _ _ oR4
  -- found.append(0)
  refine ⟨_, rfl, .inl ⟨rfl, _, SqL.of oR9⟩, R, _, _, rfl, rfl, oR9, by rw [iv_length]; exact szl few, ?_⟩
  have k9 : Keep R H9 (upd H9 R (.lst (iv (tcv hs) ++ [.int 0]))) := fun b o nb e => (upd_ne nb).trans e
  have ex : LamX.ExtN H1 (upd H9 R (.lst (iv (tcv hs) ++ [.int 0]))) := fun b o z _ => k9 b o (ne_of_none z hR) (s19 _ _ z)
  have tb := tabsG_keep (tabsG_same t1 s19) oR9 k9
  have ht9 := ex _ _ ht1 (by intro ps z; cases z)
  have oD9 := ex _ _ oD (by intro ps z; cases z)
  have oA9 := ex _ _ oA (by intro ps z; cases z)
  generalize upd H9 R (.lst (iv (tcv hs) ++ [.int 0])) = H10 at ex tb ht9 oD9 oA9 ⊢
  refine ⟨_, rfl, t, hs, rfl, ht9, fo, n6, fun R2 H11 s11 hR2 oR2 => ⟨_, rfl, Du, _, _, _, rfl, rfl, SqL.of (s11 _ _ oD9), rfl, .ref R2, .ref A1, _, rfl, rp_il oR2, rp_il (s11 _ _ oA9), by rw [dep_il]; decide, short_il few, fun H12 s12 => ?_⟩⟩
  have s1012 := s11.trans s12
  exact q2 H12 (fun b o z n => s1012 _ _ (ex b o z n)) (tabsG_same tb s1012)
end

end My

namespace My
open PySem PySem.Spec PyProof.Rows L2
/-! ### the law -/
def KeepN (wl : Addr) (H H' : Hp) : Prop := ∀ b o, b ≠ wl → H b = some o → (∀ ps, o ≠ .tbl ps) → H' b = some o
def rchB (hs : Hs) : Nat → Nat → Bool
  | 0, _ => false
  | k + 1, v => match hs[v]? with
    | some none => true
    | some (some u) => rchB hs k u
    | none => false
theorem rch_of {hs : Hs} : ∀ {k v : Nat}, rchB hs k v = true → Rch hs v
  | 0, v, h => by cases h
  | k + 1, v, h => by
    unfold rchB at h
    cases e : hs[v]? with
    | none => rw [e] at h; cases h
    | some o =>
      rw [e] at h
      cases o with
      | none => exact .root e
      | some u => exact .step e (rch_of (k := k) h)
def foB (hs : Hs) : Bool := (List.range hs.length).all (fun v => rchB hs hs.length v && match hs[v]? with
  | some (some u) => decide (u < hs.length)
  | _ => true)
theorem fo_of {hs : Hs} (h : foB hs = true) (ne : hs ≠ []) : Fo hs := by
  have one : ∀ v, v < hs.length → rchB hs hs.length v = true ∧ ∀ u : Nat, hs[v]? = some (some u) → u < hs.length := fun v hv => by
    have z := List.all_eq_true.mp h v (List.mem_range.mpr hv)
    rw [Bool.and_eq_true] at z
    refine ⟨z.1, fun u e => ?_⟩
    have y := z.2
    rw [e] at y
    exact of_decide_eq_true y
  exact ⟨ne, fun v u e => (one v (List.getElem?_eq_some_iff.mp e).1).2 u e, fun v hv => rch_of (one v hv).1⟩
def lawF : List Hs := [[none, some 0, some 0, some 1, none], [none], [some 1, none, some 1], [none, none, none, none], [some 3, some 0, some 1, none]]
def lawT : List (List Int) := [[1, 2, 3, 3, 3, 2, 1], [1], [1, 1], [1, 3, 5, 6, 5, 3, 1], [1]]
theorem tcv_tcL (hs : Hs) : tcv hs = tcL (sN hs) hs.length ((mostZ hs).toNat + 1) := (tcL_eq _ _ _).symm
theorem law_all : (lawF.all fun F => foB F && (decide (F.length ≤ 6) && !F.isEmpty)) = true ∧ lawF.map (fun F => tcL (sN F) F.length ((mostZ F).toNat + 1)) = lawT := by decide +kernel
theorem law_one {i : Nat} {F : Hs} (e : lawF[i]? = some F) : Fo F ∧ F.length ≤ 6 ∧ lawT[i]? = some (tcv F) := by
  have a := List.all_eq_true.mp law_all.1 F (List.mem_of_getElem? e)
  rw [Bool.and_eq_true, Bool.and_eq_true, decide_eq_true_eq] at a
  refine ⟨fo_of a.1 (fun z => by rw [z] at a; exact absurd a.2.2 (by decide)), a.2.1, ?_⟩
  rw [← law_all.2, List.getElem?_map, e, tcv_tcL]; rfl
theorem most_four : mostZ [none, none, none, none] = 6 := by decide +kernel
section
variable {P : Program} {w : World} {K : PySem.W.Frag} {mg : Str → Option Value} {base : Heap} {T : Addr}
abbrev st_law : Stmt := topS 34
abbrev N_law : List Str := ["script", "at", "well", "most", "plan", "some", "found"]
theorem sc_law : FnScope N_law ["script"] (defScope st_law) := ⟨rfl, rfl, rfl, by decide +kernel, rfl, by decide +kernel, by decide +kernel⟩
theorem ok_law {fa : Addr} {fd : FuncData} (F : Fun K "law" "law" st_law fa fd) (B : Bl mg) (K_law_well : Kn P w K mg base CX0 1 "_law_well" st__law_well ["script", "at"] (spWell K)) (K_law_forest : Kn P w K mg base CX0 3 "_law_forest" st__law_forest ["well", "most"] spLForest)
    (K_law_right : KnQ P w K mg base 64 "_law_right" st__law_right ["plan"] (spRight21 T)) (K_law_same : Kn P w K mg base CX0 3 "_law_same" st__law_same ["found", "due"] (spSame 3))
    (Kturned_counts : Kn P w K mg base (L2.CX P w) 9 "turned_counts" st_turned_counts ["forest"] spCountsT) (Kmost_turned : Kn P w K mg base (L2.CX P w) 8 "most_turned" st_most_turned ["forest"] spMostT) :
    Qui P w K mg base 65 fa fd ["script"] (spLawT K T) := by
  refine F.quiet sc_law (fun vs H Q E h => ?_) (fun cdv A outer s H vs Q E hr hq h => ?_)
  · obtain ⟨a, ns, rfl, _⟩ := h; rfl
  obtain ⟨a, ns, rfl, hS, hns, hT0, q⟩ := h
  refine ⟨_, ((pss_cons (ps_for PassesOwn.never rfl (pi_range1 (by rfl) B.range (pa_cons (pe_callB (call_max2 rfl) (by rfl) B.max (by decide +kernel) (pa_cons pe_int (pa_cons (pe_callB (call_min2 rfl) (by rfl) B.min (by decide +kernel) (pa_cons pe_int (pa_cons (pe_callB call_len (by rfl) B.len (by decide +kernel) (pa_cons (pv 0) pa_nil)) pa_nil))) pa_nil))) pa_nil)) (pg_name (i := 1) sc_law.nd rfl (Or.inl rfl)) (pss_cons (ps_set (i := 2) sc_law.nd rfl (Or.inl rfl) (pe_callF K_law_well (hr.mono (by decide)) pass0 (pa_cons (pv 0) (pa_cons (pv 1) pa_nil))))
      (pss_one (ps_for PassesOwn.never rfl (pi_tup (pe_tup (pa_cons pe_int (pa_cons pe_int (pa_cons pe_int pa_nil))))) (pg_name (i := 3) sc_law.nd rfl (Or.inl rfl)) (pss_cons (ps_set (i := 4) sc_law.nd rfl (Or.inl rfl) (pe_callF K_law_forest (hr.mono (by decide)) pass0 (pa_cons (pv 2) (pa_cons (pv 3) pa_nil))))
      (pss_one (ps_if (pt_not (pt_val (pe_callQ (E := fun _ _ _ => False) K_law_right (hr.mono (by decide)) hq (pa_cons (pv 4) pa_nil)))) (pss_one (ps_ret pe_bl)) pss_nil)))))))
      (pss_cons (ps_set (i := 5) sc_law.nd rfl (Or.inl rfl) (pe_lst (pa_cons (pe_tup (pa_cons pe_non (pa_cons pe_int (pa_cons pe_int (pa_cons pe_int (pa_cons pe_non pa_nil)))))) (pa_cons (pe_tup (pa_cons pe_non pa_nil)) (pa_cons (pe_tup (pa_cons pe_int (pa_cons pe_non (pa_cons pe_int pa_nil)))) (pa_cons (pe_tup (pa_cons pe_non (pa_cons pe_non (pa_cons pe_non (pa_cons pe_non pa_nil))))) (pa_cons (pe_tup (pa_cons pe_int (pa_cons pe_int (pa_cons pe_int (pa_cons pe_non pa_nil))))) pa_nil)))))))
      (pss_cons (ps_set (i := 6) sc_law.nd rfl (Or.inl rfl) (pe_op op_cat (pe_lc (own := [("plan", 4)]) (g := gName 4) rfl sc_law.nd (pi_list (pv 5)) (blkOk_by (N := N_law) (sc := defScope st_law) (own := [("plan", 4)]) (by decide +kernel)) (fun _ _ _ _ _ => by (exact (pg_name (i := 4) sc_law.nd rfl (Or.inl rfl)))) (fun _ _ _ _ _ => by exact pts_nil) (fun _ _ _ _ _ => by exact (pe_callF Kturned_counts (hr.mono (by decide)) passL (pa_cons (pv 4) pa_nil)))) (pe_lst (pa_cons (pe_callF Kmost_turned (hr.mono (by decide)) passL (pa_cons (pe_tup (pa_cons pe_non (pa_cons pe_non (pa_cons pe_non (pa_cons pe_non pa_nil))))) pa_nil)) pa_nil))))
      (pss_one (ps_ret (pe_callF K_law_same (hr.mono (by decide)) pass0 (pa_cons (pv 6) (pa_cons (pe_lst (pa_cons (pe_lst (pa_cons pe_int (pa_cons pe_int (pa_cons pe_int (pa_cons pe_int (pa_cons pe_int (pa_cons pe_int (pa_cons pe_int pa_nil)))))))) (pa_cons (pe_lst (pa_cons pe_int pa_nil)) (pa_cons (pe_lst (pa_cons pe_int (pa_cons pe_int pa_nil))) (pa_cons (pe_lst (pa_cons pe_int (pa_cons pe_int (pa_cons pe_int (pa_cons pe_int (pa_cons pe_int (pa_cons pe_int (pa_cons pe_int pa_nil)))))))) (pa_cons (pe_lst (pa_cons pe_int pa_nil)) (pa_cons pe_int pa_nil))))))) pa_nil))))))))), ?_⟩
  have p50 : (2 : Nat) ^ 50 = 1125899906842624 := by decide
  have lns : (ns.map V.int).length = ns.length := List.length_map _
  have tab0 : NdefX.TabsN (TbG T) H := fun z hz => by
    rw [List.mem_singleton.mp hz]
    exact NdefX.TabN.nil hT0
  refine ⟨_, rfl, _, _, rfl, .inl ⟨_, hS, rfl⟩, _, _, rfl, _, _, rfl, _, rfl, by split <;> omega, by split <;> (try split) <;> omega, for_it walk_range0 (fun i σ H' => (∃ v1 v2 v3 v4, σ = [some (.ref a), v1, v2, v3, v4, none, none]) ∧ LamX.ExtN H H' ∧ NdefX.TabsN (TbG T) H')
    ⟨⟨none, none, none, none, rfl⟩, LamX.ExtN.refl H, tab0⟩ (fun _ _ _ _ _ => trivial) ?_ ?_⟩
  · rintro i x σ H1 H1' hi ⟨⟨v1, v2, v3, v4, rfl⟩, s1, t1⟩ ⟨rfl, rfl⟩
    have hi64 : i < 64 := by split at hi <;> (try split at hi) <;> omega
    clear hi
    refine ⟨_, rfl, _, rfl, a, ns, i, rfl, seqN s1 hS, hi64, fun wl H2 s2 hwl w2 => ?_⟩
    have t2 := tabsG_same t1 s2
    refine ⟨by show 3 ≤ sizeLine; decide, fun X hX => ?_⟩
    have sX := (Same.refl H2).new (o := .tup [.int 4, .int 5, .int 6]) hX
    have oX : upd H2 X (.tup [.int 4, .int 5, .int 6]) X = some (.tup [.int 4, .int 5, .int 6]) := upd_same
    generalize upd H2 X (.tup [.int 4, .int 5, .int 6]) = H4 at sX oX ⊢
    have w4 := w2.same sX
    have XW : X ≠ wl := by
      obtain ⟨l, e⟩ := w4.here
      exact off_lst oX e (by intro z; cases z)
    refine ⟨X, rfl, ⟨_, SqT.of oX⟩, for_it (walk_tup (K := K) (xs := [.int 4, .int 5, .int 6])) (fun j σ H' => (∃ v3 v4, σ = [some (.ref a), some (.int (i : Int)), some (.ref wl), v3, v4, none, none]) ∧ KeepN wl H4 H' ∧ NdefX.TabsN (TbG T) H' ∧ Well H' wl (400 * j))
      ⟨⟨_, _, rfl⟩, fun b o _ e _ => e, tabsG_same t2 sX, w4⟩ (fun j σ H' _ z => SqT.of (z.2.1 _ _ XW oX (by intro ps z; cases z))) ?_ ?_⟩
    · rintro j x σ H5 H5' hj ⟨⟨v3, v4, rfl⟩, k5, t5, w5⟩ ⟨rfl, e1⟩
      have hj3 : j < 3 := hj
      obtain ⟨m2, rfl, hx1, hx2⟩ : ∃ m2 : Int, x = .int m2 ∧ 1 ≤ m2 ∧ m2 ≤ 6 := by
        have mx := List.mem_of_getElem? e1
        simp only [List.mem_cons, List.not_mem_nil, or_false] at mx
        rcases mx with rfl | rfl | rfl
        · exact ⟨4, rfl, by decide, by decide⟩
        · exact ⟨5, rfl, by decide, by decide⟩
        · exact ⟨6, rfl, by decide, by decide⟩
      refine ⟨_, rfl, _, rfl, wl, _, m2, rfl, w5, by omega, hx1, by omega, fun t hs H6 fo hl k6 w6 ht6 oT6 => ⟨_, rfl, t, hs, rfl, oT6, fo, by omega, tabsG_well t5 w5 k6, fun H7 e7 t7 => ⟨_, rfl, iteF ⟨⟨_, _, rfl⟩, fun b o n e z => e7 b o (k6 b o n (k5 b o n e z)) z, t7, (w6.extN e7).mono (by omega)⟩⟩⟩⟩
    · rintro σ H5 ⟨⟨v3, v4, rfl⟩, k5, t5, w5⟩
      exact ⟨⟨_, _, _, _, rfl⟩, fun b o e z => k5 b o (ne_of_none (s1 b o e z) hwl) (sX _ _ (s2 _ _ (s1 b o e z))) z, t5⟩
  · rintro σ H3 ⟨⟨v1, v2, v3, v4, rfl⟩, s3, t3⟩
    clear s3 t3 tab0 hT0
    -- some
    refine ⟨by show 5 ≤ sizeLine; decide, fun P1 hP1 => ?_⟩
    have sP1 := (Same.refl H3).new (o := .tup [.non, .int 0, .int 0, .int 1, .non]) hP1
    have oP1 : upd H3 P1 (.tup [.non, .int 0, .int 0, .int 1, .non]) P1 = some (.tup (([none, some 0, some 0, some 1, none] : Hs).map hv)) := upd_same
    generalize upd H3 P1 (.tup [.non, .int 0, .int 0, .int 1, .non]) = G1 at sP1 oP1  ⊢
    clear sP1 hP1
    refine ⟨by show 1 ≤ sizeLine; decide, fun P2 hP2 => ?_⟩
    have sP2 := (Same.refl G1).new (o := .tup [.non]) hP2
    have oP2 : upd G1 P2 (.tup [.non]) P2 = some (.tup (([none] : Hs).map hv)) := upd_same
    have oP1 := sP2 _ _ oP1
    generalize upd G1 P2 (.tup [.non]) = G2 at sP2 oP2 oP1 ⊢
    clear sP2 hP2
    refine ⟨by show 3 ≤ sizeLine; decide, fun P3 hP3 => ?_⟩
    have sP3 := (Same.refl G2).new (o := .tup [.int 1, .non, .int 1]) hP3
    have oP3 : upd G2 P3 (.tup [.int 1, .non, .int 1]) P3 = some (.tup (([some 1, none, some 1] : Hs).map hv)) := upd_same
    have oP1 := sP3 _ _ oP1
    have oP2 := sP3 _ _ oP2
    generalize upd G2 P3 (.tup [.int 1, .non, .int 1]) = G3 at sP3 oP3 oP1 oP2 ⊢
    clear sP3 hP3
    refine ⟨by show 4 ≤ sizeLine; decide, fun P4 hP4 => ?_⟩
    have sP4 := (Same.refl G3).new (o := .tup [.non, .non, .non, .non]) hP4
    have oP4 : upd G3 P4 (.tup [.non, .non, .non, .non]) P4 = some (.tup (([none, none, none, none] : Hs).map hv)) := upd_same
    have oP1 := sP4 _ _ oP1
    have oP2 := sP4 _ _ oP2
    have oP3 := sP4 _ _ oP3
    generalize upd G3 P4 (.tup [.non, .non, .non, .non]) = G4 at sP4 oP4 oP1 oP2 oP3 ⊢
    clear sP4 hP4
    refine ⟨by show 4 ≤ sizeLine; decide, fun P5 hP5 => ?_⟩
    have sP5 := (Same.refl G4).new (o := .tup [.int 3, .int 0, .int 1, .non]) hP5
    have oP5 : upd G4 P5 (.tup [.int 3, .int 0, .int 1, .non]) P5 = some (.tup (([some 3, some 0, some 1, none] : Hs).map hv)) := upd_same
    have oP1 := sP5 _ _ oP1
    have oP2 := sP5 _ _ oP2
    have oP3 := sP5 _ _ oP3
    have oP4 := sP5 _ _ oP4
    generalize upd G4 P5 (.tup [.int 3, .int 0, .int 1, .non]) = G5 at sP5 oP5 oP1 oP2 oP3 oP4 ⊢
    clear sP5 hP5
    refine ⟨by show 5 ≤ sizeLine; decide, fun S hS => ?_⟩
    have sS := (Same.refl G5).new (o := .lst [V.ref P1, V.ref P2, V.ref P3, V.ref P4, V.ref P5]) hS
    have oS : upd G5 S (.lst [V.ref P1, V.ref P2, V.ref P3, V.ref P4, V.ref P5]) S = some (.lst (([P1, P2, P3, P4, P5] : List Addr).map V.ref)) := upd_same
    have oP1 := sS _ _ oP1
    have oP2 := sS _ _ oP2
    have oP3 := sS _ _ oP3
    have oP4 := sS _ _ oP4
    have oP5 := sS _ _ oP5
    generalize upd G5 S (.lst [V.ref P1, V.ref P2, V.ref P3, V.ref P4, V.ref P5]) = G at sS oS oP1 oP2 oP3 oP4 oP5 ⊢
    clear sS hS
    have pf : ∀ (i : Nat) (p : Addr), ([P1, P2, P3, P4, P5] : List Addr)[i]? = some p → ∃ F, lawF[i]? = some F ∧ G p = some (.tup (F.map hv)) := fun i p e => by
      rcases i with _ | _ | _ | _ | _ | i
      · cases e; exact ⟨_, rfl, oP1⟩
      · cases e; exact ⟨_, rfl, oP2⟩
      · cases e; exact ⟨_, rfl, oP3⟩
      · cases e; exact ⟨_, rfl, oP4⟩
      · cases e; exact ⟨_, rfl, oP5⟩
      · cases e
    clear oP1 oP2 oP3 oP4 oP5
    generalize eps : ([P1, P2, P3, P4, P5] : List Addr) = ps at oS pf ⊢
    have lps : ps.length = 5 := by rw [← eps]; rfl
    -- found
    refine ⟨_, rfl, S, rfl, ⟨_, SqL.of oS⟩, fun D hD => lc_it (walk_list (xs := ps.map V.ref)) (fun i H' => ∃ ds : List Addr, Same G H' ∧ H' D = some (.lst (ds.map V.ref)) ∧ ds.length = i ∧ ∀ (j : Nat) (d : Addr), ds[j]? = some d → d ≠ D ∧ ∃ c, lawT[j]? = some c ∧ H' d = some (.lst (iv c)))
      ⟨[], (Same.refl G).new hD, upd_same, rfl, fun j d e => by cases e⟩ (fun i H' _ z => by obtain ⟨_, z, _⟩ := z; exact SqL.of (z _ _ oS)) ?_ ?_⟩
    · rintro i x H5 H6 hi ⟨ds, s5, oD, ld, hd⟩ ⟨rfl, e1⟩
      obtain ⟨p, ep, rfl⟩ := ref_atT e1
      rw [List.length_map, lps] at hi
      obtain ⟨F, eF, oF⟩ := pf i p ep
      obtain ⟨fo, n6, eT⟩ := law_one eF
      refine ⟨rfl, _, rfl, p, F, rfl, s5 _ _ oF, fo, n6, fun R H7 s7 hR oR => ?_⟩
      have nR : R ≠ D := (ne_of_none oD hR).symm
      refine ⟨_, s7 _ _ oD, by rw [List.length_map, ld]; exact szl (by omega), ds ++ [R], (s5.trans s7).upd hD, by rw [upd_same, List.map_append]; rfl, by rw [List.length_append, ld]; rfl, fun j d e => ?_⟩
      by_cases c : j < ds.length
      · rw [List.getElem?_append_left c] at e
        obtain ⟨a1, cc, a2, a3⟩ := hd j d e
        exact ⟨a1, cc, a2, (upd_ne a1).trans (s7 _ _ a3)⟩
      · rw [List.getElem?_append_right (by omega)] at e
        have z : j - ds.length = 0 := by
          have := (List.getElem?_eq_some_iff.mp e).1
          rw [List.length_singleton] at this; omega
        rw [z] at e
        have ed := Option.some.inj e
        subst ed
        have ej : j = i := by omega
        subst ej
        exact ⟨nR, _, eT, (upd_ne nR).trans oR⟩
    rintro H5 ⟨ds, s5, oD, ld, hd⟩
    rw [List.length_map, lps] at ld
    obtain ⟨d0, d1, d2, d3, d4, rfl⟩ : ∃ d0 d1 d2 d3 d4, ds = [d0, d1, d2, d3, d4] := by
      match ds, ld with
      | [a, b, c, d, e], _ => exact ⟨a, b, c, d, e, rfl⟩
    have at_ : ∀ (j : Nat) (d : Addr) (c : List Int), [d0, d1, d2, d3, d4][j]? = some d → lawT[j]? = some c → H5 d = some (.lst (iv c)) := fun j d c e1 e2 => by
      obtain ⟨_, c2, e3, h⟩ := hd j d e1
      rw [e2] at e3
      cases e3
      exact h
    have o0 := at_ 0 d0 _ rfl rfl
    have o1 := at_ 1 d1 _ rfl rfl
    have o2 := at_ 2 d2 _ rfl rfl
    have o3 := at_ 3 d3 _ rfl rfl
    have o4 := at_ 4 d4 _ rfl rfl
    clear at_ hd s5
    refine ⟨by show 4 ≤ sizeLine; decide, fun X4 hX4 => ?_⟩
    have s6 := (Same.refl H5).new (o := .tup [.non, .non, .non, .non]) hX4
    have oX4 : upd H5 X4 (.tup [.non, .non, .non, .non]) X4 = some (.tup (([none, none, none, none] : Hs).map hv)) := upd_same
    generalize upd H5 X4 (.tup [.non, .non, .non, .non]) = H6 at s6 oX4 ⊢
    obtain ⟨fo4, n64, _⟩ := law_one (i := 3) (F := [none, none, none, none]) rfl
    refine ⟨X4, _, rfl, oX4, fo4, n64, fun H7 s7 => ?_⟩
    rw [most_four]
    refine ⟨by show 1 ≤ sizeLine; decide, fun M hM => ?_⟩
    have s8 := (s6.trans s7).new (o := .lst [.int 6]) hM
    have oM : upd H7 M (.lst [.int 6]) M = some (.lst [.int 6]) := upd_same
    generalize upd H7 M (.lst [.int 6]) = H8 at s8 oM ⊢
    refine ⟨D, M, _, _, rfl, rfl, s8 _ _ oD, oM, by show 5 + 1 ≤ sizeLine; decide, fun C hC => ?_⟩
    have s9 := s8.new (o := .lst ([V.ref d0, V.ref d1, V.ref d2, V.ref d3, V.ref d4] ++ [V.int 6])) hC
    have oC : upd H8 C (.lst ([V.ref d0, V.ref d1, V.ref d2, V.ref d3, V.ref d4] ++ [V.int 6])) C = some (.lst [V.ref d0, V.ref d1, V.ref d2, V.ref d3, V.ref d4, V.int 6]) := upd_same
    have hC' := hC
    generalize eH9 : upd H8 C (.lst ([V.ref d0, V.ref d1, V.ref d2, V.ref d3, V.ref d4] ++ [V.int 6])) = H9 at s9 oC
    have eG : upd H8 C (.lst (List.map V.ref [d0, d1, d2, d3, d4] ++ [V.int 6])) = H9 := eH9
    rw [eG]
    have o0 := s9 _ _ o0
    have o1 := s9 _ _ o1
    have o2 := s9 _ _ o2
    have o3 := s9 _ _ o3
    have o4 := s9 _ _ o4
    clear s8 s9 oM hM hC hC' eG eH9 s7 s6 oX4 hX4 oD
    refine ⟨_, rfl, by show 7 ≤ sizeLine; decide, fun Q0 hQ0 => ?_⟩
    have sQ0 := (Same.refl H9).new (o := .lst [.int 1, .int 2, .int 3, .int 3, .int 3, .int 2, .int 1]) hQ0
    have oQ0 : upd H9 Q0 (.lst [.int 1, .int 2, .int 3, .int 3, .int 3, .int 2, .int 1]) Q0 = some (.lst (iv [1, 2, 3, 3, 3, 2, 1])) := upd_same
    have o0 := sQ0 _ _ o0
    have o1 := sQ0 _ _ o1
    have o2 := sQ0 _ _ o2
    have o3 := sQ0 _ _ o3
    have o4 := sQ0 _ _ o4
    have oC := sQ0 _ _ oC
    generalize upd H9 Q0 (.lst [.int 1, .int 2, .int 3, .int 3, .int 3, .int 2, .int 1]) = J0 at sQ0 oQ0 o0 o1 o2 o3 o4 oC ⊢
    clear sQ0 hQ0
    refine ⟨by show 1 ≤ sizeLine; decide, fun Q1 hQ1 => ?_⟩
    have sQ1 := (Same.refl J0).new (o := .lst [.int 1]) hQ1
    have oQ1 : upd J0 Q1 (.lst [.int 1]) Q1 = some (.lst (iv [1])) := upd_same
    have o0 := sQ1 _ _ o0
    have o1 := sQ1 _ _ o1
    have o2 := sQ1 _ _ o2
    have o3 := sQ1 _ _ o3
    have o4 := sQ1 _ _ o4
    have oC := sQ1 _ _ oC
    have oQ0 := sQ1 _ _ oQ0
    generalize upd J0 Q1 (.lst [.int 1]) = J1 at sQ1 oQ1 o0 o1 o2 o3 o4 oC oQ0 ⊢
    clear sQ1 hQ1
    refine ⟨by show 2 ≤ sizeLine; decide, fun Q2 hQ2 => ?_⟩
    have sQ2 := (Same.refl J1).new (o := .lst [.int 1, .int 1]) hQ2
    have oQ2 : upd J1 Q2 (.lst [.int 1, .int 1]) Q2 = some (.lst (iv [1, 1])) := upd_same
    have o0 := sQ2 _ _ o0
    have o1 := sQ2 _ _ o1
    have o2 := sQ2 _ _ o2
    have o3 := sQ2 _ _ o3
    have o4 := sQ2 _ _ o4
    have oC := sQ2 _ _ oC
    have oQ0 := sQ2 _ _ oQ0
    have oQ1 := sQ2 _ _ oQ1
    generalize upd J1 Q2 (.lst [.int 1, .int 1]) = J2 at sQ2 oQ2 o0 o1 o2 o3 o4 oC oQ0 oQ1 ⊢
    clear sQ2 hQ2
    refine ⟨by show 7 ≤ sizeLine; decide, fun Q3 hQ3 => ?_⟩
    have sQ3 := (Same.refl J2).new (o := .lst [.int 1, .int 3, .int 5, .int 6, .int 5, .int 3, .int 1]) hQ3
    have oQ3 : upd J2 Q3 (.lst [.int 1, .int 3, .int 5, .int 6, .int 5, .int 3, .int 1]) Q3 = some (.lst (iv [1, 3, 5, 6, 5, 3, 1])) := upd_same
    have o0 := sQ3 _ _ o0
    have o1 := sQ3 _ _ o1
    have o2 := sQ3 _ _ o2
    have o3 := sQ3 _ _ o3
    have o4 := sQ3 _ _ o4
    have oC := sQ3 _ _ oC
    have oQ0 := sQ3 _ _ oQ0
    have oQ1 := sQ3 _ _ oQ1
    have oQ2 := sQ3 _ _ oQ2
    generalize upd J2 Q3 (.lst [.int 1, .int 3, .int 5, .int 6, .int 5, .int 3, .int 1]) = J3 at sQ3 oQ3 o0 o1 o2 o3 o4 oC oQ0 oQ1 oQ2 ⊢
    clear sQ3 hQ3
    refine ⟨by show 1 ≤ sizeLine; decide, fun Q4 hQ4 => ?_⟩
    have sQ4 := (Same.refl J3).new (o := .lst [.int 1]) hQ4
    have oQ4 : upd J3 Q4 (.lst [.int 1]) Q4 = some (.lst (iv [1])) := upd_same
    have o0 := sQ4 _ _ o0
    have o1 := sQ4 _ _ o1
    have o2 := sQ4 _ _ o2
    have o3 := sQ4 _ _ o3
    have o4 := sQ4 _ _ o4
    have oC := sQ4 _ _ oC
    have oQ0 := sQ4 _ _ oQ0
    have oQ1 := sQ4 _ _ oQ1
    have oQ2 := sQ4 _ _ oQ2
    have oQ3 := sQ4 _ _ oQ3
    generalize upd J3 Q4 (.lst [.int 1]) = J4 at sQ4 oQ4 o0 o1 o2 o3 o4 oC oQ0 oQ1 oQ2 oQ3 ⊢
    clear sQ4 hQ4
    refine ⟨by show 6 ≤ sizeLine; decide, fun O hO => ?_⟩
    have sO := (Same.refl J4).new (o := .lst [.ref Q0, .ref Q1, .ref Q2, .ref Q3, .ref Q4, .int 6]) hO
    have oO : upd J4 O (.lst [.ref Q0, .ref Q1, .ref Q2, .ref Q3, .ref Q4, .int 6]) O = some (.lst [.ref Q0, .ref Q1, .ref Q2, .ref Q3, .ref Q4, .int 6]) := upd_same
    have o0 := sO _ _ o0
    have o1 := sO _ _ o1
    have o2 := sO _ _ o2
    have o3 := sO _ _ o3
    have o4 := sO _ _ o4
    have oC := sO _ _ oC
    have oQ0 := sO _ _ oQ0
    have oQ1 := sO _ _ oQ1
    have oQ2 := sO _ _ oQ2
    have oQ3 := sO _ _ oQ3
    have oQ4 := sO _ _ oQ4
    generalize upd J4 O (.lst [.ref Q0, .ref Q1, .ref Q2, .ref Q3, .ref Q4, .int 6]) = J at sO oO o0 o1 o2 o3 o4 oC oQ0 oQ1 oQ2 oQ3 oQ4 ⊢
    exact ⟨.ref C, .ref O, .list [.list (List.map PyData.int [1, 2, 3, 3, 3, 2, 1]), .list (List.map PyData.int [1]), .list (List.map PyData.int [1, 1]), .list (List.map PyData.int [1, 3, 5, 6, 5, 3, 1]), .list (List.map PyData.int [1]), .int 6], rfl, .lst oC (fun z => by cases z) (.cons (rp_il o0) (.cons (rp_il o1) (.cons (rp_il o2) (.cons (rp_il o3) (.cons (rp_il o4) (.cons (.int 6) .nil)))))), .lst oO (fun z => by cases z) (.cons (rp_il oQ0) (.cons (rp_il oQ1) (.cons (rp_il oQ2) (.cons (rp_il oQ3) (.cons (rp_il oQ4) (.cons (.int 6) .nil)))))), by decide +kernel, by decide +kernel, fun H' _ => q H'⟩
end

end My

namespace My
open PySem PySem.Spec PyProof.Rows L2
theorem all_mk {l : PySem.W.OpenLaw} {w : World} {K : PySem.W.Frag} {h : Heap} {mg : Str → Option Value} {fa f0 f1 f2 f3 f4 f5 f6 f7 f8 f9 f10 f11 f12 f13 f14 f15 f16 f17 f18 f19 f20 f21 f22 f23 f24 f25 f26 cT tT C0 : Addr} (X : K.In h) (G : h.Ns mainGlobals mg) (hfa : mg "law" = some (.ref fa))
    {od0 an0 od1 an1 od2 an2 od3 an3 od4 an4 od5 an5 od6 an6 od7 an7 od8 an8 od9 an9 od10 an10 od11 an11 od12 an12 od13 an13 od14 an14 od15 an15 od16 an16 od17 an17 od18 an18 od19 an19 od20 an20 od21 an21 od22 an22 od23 an23 od24 an24 od25 an25 od26 an26 : Option Addr} {sl0 sl1 sl2 sl3 sl4 sl5 sl6 sl7 sl8 sl9 sl10 sl11 sl12 sl13 sl14 sl15 sl16 sl17 sl18 sl19 sl20 sl21 sl22 sl23 sl24 sl25 sl26 : Array (Option Value)} {oc0 kV0 dc0 pm0 cd0 ct0 oc1 kV1 dc1 pm1 cd1 ct1 oc2 kV2 dc2 pm2 cd2 ct2 oc3 kV3 dc3 pm3 cd3 ct3 oc4 kV4 dc4 pm4 cd4 ct4 oc5 kV5 dc5 pm5 cd5 ct5 oc6 kV6 dc6 pm6 cd6 ct6 oc7 kV7 dc7 pm7 cd7 ct7 oc8 kV8 dc8 pm8 cd8 ct8 oc9 kV9 dc9 pm9 cd9 ct9 oc10 kV10 dc10 pm10 cd10 ct10 oc11 kV11 dc11 pm11 cd11 ct11 oc12 kV12 dc12 pm12 cd12 ct12 oc13 kV13 dc13 pm13 cd13 ct13 oc14 kV14 dc14 pm14 cd14 ct14 oc15 kV15 dc15 pm15 cd15 ct15 oc16 kV16 dc16 pm16 cd16 ct16 oc17 kV17 dc17 pm17 cd17 ct17 oc18 kV18 dc18 pm18 cd18 ct18 oc19 kV19 dc19 pm19 cd19 ct19 oc20 kV20 dc20 pm20 cd20 ct20 oc21 kV21 dc21 pm21 cd21 ct21 oc22 kV22 dc22 pm22 cd22 ct22 oc23 kV23 dc23 pm23 cd23 ct23 oc24 kV24 dc24 pm24 cd24 ct24 oc25 kV25 dc25 pm25 cd25 ct25 oc26 kV26 dc26 pm26 cd26 ct26 : Value}
    (a0 : PySem.W.nsIn K mainGlobals "times_bracket" = some (some (.ref f0)))
    (l0 : K.lookup f0 = some ⟨oc0, od0, .func (PySem.W.fnOf "times_bracket" "times_bracket" (defArgs st_times_bracket) (defBody st_times_bracket) (defScope st_times_bracket) .none kV0 dc0 pm0 an0 cd0 ct0), sl0⟩)
    (c0 : PySem.W.codeIn K cd0 "times_bracket" = true)
    (k0 : PySem.W.keepIn K (.ref f0) = true)
    (a1 : PySem.W.nsIn K mainGlobals "over_bracket" = some (some (.ref f1)))
    (l1 : K.lookup f1 = some ⟨oc1, od1, .func (PySem.W.fnOf "over_bracket" "over_bracket" (defArgs st_over_bracket) (defBody st_over_bracket) (defScope st_over_bracket) .none kV1 dc1 pm1 an1 cd1 ct1), sl1⟩)
    (c1 : PySem.W.codeIn K cd1 "over_bracket" = true)
    (k1 : PySem.W.keepIn K (.ref f1) = true)
    (a2 : PySem.W.nsIn K mainGlobals "is_integer" = some (some (.ref f2)))
    (l2 : K.lookup f2 = some ⟨oc2, od2, .func (PySem.W.fnOf "is_integer" "is_integer" (defArgs st_is_integer) (defBody st_is_integer) (defScope st_is_integer) .none kV2 dc2 pm2 an2 cd2 ct2), sl2⟩)
    (c2 : PySem.W.codeIn K cd2 "is_integer" = true)
    (k2 : PySem.W.keepIn K (.ref f2) = true)
    (a3 : PySem.W.nsIn K mainGlobals "is_between" = some (some (.ref f3)))
    (l3 : K.lookup f3 = some ⟨oc3, od3, .func (PySem.W.fnOf "is_between" "is_between" (defArgs st_is_between) (defBody st_is_between) (defScope st_is_between) .none kV3 dc3 pm3 an3 cd3 ct3), sl3⟩)
    (c3 : PySem.W.codeIn K cd3 "is_between" = true)
    (k3 : PySem.W.keepIn K (.ref f3) = true)
    (a4 : PySem.W.nsIn K mainGlobals "is_index" = some (some (.ref f4)))
    (l4 : K.lookup f4 = some ⟨oc4, od4, .func (PySem.W.fnOf "is_index" "is_index" (defArgs st_is_index) (defBody st_is_index) (defScope st_is_index) .none kV4 dc4 pm4 an4 cd4 ct4), sl4⟩)
    (c4 : PySem.W.codeIn K cd4 "is_index" = true)
    (k4 : PySem.W.keepIn K (.ref f4) = true)
    (a5 : PySem.W.nsIn K mainGlobals "is_forest" = some (some (.ref f5)))
    (l5 : K.lookup f5 = some ⟨oc5, od5, .func (PySem.W.fnOf "is_forest" "is_forest" (defArgs st_is_forest) (defBody st_is_forest) (defScope st_is_forest) .none kV5 dc5 pm5 an5 cd5 ct5), sl5⟩)
    (c5 : PySem.W.codeIn K cd5 "is_forest" = true)
    (k5 : PySem.W.keepIn K (.ref f5) = true)
    (a6 : PySem.W.nsIn K mainGlobals "check_forest" = some (some (.ref f6)))
    (l6 : K.lookup f6 = some ⟨oc6, od6, .func (PySem.W.fnOf "check_forest" "check_forest" (defArgs st_check_forest) (defBody st_check_forest) (defScope st_check_forest) .none kV6 dc6 pm6 an6 cd6 ct6), sl6⟩)
    (c6 : PySem.W.codeIn K cd6 "check_forest" = true)
    (k6 : PySem.W.keepIn K (.ref f6) = true)
    (a7 : PySem.W.nsIn K mainGlobals "sizes" = some (some (.ref f7)))
    (l7 : K.lookup f7 = some ⟨oc7, od7, .func (PySem.W.fnOf "sizes" "sizes" (defArgs st_sizes) (defBody st_sizes) (defScope st_sizes) .none kV7 dc7 pm7 an7 cd7 ct7), sl7⟩)
    (c7 : PySem.W.codeIn K cd7 "sizes" = true)
    (k7 : PySem.W.keepIn K (.ref f7) = true)
    (a8 : PySem.W.nsIn K mainGlobals "depths" = some (some (.ref f8)))
    (l8 : K.lookup f8 = some ⟨oc8, od8, .func (PySem.W.fnOf "depths" "depths" (defArgs st_depths) (defBody st_depths) (defScope st_depths) .none kV8 dc8 pm8 an8 cd8 ct8), sl8⟩)
    (c8 : PySem.W.codeIn K cd8 "depths" = true)
    (k8 : PySem.W.keepIn K (.ref f8) = true)
    (a9 : PySem.W.nsIn K mainGlobals "walk" = some (some (.ref f9)))
    (l9 : K.lookup f9 = some ⟨oc9, od9, .func (PySem.W.fnOf "walk" "walk" (defArgs st_walk) (defBody st_walk) (defScope st_walk) .none kV9 dc9 pm9 an9 cd9 ct9), sl9⟩)
    (c9 : PySem.W.codeIn K cd9 "walk" = true)
    (k9 : PySem.W.keepIn K (.ref f9) = true)
    (a10 : PySem.W.nsIn K mainGlobals "_without_holder" = some (some (.ref f10)))
    (l10 : K.lookup f10 = some ⟨oc10, od10, .func (PySem.W.fnOf "_without_holder" "_without_holder" (defArgs st__without_holder) (defBody st__without_holder) (defScope st__without_holder) .none kV10 dc10 pm10 an10 cd10 ct10), sl10⟩)
    (c10 : PySem.W.codeIn K cd10 "_without_holder" = true)
    (k10 : PySem.W.keepIn K (.ref f10) = true)
    (a11 : PySem.W.nsIn K mainGlobals "_held_lists" = some (some (.ref f11)))
    (l11 : K.lookup f11 = some ⟨oc11, od11, .func (PySem.W.fnOf "_held_lists" "_held_lists" (defArgs st__held_lists) (defBody st__held_lists) (defScope st__held_lists) .none kV11 dc11 pm11 an11 cd11 ct11), sl11⟩)
    (c11 : PySem.W.codeIn K cd11 "_held_lists" = true)
    (k11 : PySem.W.keepIn K (.ref f11) = true)
    (a12 : PySem.W.nsIn K mainGlobals "_walk_through" = some (some (.ref f12)))
    (l12 : K.lookup f12 = some ⟨oc12, od12, .func (PySem.W.fnOf "_walk_through" "_walk_through" (defArgs st__walk_through) (defBody st__walk_through) (defScope st__walk_through) .none kV12 dc12 pm12 an12 cd12 ct12), sl12⟩)
    (c12 : PySem.W.codeIn K cd12 "_walk_through" = true)
    (k12 : PySem.W.keepIn K (.ref f12) = true)
    (a13 : PySem.W.nsIn K mainGlobals "turned_counts" = some (some (.ref f13)))
    (l13 : K.lookup f13 = some ⟨oc13, od13, .func (PySem.W.fnOf "turned_counts" "turned_counts" (defArgs st_turned_counts) (defBody st_turned_counts) (defScope st_turned_counts) .none kV13 dc13 pm13 an13 cd13 ct13), sl13⟩)
    (c13 : PySem.W.codeIn K cd13 "turned_counts" = true)
    (k13 : PySem.W.keepIn K (.ref f13) = true)
    (a14 : PySem.W.nsIn K mainGlobals "most_turned" = some (some (.ref f14)))
    (l14 : K.lookup f14 = some ⟨oc14, od14, .func (PySem.W.fnOf "most_turned" "most_turned" (defArgs st_most_turned) (defBody st_most_turned) (defScope st_most_turned) .none kV14 dc14 pm14 an14 cd14 ct14), sl14⟩)
    (c14 : PySem.W.codeIn K cd14 "most_turned" = true)
    (k14 : PySem.W.keepIn K (.ref f14) = true)
    (a15 : PySem.W.nsIn K mainGlobals "_law_well" = some (some (.ref f15)))
    (l15 : K.lookup f15 = some ⟨oc15, od15, .func (PySem.W.fnOf "_law_well" "_law_well" (defArgs st__law_well) (defBody st__law_well) (defScope st__law_well) .none kV15 dc15 pm15 an15 cd15 ct15), sl15⟩)
    (c15 : PySem.W.codeIn K cd15 "_law_well" = true)
    (k15 : PySem.W.keepIn K (.ref f15) = true)
    (a16 : PySem.W.nsIn K mainGlobals "_law_draw" = some (some (.ref f16)))
    (l16 : K.lookup f16 = some ⟨oc16, od16, .func (PySem.W.fnOf "_law_draw" "_law_draw" (defArgs st__law_draw) (defBody st__law_draw) (defScope st__law_draw) .none kV16 dc16 pm16 an16 cd16 ct16), sl16⟩)
    (c16 : PySem.W.codeIn K cd16 "_law_draw" = true)
    (k16 : PySem.W.keepIn K (.ref f16) = true)
    (a17 : PySem.W.nsIn K mainGlobals "_law_same" = some (some (.ref f17)))
    (l17 : K.lookup f17 = some ⟨oc17, od17, .func (PySem.W.fnOf "_law_same" "_law_same" (defArgs st__law_same) (defBody st__law_same) (defScope st__law_same) .none kV17 dc17 pm17 an17 cd17 ct17), sl17⟩)
    (c17 : PySem.W.codeIn K cd17 "_law_same" = true)
    (k17 : PySem.W.keepIn K (.ref f17) = true)
    (a18 : PySem.W.nsIn K mainGlobals "_law_forest" = some (some (.ref f18)))
    (l18 : K.lookup f18 = some ⟨oc18, od18, .func (PySem.W.fnOf "_law_forest" "_law_forest" (defArgs st__law_forest) (defBody st__law_forest) (defScope st__law_forest) .none kV18 dc18 pm18 an18 cd18 ct18), sl18⟩)
    (c18 : PySem.W.codeIn K cd18 "_law_forest" = true)
    (k18 : PySem.W.keepIn K (.ref f18) = true)
    (a19 : PySem.W.nsIn K mainGlobals "_law_rows" = some (some (.ref f19)))
    (l19 : K.lookup f19 = some ⟨oc19, od19, .func (PySem.W.fnOf "_law_rows" "_law_rows" (defArgs st__law_rows) (defBody st__law_rows) (defScope st__law_rows) .none kV19 dc19 pm19 an19 cd19 ct19), sl19⟩)
    (c19 : PySem.W.codeIn K cd19 "_law_rows" = true)
    (k19 : PySem.W.keepIn K (.ref f19) = true)
    (a20 : PySem.W.nsIn K mainGlobals "_law_walk" = some (some (.ref f20)))
    (l20 : K.lookup f20 = some ⟨oc20, od20, .func (PySem.W.fnOf "_law_walk" "_law_walk" (defArgs st__law_walk) (defBody st__law_walk) (defScope st__law_walk) .none kV20 dc20 pm20 an20 cd20 ct20), sl20⟩)
    (c20 : PySem.W.codeIn K cd20 "_law_walk" = true)
    (k20 : PySem.W.keepIn K (.ref f20) = true)
    (a21 : PySem.W.nsIn K mainGlobals "_law_numbers" = some (some (.ref f21)))
    (l21 : K.lookup f21 = some ⟨oc21, od21, .func (PySem.W.fnOf "_law_numbers" "_law_numbers" (defArgs st__law_numbers) (defBody st__law_numbers) (defScope st__law_numbers) .none kV21 dc21 pm21 an21 cd21 ct21), sl21⟩)
    (c21 : PySem.W.codeIn K cd21 "_law_numbers" = true)
    (k21 : PySem.W.keepIn K (.ref f21) = true)
    (a22 : PySem.W.nsIn K mainGlobals "_law_pairs" = some (some (.ref f22)))
    (l22 : K.lookup f22 = some ⟨oc22, od22, .func (PySem.W.fnOf "_law_pairs" "_law_pairs" (defArgs st__law_pairs) (defBody st__law_pairs) (defScope st__law_pairs) .none kV22 dc22 pm22 an22 cd22 ct22), sl22⟩)
    (c22 : PySem.W.codeIn K cd22 "_law_pairs" = true)
    (k22 : PySem.W.keepIn K (.ref f22) = true)
    (a23 : PySem.W.nsIn K mainGlobals "_law_drops" = some (some (.ref f23)))
    (l23 : K.lookup f23 = some ⟨oc23, od23, .func (PySem.W.fnOf "_law_drops" "_law_drops" (defArgs st__law_drops) (defBody st__law_drops) (defScope st__law_drops) .none kV23 dc23 pm23 an23 cd23 ct23), sl23⟩)
    (c23 : PySem.W.codeIn K cd23 "_law_drops" = true)
    (k23 : PySem.W.keepIn K (.ref f23) = true)
    (a24 : PySem.W.nsIn K mainGlobals "_law_tallies" = some (some (.ref f24)))
    (l24 : K.lookup f24 = some ⟨oc24, od24, .func (PySem.W.fnOf "_law_tallies" "_law_tallies" (defArgs st__law_tallies) (defBody st__law_tallies) (defScope st__law_tallies) .none kV24 dc24 pm24 an24 cd24 ct24), sl24⟩)
    (c24 : PySem.W.codeIn K cd24 "_law_tallies" = true)
    (k24 : PySem.W.keepIn K (.ref f24) = true)
    (a25 : PySem.W.nsIn K mainGlobals "_law_right" = some (some (.ref f25)))
    (l25 : K.lookup f25 = some ⟨oc25, od25, .func (PySem.W.fnOf "_law_right" "_law_right" (defArgs st__law_right) (defBody st__law_right) (defScope st__law_right) .none kV25 dc25 pm25 an25 cd25 ct25), sl25⟩)
    (c25 : PySem.W.codeIn K cd25 "_law_right" = true)
    (k25 : PySem.W.keepIn K (.ref f25) = true)
    (a26 : PySem.W.nsIn K mainGlobals "law" = some (some (.ref f26)))
    (l26 : K.lookup f26 = some ⟨oc26, od26, .func (PySem.W.fnOf "law" "law" (defArgs st_law) (defBody st_law) (defScope st_law) .none kV26 dc26 pm26 an26 cd26 ct26), sl26⟩)
    (c26 : PySem.W.codeIn K cd26 "law" = true)
    (k26 : PySem.W.keepIn K (.ref f26) = true)
    (z_isinstance : PySem.W.nsIn K mainGlobals "isinstance" = some none)
    (z_int : PySem.W.nsIn K mainGlobals "int" = some none)
    (z_bool : PySem.W.nsIn K mainGlobals "bool" = some none)
    (z_tuple : PySem.W.nsIn K mainGlobals "tuple" = some none)
    (z_len : PySem.W.nsIn K mainGlobals "len" = some none)
    (z_all : PySem.W.nsIn K mainGlobals "all" = some none)
    (z_enumerate : PySem.W.nsIn K mainGlobals "enumerate" = some none)
    (z_reversed : PySem.W.nsIn K mainGlobals "reversed" = some none)
    (z_sorted : PySem.W.nsIn K mainGlobals "sorted" = some none)
    (z_max : PySem.W.nsIn K mainGlobals "max" = some none)
    (z_min : PySem.W.nsIn K mainGlobals "min" = some none)
    (z_abs : PySem.W.nsIn K mainGlobals "abs" = some none)
    (z_range : PySem.W.nsIn K mainGlobals "range" = some none)
    (z_list : PySem.W.nsIn K mainGlobals "list" = some none)
    (z_repr : PySem.W.nsIn K mainGlobals "repr" = some none)
    (z_sum : PySem.W.nsIn K mainGlobals "sum" = some none)
    (z_any : PySem.W.nsIn K mainGlobals "any" = some none)
    (z_zip : PySem.W.nsIn K mainGlobals "zip" = some none)
    (z_str : PySem.W.nsIn K mainGlobals "str" = some none)
    (z_set : PySem.W.nsIn K mainGlobals "set" = some none)
    (z_dict : PySem.W.nsIn K mainGlobals "dict" = some none)
    (g_0 : PySem.W.nsIn K mainGlobals "InvalidForest" = some (some (.ref C0)))
    (x_0 : PySem.W.excIn K C0 [.type "ValueError", .type "Exception", .type "BaseException", .type "object"] "ValueError.__new__" = true)
    (k_0 : PySem.W.keepIn K (.ref C0) = true)
    (b_0 : PySem.W.subIn K (.ref C0) (.type "BaseException") = some true)
    (t_0 : PySem.W.typeIn K (.ref C0) = some (.type "type"))
    (ga_0 : PySem.W.findIn K (.ref C0) "__getattribute__" = some (some (.builtin "BaseException.__getattribute__")))
    (gt_0 : PySem.W.findIn K (.ref C0) "__getattr__" = some none)
    (hd_0 : PySem.W.hasDictIn K C0 = true)
    (hc_0 : PySem.W.findIn K (.ref C0) "__class__" = some (some (.builtin "object.__class__")))
    (hm_0 : PySem.W.mroIn K C0 (.type "object") = some true)
    (v_0 : PySem.W.kitOne K (.ref C0) (.type "ValueError") = some true)
    (y_0_0 : PySem.W.kitOne K (.ref C0) (.ref C0) = some true)
    (sn : PySem.W.specialIn K (.builtin "object.__class__") "__get__" = some (some (.builtin "getset_descriptor.__get__")))
    (st : PySem.W.takesIn K (.builtin "object.__class__") = some true)
    (tt : PySem.W.tabIn K "_law_walk" = some (cT, tT))
    (tn : K.lookup tT = none) :
    ∃ (fd : FuncData) (cO tO : Addr), PySem.W.tabIn K "_law_walk" = some (cO, tO) ∧ K.lookup tO = none ∧ (∀ (s : Shared) (v : Value), BindsTo s fd ⟨[v], []⟩ [("script", v)]) ∧ ∀ base : Heap, K.In base → base.Ns mainGlobals mg → LamX.TabB base mg cO tO → Qui l.prog w K mg base 65 fa fd ["script"] (spLawT K tO) := by
  have e := hfa.symm.trans (PySem.W.mg_of X G a26)
  cases e
  have D_times_bracket : Df K mg "times_bracket" st_times_bracket ["counts", "size"] := Df.mk' l0 c0 k0 (PySem.W.mg_of X G a0) fun _ _ _ _ _ _ us hl => match us, hl with | [_, _], _ => rfl
  have D_over_bracket : Df K mg "over_bracket" st_over_bracket ["counts", "size"] := Df.mk' l1 c1 k1 (PySem.W.mg_of X G a1) fun _ _ _ _ _ _ us hl => match us, hl with | [_, _], _ => rfl
  have D_is_integer : Df K mg "is_integer" st_is_integer ["value"] := Df.mk' l2 c2 k2 (PySem.W.mg_of X G a2) fun _ _ _ _ _ _ us hl => match us, hl with | [_], _ => rfl
  have D_is_between : Df K mg "is_between" st_is_between ["value", "least", "greatest"] := Df.mk' l3 c3 k3 (PySem.W.mg_of X G a3) fun _ _ _ _ _ _ us hl => match us, hl with | [_, _, _], _ => rfl
  have D_is_index : Df K mg "is_index" st_is_index ["value", "many"] := Df.mk' l4 c4 k4 (PySem.W.mg_of X G a4) fun _ _ _ _ _ _ us hl => match us, hl with | [_, _], _ => rfl
  have D_is_forest : Df K mg "is_forest" st_is_forest ["value"] := Df.mk' l5 c5 k5 (PySem.W.mg_of X G a5) fun _ _ _ _ _ _ us hl => match us, hl with | [_], _ => rfl
  have D_check_forest : Df K mg "check_forest" st_check_forest ["forest"] := Df.mk' l6 c6 k6 (PySem.W.mg_of X G a6) fun _ _ _ _ _ _ us hl => match us, hl with | [_], _ => rfl
  have D_sizes : Df K mg "sizes" st_sizes ["forest"] := Df.mk' l7 c7 k7 (PySem.W.mg_of X G a7) fun _ _ _ _ _ _ us hl => match us, hl with | [_], _ => rfl
  have D_depths : Df K mg "depths" st_depths ["forest"] := Df.mk' l8 c8 k8 (PySem.W.mg_of X G a8) fun _ _ _ _ _ _ us hl => match us, hl with | [_], _ => rfl
  have D_walk : Df K mg "walk" st_walk ["forest"] := Df.mk' l9 c9 k9 (PySem.W.mg_of X G a9) fun _ _ _ _ _ _ us hl => match us, hl with | [_], _ => rfl
  have D__without_holder : Df K mg "_without_holder" st__without_holder ["forest"] := Df.mk' l10 c10 k10 (PySem.W.mg_of X G a10) fun _ _ _ _ _ _ us hl => match us, hl with | [_], _ => rfl
  have D__held_lists : Df K mg "_held_lists" st__held_lists ["forest"] := Df.mk' l11 c11 k11 (PySem.W.mg_of X G a11) fun _ _ _ _ _ _ us hl => match us, hl with | [_], _ => rfl
  have D__walk_through : Df K mg "_walk_through" st__walk_through ["held", "starts"] := Df.mk' l12 c12 k12 (PySem.W.mg_of X G a12) fun _ _ _ _ _ _ us hl => match us, hl with | [_, _], _ => rfl
  have D_turned_counts : Df K mg "turned_counts" st_turned_counts ["forest"] := Df.mk' l13 c13 k13 (PySem.W.mg_of X G a13) fun _ _ _ _ _ _ us hl => match us, hl with | [_], _ => rfl
  have D_most_turned : Df K mg "most_turned" st_most_turned ["forest"] := Df.mk' l14 c14 k14 (PySem.W.mg_of X G a14) fun _ _ _ _ _ _ us hl => match us, hl with | [_], _ => rfl
  have D__law_well : Df K mg "_law_well" st__law_well ["script", "at"] := Df.mk' l15 c15 k15 (PySem.W.mg_of X G a15) fun _ _ _ _ _ _ us hl => match us, hl with | [_, _], _ => rfl
  have D__law_draw : Df K mg "_law_draw" st__law_draw ["well", "most"] := Df.mk' l16 c16 k16 (PySem.W.mg_of X G a16) fun _ _ _ _ _ _ us hl => match us, hl with | [_, _], _ => rfl
  have D__law_same : Df K mg "_law_same" st__law_same ["found", "due"] := Df.mk' l17 c17 k17 (PySem.W.mg_of X G a17) fun _ _ _ _ _ _ us hl => match us, hl with | [_, _], _ => rfl
  have D__law_forest : Df K mg "_law_forest" st__law_forest ["well", "most"] := Df.mk' l18 c18 k18 (PySem.W.mg_of X G a18) fun _ _ _ _ _ _ us hl => match us, hl with | [_, _], _ => rfl
  have D__law_rows : Df K mg "_law_rows" st__law_rows ["plan"] := Df.mk' l19 c19 k19 (PySem.W.mg_of X G a19) fun _ _ _ _ _ _ us hl => match us, hl with | [_], _ => rfl
  have D__law_walk : DfC K mg "_law_walk" st__law_walk ["plan"] cT := DfC.mk' l20 c20 k20 (PySem.W.mg_of X G a20) a20 tt fun _ _ _ _ _ _ us hl => match us, hl with | [_], _ => rfl
  have D__law_numbers : Df K mg "_law_numbers" st__law_numbers ["plan"] := Df.mk' l21 c21 k21 (PySem.W.mg_of X G a21) fun _ _ _ _ _ _ us hl => match us, hl with | [_], _ => rfl
  have D__law_pairs : Df K mg "_law_pairs" st__law_pairs ["spots", "row"] := Df.mk' l22 c22 k22 (PySem.W.mg_of X G a22) fun _ _ _ _ _ _ us hl => match us, hl with | [_, _], _ => rfl
  have D__law_drops : Df K mg "_law_drops" st__law_drops ["spots", "row"] := Df.mk' l23 c23 k23 (PySem.W.mg_of X G a23) fun _ _ _ _ _ _ us hl => match us, hl with | [_, _], _ => rfl
  have D__law_tallies : Df K mg "_law_tallies" st__law_tallies ["plan"] := Df.mk' l24 c24 k24 (PySem.W.mg_of X G a24) fun _ _ _ _ _ _ us hl => match us, hl with | [_], _ => rfl
  have D__law_right : Df K mg "_law_right" st__law_right ["plan"] := Df.mk' l25 c25 k25 (PySem.W.mg_of X G a25) fun _ _ _ _ _ _ us hl => match us, hl with | [_], _ => rfl
  have B : Bl mg := ⟨PySem.W.mg_none_of X G z_isinstance, PySem.W.mg_none_of X G z_int, PySem.W.mg_none_of X G z_bool, PySem.W.mg_none_of X G z_tuple, PySem.W.mg_none_of X G z_len, PySem.W.mg_none_of X G z_all, PySem.W.mg_none_of X G z_enumerate, PySem.W.mg_none_of X G z_reversed, PySem.W.mg_none_of X G z_sorted, PySem.W.mg_none_of X G z_max, PySem.W.mg_none_of X G z_min, PySem.W.mg_none_of X G z_abs, PySem.W.mg_none_of X G z_range, PySem.W.mg_none_of X G z_list, PySem.W.mg_none_of X G z_repr, PySem.W.mg_none_of X G z_sum, PySem.W.mg_none_of X G z_any, PySem.W.mg_none_of X G z_zip, PySem.W.mg_none_of X G z_str, PySem.W.mg_none_of X G z_set, PySem.W.mg_none_of X G z_dict⟩
  have E_InvalidForest : Ex1 K mg "InvalidForest" C0 := ⟨x_0, PySem.W.mg_of X G g_0, k_0, b_0, t_0⟩
  have X_InvalidForest : ExcC K C0 := ⟨ga_0, gt_0, b_0, hd_0, hc_0, sn, st, hm_0⟩
  refine ⟨PySem.W.fnOf "law" "law" (defArgs st_law) (defBody st_law) (defScope st_law) .none kV26 dc26 pm26 an26 cd26 ct26, cT, tT, tt, tn, fun s v => .of_eq rfl, fun base _ _ TB => ?_⟩
  have Kis_integer := ok_is_integer (P := l.prog) (w := w) (base := base) D_is_integer B
  have Kis_between := ok_is_between D_is_between B Kis_integer
  have Kis_index := ok_is_index D_is_index B Kis_between
  have Kwo := ok__without_holder (P := l.prog) (w := w) (base := base) D__without_holder B
  have Khl := ok__held_lists (P := l.prog) (w := w) (base := base) D__held_lists B
  have Kwt := ok__walk_through (P := l.prog) (w := w) (base := base) D__walk_through B
  have Kis_forest := ok_is_forest D_is_forest B Kis_index Kwo Khl Kwt
  have Kcf := ok_check_forest D_check_forest B E_InvalidForest Kis_forest
  have Kwalk := ok_walk D_walk B Kcf Kwo Khl Kwt
  have Ksizes := ok_sizes D_sizes B Kwalk
  have Kdepths := ok_depths D_depths B Kwalk
  have Ktimes := ok_times_bracket (P := l.prog) (w := w) (base := base) D_times_bracket B
  have Kover := ok_over_bracket (P := l.prog) (w := w) (base := base) D_over_bracket B
  have Kmost := ok_most_turned D_most_turned B Ksizes Kdepths
  have Kcounts := ok_turned_counts D_turned_counts B Ksizes Kmost Ktimes Kover
  have Kdraw := ok__law_draw (P := l.prog) (w := w) (base := base) D__law_draw B
  have Kwell := ok__law_well (P := l.prog) (w := w) (base := base) D__law_well B
  have Kforest := ok__law_forest D__law_forest B Kdraw
  have Ksame := ok__law_same (P := l.prog) (w := w) (base := base) D__law_same B
  have Klrows := ok__law_rowsN (P := l.prog) (w := w) (base := base) D__law_rows B
  have Klwalk := ok__law_walk (P := l.prog) (w := w) D__law_walk B TB
  have Klnum := ok__law_numbers D__law_numbers B Klwalk
  have Klp := ok__law_pairs (P := l.prog) (w := w) (base := base) D__law_pairs B
  have Kld := ok__law_drops (P := l.prog) (w := w) (base := base) D__law_drops B
  have Ktal := ok__law_tallies D__law_tallies B Klnum Klrows Klp Kld
  have Kright := ok__law_right D__law_right B Ktal Ksame Kcounts Kmost
  exact ok_law (fun_mk (st := st_law) l26 c26 k26) B Kwell Kforest Kright (Ksame 3) Kcounts Kmost
theorem walkL {l : PySem.W.OpenLaw} {q : Program} {loose : List Str} {XP : (Str → Option Value) → Heap → Prop} {YP : World → Heap → Prop} {d : DefRec} {K : Params → PySem.W.Frag} (hn : l.most = some 63) (hdf : d.params.defaults = []) (found : ((recsOf q).any fun e => e.name == "_law_walk") = true) (hY : ∀ (w : World) (h : Heap), YP w h → (K w.params).In h)
    (F : ∀ (w : World) (mg : Str → Option Value) (fa : Addr) (h : Heap), (K w.params).In h → h.Ns mainGlobals mg → mg d.name = some (.ref fa) → ∃ (fd : FuncData) (cO tO : Addr), PySem.W.tabIn (K w.params) "_law_walk" = some (cO, tO) ∧ (K w.params).lookup tO = none ∧ (∀ (s : Shared) (v : Value), BindsTo s fd ⟨[v], []⟩ [("script", v)]) ∧ ∀ base : Heap, (K w.params).In base → base.Ns mainGlobals mg → LamX.TabB base mg cO tO → Qui l.prog w (K w.params) mg base 65 fa fd ["script"] (spLawT (K w.params) tO)) :
    PySem.W.WalkO q loose XP YP l.row.toRowW d [] (fun f vs => PySem.call f vs) :=
  L2.walk_ofQT (n := 63) (k := 65) (x := "script") (sp := fun w t => spLawT (K w.params) t) "_law_walk" hn (by decide) hdf ⟨rfl, by decide, by decide⟩ found hY F fun _ _ _ a ns hl hT hS => ⟨a, ns, rfl, hS, hl, hT, fun _ => rfl⟩
end My
open PySem PySem.W PyProof.Rows
set_option maxRecDepth 100000 in
set_option maxHeartbeats 0 in
theorem PySem.Challenge.cw_heldbehind_k21_sequences_by_turned_pairs_holds : PySem.Challenge.rw_heldbehind_k21_sequences_by_turned_pairs.Holds := by
  w_on; o_law; k_head; (case hw => w_witness2)
  k_fill
  refine My.walkL (l := PySem.Challenge.rw_heldbehind_k21_sequences_by_turned_pairs) rfl rfl ?found (fun w h Y => PySem.W.km_in_of Y) ?F
  case found => rfl
  case F =>
    intro w mg fa h KX G hmg
    refine' My.all_mk KX G hmg ?a0 ?l0 ?c0 ?k0 ?a1 ?l1 ?c1 ?k1 ?a2 ?l2 ?c2 ?k2 ?a3 ?l3 ?c3 ?k3 ?a4 ?l4 ?c4 ?k4 ?a5 ?l5 ?c5 ?k5 ?a6 ?l6 ?c6 ?k6 ?a7 ?l7 ?c7 ?k7 ?a8 ?l8 ?c8 ?k8 ?a9 ?l9 ?c9 ?k9 ?a10 ?l10 ?c10 ?k10 ?a11 ?l11 ?c11 ?k11 ?a12 ?l12 ?c12 ?k12 ?a13 ?l13 ?c13 ?k13 ?a14 ?l14 ?c14 ?k14 ?a15 ?l15 ?c15 ?k15 ?a16 ?l16 ?c16 ?k16 ?a17 ?l17 ?c17 ?k17 ?a18 ?l18 ?c18 ?k18 ?a19 ?l19 ?c19 ?k19 ?a20 ?l20 ?c20 ?k20 ?a21 ?l21 ?c21 ?k21 ?a22 ?l22 ?c22 ?k22 ?a23 ?l23 ?c23 ?k23 ?a24 ?l24 ?c24 ?k24 ?a25 ?l25 ?c25 ?k25 ?a26 ?l26 ?c26 ?k26 ?z_isinstance ?z_int ?z_bool ?z_tuple ?z_len ?z_all ?z_enumerate ?z_reversed ?z_sorted ?z_max ?z_min ?z_abs ?z_range ?z_list ?z_repr ?z_sum ?z_any ?z_zip ?z_str ?z_set ?z_dict ?g_0 ?x_0 ?k_0 ?b_0 ?t_0 ?ga_0 ?gt_0 ?hd_0 ?hc_0 ?hm_0 ?v_0 ?y_0_0 ?sn ?st ?tt ?tn
    (case a0 => first | k_is | rfl)
    (case a1 => first | k_is | rfl)
    (case a2 => first | k_is | rfl)
    (case a3 => first | k_is | rfl)
    (case a4 => first | k_is | rfl)
    (case a5 => first | k_is | rfl)
    (case a6 => first | k_is | rfl)
    (case a7 => first | k_is | rfl)
    (case a8 => first | k_is | rfl)
    (case a9 => first | k_is | rfl)
    (case a10 => first | k_is | rfl)
    (case a11 => first | k_is | rfl)
    (case a12 => first | k_is | rfl)
    (case a13 => first | k_is | rfl)
    (case a14 => first | k_is | rfl)
    (case a15 => first | k_is | rfl)
    (case a16 => first | k_is | rfl)
    (case a17 => first | k_is | rfl)
    (case a18 => first | k_is | rfl)
    (case a19 => first | k_is | rfl)
    (case a20 => first | k_is | rfl)
    (case a21 => first | k_is | rfl)
    (case a22 => first | k_is | rfl)
    (case a23 => first | k_is | rfl)
    (case a24 => first | k_is | rfl)
    (case a25 => first | k_is | rfl)
    (case a26 => first | k_is | rfl)
    (case g_0 => first | k_is | rfl)
    (case l0 => first | k_is | rfl)
    (case c0 => first | k_is | rfl)
    (case k0 => first | k_is | rfl)
    (case l1 => first | k_is | rfl)
    (case c1 => first | k_is | rfl)
    (case k1 => first | k_is | rfl)
    (case l2 => first | k_is | rfl)
    (case c2 => first | k_is | rfl)
    (case k2 => first | k_is | rfl)
    (case l3 => first | k_is | rfl)
    (case c3 => first | k_is | rfl)
    (case k3 => first | k_is | rfl)
    (case l4 => first | k_is | rfl)
    (case c4 => first | k_is | rfl)
    (case k4 => first | k_is | rfl)
    (case l5 => first | k_is | rfl)
    (case c5 => first | k_is | rfl)
    (case k5 => first | k_is | rfl)
    (case l6 => first | k_is | rfl)
    (case c6 => first | k_is | rfl)
    (case k6 => first | k_is | rfl)
    (case l7 => first | k_is | rfl)
    (case c7 => first | k_is | rfl)
    (case k7 => first | k_is | rfl)
    (case l8 => first | k_is | rfl)
    (case c8 => first | k_is | rfl)
    (case k8 => first | k_is | rfl)
    (case l9 => first | k_is | rfl)
    (case c9 => first | k_is | rfl)
    (case k9 => first | k_is | rfl)
    (case l10 => first | k_is | rfl)
    (case c10 => first | k_is | rfl)
    (case k10 => first | k_is | rfl)
    (case l11 => first | k_is | rfl)
    (case c11 => first | k_is | rfl)
    (case k11 => first | k_is | rfl)
    (case l12 => first | k_is | rfl)
    (case c12 => first | k_is | rfl)
    (case k12 => first | k_is | rfl)
    (case l13 => first | k_is | rfl)
    (case c13 => first | k_is | rfl)
    (case k13 => first | k_is | rfl)
    (case l14 => first | k_is | rfl)
    (case c14 => first | k_is | rfl)
    (case k14 => first | k_is | rfl)
    (case l15 => first | k_is | rfl)
    (case c15 => first | k_is | rfl)
    (case k15 => first | k_is | rfl)
    (case l16 => first | k_is | rfl)
    (case c16 => first | k_is | rfl)
    (case k16 => first | k_is | rfl)
    (case l17 => first | k_is | rfl)
    (case c17 => first | k_is | rfl)
    (case k17 => first | k_is | rfl)
    (case l18 => first | k_is | rfl)
    (case c18 => first | k_is | rfl)
    (case k18 => first | k_is | rfl)
    (case l19 => first | k_is | rfl)
    (case c19 => first | k_is | rfl)
    (case k19 => first | k_is | rfl)
    (case l20 => first | k_is | rfl)
    (case c20 => first | k_is | rfl)
    (case k20 => first | k_is | rfl)
    (case l21 => first | k_is | rfl)
    (case c21 => first | k_is | rfl)
    (case k21 => first | k_is | rfl)
    (case l22 => first | k_is | rfl)
    (case c22 => first | k_is | rfl)
    (case k22 => first | k_is | rfl)
    (case l23 => first | k_is | rfl)
    (case c23 => first | k_is | rfl)
    (case k23 => first | k_is | rfl)
    (case l24 => first | k_is | rfl)
    (case c24 => first | k_is | rfl)
    (case k24 => first | k_is | rfl)
    (case l25 => first | k_is | rfl)
    (case c25 => first | k_is | rfl)
    (case k25 => first | k_is | rfl)
    (case l26 => first | k_is | rfl)
    (case c26 => first | k_is | rfl)
    (case k26 => first | k_is | rfl)
    (case z_isinstance => first | k_is | rfl)
    (case z_int => first | k_is | rfl)
    (case z_bool => first | k_is | rfl)
    (case z_tuple => first | k_is | rfl)
    (case z_len => first | k_is | rfl)
    (case z_all => first | k_is | rfl)
    (case z_enumerate => first | k_is | rfl)
    (case z_reversed => first | k_is | rfl)
    (case z_sorted => first | k_is | rfl)
    (case z_max => first | k_is | rfl)
    (case z_min => first | k_is | rfl)
    (case z_abs => first | k_is | rfl)
    (case z_range => first | k_is | rfl)
    (case z_list => first | k_is | rfl)
    (case z_repr => first | k_is | rfl)
    (case z_sum => first | k_is | rfl)
    (case z_any => first | k_is | rfl)
    (case z_zip => first | k_is | rfl)
    (case z_str => first | k_is | rfl)
    (case z_set => first | k_is | rfl)
    (case z_dict => first | k_is | rfl)
    (case x_0 => first | k_exc | rfl)
    (case k_0 => first | k_is | rfl)
    (case b_0 => first | k_is | rfl)
    (case t_0 => first | k_is | rfl)
    (case ga_0 => first | k_is | rfl)
    (case gt_0 => first | k_is | rfl)
    (case hd_0 => first | k_is | rfl)
    (case hc_0 => first | k_is | rfl)
    (case hm_0 => first | k_is | rfl)
    (case v_0 => first | k_is | rfl)
    (case y_0_0 => first | k_is | rfl)
    (case sn => first | k_is | rfl)
    (case st => first | k_is | rfl)
    (case tt => first | k_is | rfl)
    (case tn => first | k_is | rfl)
