import PyProof.Rows.All
import Wide.All
import OpenK.AllK
import Wide.FinOn
import PyProof.EqAt
import PyProof.EqKinds
import PyProof.TupleCall
import KE.GoesEnum
import KE.KTupSum
import HandS.Base
import HandS.Call
import HandS.List
import HandS.Comp
import HandS.Ends
import HandS.Dict
import HandS.Iter
import HandS.Text
import HandS.Words
import HandS.WordsList
import HandS.OwnEq
import HandS.Conv
import OpenK.KOps
import HandS.ForMost
import HandS.IsInst
import HandS.Property
import HandS.Wide
import HandS.TupAny
import HandS.Walk
import KE.Datum
import KE.RegKIsAll
import PySem.Challenge.RW_stretchtold_k01_whole_rows_judged
set_option Elab.async false
set_option linter.all false
set_option maxRecDepth 100000
set_option maxHeartbeats 2000000
/-! own rules over the layer: sum of a tuple, enumerate of a tuple, len and == of an own instance -/
namespace ST
open PySem PySem.Spec PyProof.Rows L2

section
variable {X : Cx}
/-- sum of a tuple of whole numbers -/
def rSumT (K : PySem.W.Frag) : List V → Hp → VK → Prop := fun vs H Q => ∃ (a : Addr) (ns : List Int), vs = [V.ref a] ∧ SqT K H a (ns.map V.int) ∧ Q (.int ns.sum) H
theorem call_sumT (hc : X.calm = true) : CallR X (.builtin "sum") (rSumT X.K) := by
  intro pins s σ H vs us Q I r h
  obtain ⟨a, ns, rfl, hs, q⟩ := h
  obtain ⟨its, rv, ht, _⟩ := I.tuple hs
  have ht' : s.heap.IsTuple a its.toArray := ht
  have hi : IntsAre its ns := rv.ints
  rw [Vals.ref1 r]
  obtain ⟨xs, e⟩ := hi.allInts.items
  have hn : numsOf (intItems xs).toList = ns := by rw [← e]; exact hi.numsOf
  rw [nums_intItems] at hn
  rw [e] at ht'
  refine PySem.W.ktm_sumG (I.ok.hd hc) ht' fun h' tk t' hk => ?_
  have e2 : preSum (numAt xs) xs.size = ns.sum := by
    rw [preSum_eq, List.take_of_length_le (by simp), hn]
  rw [e2]
  exact ⟨.int _, H, I.kept hk, ⟨_, rfl⟩, q⟩

/-- the tuple at a, each item in a new pair with its number -/
def IteT (K : PySem.W.Frag) (a : Addr) : It :=
  ⟨fun i H => ∃ (xs : List V) (x : V), SqT K H a xs ∧ xs[i]? = some x,
   fun i H v H' => ∃ T x, v = .ref T ∧ H T = none ∧ H' = upd H T (.tup [.int (i : Nat), x]) ∧ (∀ xs, SqT K H a xs → xs[i]? = some x),
   fun i H => ∃ xs : List V, SqT K H a xs ∧ xs.length = i⟩
theorem turn_enumT {P : Program} {w : World} {K : PySem.W.Frag} {elts : List Expr} {kk : Nat} {tpos : Pos} (a e it : Addr) :
    Turn P w K (.Tuple elts kk tpos) (IteT K a) [e, it] e
      (fun i h => (∃ old, IsEnum h e it ((i : Nat) : Int) old) ∧ h.IsTupleIter it a i ∧ (e ≠ it ∧ a ≠ it ∧ e ≠ a)) where
  mem := by simp
  obj := fun i h st b hb => by
    obtain ⟨⟨old, he⟩, ⟨o, ho, hc, hd⟩, _⟩ := st
    have z : b = e ∨ b = it := by simpa using hb
    rcases z with z | z
    · subst z
      exact ⟨_, he, fun v q => nomatch q⟩
    · subst z
      exact ⟨o, ho, fun v q => by rw [hd] at q; cases q⟩
  keep := fun i h h' st k => by
    obtain ⟨⟨old, he⟩, hi, hne⟩ := st
    exact ⟨⟨old, k e (by simp) _ he⟩, hi.at (fun o q => k it (by simp) o q), hne⟩
  item := by
    intro X hP hw hK hc i pins s σ H E I hf st hg
    subst hP hw hK
    obtain ⟨⟨old, he⟩, hit, n1, n2, n3⟩ := st
    obtain ⟨xs, x, hq, hx⟩ := hg
    obtain ⟨its, rv, p, hz⟩ := I.tuple hq
    obtain ⟨u, hu, ru⟩ := rv.get hx
    have p' : s.heap.IsTuple a its.toArray := p
    have hel : e < s.heap.objs.size := Heap.lt_size he
    have hil : it < s.heap.objs.size := by
      obtain ⟨_, q, _⟩ := hit
      exact Heap.lt_size q
    have hlt : i < its.toArray.size := by
      have := (List.getElem?_eq_some_iff.mp hu).1
      simpa using this
    have D := PySem.Draws.tuple (prog := X.prog) (w := X.w) (A := X.A.in1) (I.ok.hd hc) it a n2 its.toArray
    refine wpAny_pyNext_enum_itemC D he ⟨hit, p'⟩ hlt n1 (by simp; exact ⟨n1, n3⟩) fun y h' tk hy ho hst' hT hsz hk => ?_
    have hyu : y = u := by
      have q1 : its[i]? = some y := by simpa using hy
      rw [hu] at q1
      exact (Option.some.inj q1).symm
    subst hyu
    refine ⟨_, rfl, wpAny_letOwnedTupleGo_enum (s := { s with heap := h', toks := tk + 1 }) ho fun h'' he' sb => ?_⟩
    have hT2 : h''.get? s.heap.objs.size = some { cls := .type "tuple", data := .seq #[.int i tk, y] } := (sb.2 _ (Nat.ne_of_gt hel)).trans hT
    have new : ObjOk X.prog X.w (upd H s.heap.objs.size (.tup [.int (i : Nat), x])) h'' s.heap.objs.size (.tup [.int (i : Nat), x]) :=
      ⟨(by show 2 ≤ sizeLine; decide), [.int i tk, y], .cons ⟨_, rfl⟩ (.cons ru .nil), ⟨_, hT2, rfl, _, rfl⟩⟩
    have I1 : Inv X pins σ (upd H s.heap.objs.size (.tup [.int (i : Nat), x])) { s with heap := h'', toks := tk + 1 } :=
      I.turnedNew (ch := [e, it]) (fun b ob hb q => (sb.2 b (fun z => hb (by simp [z]))).trans (hk b ob (fun z => hb (by simp [z])) (fun z => hb (by simp [z])) q)) hf (Nat.le_refl _) new
    refine ⟨.ref s.heap.objs.size, _, I1, rfl, ⟨_, x, rfl, I.hok.fresh (Nat.le_refl _), rfl, fun ys hy => by rw [I.tuple_inj hy hq]; exact hx⟩,
      ⟨⟨y, ?_⟩, hst'.1.at fun o q => (sb.2 it (Ne.symm n1)).trans q, n1, n2, n3⟩, fun b hb => ?_⟩
    · have e1 : ((i + 1 : Nat) : Int) = (i : Int) + 1 := by omega
      rw [e1]
      exact he'
    · have z : b = e ∨ b = it := by simpa using hb
      have hb' : b < s.heap.objs.size := by
        rcases z with z | z
        · rw [z]; exact hel
        · rw [z]; exact hil
      rw [upd_ne (Nat.ne_of_lt hb')]
      exact (hf b hb).1
  done := by
    intro X hP hw hK hc i pins s σ H E I hf st hg
    subst hP hw hK
    obtain ⟨⟨old, he⟩, hit, n1, n2, n3⟩ := st
    obtain ⟨xs, hq, hx⟩ := hg
    obtain ⟨its, rv, p, hz⟩ := I.tuple hq
    have p' : s.heap.IsTuple a its.toArray := p
    obtain ⟨f0, f1, f2, f3, f4, f5⟩ := hf it (by simp)
    have hl : its.toArray.size = i := by
      rw [← hx, rv.length]
      simp
    subst hl
    have D := PySem.Draws.tuple (prog := X.prog) (w := X.w) (A := X.A.in1) (I.ok.hd hc) it a n2 its.toArray
    exact wpAny_pyNext_enum_endD D he ⟨hit, p'⟩ fun h' eb => ⟨rfl, I.turned (t' := s.toks) (fun b o hb q => eb b o hb q) f0 f1 f3 f4 f5⟩
  self := fun A i s Q E st h => by
    obtain ⟨⟨_, he⟩, _⟩ := st
    exact wpAny_pyIter_enum he h

theorem meets_enumerate_newT {v : Value} {o : Obj} {G : Heap → Prop} (B : Begins v o G) :
    Meets (Builtin.«enumerate.__new__» ⟨[.type "enumerate", v], []⟩) (fun _ R s => G s.heap ∧ R (.ok (.ret (.ref (s.heap.push o).objs.size)))
        { s with heap := (s.heap.push o).push { cls := .type "enumerate", data := .fields #[.none, .bool false, .ref s.heap.objs.size, rawInt 0, .none, .none] } }) :=
  .of_wp fun prog w A R s h => by
    obtain ⟨hp, g, d, tk, os⟩ := s
    obtain ⟨h1, h⟩ := h
    have hsub := sub_enumerate
    have q1 : ∀ {A' : Around} {E : Value → Shared → Prop} {Q : Value → Shared → Prop}, Q (.ref hp.objs.size) ⟨hp.push o, g, d, tk, os⟩ → wpAny (model prog w) A' (pyIter v) Q E ⟨hp, g, d, tk, os⟩ :=
      fun q => B.iter prog w _ _ ⟨hp, g, d, tk, os⟩ _ h1 q
    wp_walk using q1
    refine wpAny_stack_any (fun st => wpAny_pure ?_)
    split
    · rename_i c _ _ _ _ _
      cases (c == Value.type "enumerate")
      · wp_walk using q1
        exact ⟨_, rfl, h⟩
      · wp_walk using q1
        exact ⟨_, rfl, h⟩
    · wp_walk using q1
      exact ⟨_, rfl, h⟩

theorem call_enumerate_tup {prog : Program} {w : World} {A : Around} {E : Value → Shared → Prop} {s : Shared} {l : Addr} {items : Array Value} {Q : Value → Shared → Prop} (hL : s.heap.IsTuple l items)
    (h : ∀ h', IsEnum h' (s.heap.objs.size + 1) s.heap.objs.size 0 .none → h'.IsTupleIter s.heap.objs.size l 0 →
      (∀ b o, s.heap.get? b = some o → h'.get? b = some o) → Q (.ref (s.heap.objs.size + 1)) { s with heap := h' }) :
    wpAny (model prog w) A (call (.type "enumerate") [.ref l]) Q E s := by
  have B := begins_tuple l items
  refine callType_new F.called_enumerate (by decide) (F.typeCall_enumerate_1 _) (F.newCall_enumerate_1 _) (fun obj => F.args_object_init_2 obj _) F.entry_enumerate_new (meets_enumerate_newT B) ⟨hL, ?_⟩
  generalize ho : ({ cls := .type "tuple_iterator", data := .fields #[.ref l, .int 0 0] } : Obj) = o
  have hz : (s.heap.push o).objs.size = s.heap.objs.size + 1 := Heap.size_push ..
  show _ ∧ _
  rw [hz]
  generalize hoe : ({ cls := .type "enumerate", data := .fields #[.none, .bool false, .ref s.heap.objs.size, rawInt 0, .none, .none] } : Obj) = oe
  have he : ((s.heap.push o).push oe).get? (s.heap.objs.size + 1) = some oe := by
    have := Heap.get?_push_size (s.heap.push o) (o := oe) (by subst hoe; rfl)
    rw [hz] at this
    exact this
  have he2 : IsEnum ((s.heap.push o).push oe) (s.heap.objs.size + 1) s.heap.objs.size 0 .none := by
    subst hoe
    exact he
  refine ⟨⟨_, he, by subst hoe; rfl⟩, h _ he2 ⟨o, Heap.get?_push_of_some _ (Heap.get?_push_size _ (by subst ho; rfl)), by subst ho; rfl, by subst ho; rfl⟩ fun b o x => Heap.get?_push_of_some _ (Heap.get?_push_of_some _ x)⟩

def iEnumT (K : PySem.W.Frag) (ta : TA) : TI := fun σ H R => ta σ H fun vs H1 => ∃ a xs, vs = [.ref a] ∧ SqT K H1 a xs ∧ R (IteT K a) H1
theorem pi_enumT {e : Expr} {ta : TA} {p pos tpos : Pos} {elts : List Expr} {kk : Nat} (hg : Gl X "enumerate") (hm : X.mg "enumerate" = none) (ha : PA X [e] ta) (hs : starEach [e] X.env = [(false, eval e X.env)] := by rfl) :
    PI X (.Tuple elts kk tpos) (.Call (.Name "enumerate" p) [e] [] pos) (iEnumT X.K ta) := by
  refine ⟨fun pins s σ H R I h => ?_⟩
  refine Call_ (ld_blt I hg hm boot_enumerate (PyProof.Rows.callWith_type1 (thn (ha.run pos pins s σ H _ I h) fun us s1 hh => ?_) hs rfl))
  obtain ⟨vs, H1, I1, r1, a, xs, ex, hq, q⟩ := hh
  subst ex
  rw [Vals.ref1 r1]
  obtain ⟨its, rv, p', hz⟩ := I1.tuple hq
  have al : a < s1.heap.objs.size := by
    obtain ⟨o, ho, _⟩ := p'
    exact Heap.lt_size ho
  refine call_enumerate_tup (show s1.heap.IsTuple a its.toArray from p') fun h' he hit hk => wpAny_pyIter_enum he ?_
  have I2 : Inv X pins σ H1 { s1 with heap := h' } := I1.kept (t' := s1.toks) hk
  refine ⟨s1.heap.objs.size + 1, [s1.heap.objs.size + 1, s1.heap.objs.size], _, _, H1, rfl, I2, turn_enumT a (s1.heap.objs.size + 1) s1.heap.objs.size,
    ⟨⟨.none, he⟩, hit, Nat.succ_ne_self _, Nat.ne_of_lt al, Nat.ne_of_gt (Nat.lt_succ_of_lt al)⟩, fun b hb => ?_, q⟩
  have z : b = s1.heap.objs.size + 1 ∨ b = s1.heap.objs.size := by simpa using hb
  have hle : s1.heap.objs.size ≤ b := by
    rcases z with z | z
    · rw [z]; exact Nat.le_succ _
    · rw [z]; exact Nat.le_refl _
  exact I1.fpOk hle (I1.hok.fresh hle)
end
end ST

set_option maxRecDepth 100000
set_option maxHeartbeats 2000000
namespace ST
open PySem PySem.Spec PyProof.Rows L2
section
variable {X : Cx} {pins : List (Addr × Obj)} {σ : L2.St} {H : Hp} {s : Shared}
theorem looks_tyOf {M : Model} {y : V} {v tb : Value} (I : Inv X pins σ H s) (ry : RelV y v) (ty : TyOf X.K H y tb) : PySem.W.Looks M s.heap (typeOf v) tb := by
  cases ty with
  | non => cases (show v = Value.none from ry); exact .of_pure rfl
  | bl b => cases (show v = Value.bool b from ry); exact .of_pure rfl
  | int i => obtain ⟨t, q⟩ := (show ∃ t, v = Value.int i t from ry); cases q; exact .of_pure rfl
  | str x => obtain ⟨t, q⟩ := (show ∃ t, v = Value.str x t from ry); cases q; exact .of_pure rfl
  | flt x => obtain ⟨t, q⟩ := (show ∃ t, v = Value.float x t from ry); cases q; exact .of_pure rfl
  | @lst a xs ea =>
    cases (show v = Value.ref a from ry)
    obtain ⟨_, _, n, _, h1⟩ := (show ObjOk X.prog X.w H s.heap a (.lst xs) from I.hok a _ ea)
    exact fun A Q E s2 k q => wpAny_typeOf_ref (k _ _ h1) q
  | @frz a ob xs ea =>
    cases (show v = Value.ref a from ry)
    obtain ⟨_, _, _, n, _, h1⟩ := (show ObjOk X.prog X.w H s.heap a (.frz ob (.lst xs)) from I.hok a _ ea)
    exact fun A Q E s2 k q => wpAny_typeOf_ref (k _ _ h1) q
  | @tup a xs ea =>
    cases (show v = Value.ref a from ry)
    obtain ⟨_, _, _, o, h1, h2, _⟩ := (show ObjOk X.prog X.w H s.heap a (.tup xs) from I.hok a _ ea)
    exact fun A Q E s2 k q => wpAny_typeOf_ref (k _ _ h1) (by rw [h2]; exact q)
  | @dK a kvs ea =>
    cases (show v = Value.ref a from ry)
    obtain ⟨_, _, vs, _, o, es, ep, h1, h2, _⟩ := (show ObjOk X.prog X.w H s.heap a (.dK kvs) from I.hok a _ ea)
    exact fun A Q E s2 k q => wpAny_typeOf_ref (k _ _ h1) (by rw [h2.1]; exact q)
  | @dT a kvs ea =>
    cases (show v = Value.ref a from ry)
    obtain ⟨_, _, xs, _, o, es, ep, h1, h2, _⟩ := (show ObjOk X.prog X.w H s.heap a (.dT kvs) from I.hok a _ ea)
    exact fun A Q E s2 k q => wpAny_typeOf_ref (k _ _ h1) (by rw [h2.1]; exact q)
  | @ins a C dx fs ea cl ha hn htk hm =>
    cases (show v = Value.ref a from ry)
    obtain ⟨mA, O, _⟩ := ins_get I.hok ea
    obtain ⟨od, J, _⟩ := O.look
    exact J.type
end
/-- x == y, x an instance of the class at C that has its own __eq__ at g; y of the type tb -/
def rOwnEq (K : PySem.W.Frag) (C : Addr) (sp : Sp) : R2 := fun x y H Q => ∃ a dx fs tb, x = .ref a ∧ H a = some (.ins C dx fs) ∧ TyOf K H y tb ∧ PySem.W.notFirst K C tb = true ∧ sp [x, y] H Q E0
section
variable {X : Cx} {k : Nat} {C g : Addr} {fd : FuncData} {ps : List Str} {sp : Sp}
theorem op_ownEq (hs : PySem.W.findIn X.K (.ref C) "__eq__" = some (some (.ref g))) (hf : PySem.W.isFn X.K (.ref g) = true) (F : FnOk X.prog X.w X.K X.mg X.base CX0 k g fd ps sp) (hb : Binds X.K fd ps [])
    (hr : Room k X.A) : OpR X (compareOp .Eq) (rOwnEq X.K C sp) := by
  intro pins s σ H x y v u Q I rx ry h
  obtain ⟨a, dx, fs, tb, rfl, ha, ty, hn, q⟩ := h
  cases (show v = Value.ref a from rx)
  obtain ⟨mA, O, _⟩ := ins_get I.hok ha
  obtain ⟨od, J, _⟩ := O.look
  obtain ⟨m, hF⟩ := I.fr
  show wpAny (model X.prog X.w) X.A (richCompare .Eq (.ref a) u) (EP X pins σ Q) X.xe s
  refine PySem.W.cmp_K (op := .Eq) (tb := tb) hr.units0 hF I.ok.mod.kin J (looks_tyOf I ry ty) hn hs hf ?_
  refine wpAny_mono (run_fn (us := [.ref a, u]) (vs := [.ref a, y]) F hr hb .nil pass0 I (.cons rfl (.cons ry .nil)) q) (fun w s' z => ?_) fun _ _ x => x
  obtain ⟨z', H', I', rz, qz⟩ := z
  cases z' with
  | non => cases (show w = Value.none from rz); exact ⟨.non, H', I', rfl, qz⟩
  | bl b => cases (show w = Value.bool b from rz); exact ⟨.bl b, H', I', rfl, qz⟩
  | int i => obtain ⟨t, e⟩ := (show ∃ t, w = Value.int i t from rz); cases e; exact ⟨.int i, H', I', ⟨_, rfl⟩, qz⟩
  | str i => obtain ⟨t, e⟩ := (show ∃ t, w = Value.str i t from rz); cases e; exact ⟨.str i, H', I', ⟨_, rfl⟩, qz⟩
  | byt i => obtain ⟨t, e⟩ := (show ∃ t, w = Value.bytes i t from rz); cases e; exact ⟨.byt i, H', I', ⟨_, rfl⟩, qz⟩
  | flt i => obtain ⟨t, e⟩ := (show ∃ t, w = Value.float i t from rz); cases e; exact ⟨.flt i, H', I', ⟨_, rfl⟩, qz⟩
  | ref i => cases (show w = Value.ref i from rz); exact ⟨.ref i, H', I', rfl, qz⟩
  | ty i => cases (show w = Value.type i from rz); exact ⟨.ty i, H', I', rfl, qz⟩
/-- len(x), x an instance with its own __len__ -/
def rOwnLen (C : Addr) (sp : Sp) : List V → Hp → VK → Prop := fun vs H Q => ∃ a dx fs, vs = [.ref a] ∧ H a = some (.ins C dx fs) ∧ sp vs H (fun v H' => ∃ n, v = .int n ∧ 0 ≤ n ∧ n < 2 ^ 63 ∧ Q v H') E0
theorem call_ownLen (hs : PySem.W.findIn X.K (.ref C) "__len__" = some (some (.ref g))) (hf : PySem.W.isFn X.K (.ref g) = true) (F : FnOk X.prog X.w X.K X.mg X.base CX0 k g fd ps sp) (hb : Binds X.K fd ps [])
    (hr : Room (k + 1) X.A) : CallR X (.builtin "len") (rOwnLen C sp) := by
  intro pins s σ H xs us Q I r h
  obtain ⟨a, dx, fs, rfl, ha, q⟩ := h
  rw [Vals.ref1 r]
  obtain ⟨mA, O, _⟩ := ins_get I.hok ha
  obtain ⟨od, J, _⟩ := O.look
  obtain ⟨m, hF⟩ := I.fr
  refine PySem.W.len_K hF I.ok.mod.kin J hs hf ?_
  have hl : ([Value.ref a] ++ []).length = ps.length := (F.len _ _ _ _ q).symm ▸ rfl
  refine wpAny_call (codeAny_mono (F.run X.A.in1 X.stack s H ⟨[.ref a], []⟩ [.ref a] [.ref a] _ E0 hr.in1 I.env0.in1 (hb s [.ref a] I.kIn hl) (.cons rfl .nil) q) fun r s' hq => ?_)
  cases r with
  | error e => exact False.elim hq
  | ok fl =>
    cases fl with
    | ret w =>
      obtain ⟨z, H', I', rz, n, ez, n0, n1, qz⟩ := I.after hq
      subst ez
      obtain ⟨t, e⟩ := (show ∃ t, w = Value.int n t from rz)
      cases e
      exact ⟨⟨n0, n1⟩, .int n, H', I'.tok _, ⟨_, rfl⟩, qz⟩
    | next => exact False.elim hq
    | brk => exact False.elim hq
    | cont => exact False.elim hq
end

/-- a def of the text that stands at the module's name x and keeps the promise sp -/
structure Has (P : Program) (w : World) (K : PySem.W.Frag) (mg : Str → Option Value) (base : Heap) (x : Str) (k : Nat) (ps : List Str) (sp : Sp) : Prop where
  ex : ∃ f fd, mg x = some (.ref f) ∧ PySem.W.keepIn K (.ref f) = true ∧ Binds K fd ps [] ∧ FnOk P w K mg base CX0 k f fd ps sp
/-- where a def of the text stands -/
structure At (K : PySem.W.Frag) (mg : Str → Option Value) (x : Str) (st : Stmt) (ps : List Str) : Prop where
  ex : ∃ f fd, mg x = some (.ref f) ∧ Fun K x x st f fd ∧ Binds K fd ps []
section
variable {P : Program} {w : World} {K : PySem.W.Frag} {mg : Str → Option Value} {base : Heap} {x : Str} {k : Nat} {ps : List Str} {sp : Sp} {st : Stmt}
theorem At.has (a : At K mg x st ps) (h : ∀ f fd, Fun K x x st f fd → FnOk P w K mg base CX0 k f fd ps sp) : Has P w K mg base x k ps sp := by
  obtain ⟨f, fd, m, F, b⟩ := a.ex
  exact ⟨f, fd, m, F.kp, b, h f fd F⟩
end
section
variable {X : Cx} {x : Str} {k : Nat} {ps : List Str} {sp : Sp} {p pos : Pos} {e : Expr} {es : List Expr} {t : TA}
/-- f(e, ..) -/
theorem pe_f (D : Has X.prog X.w X.K X.mg X.base x k ps sp) (hr : Room k X.A) (hg : Gl X x) (ha : PA X (e :: es) t) (hdb : (x == ("__debug__" : Str)) = false := by decide)
    (he : starEach (e :: es) X.env = (false, eval e X.env) :: starEach es X.env := by rfl) (hpl : (backTo pos (starEach es X.env)).any (·.1) = false := by rfl) : PE X (.Call (.Name x p) (e :: es) [] pos) (tCall sp [] E0 t) := by
  obtain ⟨f, fd, m, kp, b, F⟩ := D.ex
  exact pe_call F hr hg m kp b .nil pass0 ha hdb he hpl
end
end ST

set_option maxRecDepth 100000
set_option maxHeartbeats 2000000
namespace ST
open PySem PySem.Spec PyProof.Rows L2

/-- the built-in names that the text leaves as they are -/
structure Blt (mg : Str → Option Value) : Prop where
  b_isinstance : mg "isinstance" = none
  b_int : mg "int" = none
  b_bool : mg "bool" = none
  b_tuple : mg "tuple" = none
  b_list : mg "list" = none
  b_len : mg "len" = none
  b_all : mg "all" = none
  b_any : mg "any" = none
  b_sum : mg "sum" = none
  b_max : mg "max" = none
  b_min : mg "min" = none
  b_range : mg "range" = none
  b_enumerate : mg "enumerate" = none
  b_zip : mg "zip" = none

theorem SqT.same {K : PySem.W.Frag} {H H' : Hp} {a : Addr} {xs : List V} (e : Same H H') (h : SqT K H a xs) : SqT K H' a xs := by
  rcases h with (h | ⟨o, h⟩) | h
  · exact .inl (.inl (e _ _ h))
  · exact .inl (.inr ⟨o, e _ _ h⟩)
  · exact .inr h
theorem tyx_tup {K : PySem.W.Frag} {H : Hp} {a : Addr} {xs : List V} (h : SqT K H a xs) : TyX K H (.ref a) (.type "tuple") := by
  rcases h with (h | ⟨o, h⟩) | ⟨o, its, n, h, hc, _⟩
  · exact .base (.tup h)
  · exact .fTuple h
  · exact .kTuple h hc
theorem same_upd {H : Hp} {p : Addr} {o : HO} (h : H p = none) : Same H (upd H p o) := fun b u e => by
  rw [upd_ne (ne_of_none e h)]
  exact e
theorem Same.mut {H H' : Hp} {p : Addr} {o : HO} (e : Same H H') (h : H p = none) : Same H (upd H' p o) := fun b u hb => by
  rw [upd_ne (ne_of_none hb h)]
  exact e b u hb

/-- a told fact: begin, end, low, high -/
structure Fc where
  b : Int
  e : Int
  lo : Int
  hi : Int
  deriving DecidableEq
def Fc.vs (f : Fc) : List V := [.int f.b, .int f.e, .int f.lo, .int f.hi]
def FactsAt (K : PySem.W.Frag) (H : Hp) (a : Addr) (fs : List Fc) : Prop :=
  ∃ as : List Addr, SqT K H a (as.map V.ref) ∧ Paired (fun p f => SqT K H p (Fc.vs f)) as fs
theorem FactsAt.same {K : PySem.W.Frag} {H H' : Hp} {a : Addr} {fs : List Fc} (e : Same H H') (h : FactsAt K H a fs) : FactsAt K H' a fs := by
  obtain ⟨as, h1, h2⟩ := h
  exact ⟨as, SqT.same e h1, h2.mono fun p f q => SqT.same e q⟩
theorem paired_at {α β : Type} {G : α → β → Prop} : ∀ {l : List α} {m : List β}, Paired G l m → ∀ {i : Nat} {a : α}, l[i]? = some a → ∃ b, m[i]? = some b ∧ G a b
  | _, _, .nil, i, a, h => by simp at h
  | _, _, .cons r t, 0, a, h => by
    simp at h
    subst h
    exact ⟨_, rfl, r⟩
  | _, _, .cons r t, i + 1, a, h => by
    obtain ⟨b, h1, h2⟩ := paired_at t (i := i) (a := a) (by simpa using h)
    exact ⟨b, by simpa using h1, h2⟩
/-- the fact's tuple at place i -/
theorem facts_get {K : PySem.W.Frag} {H : Hp} {fs : List Fc} {as : List Addr} (h : Paired (fun p f => SqT K H p (Fc.vs f)) as fs) {i : Nat} {x : V} (hx : (as.map V.ref)[i]? = some x) :
    ∃ p f, x = .ref p ∧ as[i]? = some p ∧ fs[i]? = some f ∧ SqT K H p (Fc.vs f) := by
  rw [List.getElem?_map] at hx
  cases e : as[i]? with
  | none =>
    rw [e] at hx
    cases hx
  | some p =>
    rw [e] at hx
    obtain ⟨f, h1, h2⟩ := paired_at h e
    exact ⟨p, f, (Option.some.inj hx).symm, rfl, h1, h2⟩
/-- a fact of a row of so many cells -/
def Fc.ok (c : Int) (f : Fc) : Prop := 0 ≤ f.b ∧ f.b < f.e ∧ f.e ≤ c ∧ 0 ≤ f.lo ∧ f.lo ≤ f.hi ∧ f.hi ≤ 10 ^ 32
/-- the attributes of a book -/
def bf (c m : Int) (fa : Addr) : List (Str × V) := [(("_cells" : Str), V.int c), (("_most" : Str), V.int m), (("_facts" : Str), V.ref fa)]
theorem bf_cells (c m : Int) (fa : Addr) : (bf c m fa).lookup ("_cells" : Str) = some (.int c) := by
  unfold bf
  rw [List.lookup_cons]
  simp
theorem str_ne1 : ¬ (("_most" : Str) = "_cells") := by decide +kernel
theorem str_ne2 : ¬ (("_facts" : Str) = "_cells") := by decide +kernel
theorem str_ne3 : ¬ (("_facts" : Str) = "_most") := by decide +kernel
theorem bf_put (c m : Int) (fa : Addr) : putF "_facts" (.ref fa) (putF "_most" (.int m) (putF "_cells" (.int c) [])) = bf c m fa := by
  have e1 : putF ("_cells" : Str) (V.int c) [] = [(("_cells" : Str), V.int c)] := rfl
  rw [e1]
  have e2 : putF ("_most" : Str) (V.int m) [(("_cells" : Str), V.int c)] = [(("_cells" : Str), V.int c), (("_most" : Str), V.int m)] := by
    show (if ("_cells" : Str) = "_most" then _ else _) = _
    rw [if_neg (fun q => str_ne1 q.symm)]
    rfl
  rw [e2]
  show (if ("_cells" : Str) = "_facts" then _ else _ :: (if ("_most" : Str) = "_facts" then _ else _)) = _
  rw [if_neg (fun q => str_ne2 q.symm), if_neg (fun q => str_ne3 q.symm)]
  rfl
theorem bf_most (c m : Int) (fa : Addr) : (bf c m fa).lookup ("_most" : Str) = some (.int m) := by
  rw [← bf_put, lookup_putF, if_neg (fun q => str_ne3 q.symm), lookup_putF, if_pos rfl]
theorem bf_facts (c m : Int) (fa : Addr) : (bf c m fa).lookup ("_facts" : Str) = some (.ref fa) := by
  rw [← bf_put, lookup_putF, if_pos rfl]
theorem bf_len (c m : Int) (fa : Addr) : (bf c m fa).length < 1000 := by
  show 3 < 1000
  decide
/-- a book stands at p -/
def BookAt (K : PySem.W.Frag) (C : Addr) (H : Hp) (p : Addr) (c m : Int) (fs : List Fc) : Prop :=
  ∃ dx fa, H p = some (.ins C dx (bf c m fa)) ∧ FactsAt K H fa fs
theorem BookAt.same {K : PySem.W.Frag} {C : Addr} {H H' : Hp} {p : Addr} {c m : Int} {fs : List Fc} (e : Same H H') (h : BookAt K C H p c m fs) : BookAt K C H' p c m fs := by
  obtain ⟨dx, fa, h1, h2⟩ := h
  exact ⟨dx, fa, e _ _ h1, h2.same e⟩
end ST

set_option maxRecDepth 100000
set_option maxHeartbeats 2000000
namespace ST
open PySem PySem.Spec PyProof.Rows L2
open PySem.W (Datum Tup)

/-- the value v is the datum x -/
def Dv {α : Type} [DecidableEq α] [Datum α] (K : PySem.W.Frag) (H : Hp) (v : V) (x : α) : Prop := Dp K H v (Datum.toD x)
def DvAll {α : Type} [DecidableEq α] [Datum α] (K : PySem.W.Frag) (H : Hp) (vs : List V) (xs : List α) : Prop := DpAll K H vs (xs.map Datum.toD)
section
variable {K : PySem.W.Frag} {H H' : Hp}
mutual
theorem Dp.same (e : Same H H') : ∀ {v : V} {d : PyData}, Dp K H v d → Dp K H' v d
  | _, _, .non => .non
  | _, _, .bl b => .bl b
  | _, _, .int i => .int i
  | _, _, .str x => .str x
  | _, _, .lst hs ha => .lst (e.seq hs) (DpAll.same e ha)
  | _, _, .tup hs ha => .tup (SqT.same e hs) (DpAll.same e ha)
theorem DpAll.same (e : Same H H') : ∀ {vs : List V} {ds : List PyData}, DpAll K H vs ds → DpAll K H' vs ds
  | _, _, .nil => .nil
  | _, _, .cons a b => .cons (Dp.same e a) (DpAll.same e b)
end
variable {α : Type} [DecidableEq α] [Datum α]
theorem Dv.same (e : Same H H') {v : V} {x : α} (h : Dv K H v x) : Dv K H' v x := Dp.same e h
theorem dv_int (i : Int) : Dv K H (.int i) i := Dp.int i
theorem dv_bl (i : Bool) : Dv K H (.bl i) i := Dp.bl i
theorem dvAll_nil : DvAll K H [] ([] : List α) := .nil
theorem dvAll_cons {v : V} {vs : List V} {x : α} {xs : List α} (a : Dv K H v x) (b : DvAll K H vs xs) : DvAll K H (v :: vs) (x :: xs) := .cons a b
theorem dvAll_ints : ∀ ns : List Int, DvAll K H (ns.map V.int) ns
  | [] => .nil
  | n :: ns => .cons (.int n) (dvAll_ints ns)
theorem dvAll_of : ∀ {vs : List V} {xs : List α}, Paired (Dv K H) vs xs → DvAll K H vs xs
  | _, _, .nil => .nil
  | _, _, .cons a b => .cons a (dvAll_of b)
theorem dvAll_to : ∀ {vs : List V} {xs : List α}, DvAll K H vs xs → Paired (Dv K H) vs xs
  | [], [], _ => .nil
  | _ :: _, [], h => by cases h
  | [], _ :: _, h => by cases h
  | v :: vs, x :: xs, h => by
    cases h with
    | cons a b => exact .cons a (dvAll_to b)
theorem dv_lst {a : Addr} {vs : List V} {xs : List α} (h : SqL K H a vs) (r : DvAll K H vs xs) : Dv K H (.ref a) xs := Dp.lst h r
theorem dv_tup {a : Addr} {vs : List V} {xs : List α} (h : SqT K H a vs) (r : DvAll K H vs xs) : Dv K H (.ref a) (Tup.mk xs) := Dp.tup h r
theorem dv_lst_ints {a : Addr} {ns : List Int} (h : SqL K H a (ns.map V.int)) : Dv K H (.ref a) ns := dv_lst h (dvAll_ints ns)
theorem dv_tup_ints {a : Addr} {ns : List Int} (h : SqT K H a (ns.map V.int)) : Dv K H (.ref a) (Tup.mk ns) := dv_tup h (dvAll_ints ns)
end
/-- == and != of data that have a type -/
def rEqV (K : PySem.W.Frag) (neg : Bool) : R2 := fun x y H Q => ∃ (α : Type) (i1 : DecidableEq α) (i2 : Datum α) (a b : α), Dv K H x a ∧ Dv K H y b ∧ Datum.depth α ≤ 60 ∧ Q (.bl (if neg then decide (a ≠ b) else decide (a = b))) H
section
variable {X : Cx}
theorem op_eqV (hu : X.A.units + 64 < cLine) : OpR X (compareOp .Eq) (rEqV X.K false) := by
  intro pins s σ H x y v u Q I rx ry h
  obtain ⟨α, i1, i2, a, b, ha, hb, hd, q⟩ := h
  obtain ⟨as, r1⟩ := Dp.reads I _ x v ha rx
  obtain ⟨bs, r2⟩ := Dp.reads I _ y u hb ry
  exact PySem.W.eq_datum ⟨as, r1⟩ ⟨bs, r2⟩ (by omega) ⟨.bl _, H, I, rfl, q⟩
theorem op_neV (hu : X.A.units + 64 < cLine) : OpR X (compareOp .NotEq) (rEqV X.K true) := by
  intro pins s σ H x y v u Q I rx ry h
  obtain ⟨α, i1, i2, a, b, ha, hb, hd, q⟩ := h
  obtain ⟨as, r1⟩ := Dp.reads I _ x v ha rx
  obtain ⟨bs, r2⟩ := Dp.reads I _ y u hb ry
  exact PySem.W.ne_datum ⟨as, r1⟩ ⟨bs, r2⟩ (by omega) ⟨.bl _, H, I, rfl, q⟩
end
instance : Datum Fc where
  toD f := .tuple [.int f.b, .int f.e, .int f.lo, .int f.hi]
  plain f := rfl
  eqv f g := by
    have h := PySem.W.eqvAll_map [f.b, f.e, f.lo, f.hi] [g.b, g.e, g.lo, g.hi]
    simp only [PyData.eqv]
    refine Eq.trans h (decide_eq_decide.mpr ⟨fun e => ?_, fun e => by rw [e]⟩)
    cases f; cases g
    simp only [List.cons.injEq, and_true] at e
    simp only [Fc.mk.injEq]
    exact e
  depth := 1
  depth_le f := by
    simp only [PyData.depth, PyData.depthAll]
    decide
theorem FactsAt.dv {K : PySem.W.Frag} {H : Hp} {a : Addr} {fs : List Fc} (h : FactsAt K H a fs) : Dv K H (.ref a) (Tup.mk fs) := by
  obtain ⟨as, h1, h2⟩ := h
  refine dv_tup h1 (dvAll_of ?_)
  clear h1
  induction h2 with
  | nil => exact .nil
  | cons r t ih => exact .cons (Dp.tup r (.cons (.int _) (.cons (.int _) (.cons (.int _) (.cons (.int _) .nil))))) ih

theorem walk_enumT {K : PySem.W.Frag} {a : Addr} {xs : List V} : Walk (IteT K a) xs.length (fun H => SqT K H a xs) (YPair (fun i => some (.int (i : Nat))) (fun i => xs[i]?)) := by
  refine ⟨fun i _ hi q => ⟨xs, xs[i], q, by simp [hi]⟩, fun _ q => ⟨xs, q, rfl⟩, fun i H v H' _ q y => ?_⟩
  obtain ⟨T, x, h1, h2, h3, h4⟩ := y
  exact ⟨T, .int (i : Nat), x, h1, h2, h3, rfl, h4 xs q⟩

theorem sIx_in {n d : Nat} {i : Int} (h0 : 0 ≤ i) (h1 : i ≤ n) : HT.sIx n d (some i) = i.toNat := by
  show (if i < 0 then (i + (n : Int)).toNat else min i.toNat n) = i.toNat
  rw [if_neg (by omega)]
  omega
/-- the items from b on, below e -/
def cut {α : Type} (xs : List α) (b e : Int) : List α := (xs.drop b.toNat).take (e.toNat - b.toNat)
theorem cutV_ints (ns : List Int) {b e : Int} (h0 : 0 ≤ b) (h1 : b ≤ ns.length) (h2 : 0 ≤ e) (h3 : e ≤ ns.length) : cutV (ns.map V.int) (some b) (some e) = (cut ns b e).map V.int := by
  unfold cutV cut
  rw [List.length_map, sIx_in h0 h1, sIx_in h2 h3, List.map_take, List.map_drop]
theorem cut_all {α : Type} (ns : List α) {b e : Int} (h0 : b.toNat = 0) (h1 : e.toNat = ns.length) : cut ns b e = ns := by
  unfold cut
  rw [h0, h1]
  simp
end ST
namespace ST
open PySem PySem.Spec PyProof.Rows L2
section
variable {X : Cx} {C : Addr} {x y : Str} {k : Nat} {ps : List Str} {sp : Sp} {p pos : Pos} {e : Expr} {es : List Expr} {ta : TE} {t : TA}
theorem pe_cst {n : Int} (h : ∃ t, X.mg x = some (.int n t)) (hg : Gl X x) (hd : (x == ("__debug__" : Str)) = false := by decide) : PE X (.Name x pos) (tC (.int n)) := by
  obtain ⟨t, m⟩ := h
  exact pe_glob hg m ⟨_, rfl⟩ hd
/-- a property of the class at C that hands back the attribute y -/
structure Getter (P : Program) (w : World) (K : PySem.W.Frag) (mg : Str → Option Value) (base : Heap) (C : Addr) (x y : Str) : Prop where
  ex : ∃ p g fd, PropOf K C x p g ∧ FnOk P w K mg base CX0 1 g fd ["self"] (getSp C y) ∧ Binds K fd ["self"] []
def tGet (C : Addr) (y : Str) (ta : TE) : TE := fun σ H Q => ta σ H fun x H1 => ∃ a dx fs v, x = .ref a ∧ H1 a = some (.ins C dx fs) ∧ fs.lookup y = some v ∧ Q v H1
theorem pe_gt (G : Getter X.prog X.w X.K X.mg X.base C x y) (c : Cls X.K C) (he : PE X e ta) (hr : Room 2 X.A) (hab : attributeBase e x X.env (eval e X.env) = eval e X.env := by rfl) :
    PE X (.Attribute e x pos) (tGet C y ta) := by
  obtain ⟨p, g, fd, hp, F, hb⟩ := G.ex
  have h := pe_prop (E := E0) (pos := pos) he c hp F hr hb .nil pass0 hab
  refine ⟨fun pins s σ H Q I hh => ?_⟩
  refine attr_of hab (thn (he.run pins s σ H _ I hh) fun u s1 hq => ?_)
  obtain ⟨x, H1, I1, rx, a, dx, fs, v, ex, ea, l, q⟩ := hq
  subst ex
  obtain rfl : u = Value.ref a := rx
  exact getprop_ok I1 ea c hp F hr hb .nil pass0 (show getSp C y [.ref a] H1 Q E0 from ⟨a, dx, fs, v, rfl, ea, l, q⟩)
/-- a class of the text whose __init__ keeps the promise sp -/
structure Maker (P : Program) (w : World) (K : PySem.W.Frag) (mg : Str → Option Value) (base : Heap) (C : Addr) (x : Str) (k : Nat) (ps : List Str) (sp : Sp) : Prop where
  ex : ∃ f fd, mg x = some (.ref C) ∧ Mk K C f ∧ Binds K fd ps [] ∧ FnOk P w K mg base CX0 k f fd ps sp
theorem pe_mk (M : Maker X.prog X.w X.K X.mg X.base C x k ps sp) (hr : Room (k + 1) X.A) (hg : Gl X x) (ha : PA X (e :: es) t) (hdb : (x == ("__debug__" : Str)) = false := by decide)
    (he : starEach (e :: es) X.env = (false, eval e X.env) :: starEach es X.env := by rfl) (hpl : (backTo pos (starEach es X.env)).any (·.1) = false := by rfl) : PE X (.Call (.Name x p) (e :: es) [] pos) (tMake C sp [] E0 t) := by
  obtain ⟨f, fd, m, M, b, F⟩ := M.ex
  exact pe_make M F hr hg m b .nil pass0 ha hdb he hpl
end
/-- two facts' data -/
theorem eqF {K : PySem.W.Frag} {H : Hp} {a b : Addr} {fs gs : List Fc} (h : FactsAt K H a fs) (g : FactsAt K H b gs) : Dv K H (.ref a) (PySem.W.Tup.mk fs) ∧ Dv K H (.ref b) (PySem.W.Tup.mk gs) := ⟨h.dv, g.dv⟩
end ST

set_option maxRecDepth 100000
set_option maxHeartbeats 2000000
namespace ST
open PySem PySem.Spec PyProof.Rows L2
open PySem.W (Datum Tup)
/-- what the turns below n that f lets through give -/
def selV {α : Type} (n : Nat) (f : Nat → Bool) (v : Nat → α) : List α := ((List.range n).filter f).map v
section
variable {α β : Type} {n : Nat} {f : Nat → Bool} {v : Nat → α}
theorem selV_zero : selV 0 f v = [] := rfl
theorem selV_yes (h : f n = true) : selV (n + 1) f v = selV n f v ++ [v n] := by
  unfold selV
  rw [List.range_succ, List.filter_append, List.map_append]
  simp [h]
theorem selV_no (h : f n = false) : selV (n + 1) f v = selV n f v := by
  unfold selV
  rw [List.range_succ, List.filter_append, List.map_append]
  simp [h]
theorem selV_len : (selV n f v).length ≤ n := by
  unfold selV
  rw [List.length_map]
  have := List.length_filter_le f (List.range n)
  simpa using this
theorem selV_map (g : α → β) : (selV n f v).map g = selV n f (fun i => g (v i)) := by
  unfold selV
  rw [List.map_map]
  rfl
theorem selV_all : selV n (fun _ => true) v = (List.range n).map v := by
  unfold selV
  rw [List.filter_eq_self.mpr (fun _ _ => rfl)]
theorem selV_congr {g : Nat → Bool} {u : Nat → α} (h : ∀ i, i < n → f i = g i) (k : ∀ i, i < n → v i = u i) : selV n f v = selV n g u := by
  unfold selV
  rw [List.filter_congr (fun i hi => h i (List.mem_range.mp hi))]
  exact List.map_congr_left fun i hi => k i (List.mem_range.mp (List.mem_filter.mp hi).1)
theorem range_map_get {l : List α} {d : α} : (List.range l.length).map (fun i => l.getD i d) = l := by
  apply List.ext_getElem
  · simp
  · intro i h1 h2
    have h3 : i < l.length := h2
    rw [List.getElem_map, List.getElem_range, List.getD_eq_getElem?_getD, List.getElem?_eq_getElem h3]
    rfl
end
/-- a comprehension that keeps what stood: f tells which turns are kept, v what they give -/
theorem lc_sel {J : It} {n : Nat} {G : Hp → Prop} {Y : Nat → Hp → V → Hp → Prop} (w : Walk J n G Y) {g : TG} {tt : TT} {te : TE} {vs : List Nat} {σ : L2.St} {H1 : Hp} {D : Addr} {Qd : Hp → Prop} (f : Nat → Bool) (v : Nat → V)
    (hD : H1 D = none) (hn : n ≤ 1000000) (hG : ∀ H, Same H1 H → G H)
    (hs : ∀ i x H H' (A : V → Hp → Prop) (R : Hp → Prop), i < n → Same H1 H → Y i H x H' → (f i = true → ∀ H4, Same H H4 → A (v i) H4) → (f i = false → ∀ H4, Same H H4 → R H4) →
      g x (wipe σ vs) H' fun σ2 H2 => wipe σ2 vs = wipe σ vs ∧ tt σ2 H2 fun b H3 => if b = true then te σ2 H3 A else R H3)
    (hd : ∀ H, Same H1 H → H D = some (.lst (selV n f v)) → Qd H) :
    ∃ W : Nat → Nat → Hp → Prop, (∃ m, W 0 m (upd H1 D (.lst []))) ∧ ∀ i m H, W i m H →
      (J.stop i H ∧ Qd H) ∨ (J.go i H ∧ ∃ Nx : Hp → Prop, (∀ H', Nx H' → ∃ m', m' < m ∧ W (i + 1) m' H') ∧ ∀ x H', J.yld i H x H' → g x (wipe σ vs) H' fun σ2 H2 => wipe σ2 vs = wipe σ vs ∧ tt σ2 H2 fun b H3 =>
        if b = true then te σ2 H3 fun y H4 => ∃ acc, H4 D = some (.lst acc) ∧ acc.length < sizeLine ∧ Nx (upd H4 D (.lst (acc ++ [y]))) else Nx H3) := by
  refine lc_it w (fun i H => Same H1 H ∧ H D = some (.lst (selV i f v))) ⟨same_upd hD, upd_same⟩ (fun i H _ p => hG H p.1) (fun i x H H' hi p y => ?_) (fun H p => hd H p.1 p.2)
  obtain ⟨s1, hl⟩ := p
  refine hs i x H H' _ _ hi s1 y (fun hf H4 s4 => ⟨_, s4 _ _ hl, ?_, ?_, ?_⟩) (fun hf H4 s4 => ⟨s1.trans s4, ?_⟩)
  · refine Nat.lt_of_le_of_lt selV_len ?_
    rw [sizeLine_eq]
    omega
  · exact Same.mut (s1.trans s4) hD
  · rw [selV_yes hf, upd_same]
  · rw [selV_no hf]
    exact s4 _ _ hl
/-- a comprehension without a test that keeps what stood -/
theorem lc_every {J : It} {n : Nat} {G : Hp → Prop} {Y : Nat → Hp → V → Hp → Prop} (w : Walk J n G Y) {g : TG} {te : TE} {vs : List Nat} {σ : L2.St} {H1 : Hp} {D : Addr} {Qd : Hp → Prop} (v : Nat → V)
    (hD : H1 D = none) (hn : n ≤ 1000000) (hG : ∀ H, Same H1 H → G H)
    (hs : ∀ i x H H' (A : V → Hp → Prop), i < n → Same H1 H → Y i H x H' → (∀ H4, Same H H4 → A (v i) H4) → g x (wipe σ vs) H' fun σ2 H2 => wipe σ2 vs = wipe σ vs ∧ te σ2 H2 A)
    (hd : ∀ H, Same H1 H → H D = some (.lst ((List.range n).map v)) → Qd H) :
    ∃ W : Nat → Nat → Hp → Prop, (∃ m, W 0 m (upd H1 D (.lst []))) ∧ ∀ i m H, W i m H →
      (J.stop i H ∧ Qd H) ∨ (J.go i H ∧ ∃ Nx : Hp → Prop, (∀ H', Nx H' → ∃ m', m' < m ∧ W (i + 1) m' H') ∧ ∀ x H', J.yld i H x H' → g x (wipe σ vs) H' fun σ2 H2 => wipe σ2 vs = wipe σ vs ∧ tYes σ2 H2 fun b H3 =>
        if b = true then te σ2 H3 fun y H4 => ∃ acc, H4 D = some (.lst acc) ∧ acc.length < sizeLine ∧ Nx (upd H4 D (.lst (acc ++ [y]))) else Nx H3) := by
  refine lc_sel w (fun _ => true) v hD hn hG (fun i x H H' A R hi s1 y hA hR => ?_) (fun H s1 h => hd H s1 (by rw [h, selV_all]))
  have h := hs i x H H' A hi s1 y (hA rfl)
  have e : (fun (σ2 : L2.St) (H2 : Hp) => wipe σ2 vs = wipe σ vs ∧ te σ2 H2 A) = (fun σ2 H2 => wipe σ2 vs = wipe σ vs ∧ tYes σ2 H2 fun b H3 => if b = true then te σ2 H3 A else R H3) := by
    funext σ2 H2
    show _ = (wipe σ2 vs = wipe σ vs ∧ (if true = true then te σ2 H2 A else R H2))
    rw [if_pos rfl]
  rw [← e]
  exact h
/-- a comprehension without a test, by what holds ahead of each turn -/
theorem lc_drawn {J : It} {n : Nat} {G : Hp → Prop} {Y : Nat → Hp → V → Hp → Prop} (w : Walk J n G Y) {g : TG} {te : TE} {vs : List Nat} {σ : L2.St} {H1 : Hp} {D : Addr} {Qd : Hp → Prop} (Pv : Nat → Hp → Prop) (h0 : Pv 0 (upd H1 D (.lst [])))
    (hG : ∀ i H, i ≤ n → Pv i H → G H)
    (hs : ∀ i x H H', i < n → Pv i H → Y i H x H' → g x (wipe σ vs) H' fun σ2 H2 => wipe σ2 vs = wipe σ vs ∧ te σ2 H2 fun y H4 => ∃ acc, H4 D = some (.lst acc) ∧ acc.length < sizeLine ∧ Pv (i + 1) (upd H4 D (.lst (acc ++ [y]))))
    (hd : ∀ H, Pv n H → Qd H) :
    ∃ W : Nat → Nat → Hp → Prop, (∃ m, W 0 m (upd H1 D (.lst []))) ∧ ∀ i m H, W i m H →
      (J.stop i H ∧ Qd H) ∨ (J.go i H ∧ ∃ Nx : Hp → Prop, (∀ H', Nx H' → ∃ m', m' < m ∧ W (i + 1) m' H') ∧ ∀ x H', J.yld i H x H' → g x (wipe σ vs) H' fun σ2 H2 => wipe σ2 vs = wipe σ vs ∧ tYes σ2 H2 fun b H3 =>
        if b = true then te σ2 H3 fun y H4 => ∃ acc, H4 D = some (.lst acc) ∧ acc.length < sizeLine ∧ Nx (upd H4 D (.lst (acc ++ [y]))) else Nx H3) := by
  refine lc_it w Pv h0 hG (fun i x H H' hi p y => ?_) hd
  have h := hs i x H H' hi p y
  have e : ∀ (A : V → Hp → Prop) (R : Hp → Prop), (fun (σ2 : L2.St) (H2 : Hp) => wipe σ2 vs = wipe σ vs ∧ te σ2 H2 A) = (fun σ2 H2 => wipe σ2 vs = wipe σ vs ∧ tYes σ2 H2 fun b H3 => if b = true then te σ2 H3 A else R H3) := fun A R => by
    funext σ2 H2
    show _ = (wipe σ2 vs = wipe σ vs ∧ (if true = true then te σ2 H2 A else R H2))
    rw [if_pos rfl]
  rw [e _ (Pv (i + 1))] at h
  exact h
theorem slA_ints {K : PySem.W.Frag} {H : Hp} {a : Addr} {ns : List Int} {b e : Int} {Q : VK} (h : SqT K H a (ns.map V.int)) (hb : 0 ≤ b ∧ b ≤ ns.length) (he : 0 ≤ e ∧ e ≤ ns.length)
    (q : ∀ p H', Same H H' → SqT K H' p ((cut ns b e).map V.int) → Q (.ref p) H') : rSlA K (.ref a) (some b) (some e) H Q := by
  refine ⟨a, _, rfl, h, fun z => ?_, fun _ p hp => ?_⟩
  · rw [List.length_map, sIx_in hb.1 hb.2, sIx_in he.1 he.2] at z
    refine q a H (Same.refl H) ?_
    rw [cut_all ns z.1 z.2]
    exact h
  · refine q p _ (same_upd hp) ?_
    rw [cutV_ints ns hb.1 hb.2 he.1 he.2]
    exact SqT.of upd_same
theorem slL_ints {K : PySem.W.Frag} {H : Hp} {a : Addr} {ns : List Int} {b e : Int} {Q : VK} (h : SqL K H a (ns.map V.int)) (hb : 0 ≤ b ∧ b ≤ ns.length) (he : 0 ≤ e ∧ e ≤ ns.length)
    (q : ∀ p, H p = none → Q (.ref p) (upd H p (.lst ((cut ns b e).map V.int)))) : rSlL K (.ref a) (some b) (some e) H Q := by
  refine ⟨a, _, rfl, h, fun p hp => ?_⟩
  rw [cutV_ints ns hb.1 hb.2 he.1 he.2]
  exact q p hp
/-- whether a fact holds of a row -/
def holdsB (f : Fc) (ns : List Int) : Bool := decide (f.lo ≤ (cut ns f.b f.e).sum ∧ (cut ns f.b f.e).sum ≤ f.hi)
def zF : Fc := ⟨0, 0, 0, 0⟩
/-- the facts that do not hold -/
def brk (fs : List Fc) (ns : List Int) : List Int := selV fs.length (fun i => !holdsB (fs.getD i zF) ns) (fun i => (i : Int))
theorem getD_of {α : Type} {l : List α} {i : Nat} {x d : α} (h : l[i]? = some x) : l.getD i d = x := by
  rw [List.getD_eq_getElem?_getD, h]
  rfl
theorem get_map_int {ns : List Int} {i : Nat} {x : V} (h : (ns.map V.int)[i]? = some x) : ∃ n, x = .int n ∧ ns[i]? = some n := by
  rw [List.getElem?_map] at h
  cases e : ns[i]? with
  | none =>
    rw [e] at h
    cases h
  | some n =>
    rw [e] at h
    exact ⟨n, (Option.some.inj h).symm, rfl⟩
end ST

set_option maxRecDepth 100000
set_option maxHeartbeats 2000000
namespace ST
open PySem PySem.Spec PyProof.Rows L2
/-! the layer's rules with the written part K named: a comprehension's block hides it otherwise -/
section
variable {X : Cx}
def rLenQ (K : PySem.W.Frag) : List V → Hp → VK → Prop := fun xs H Q => ∃ p ys, xs = [.ref p] ∧ (SqL K H p ys ∨ SqT K H p ys) ∧ Q (.int ys.length) H
def rListQ (K : PySem.W.Frag) : List V → Hp → VK → Prop := fun xs H Q => ∃ p ys, xs = [.ref p] ∧ (SqL K H p ys ∨ SqT K H p ys) ∧ ∀ l, H l = none → Q (.ref l) (upd H l (.lst ys))
def rTupQ (K : PySem.W.Frag) : List V → Hp → VK → Prop := fun xs H Q => ∃ p ys, xs = [.ref p] ∧ ((SqL K H p ys ∧ ∀ l, H l = none → Q (.ref l) (upd H l (.tup ys))) ∨ (SqT K H p ys ∧ Q (.ref p) H))
theorem ixL (K : PySem.W.Frag) (h : X.K = K := by rfl) : IxR X (rIxL K) := by
  subst h
  exact ix_list
theorem ixT (K : PySem.W.Frag) (h : X.K = K := by rfl) : IxR X (rIxT K) := by
  subst h
  exact ix_tup
theorem c_isi (K : PySem.W.Frag) (h : X.K = K := by rfl) : CallR X (.builtin "isinstance") (rIsi K) := by
  subst h
  exact call_isi
theorem c_len (K : PySem.W.Frag) (h : X.K = K := by rfl) : CallR X (.builtin "len") (rLenQ K) := by
  subst h
  exact call_len_seq
theorem c_list (K : PySem.W.Frag) (h : X.K = K := by rfl) : CallR X (.type "list") (rListQ K) := by
  subst h
  exact call_list_of
theorem c_tuple (K : PySem.W.Frag) (h : X.K = K := by rfl) : CallR X (.type "tuple") (rTupQ K) := by
  subst h
  exact call_tuple_of
theorem c_sum (K : PySem.W.Frag) (hc : X.calm = true := by rfl) (h : X.K = K := by rfl) : CallR X (.builtin "sum") (rSum K) := by
  subst h
  exact cr_sum hc
theorem c_sumT (K : PySem.W.Frag) (hc : X.calm = true := by rfl) (h : X.K = K := by rfl) : CallR X (.builtin "sum") (rSumT K) := by
  subst h
  exact call_sumT hc
theorem c_all (K : PySem.W.Frag) (hc : X.calm = true := by rfl) (h : X.K = K := by rfl) : CallR X (.builtin "all") (rAll K) := by
  subst h
  exact cr_all hc
theorem c_any (K : PySem.W.Frag) (hc : X.calm = true := by rfl) (h : X.K = K := by rfl) : CallR X (.builtin "any") (rAny K) := by
  subst h
  exact cr_any hc
theorem slL (K : PySem.W.Frag) (h : X.K = K := by rfl) : SlR X (rSlL K) := by
  subst h
  exact sl_list
theorem slA (K : PySem.W.Frag) (h : X.K = K := by rfl) : SlR X (rSlA K) := by
  subst h
  exact sl_tupA
theorem o_eqV (K : PySem.W.Frag) (hu : X.A.units + 64 < cLine) (h : X.K = K := by rfl) : OpR X (compareOp .Eq) (rEqV K false) := by
  subst h
  exact op_eqV hu
theorem o_neV (K : PySem.W.Frag) (hu : X.A.units + 64 < cLine) (h : X.K = K := by rfl) : OpR X (compareOp .NotEq) (rEqV K true) := by
  subst h
  exact op_neV hu
theorem o_inSeq (K : PySem.W.Frag) (h : X.K = K := by rfl) : OpR X (compareOp .In) (rIn K false) := by
  subst h
  exact op_in_seq
theorem o_notInSeq (K : PySem.W.Frag) (h : X.K = K := by rfl) : OpR X (compareOp .NotIn) (rIn K true) := by
  subst h
  exact op_notIn_seq
theorem o_catA (K : PySem.W.Frag) (h : X.K = K := by rfl) : OpR X (binaryOp .Add) (rCatA K) := by
  subst h
  exact op_catA
variable {e tg : Expr} {te : TE}
theorem p_list (K : PySem.W.Frag) (he : PE X e te) (h : X.K = K := by rfl) : PI X tg e (iList K te) := by
  subst h
  exact pi_list he
theorem p_tup (K : PySem.W.Frag) (he : PE X e te) (h : X.K = K := by rfl) : PI X tg e (iTup K te) := by
  subst h
  exact pi_tup he
theorem e_fld (K : PySem.W.Frag) {f : Str} {pos : Pos} (he : PE X e te) (hb : attributeBase e f X.env (eval e X.env) = eval e X.env) (h : X.K = K := by rfl) : PE X (.Attribute e f pos) (tFld K te f) := by
  subst h
  exact pe_fld he hb
theorem g_tup (K : PySem.W.Frag) {es : List Expr} {k : Nat} {pos : Pos} {t : TGs} {n : Nat} (hc : X.calm = true) (h : PGs X es t)
    (hn : (assignEach es X.env).length = n := by rfl) (hst : (assignEach es X.env).findIdx? (·.1) = none := by rfl) (hK : X.K = K := by rfl) : PG X (.Tuple es k pos) (gTup K n t) := by
  subst hK
  exact pg_tup hc h hn hst
end
end ST

set_option maxRecDepth 100000
set_option maxHeartbeats 2000000
namespace ST
open PySem PySem.Spec PyProof.Rows L2
open PySem.W (Datum Tup)
/-! ### the source of draws: a list of a number, the cells, a number -/
def Drw (H : Hp) (h c : Addr) : Prop := h ≠ c ∧ (∃ s i : Int, H h = some (.lst [.int s, .ref c, .int i])) ∧ ∃ cs : List Int, H c = some (.lst (cs.map V.int)) ∧ cs.length ≤ 63
/-- all but the source is as it was -/
def Keep (h c : Addr) (H H' : Hp) : Prop := ∀ a o, a ≠ h → a ≠ c → H a = some o → H' a = some o
section
variable {K : PySem.W.Frag} {h c a : Addr} {H H1 H' : Hp}
theorem Keep.refl : Keep h c H H := fun _ _ _ _ e => e
theorem Keep.trans (p : Keep h c H H1) (q : Keep h c H1 H') : Keep h c H H' := fun a o n1 n2 e => q a o n1 n2 (p a o n1 n2 e)
theorem Same.keep (s : Same H H') : Keep h c H H' := fun a o _ _ e => s a o e
theorem Keep.upd (p : Keep h c H H') {x : Addr} {o : HO} (hx : H' x = none) : Keep h c H (upd H' x o) := p.trans (Same.keep (same_upd hx))
theorem Keep.mut (p : Keep h c H H') {x : Addr} {o : HO} (hx : H x = none) : Keep h c H (L2.upd H' x o) := fun a u n1 n2 e => by
  rw [upd_ne (ne_of_none e hx)]
  exact p a u n1 n2 e
theorem Drw.same (d : Drw H h c) (s : Same H H') : Drw H' h c := by
  obtain ⟨n, ⟨x, i, h1⟩, cs, h2, h3⟩ := d
  exact ⟨n, ⟨x, i, s _ _ h1⟩, cs, s _ _ h2, h3⟩
theorem Drw.ne (d : Drw H h c) {o : HO} (e : H a = some o) (n : ∀ xs, o ≠ .lst xs) : a ≠ h ∧ a ≠ c := by
  obtain ⟨_, ⟨x, i, h1⟩, cs, h2, _⟩ := d
  exact ⟨ne_of e h1 (n _), ne_of e h2 (n _)⟩
theorem Drw.new (d : Drw H h c) (e : H a = none) : a ≠ h ∧ a ≠ c := by
  obtain ⟨_, ⟨x, i, h1⟩, cs, h2, _⟩ := d
  exact ⟨(ne_of_none h1 e).symm, (ne_of_none h2 e).symm⟩
theorem Drw.upd (d : Drw H h c) {o : HO} (e : H a = none) : Drw (L2.upd H a o) h c := d.same (same_upd e)
/-- a change at an address that is not the source's -/
theorem Drw.mut (d : Drw H h c) {o : HO} (n1 : a ≠ h) (n2 : a ≠ c) : Drw (L2.upd H a o) h c := by
  obtain ⟨n, ⟨x, i, h1⟩, cs, h2, h3⟩ := d
  exact ⟨n, ⟨x, i, by rw [upd_ne n1.symm]; exact h1⟩, cs, by rw [upd_ne n2.symm]; exact h2, h3⟩
/-- new behind is new ahead, away from the source -/
theorem Keep.free (p : Keep h c H H') (n1 : a ≠ h) (n2 : a ≠ c) (e : H' a = none) : H a = none := by
  cases q : H a with
  | none => rfl
  | some o =>
    rw [p a o n1 n2 q] at e
    cases e
theorem Keep.free' (d : Drw H' h c) (p : Keep h c H H') (e : H' a = none) : H a = none := p.free (d.new e).1 (d.new e).2 e
theorem SqT.keep {xs : List V} (d : Drw H h c) (p : Keep h c H H') (t : SqT K H a xs) : SqT K H' a xs := by
  rcases t with (t | ⟨o, t⟩) | t
  · obtain ⟨n1, n2⟩ := d.ne t (fun _ z => by cases z)
    exact .inl (.inl (p _ _ n1 n2 t))
  · obtain ⟨n1, n2⟩ := d.ne t (fun _ z => by cases z)
    exact .inl (.inr ⟨o, p _ _ n1 n2 t⟩)
  · exact .inr t
theorem FactsAt.keep {fs : List Fc} (d : Drw H h c) (p : Keep h c H H') (t : FactsAt K H a fs) : FactsAt K H' a fs := by
  obtain ⟨as, h1, h2⟩ := t
  exact ⟨as, SqT.keep d p h1, h2.mono fun _ _ q => SqT.keep d p q⟩
theorem Keep.ins (d : Drw H h c) (p : Keep h c H H') {C dx : Addr} {fs : List (Str × V)} (e : H a = some (.ins C dx fs)) : H' a = some (.ins C dx fs) := by
  obtain ⟨n1, n2⟩ := d.ne e (fun _ z => by cases z)
  exact p _ _ n1 n2 e
end
theorem cdiv_of {i j : Int} (h : 0 < j) (hb : j ≤ 10 ^ 40) : CDivW i j := by
  refine wide_div (b := 200) h ?_ (by decide) (by decide)
  have e : (10 : Int) ^ 40 < 2 ^ 200 := by decide
  omega
/-- sums of parts of a row -/
theorem cut_sum_le {m : Int} (hm : 0 ≤ m) : ∀ (l : List Int), (∀ n, n ∈ l → 0 ≤ n ∧ n ≤ m) → 0 ≤ l.sum ∧ l.sum ≤ l.length * m
  | [], _ => by simp
  | n :: l, h => by
    obtain ⟨a, b⟩ := cut_sum_le hm l fun x hx => h x (List.mem_cons_of_mem _ hx)
    obtain ⟨c, d⟩ := h n List.mem_cons_self
    rw [List.sum_cons, List.length_cons]
    have e : ((l.length + 1 : Nat) : Int) * m = l.length * m + m := by
      rw [Int.natCast_add, Int.add_mul]
      simp
    rw [e]
    omega
theorem cut_mem {α : Type} {ns : List α} {b e : Int} {n : α} (h : n ∈ cut ns b e) : n ∈ ns := by
  unfold cut at h
  exact List.mem_of_mem_drop (List.mem_of_mem_take h)
theorem cut_len {α : Type} {ns : List α} {b e : Int} : (cut ns b e).length ≤ ns.length := by
  unfold cut
  rw [List.length_take, List.length_drop]
  omega
end ST

set_option maxRecDepth 100000
namespace ST
open PySem L2
def top (i : Nat) : Stmt := PySem.Challenge.pw_stretchtold_k01_whole_rows_judged.main.body.getD i (.Pass ⟨0, 0, 0, 0⟩)
abbrev s_is_integer : Stmt := top 1
abbrev N_is_integer : List Str := ["value"]
theorem sc_is_integer : FnScope N_is_integer ["value"] (defScope s_is_integer) := ⟨rfl, rfl, rfl, by decide +kernel, rfl, by decide +kernel, by decide +kernel⟩
abbrev s_is_between : Stmt := top 2
abbrev N_is_between : List Str := ["value", "low", "high"]
theorem sc_is_between : FnScope N_is_between ["value", "low", "high"] (defScope s_is_between) := ⟨rfl, rfl, rfl, by decide +kernel, rfl, by decide +kernel, by decide +kernel⟩
abbrev s_BadFacts_init : Stmt := inClass (top 7) 0
abbrev N_BadFacts_init : List Str := ["self", "index"]
theorem sc_BadFacts_init : FnScope N_BadFacts_init ["self", "index"] (defScope s_BadFacts_init) := ⟨rfl, rfl, rfl, by decide +kernel, rfl, by decide +kernel, by decide +kernel⟩
abbrev s_Book_init : Stmt := inClass (top 15) 0
abbrev N_Book_init : List Str := ["self", "cells", "most", "facts"]
theorem sc_Book_init : FnScope N_Book_init ["self", "cells", "most", "facts"] (defScope s_Book_init) := ⟨rfl, rfl, rfl, by decide +kernel, rfl, by decide +kernel, by decide +kernel⟩
abbrev s_Book_cells : Stmt := inClass (top 15) 1
abbrev N_Book_cells : List Str := ["self"]
theorem sc_Book_cells : FnScope N_Book_cells ["self"] (defScope s_Book_cells) := ⟨rfl, rfl, rfl, by decide +kernel, rfl, by decide +kernel, by decide +kernel⟩
abbrev s_Book_most : Stmt := inClass (top 15) 2
abbrev N_Book_most : List Str := ["self"]
theorem sc_Book_most : FnScope N_Book_most ["self"] (defScope s_Book_most) := ⟨rfl, rfl, rfl, by decide +kernel, rfl, by decide +kernel, by decide +kernel⟩
abbrev s_Book_facts : Stmt := inClass (top 15) 3
abbrev N_Book_facts : List Str := ["self"]
theorem sc_Book_facts : FnScope N_Book_facts ["self"] (defScope s_Book_facts) := ⟨rfl, rfl, rfl, by decide +kernel, rfl, by decide +kernel, by decide +kernel⟩
abbrev s_Book_len : Stmt := inClass (top 15) 4
abbrev N_Book_len : List Str := ["self"]
theorem sc_Book_len : FnScope N_Book_len ["self"] (defScope s_Book_len) := ⟨rfl, rfl, rfl, by decide +kernel, rfl, by decide +kernel, by decide +kernel⟩
abbrev s_Book_eq : Stmt := inClass (top 15) 5
abbrev N_Book_eq : List Str := ["self", "other"]
theorem sc_Book_eq : FnScope N_Book_eq ["self", "other"] (defScope s_Book_eq) := ⟨rfl, rfl, rfl, by decide +kernel, rfl, by decide +kernel, by decide +kernel⟩
abbrev s_is_stretch : Stmt := top 16
abbrev N_is_stretch : List Str := ["begin", "end", "cells"]
theorem sc_is_stretch : FnScope N_is_stretch ["begin", "end", "cells"] (defScope s_is_stretch) := ⟨rfl, rfl, rfl, by decide +kernel, rfl, by decide +kernel, by decide +kernel⟩
abbrev s_is_fact : Stmt := top 17
abbrev N_is_fact : List Str := ["value", "cells", "begin", "end", "low", "high"]
theorem sc_is_fact : FnScope N_is_fact ["value", "cells"] (defScope s_is_fact) := ⟨rfl, rfl, rfl, by decide +kernel, rfl, by decide +kernel, by decide +kernel⟩
abbrev s_is_row : Stmt := top 18
abbrev N_is_row : List Str := ["value", "book", "number"]
theorem sc_is_row : FnScope N_is_row ["value", "book"] (defScope s_is_row) := ⟨rfl, rfl, rfl, by decide +kernel, rfl, by decide +kernel, by decide +kernel⟩
abbrev s_check_facts : Stmt := top 19
abbrev N_check_facts : List Str := ["facts", "cells", "index", "value"]
theorem sc_check_facts : FnScope N_check_facts ["facts", "cells"] (defScope s_check_facts) := ⟨rfl, rfl, rfl, by decide +kernel, rfl, by decide +kernel, by decide +kernel⟩
abbrev s_check_book : Stmt := top 20
abbrev N_check_book : List Str := ["book"]
theorem sc_check_book : FnScope N_check_book ["book"] (defScope s_check_book) := ⟨rfl, rfl, rfl, by decide +kernel, rfl, by decide +kernel, by decide +kernel⟩
abbrev s_check_row : Stmt := top 21
abbrev N_check_row : List Str := ["book", "row"]
theorem sc_check_row : FnScope N_check_row ["book", "row"] (defScope s_check_row) := ⟨rfl, rfl, rfl, by decide +kernel, rfl, by decide +kernel, by decide +kernel⟩
abbrev s_holds : Stmt := top 22
abbrev N_holds : List Str := ["fact", "row", "begin", "end", "low", "high"]
theorem sc_holds : FnScope N_holds ["fact", "row"] (defScope s_holds) := ⟨rfl, rfl, rfl, by decide +kernel, rfl, by decide +kernel, by decide +kernel⟩
abbrev s_broken : Stmt := top 23
abbrev N_broken : List Str := ["book", "row", "index", "fact"]
theorem sc_broken : FnScope N_broken ["book", "row"] (defScope s_broken) := ⟨rfl, rfl, rfl, by decide +kernel, rfl, by decide +kernel, by decide +kernel⟩
abbrev s_law_mix : Stmt := top 25
abbrev N_law_mix : List Str := ["_law_script", "_law_seed", "_law_state", "_law_cell"]
theorem sc_law_mix : FnScope N_law_mix ["_law_script", "_law_seed"] (defScope s_law_mix) := ⟨rfl, rfl, rfl, by decide +kernel, rfl, by decide +kernel, by decide +kernel⟩
abbrev s_law_next : Stmt := top 26
abbrev N_law_next : List Str := ["_law_h", "_law_bound", "_law_cell", "_law_cells"]
theorem sc_law_next : FnScope N_law_next ["_law_h", "_law_bound"] (defScope s_law_next) := ⟨rfl, rfl, rfl, by decide +kernel, rfl, by decide +kernel, by decide +kernel⟩
abbrev s_law_stretch : Stmt := top 27
abbrev N_law_stretch : List Str := ["_law_h", "_law_cells", "_law_begin"]
theorem sc_law_stretch : FnScope N_law_stretch ["_law_h", "_law_cells"] (defScope s_law_stretch) := ⟨rfl, rfl, rfl, by decide +kernel, rfl, by decide +kernel, by decide +kernel⟩
abbrev s_law_fact : Stmt := top 28
abbrev N_law_fact : List Str := ["_law_h", "_law_row", "_law_loose", "_law_begin", "_law_end", "_law_own", "_law_low", "_law_high"]
theorem sc_law_fact : FnScope N_law_fact ["_law_h", "_law_row", "_law_loose"] (defScope s_law_fact) := ⟨rfl, rfl, rfl, by decide +kernel, rfl, by decide +kernel, by decide +kernel⟩
abbrev s_law_book : Stmt := top 29
abbrev N_law_book : List Str := ["_law_h", "_law_cells", "_law_most", "_law_many", "_law_row", "_law_loose", "_law_facts", "_law_k"]
theorem sc_law_book : FnScope N_law_book ["_law_h", "_law_cells", "_law_most", "_law_many"] (defScope s_law_book) := ⟨rfl, rfl, rfl, by decide +kernel, rfl, by decide +kernel, by decide +kernel⟩
abbrev s_law_holds : Stmt := top 30
abbrev N_law_holds : List Str := ["_law_row", "_law_fact_here"]
theorem sc_law_holds : FnScope N_law_holds ["_law_row", "_law_fact_here"] (defScope s_law_holds) := ⟨rfl, rfl, rfl, by decide +kernel, rfl, by decide +kernel, by decide +kernel⟩
abbrev s_law_all : Stmt := top 31
abbrev N_law_all : List Str := ["_law_cells", "_law_most", "_law_found", "_law_k", "_law_longer", "_law_row", "_law_x"]
theorem sc_law_all : FnScope N_law_all ["_law_cells", "_law_most"] (defScope s_law_all) := ⟨rfl, rfl, rfl, by decide +kernel, rfl, by decide +kernel, by decide +kernel⟩
abbrev s_law_fitting : Stmt := top 32
abbrev N_law_fitting : List Str := ["_law_b", "_law_row", "_law_fact_here"]
theorem sc_law_fitting : FnScope N_law_fitting ["_law_b"] (defScope s_law_fitting) := ⟨rfl, rfl, rfl, by decide +kernel, rfl, by decide +kernel, by decide +kernel⟩
abbrev s_law : Stmt := top 33
abbrev N_law : List Str := ["_law_script", "_law_h", "_law_b", "_law_told", "_law_row", "_law_own", "_law_k"]
theorem sc_law : FnScope N_law ["_law_script"] (defScope s_law) := ⟨rfl, rfl, rfl, by decide +kernel, rfl, by decide +kernel, by decide +kernel⟩
end ST

set_option maxRecDepth 100000
set_option maxHeartbeats 4000000
namespace ST
open PySem PySem.Spec PyProof.Rows L2
open PySem.W (Datum Tup)
/-- the module's numbers -/
structure Cst (mg : Str → Option Value) : Prop where
  MOST_CELLS : ∃ t, mg "MOST_CELLS" = some (.int 20 t)
  GREATEST_MOST : ∃ t, mg "GREATEST_MOST" = some (.int 1000000000000000000000000000000 t)
  MOST_FACTS : ∃ t, mg "MOST_FACTS" = some (.int 12 t)
  GREATEST_TOLD : ∃ t, mg "GREATEST_TOLD" = some (.int 100000000000000000000000000000000 t)
/-- the class Book at C -/
structure BookT (K : PySem.W.Frag) (mg : Str → Option Value) (C : Addr) : Prop where
  cls : Cls K C
  nC : NoAttr K C "_cells"
  nM : NoAttr K C "_most"
  nF : NoAttr K C "_facts"
  mgC : mg "Book" = some (.ref C)
  init : ∃ f fd, Mk K C f ∧ Fun K "__init__" "Book.__init__" s_Book_init f fd ∧ Binds K fd ["self", "cells", "most", "facts"] []
  pC : ∃ p g fd, PropOf K C "cells" p g ∧ Fun K "cells" "Book.cells" s_Book_cells g fd ∧ Binds K fd ["self"] []
  pM : ∃ p g fd, PropOf K C "most" p g ∧ Fun K "most" "Book.most" s_Book_most g fd ∧ Binds K fd ["self"] []
  pF : ∃ p g fd, PropOf K C "facts" p g ∧ Fun K "facts" "Book.facts" s_Book_facts g fd ∧ Binds K fd ["self"] []
  len : ∃ g fd, PySem.W.findIn K (.ref C) "__len__" = some (some (.ref g)) ∧ PySem.W.isFn K (.ref g) = true ∧ Fun K "__len__" "Book.__len__" s_Book_len g fd ∧ Binds K fd ["self"] []
  eq : ∃ g fd, PySem.W.findIn K (.ref C) "__eq__" = some (some (.ref g)) ∧ PySem.W.isFn K (.ref g) = true ∧ Fun K "__eq__" "Book.__eq__" s_Book_eq g fd ∧ Binds K fd ["self", "other"] []
  ca : PySem.W.findIn K (.ref C) "__class__" = some (some (.builtin "object.__class__"))
  cn : PySem.W.specialIn K (.builtin "object.__class__") "__get__" = some (some (.builtin "getset_descriptor.__get__"))
  ct : PySem.W.takesIn K (.builtin "object.__class__") = some true
  cm : PySem.W.mroIn K C (.type "object") = some true
  kit1 : PySem.W.kitOne K (.ref C) (.ref C) = some true
  kit2 : PySem.W.kitOne K (.type "tuple") (.ref C) = some false
  nf1 : PySem.W.notFirst K C (.ref C) = true
  nf2 : PySem.W.notFirst K C (.type "tuple") = true
theorem BookT.ty {K : PySem.W.Frag} {mg : Str → Option Value} {C : Addr} (T : BookT K mg C) {H : Hp} {p dx : Addr} {fs : List (Str × V)} (h : H p = some (.ins C dx fs)) : TyOf K H (.ref p) (.ref C) :=
  .ins h T.cls T.ca T.cn T.ct T.cm

section
variable {P : Program} {w : World} {K : PySem.W.Frag} {mg : Str → Option Value} {base : Heap} {C : Addr}

/-! checks -/
def spIsInt : Sp := fun vs H Q _ => ∃ n : Int, vs = [.int n] ∧ Q (.bl true) H
theorem ok_is_integer (B : Blt mg) (a : At K mg "is_integer" s_is_integer ["value"]) : Has P w K mg base "is_integer" 1 ["value"] spIsInt := by
  refine a.has fun f fd F => F.ok sc_is_integer (fun vs H Q E h => ?_) (fun cdv A outer s H vs Q E hr h => ?_)
  · obtain ⟨n, rfl, _⟩ := h
    rfl
  · obtain ⟨n, rfl, q⟩ := h
    refine ⟨_, (pss_one (ps_ret (pe_and (pe_callB (c_isi K) (by rfl) B.b_isinstance boot_isinstance (pa_cons (pv 0) (pa_cons (pe_bltn (v := .ty "int") (by rfl) B.b_int boot_int rfl) pa_nil))) (pe_one (pe_not (pe_callB (c_isi K) (by rfl) B.b_isinstance boot_isinstance (pa_cons (pv 0) (pa_cons (pe_bltn (v := .ty "bool") (by rfl) B.b_bool boot_bool rfl) pa_nil)))))))), ?_⟩
    refine ⟨_, rfl, _, _, _, _, true, rfl, .ty _, .base (.int n), kit_ty (by decide +kernel), true, rfl, iteT ?_⟩
    exact ⟨_, rfl, _, _, _, _, false, rfl, .ty _, .base (.int n), kit_ty (by decide +kernel), false, rfl, q⟩
def spBetween : Sp := fun vs H Q _ => ∃ v lo hi : Int, vs = [.int v, .int lo, .int hi] ∧ Q (.bl (decide (lo ≤ v ∧ v ≤ hi))) H
theorem ok_is_between (D_is_integer : Has P w K mg base "is_integer" 1 ["value"] spIsInt) (a : At K mg "is_between" s_is_between ["value", "low", "high"]) : Has P w K mg base "is_between" 2 ["value", "low", "high"] spBetween := by
  refine a.has fun f fd F => F.ok sc_is_between (fun vs H Q E h => ?_) (fun cdv A outer s H vs Q E hr h => ?_)
  · obtain ⟨v, lo, hi, rfl, _⟩ := h
    rfl
  · obtain ⟨v, lo, hi, rfl, q⟩ := h
    refine ⟨_, (pss_one (ps_ret (pe_and (pe_f D_is_integer (hr.mono (by decide)) (by rfl) (pa_cons (pv 0) pa_nil)) (pe_one (pe_chain op_le op_le (pv 1) (pv 0) (pv 2)))))), ?_⟩
    refine ⟨_, rfl, v, rfl, true, rfl, iteT ?_⟩
    refine ⟨_, rfl, _, rfl, _, _, rfl, rfl, decide (lo ≤ v), rfl, ?_⟩
    by_cases c : lo ≤ v
    · rw [decide_eq_true c]
      refine iteT ⟨_, rfl, _, _, rfl, rfl, ?_⟩
      have e : decide (lo ≤ v ∧ v ≤ hi) = decide (v ≤ hi) := by simp [c]
      rw [e] at q
      exact q
    · rw [decide_eq_false c]
      refine iteF ?_
      have e : decide (lo ≤ v ∧ v ≤ hi) = false := by simp [c]
      rw [e] at q
      exact q
def spIsStretch : Sp := fun vs H Q _ => ∃ b e c : Int, vs = [.int b, .int e, .int c] ∧ Q (.bl (decide (0 ≤ b ∧ b ≤ c ∧ b + 1 ≤ e ∧ e ≤ c))) H
theorem ok_is_stretch (D_is_between : Has P w K mg base "is_between" 2 ["value", "low", "high"] spBetween) (a : At K mg "is_stretch" s_is_stretch ["begin", "end", "cells"]) :
    Has P w K mg base "is_stretch" 3 ["begin", "end", "cells"] spIsStretch := by
  refine a.has fun f fd F => F.ok sc_is_stretch (fun vs H Q E h => ?_) (fun cdv A outer s H vs Q E hr h => ?_)
  · obtain ⟨b, e, c, rfl, _⟩ := h
    rfl
  · obtain ⟨b, e, c, rfl, q⟩ := h
    refine ⟨_, (pss_one (ps_ret (pe_and (pe_f D_is_between (hr.mono (by decide)) (by rfl) (pa_cons (pv 0) (pa_cons pe_int (pa_cons (pv 2) pa_nil)))) (pe_one (pe_f D_is_between (hr.mono (by decide)) (by rfl) (pa_cons (pv 1) (pa_cons (pe_op op_add (pv 0) pe_int) (pa_cons (pv 2) pa_nil)))))))), ?_⟩
    refine ⟨_, rfl, _, rfl, _, _, _, rfl, _, rfl, ?_⟩
    by_cases h1 : 0 ≤ b ∧ b ≤ c
    · rw [decide_eq_true h1]
      refine iteT ⟨_, rfl, _, rfl, _, _, rfl, rfl, _, rfl, _, _, _, rfl, ?_⟩
      have e : decide (0 ≤ b ∧ b ≤ c ∧ b + 1 ≤ e ∧ e ≤ c) = decide (b + 1 ≤ e ∧ e ≤ c) := by simp [h1.1, h1.2]
      rw [e] at q
      exact q
    · rw [decide_eq_false h1]
      refine iteF ?_
      have e : decide (0 ≤ b ∧ b ≤ c ∧ b + 1 ≤ e ∧ e ≤ c) = false := by
        rw [decide_eq_false]
        exact fun z => h1 ⟨z.1, z.2.1⟩
      rw [e] at q
      exact q
instance (c : Int) (f : Fc) : Decidable (Fc.ok c f) := by
  unfold Fc.ok
  exact inferInstance
def spIsFact (K : PySem.W.Frag) : Sp := fun vs H Q _ => ∃ (p : Addr) (f : Fc) (c : Int), vs = [.ref p, .int c] ∧ SqT K H p f.vs ∧ Fc.ok c f ∧ Q (.bl true) H
theorem ok_is_fact (B : Blt mg) (Z : Cst mg) (D_is_between : Has P w K mg base "is_between" 2 ["value", "low", "high"] spBetween) (D_is_stretch : Has P w K mg base "is_stretch" 3 ["begin", "end", "cells"] spIsStretch)
    (a : At K mg "is_fact" s_is_fact ["value", "cells"]) : Has P w K mg base "is_fact" 4 ["value", "cells"] (spIsFact K) := by
  refine a.has fun f fd F => F.ok sc_is_fact (fun vs H Q E h => ?_) (fun cdv A outer s H vs Q E hr h => ?_)
  · obtain ⟨p, f, c, rfl, _⟩ := h
    rfl
  · obtain ⟨p, f, c, rfl, hp, ⟨k1, k2, k3, k4, k5, k6⟩, q⟩ := h
    have nd := sc_is_fact.nd
    refine ⟨_, (pss_cons (ps_if (PW.pt (pw_or (pt_not (pt_val (pe_callB (c_isi K) (by rfl) B.b_isinstance boot_isinstance (pa_cons (pv 0) (pa_cons (pe_bltn (v := .ty "tuple") (by rfl) B.b_tuple boot_tuple rfl) pa_nil))))) (pw_or1 (pt_cmpR op_ne (pe_callB (c_len K) (by rfl) B.b_len boot_len (pa_cons (pv 0) pa_nil)) pe_int (nomark _))))) (pss_one (ps_ret pe_bl)) pss_nil) (pss_cons (ps_asg (pv 0) (g_tup K (n := 4) rfl (pgs_cons (pg_name (i := 2) nd rfl (by first | exact .inl rfl | exact .inr rfl)) (pgs_cons (pg_name (i := 3) nd rfl (by first | exact .inl rfl | exact .inr rfl)) (pgs_cons (pg_name (i := 4) nd rfl (by first | exact .inl rfl | exact .inr rfl)) (pgs_cons (pg_name (i := 5) nd rfl (by first | exact .inl rfl | exact .inr rfl)) pgs_nil)))))) (pss_one (ps_ret (pe_and (pe_f D_is_stretch (hr.mono (by decide)) (by rfl) (pa_cons (pv 2) (pa_cons (pv 3) (pa_cons (pv 1) pa_nil)))) (pe_and (pe_f D_is_between (hr.mono (by decide)) (by rfl) (pa_cons (pv 4) (pa_cons pe_int (pa_cons (pe_cst Z.GREATEST_TOLD (by rfl)) pa_nil)))) (pe_one (pe_f D_is_between (hr.mono (by decide)) (by rfl) (pa_cons (pv 5) (pa_cons (pv 4) (pa_cons (pe_cst Z.GREATEST_TOLD (by rfl)) pa_nil))))))))))), ?_⟩
    refine ⟨_, rfl, _, _, _, _, true, rfl, .ty _, tyx_tup hp, kit_ty (by decide +kernel), true, rfl, iteF ?_⟩
    refine ⟨_, rfl, p, _, rfl, .inr hp, rfl, _, rfl, iteNS rfl ?_⟩
    refine ⟨_, rfl, p, _, rfl, hp, rfl, _, _, rfl, _, _, rfl, _, _, rfl, _, _, rfl, rfl, ?_⟩
    refine ⟨_, rfl, _, rfl, _, rfl, _, _, _, rfl, _, rfl, ?_⟩
    rw [decide_eq_true (show 0 ≤ f.b ∧ f.b ≤ c ∧ f.b + 1 ≤ f.e ∧ f.e ≤ c by omega)]
    refine iteT ⟨_, rfl, _, _, _, rfl, _, rfl, ?_⟩
    rw [decide_eq_true (show 0 ≤ f.lo ∧ f.lo ≤ 100000000000000000000000000000000 by omega)]
    refine iteT ⟨_, rfl, _, rfl, _, _, _, rfl, ?_⟩
    rw [decide_eq_true (show f.lo ≤ f.hi ∧ f.hi ≤ 100000000000000000000000000000000 by omega)]
    exact q
def spCheckFacts (K : PySem.W.Frag) : Sp := fun vs H Q _ => ∃ (a : Addr) (fs : List Fc) (c : Int), vs = [.ref a, .int c] ∧ FactsAt K H a fs ∧ fs.length ≤ 12 ∧ (∀ f, f ∈ fs → Fc.ok c f) ∧ ∀ H', Same H H' → Q .non H'
theorem ok_check_facts (B : Blt mg) (Z : Cst mg) (D_is_fact : Has P w K mg base "is_fact" 4 ["value", "cells"] (spIsFact K))
    (a : At K mg "check_facts" s_check_facts ["facts", "cells"]) : Has P w K mg base "check_facts" 5 ["facts", "cells"] (spCheckFacts K) := by
  refine a.has fun f fd F => F.ok sc_check_facts (fun vs H Q E h => ?_) (fun cdv A outer s H vs Q E hr h => ?_)
  · obtain ⟨p, f, c, rfl, _⟩ := h
    rfl
  · obtain ⟨p, fs, c, rfl, ⟨as, hp, hpp⟩, hl, hok, q⟩ := h
    have nd := sc_check_facts.nd
    have hlen : as.length = fs.length := hpp.length
    refine ⟨_, (pss_cons (ps_if (PW.pt (pw_or (pt_not (pt_val (pe_callB (c_isi K) (by rfl) B.b_isinstance boot_isinstance (pa_cons (pv 0) (pa_cons (pe_bltn (v := .ty "tuple") (by rfl) B.b_tuple boot_tuple rfl) pa_nil))))) (pw_or1 (pt_cmpR op_gt (pe_callB (c_len K) (by rfl) B.b_len boot_len (pa_cons (pv 0) pa_nil)) (pe_cst Z.MOST_FACTS (by rfl)) (nomark _))))) (pss_one ps_never) pss_nil) (pss_one (ps_for PassesOwn.never rfl (pi_enumT (by rfl) B.b_enumerate (pa_cons (pv 0) pa_nil)) (g_tup K (n := 2) rfl (pgs_cons (pg_name (i := 2) nd rfl (by first | exact .inl rfl | exact .inr rfl)) (pgs_cons (pg_name (i := 3) nd rfl (by first | exact .inl rfl | exact .inr rfl)) pgs_nil))) (pss_one (ps_if (pt_not (pt_val (pe_f D_is_fact (hr.mono (by decide)) (by rfl) (pa_cons (pv 3) (pa_cons (pv 1) pa_nil))))) (pss_one ps_never) pss_nil))))), ?_⟩
    refine ⟨_, rfl, _, _, _, _, true, rfl, .ty _, tyx_tup hp, kit_ty (by decide +kernel), true, rfl, iteF ?_⟩
    refine ⟨_, rfl, p, _, rfl, .inr hp, _, _, rfl, rfl, _, rfl, ?_⟩
    have e1 : decide ((12 : Int) < (((as.map V.ref).length : Nat) : Int)) = false := by
      rw [List.length_map]
      exact decide_eq_false (by omega)
    rw [e1]
    refine iteF ?_
    refine ⟨_, rfl, p, _, rfl, hp, for_it walk_enumT (fun _ σ H' => ∃ u v, σ = [some (.ref p), some (.int c), u, v] ∧ Same H H') ⟨_, _, rfl, Same.refl _⟩ (fun i σ H' _ ⟨_, _, _, s1⟩ => SqT.same s1 hp) ?_ ?_⟩
    · rintro i x σ H1 H2 hi ⟨u, v, rfl, s1⟩ ⟨T, y, z, rfl, hT, rfl, hy, hz⟩
      cases hy
      obtain ⟨pf, f, rfl, ha, hf, hq⟩ := facts_get hpp hz
      have s2 : Same H (upd H1 T (.tup [.int (i : Nat), .ref pf])) := s1.trans (same_upd hT)
      refine ⟨T, _, rfl, SqT.of upd_same, rfl, _, _, rfl, _, _, rfl, rfl, ?_⟩
      refine ⟨_, rfl, _, rfl, pf, f, c, rfl, SqT.same s2 hq, hok f (List.mem_of_getElem? hf), true, rfl, iteF ?_⟩
      exact ⟨_, _, rfl, s2⟩
    · rintro σ H' ⟨u, v, rfl, s1⟩
      exact q H' s1

/-! Book -/
def spInit (K : PySem.W.Frag) (C : Addr) : Sp := fun vs H Q _ => ∃ (p dx fa : Addr) (c m : Int) (fs : List Fc), vs = [.ref p, .int c, .int m, .ref fa] ∧ H p = some (.ins C dx []) ∧ (1 ≤ c ∧ c ≤ 20) ∧ (0 ≤ m ∧ m ≤ 10 ^ 30) ∧ FactsAt K H fa fs ∧ fs.length ≤ 12 ∧
  (∀ f, f ∈ fs → Fc.ok c f) ∧ ∀ H', (∀ b o, b ≠ p → H b = some o → H' b = some o) → H' p = some (.ins C dx (bf c m fa)) → Q .non H'
theorem ok_init (Z : Cst mg) (T : BookT K mg C) (D_is_between : Has P w K mg base "is_between" 2 ["value", "low", "high"] spBetween) (D_check_facts : Has P w K mg base "check_facts" 5 ["facts", "cells"] (spCheckFacts K)) :
    Maker P w K mg base C "Book" 6 ["self", "cells", "most", "facts"] (spInit K C) := by
  obtain ⟨f, fd, M, F, b⟩ := T.init
  refine ⟨f, fd, T.mgC, M, b, F.ok sc_Book_init (fun vs H Q E h => ?_) (fun cdv A outer s H vs Q E hr h => ?_)⟩
  · obtain ⟨p, dx, fa, c, m, fs, rfl, _⟩ := h
    rfl
  · obtain ⟨p, dx, fa, c, m, fs, rfl, hp, ⟨c1, c2⟩, ⟨m1, m2⟩, hf, hl, hok, q⟩ := h
    refine ⟨_, (pss_cons (ps_if (pt_not (pt_val (pe_f D_is_between (hr.mono (by decide)) (by rfl) (pa_cons (pv 1) (pa_cons pe_int (pa_cons (pe_cst Z.MOST_CELLS (by rfl)) pa_nil)))))) (pss_one ps_never) pss_nil) (pss_cons (ps_if (pt_not (pt_val (pe_f D_is_between (hr.mono (by decide)) (by rfl) (pa_cons (pv 2) (pa_cons pe_int (pa_cons (pe_cst Z.GREATEST_MOST (by rfl)) pa_nil)))))) (pss_one ps_never) pss_nil) (pss_cons (ps_expr (pe_f D_check_facts (hr.mono (by decide)) (by rfl) (pa_cons (pv 3) (pa_cons (pv 1) pa_nil)))) (pss_cons (ps_fld (pv 0) (pv 1) rfl) (pss_cons (ps_fld (pv 0) (pv 2) rfl) (pss_one (ps_fld (pv 0) (pv 3) rfl))))))), ?_⟩
    refine ⟨_, rfl, _, _, _, rfl, true, by rw [decide_eq_true (show 1 ≤ c ∧ c ≤ 20 by omega)], iteF ?_⟩
    refine ⟨_, rfl, _, _, _, rfl, true, by rw [decide_eq_true (show 0 ≤ m ∧ m ≤ 1000000000000000000000000000000 by omega)], iteF ?_⟩
    refine ⟨_, rfl, _, rfl, fa, fs, c, rfl, hf, hl, hok, fun H1 s1 => ?_⟩
    have hp1 := s1 _ _ hp
    refine ⟨_, rfl, _, rfl, p, C, dx, _, rfl, hp1, T.cls, T.nC, (by show 0 < 1000; decide), ?_⟩
    refine ⟨_, rfl, _, rfl, p, C, dx, _, rfl, upd_same, T.cls, T.nM, (by show 1 < 1000; decide), ?_⟩
    refine ⟨_, rfl, _, rfl, p, C, dx, _, rfl, upd_same, T.cls, T.nF, ?_, ?_⟩
    · refine Nat.lt_of_le_of_lt (length_putF _ _ _) ?_
      show 1 + 1 < 1000
      decide
    · refine q _ (fun b o hb e => ?_) (by rw [upd_same, bf_put])
      rw [upd_ne hb, upd_ne hb, upd_ne hb]
      exact s1 b o e
theorem ok_getter {x y qual : Str} {p g : Addr} {fd : FuncData} {st : Stmt} {p1 p2 p3 : Pos} (T : BookT K mg C) (hp : PropOf K C x p g) (F : Fun K x qual st g fd) (b : Binds K fd ["self"] []) (S : FnScope ["self"] ["self"] (defScope st)) (n : NoAttr K C y)
    (hb : defBody st = [.Return (some (.Attribute (.Name "self" p1) y p2)) p3]) : Getter P w K mg base C x y := by
  refine ⟨p, g, fd, hp, F.ok S (fun vs H Q E h => ?_) (fun cdv A outer s H vs Q E hr h => ?_), b⟩
  · obtain ⟨a, dx, fs, v, rfl, _⟩ := h
    rfl
  · obtain ⟨a, dx, fs, v, rfl, ea, l, q⟩ := h
    rw [hb]
    refine ⟨_, pss_one (ps_ret (pe_fld (pe_var (i := 0) rfl ((S.par "self" (List.Mem.head _)).elim (fun z => .inl z) (fun z => .inr (.inl z)))) rfl)), ?_⟩
    exact ⟨.ref a, rfl, a, C, dx, fs, v, rfl, ea, T.cls, n, l, q⟩
theorem ok_cells (T : BookT K mg C) : Getter P w K mg base C "cells" "_cells" := by
  obtain ⟨p, g, fd, hp, F, b⟩ := T.pC
  exact ok_getter T hp F b sc_Book_cells T.nC rfl
theorem ok_most (T : BookT K mg C) : Getter P w K mg base C "most" "_most" := by
  obtain ⟨p, g, fd, hp, F, b⟩ := T.pM
  exact ok_getter T hp F b sc_Book_most T.nM rfl
theorem ok_facts (T : BookT K mg C) : Getter P w K mg base C "facts" "_facts" := by
  obtain ⟨p, g, fd, hp, F, b⟩ := T.pF
  exact ok_getter T hp F b sc_Book_facts T.nF rfl
def spLen (K : PySem.W.Frag) (C : Addr) : Sp := fun vs H Q _ => ∃ (p dx fa : Addr) (c m : Int) (xs : List V), vs = [.ref p] ∧ H p = some (.ins C dx (bf c m fa)) ∧ SqT K H fa xs ∧ Q (.int xs.length) H
theorem ok_len (B : Blt mg) (T : BookT K mg C) {g : Addr} {fd : FuncData} (F : Fun K "__len__" "Book.__len__" s_Book_len g fd) : FnOk P w K mg base CX0 1 g fd ["self"] (spLen K C) := by
  refine F.ok sc_Book_len (fun vs H Q E h => ?_) (fun cdv A outer s H vs Q E hr h => ?_)
  · obtain ⟨p, dx, fa, c, m, xs, rfl, _⟩ := h
    rfl
  · obtain ⟨p, dx, fa, c, m, xs, rfl, hp, hx, q⟩ := h
    refine ⟨_, (pss_one (ps_ret (pe_callB (c_len K) (by rfl) B.b_len boot_len (pa_cons (e_fld K (pv 0) rfl) pa_nil)))), ?_⟩
    exact ⟨_, rfl, p, C, dx, _, _, rfl, hp, T.cls, T.nF, bf_facts _ _ _, fa, xs, rfl, .inr hx, q⟩
def spEqB (K : PySem.W.Frag) (C : Addr) : Sp := fun vs H Q _ => ∃ (p dx fa : Addr) (c m : Int) (fs : List Fc) (y : V), vs = [.ref p, y] ∧ H p = some (.ins C dx (bf c m fa)) ∧ FactsAt K H fa fs ∧
  ((∃ q dy fb c' m' gs, y = .ref q ∧ H q = some (.ins C dy (bf c' m' fb)) ∧ FactsAt K H fb gs ∧ Q (.bl (decide (c = c' ∧ m = m' ∧ fs = gs))) H) ∨ (∃ a xs, y = .ref a ∧ SqT K H a xs ∧ Q (.bl false) H))
theorem ok_eq (B : Blt mg) (T : BookT K mg C) {g : Addr} {fd : FuncData} (F : Fun K "__eq__" "Book.__eq__" s_Book_eq g fd) : FnOk P w K mg base CX0 1 g fd ["self", "other"] (spEqB K C) := by
  refine F.ok sc_Book_eq (fun vs H Q E h => ?_) (fun cdv A outer s H vs Q E hr h => ?_)
  · obtain ⟨p, dx, fa, c, m, fs, y, rfl, _⟩ := h
    rfl
  · obtain ⟨p, dx, fa, c, m, fs, y, rfl, hp, hf, hy⟩ := h
    refine ⟨_, (pss_one (ps_ret (pe_and (pe_callB (c_isi K) (by rfl) B.b_isinstance boot_isinstance (pa_cons (pv 1) (pa_cons (pe_glob (v := .ref C) (by rfl) T.mgC rfl) pa_nil))) (pe_and (pe_cmpR op_eq (e_fld K (pv 0) rfl) (e_fld K (pv 1) rfl) (nomark _)) (pe_and (pe_cmpR op_eq (e_fld K (pv 0) rfl) (e_fld K (pv 1) rfl) (nomark _)) (pe_one (pe_cmpR (o_eqV K hr.units) (e_fld K (pv 0) rfl) (e_fld K (pv 1) rfl) (nomark _)))))))), ?_⟩
    rcases hy with ⟨q, dy, fb, c', m', gs, rfl, hq, hg, k⟩ | ⟨a, xs, rfl, ha, k⟩
    · refine ⟨_, rfl, _, _, _, _, true, rfl, .own C, .base (T.ty hq), T.kit1, true, rfl, iteT ?_⟩
      refine ⟨_, rfl, p, C, dx, _, _, rfl, hp, T.cls, T.nC, bf_cells _ _ _, _, rfl, q, C, dy, _, _, rfl, hq, T.cls, T.nC, bf_cells _ _ _, rfl, _, rfl, ?_⟩
      by_cases e1 : c = c'
      · subst e1
        rw [decide_eq_true (rfl : V.int c = V.int c)]
        refine iteT ⟨_, rfl, p, C, dx, _, _, rfl, hp, T.cls, T.nM, bf_most _ _ _, _, rfl, q, C, dy, _, _, rfl, hq, T.cls, T.nM, bf_most _ _ _, rfl, _, rfl, ?_⟩
        by_cases e2 : m = m'
        · subst e2
          rw [decide_eq_true (rfl : V.int m = V.int m)]
          refine iteT ⟨_, rfl, p, C, dx, _, _, rfl, hp, T.cls, T.nF, bf_facts _ _ _, _, rfl, q, C, dy, _, _, rfl, hq, T.cls, T.nF, bf_facts _ _ _, Tup Fc, inferInstance, inferInstance, Tup.mk fs, Tup.mk gs, hf.dv, hg.dv, (by decide), ?_⟩
          have e : decide (c = c ∧ m = m ∧ fs = gs) = decide (Tup.mk fs = Tup.mk gs) := decide_eq_decide.mpr ⟨fun z => by rw [z.2.2], fun z => ⟨rfl, rfl, Tup.mk.inj z⟩⟩
          rw [e] at k
          exact k
        · rw [decide_eq_false (show ¬ V.int m = V.int m' from fun z => e2 (V.int.inj z))]
          have e : decide (c = c ∧ m = m' ∧ fs = gs) = false := decide_eq_false fun z => e2 z.2.1
          rw [e] at k
          exact iteF k
      · rw [decide_eq_false (show ¬ V.int c = V.int c' from fun z => e1 (V.int.inj z))]
        have e : decide (c = c' ∧ m = m' ∧ fs = gs) = false := decide_eq_false fun z => e1 z.1
        rw [e] at k
        exact iteF k
    · exact ⟨_, rfl, _, _, _, _, false, rfl, .own C, tyx_tup ha, T.kit2, false, rfl, iteF k⟩
end
end ST


set_option maxRecDepth 100000
set_option maxHeartbeats 4000000
namespace ST
open PySem PySem.Spec PyProof.Rows L2
open PySem.W (Datum Tup)
section
variable {P : Program} {w : World} {K : PySem.W.Frag} {mg : Str → Option Value} {base : Heap} {C : Addr}
def spIsRow (K : PySem.W.Frag) (C : Addr) : Sp := fun vs H Q _ => ∃ (a p dx fa : Addr) (c m : Int) (ns : List Int), vs = [.ref a, .ref p] ∧ H p = some (.ins C dx (bf c m fa)) ∧ SqT K H a (ns.map V.int) ∧ (ns.length : Int) = c ∧ ns.length ≤ 1000 ∧ (∀ n, n ∈ ns → 0 ≤ n ∧ n ≤ m) ∧
  ∀ H', Same H H' → Q (.bl true) H'
theorem ok_is_row (B : Blt mg) (T : BookT K mg C) (G_cells : Getter P w K mg base C "cells" "_cells") (G_most : Getter P w K mg base C "most" "_most") (D_is_between : Has P w K mg base "is_between" 2 ["value", "low", "high"] spBetween)
    (a : At K mg "is_row" s_is_row ["value", "book"]) : Has P w K mg base "is_row" 3 ["value", "book"] (spIsRow K C) := by
  refine a.has fun f fd F => F.ok sc_is_row (fun vs H Q E h => ?_) (fun cdv A outer s H vs Q E hr h => ?_)
  · obtain ⟨a, p, dx, fa, c, m, ns, rfl, _⟩ := h
    rfl
  · obtain ⟨a, p, dx, fa, c, m, ns, rfl, hp, ha, hc, hl, hn, q⟩ := h
    have nd := sc_is_row.nd
    refine ⟨_, (pss_cons (ps_if (PW.pt (pw_or (pt_not (pt_val (pe_callB (c_isi K) (by rfl) B.b_isinstance boot_isinstance (pa_cons (pv 0) (pa_cons (pe_bltn (v := .ty "tuple") (by rfl) B.b_tuple boot_tuple rfl) pa_nil))))) (pw_or1 (pt_cmpR op_ne (pe_callB (c_len K) (by rfl) B.b_len boot_len (pa_cons (pv 0) pa_nil)) (pe_gt G_cells T.cls (pv 1) (hr.mono (by decide))) (nomark _))))) (pss_one (ps_ret pe_bl)) pss_nil) (pss_one (ps_ret (pe_callB (c_all K) (by rfl) B.b_all boot_all (pa_cons (pe_lc (own := [("number", 2)]) rfl nd (p_tup K (pv 0)) (blkOk_by (own := [("number", 2)]) (N := N_is_row) (sc := defScope s_is_row) (by decide +kernel)) (fun _ _ _ _ _ => (pg_name (i := 2) nd rfl (by first | exact .inl rfl | exact .inr rfl))) (fun _ _ _ _ _ => pts_nil) (fun _ _ _ _ _ => (pe_f D_is_between (hr.mono (by decide)) (by rfl) (pa_cons (pv 2) (pa_cons pe_int (pa_cons (pe_gt G_most T.cls (pv 1) (hr.mono (by decide))) pa_nil)))))) pa_nil))))), ?_⟩
    refine ⟨_, rfl, _, _, _, _, true, rfl, .ty _, tyx_tup ha, kit_ty (by decide +kernel), true, rfl, iteF ?_⟩
    refine ⟨_, rfl, a, _, rfl, .inr ha, _, rfl, p, dx, _, _, rfl, hp, bf_cells _ _ _, rfl, _, rfl, ?_⟩
    have e1 : V.int (((ns.map V.int).length : Nat) : Int) = V.int c := by
      rw [List.length_map, hc]
    refine iteNS e1 ?_
    refine ⟨_, rfl, a, rfl, ⟨_, ha⟩, fun D hD => lc_every walk_tup (fun i => .bl (decide (0 ≤ ns.getD i 0 ∧ ns.getD i 0 ≤ m))) hD (by rw [List.length_map]; omega) (fun H' s' => SqT.same s' ha) ?_ ?_⟩
    · rintro i x H1 H2 A hi s1 ⟨rfl, hx⟩ hA
      obtain ⟨n, rfl, hn'⟩ := get_map_int hx
      refine ⟨rfl, _, rfl, _, rfl, p, dx, _, _, rfl, s1 _ _ hp, bf_most _ _ _, n, 0, m, rfl, ?_⟩
      have e := hA H2 (Same.refl _)
      rw [getD_of hn'] at e
      exact e
    · intro H' s' hD'
      have e2 : (List.range (ns.map V.int).length).map (fun i => V.bl (decide (0 ≤ ns.getD i 0 ∧ ns.getD i 0 ≤ m))) = (ns.map fun n => decide (0 ≤ n ∧ n ≤ m)).map V.bl := by
        rw [List.length_map, List.map_map]
        conv => rhs; rw [← range_map_get (l := ns) (d := 0)]
        rw [List.map_map]
        rfl
      rw [e2] at hD'
      refine ⟨D, _, rfl, SqL.of hD', ?_⟩
      have e3 : (ns.map fun n => decide (0 ≤ n ∧ n ≤ m)).all id = true := by
        rw [List.all_map, List.all_eq_true]
        intro n h
        exact decide_eq_true (hn n h)
      rw [e3]
      exact q H' s'
def spCheckBook (C : Addr) : Sp := fun vs H Q _ => ∃ (p dx : Addr) (fs : List (Str × V)), vs = [.ref p] ∧ H p = some (.ins C dx fs) ∧ Q .non H
theorem ok_check_book (B : Blt mg) (T : BookT K mg C) (a : At K mg "check_book" s_check_book ["book"]) : Has P w K mg base "check_book" 1 ["book"] (spCheckBook C) := by
  refine a.has fun f fd F => F.ok sc_check_book (fun vs H Q E h => ?_) (fun cdv A outer s H vs Q E hr h => ?_)
  · obtain ⟨p, dx, fs, rfl, _⟩ := h
    rfl
  · obtain ⟨p, dx, fs, rfl, hp, q⟩ := h
    refine ⟨_, (pss_one (ps_if (pt_not (pt_val (pe_callB (c_isi K) (by rfl) B.b_isinstance boot_isinstance (pa_cons (pv 0) (pa_cons (pe_glob (v := .ref C) (by rfl) T.mgC rfl) pa_nil))))) (pss_one ps_never) pss_nil)), ?_⟩
    exact ⟨_, rfl, _, _, _, _, true, rfl, .own C, .base (T.ty hp), T.kit1, true, rfl, iteF q⟩
def spCheckRow (K : PySem.W.Frag) (C : Addr) : Sp := fun vs H Q _ => ∃ (a p dx fa : Addr) (c m : Int) (ns : List Int), vs = [.ref p, .ref a] ∧ H p = some (.ins C dx (bf c m fa)) ∧ SqT K H a (ns.map V.int) ∧ (ns.length : Int) = c ∧ ns.length ≤ 1000 ∧ (∀ n, n ∈ ns → 0 ≤ n ∧ n ≤ m) ∧
  ∀ H', Same H H' → Q .non H'
theorem ok_check_row (D_is_row : Has P w K mg base "is_row" 3 ["value", "book"] (spIsRow K C)) (a : At K mg "check_row" s_check_row ["book", "row"]) : Has P w K mg base "check_row" 4 ["book", "row"] (spCheckRow K C) := by
  refine a.has fun f fd F => F.ok sc_check_row (fun vs H Q E h => ?_) (fun cdv A outer s H vs Q E hr h => ?_)
  · obtain ⟨a, p, dx, fa, c, m, ns, rfl, _⟩ := h
    rfl
  · obtain ⟨a, p, dx, fa, c, m, ns, rfl, hp, ha, hc, hl, hn, q⟩ := h
    refine ⟨_, (pss_one (ps_if (pt_not (pt_val (pe_f D_is_row (hr.mono (by decide)) (by rfl) (pa_cons (pv 1) (pa_cons (pv 0) pa_nil))))) (pss_one ps_never) pss_nil)), ?_⟩
    exact ⟨_, rfl, _, rfl, a, p, dx, fa, c, m, ns, rfl, hp, ha, hc, hl, hn, fun H' s' => ⟨true, rfl, iteF (q H' s')⟩⟩
def spHolds (K : PySem.W.Frag) : Sp := fun vs H Q _ => ∃ (p a : Addr) (f : Fc) (ns : List Int), vs = [.ref p, .ref a] ∧ SqT K H p f.vs ∧ SqT K H a (ns.map V.int) ∧ Fc.ok ns.length f ∧ ∀ H', Same H H' → Q (.bl (holdsB f ns)) H'
theorem ok_holds (B : Blt mg) (a : At K mg "holds" s_holds ["fact", "row"]) : Has P w K mg base "holds" 1 ["fact", "row"] (spHolds K) := by
  refine a.has fun f fd F => F.ok sc_holds (fun vs H Q E h => ?_) (fun cdv A outer s H vs Q E hr h => ?_)
  · obtain ⟨p, a, f, ns, rfl, _⟩ := h
    rfl
  · obtain ⟨p, a, f, ns, rfl, hp, ha, ⟨k1, k2, k3, k4, k5, k6⟩, q⟩ := h
    have nd := sc_holds.nd
    refine ⟨_, (pss_cons (ps_asg (pv 0) (g_tup K (n := 4) rfl (pgs_cons (pg_name (i := 2) nd rfl (by first | exact .inl rfl | exact .inr rfl)) (pgs_cons (pg_name (i := 3) nd rfl (by first | exact .inl rfl | exact .inr rfl)) (pgs_cons (pg_name (i := 4) nd rfl (by first | exact .inl rfl | exact .inr rfl)) (pgs_cons (pg_name (i := 5) nd rfl (by first | exact .inl rfl | exact .inr rfl)) pgs_nil)))))) (pss_one (ps_ret (pe_chain op_le op_le (pv 4) (pe_callB (c_sumT K) (by rfl) B.b_sum boot_sum (pa_cons (pe_slice (slA K) (pv 1) (po_some (pv 2)) (po_some (pv 3))) pa_nil)) (pv 5))))), ?_⟩
    refine ⟨_, rfl, p, _, rfl, hp, rfl, _, _, rfl, _, _, rfl, _, _, rfl, _, _, rfl, rfl, ?_⟩
    refine ⟨_, rfl, _, rfl, _, rfl, _, rfl, _, rfl, _, rfl, slA_ints ha (by omega) (by omega) fun p' H' s' hp' => ?_⟩
    refine ⟨p', _, rfl, hp', _, _, rfl, rfl, _, rfl, ?_⟩
    by_cases c : f.lo ≤ (cut ns f.b f.e).sum
    · rw [decide_eq_true c]
      refine iteT ⟨_, rfl, _, _, rfl, rfl, ?_⟩
      have e : holdsB f ns = decide ((cut ns f.b f.e).sum ≤ f.hi) := by
        unfold holdsB
        simp [c]
      have q' := q H' s'
      rw [e] at q'
      exact q'
    · rw [decide_eq_false c]
      have e : holdsB f ns = false := by
        unfold holdsB
        simp [c]
      have q' := q H' s'
      rw [e] at q'
      exact iteF q'
def spBroken (K : PySem.W.Frag) (C : Addr) : Sp := fun vs H Q _ => ∃ (a p dx fa : Addr) (c m : Int) (fs : List Fc) (ns : List Int), vs = [.ref p, .ref a] ∧ H p = some (.ins C dx (bf c m fa)) ∧ FactsAt K H fa fs ∧ fs.length ≤ 1000 ∧ (∀ f, f ∈ fs → Fc.ok c f) ∧
  SqT K H a (ns.map V.int) ∧ (ns.length : Int) = c ∧ ns.length ≤ 1000 ∧ (∀ n, n ∈ ns → 0 ≤ n ∧ n ≤ m) ∧ ∀ H' p', Same H H' → H p' = none → H' p' = some (.lst ((brk fs ns).map V.int)) → Q (.ref p') H'
theorem ok_broken (B : Blt mg) (T : BookT K mg C) (G_facts : Getter P w K mg base C "facts" "_facts") (D_check_book : Has P w K mg base "check_book" 1 ["book"] (spCheckBook C)) (D_check_row : Has P w K mg base "check_row" 4 ["book", "row"] (spCheckRow K C))
    (D_holds : Has P w K mg base "holds" 1 ["fact", "row"] (spHolds K)) (a : At K mg "broken" s_broken ["book", "row"]) : Has P w K mg base "broken" 5 ["book", "row"] (spBroken K C) := by
  refine a.has fun f fd F => F.ok sc_broken (fun vs H Q E h => ?_) (fun cdv A outer s H vs Q E hr h => ?_)
  · obtain ⟨a, p, dx, fa, c, m, fs, ns, rfl, _⟩ := h
    rfl
  · obtain ⟨a, p, dx, fa, c, m, fs, ns, rfl, hp, ⟨as, hf, hpp⟩, hfl, hok, ha, hc, hl, hn, q⟩ := h
    have nd := sc_broken.nd
    have hlen : (as.map V.ref).length = fs.length := by rw [List.length_map, hpp.length]
    refine ⟨_, (pss_cons (ps_expr (pe_f D_check_book (hr.mono (by decide)) (by rfl) (pa_cons (pv 0) pa_nil))) (pss_cons (ps_expr (pe_f D_check_row (hr.mono (by decide)) (by rfl) (pa_cons (pv 0) (pa_cons (pv 1) pa_nil)))) (pss_one (ps_ret (pe_lc (own := [("index", 2), ("fact", 3)]) rfl nd (pi_enumT (by rfl) B.b_enumerate (pa_cons (pe_gt G_facts T.cls (pv 0) (hr.mono (by decide))) pa_nil)) (blkOk_by (own := [("index", 2), ("fact", 3)]) (N := N_broken) (sc := defScope s_broken) (by decide +kernel)) (fun _ _ _ _ _ => (g_tup K (n := 2) rfl (pgs_cons (pg_name (i := 2) nd rfl (by first | exact .inl rfl | exact .inr rfl)) (pgs_cons (pg_name (i := 3) nd rfl (by first | exact .inl rfl | exact .inr rfl)) pgs_nil)))) (fun _ _ _ _ _ => (pts_one (pt_not (pt_val (pe_f D_holds (hr.mono (by decide)) (by rfl) (pa_cons (pv 3) (pa_cons (pv 1) pa_nil))))))) (fun _ _ _ _ _ => (pv 2))))))), ?_⟩
    refine ⟨_, rfl, p, dx, _, rfl, hp, ?_⟩
    refine ⟨_, rfl, _, rfl, a, p, dx, fa, c, m, ns, rfl, hp, ha, hc, hl, hn, fun H1 s1 => ?_⟩
    refine ⟨_, rfl, p, dx, _, _, rfl, s1 _ _ hp, bf_facts _ _ _, fa, _, rfl, SqT.same s1 hf, fun D hD => lc_sel walk_enumT (fun i => !holdsB (fs.getD i zF) ns) (fun i => .int (i : Int)) hD (by omega) (fun H' s' => SqT.same (s1.trans s') hf) ?_ ?_⟩
    · rintro i x H2 H3 A R hi s2 ⟨T', y, z, rfl, hT, rfl, hy, hz⟩ hA hR
      cases hy
      obtain ⟨pf, f, rfl, _, hff, hq⟩ := facts_get hpp hz
      have s3 : Same H2 (upd H2 T' (.tup [.int (i : Nat), .ref pf])) := same_upd hT
      have s4 : Same H (upd H2 T' (.tup [.int (i : Nat), .ref pf])) := (s1.trans s2).trans s3
      refine ⟨T', _, rfl, SqT.of upd_same, rfl, _, _, rfl, _, _, rfl, rfl, rfl, ?_⟩
      have hokf := hok f (List.mem_of_getElem? hff)
      rw [← hc] at hokf
      refine ⟨_, rfl, _, rfl, pf, a, f, ns, rfl, SqT.same s4 hq, SqT.same s4 ha, hokf, fun H5 s5 => ⟨_, rfl, ?_⟩⟩
      rw [getD_of hff] at hA hR
      cases hb : holdsB f ns with
      | true => exact iteF (hR (by rw [hb]; rfl) H5 (s3.trans s5))
      | false => exact iteT ⟨_, rfl, hA (by rw [hb]; rfl) H5 (s3.trans s5)⟩
    · intro H' s' hD'
      refine q H' D (s1.trans s') (s1.free hD) ?_
      rw [hD', hlen]
      unfold brk
      rw [selV_map]
end
end ST


set_option maxRecDepth 100000
set_option maxHeartbeats 4000000
namespace ST
open PySem PySem.Spec PyProof.Rows L2
open PySem.W (Datum Tup)
section
variable {P : Program} {w : World} {K : PySem.W.Frag} {mg : Str → Option Value} {base : Heap} {C : Addr}
def spMix (K : PySem.W.Frag) : Sp := fun vs H Q _ => ∃ (a : Addr) (ns : List Int) (z : Int), vs = [.ref a, .int z] ∧ SqL K H a (ns.map V.int) ∧ ns.length ≤ 63 ∧ ∀ H' h c, Same H H' → H h = none → H c = none → Drw H' h c → Q (.ref h) H'
theorem ok_law_mix (B : Blt mg) (a : At K mg "_law_mix" s_law_mix ["_law_script", "_law_seed"]) : Has P w K mg base "_law_mix" 1 ["_law_script", "_law_seed"] (spMix K) := by
  refine a.has fun f fd F => F.ok sc_law_mix (fun vs H Q E h => ?_) (fun cdv A outer s H vs Q E hr h => ?_)
  · obtain ⟨a, ns, z, rfl, _⟩ := h
    rfl
  · obtain ⟨a, ns, z, rfl, ha, hl, q⟩ := h
    have nd := sc_law_mix.nd
    refine ⟨_, (pss_cons (ps_set (i := 2) nd rfl (by first | exact .inl rfl | exact .inr rfl) (pv 1)) (pss_cons (ps_for PassesOwn.never rfl (p_list K (pv 0)) (pg_name (i := 3) nd rfl (by first | exact .inl rfl | exact .inr rfl)) (pss_one (ps_set (i := 2) nd rfl (by first | exact .inl rfl | exact .inr rfl) (pe_op op_mod (pe_callTy call_int1 (by rfl) B.b_int boot_int (pa_cons (pe_op op_add (pe_op op_add (pe_op op_mul (pv 2) pe_int) (pe_op op_mod (pe_callTy call_int1 (by rfl) B.b_int boot_int (pa_cons (pv 3) pa_nil)) pe_int)) pe_int) pa_nil)) pe_int)))) (pss_one (ps_ret (pe_lst (pa_cons (pv 2) (pa_cons (pe_callTy (c_list K) (by rfl) B.b_list boot_list (pa_cons (pv 0) pa_nil)) (pa_cons pe_int pa_nil)))))))), ?_⟩
    refine ⟨_, rfl, _, rfl, a, rfl, ⟨_, ha⟩, for_list (K := K) (a := a) (xs := ns.map V.int) (fun _ σ H' => H' = H ∧ ∃ (st : Int) (u : Option V), σ = [some (.ref a), some (.int z), some (.int st), u]) ⟨rfl, z, none, rfl⟩ (fun i σ H' _ e => by rw [e.1]; exact ha) ?_ ?_⟩
    · rintro i x σ H' hi ⟨rfl, st, u, rfl⟩
      obtain ⟨n, rfl, hn⟩ := get_map_int hi
      refine ⟨_, rfl, _, _, rfl, rfl, .inr ⟨by decide, by decide⟩, ?_⟩
      refine ⟨_, rfl, .inl ⟨_, rfl, ?_⟩⟩
      refine ⟨_, _, rfl, rfl, (show (0 : Int) < 2147483629 by decide), ?_⟩
      refine ⟨_, _, rfl, rfl, _, _, rfl, rfl, ?_⟩
      refine .inl ⟨_, rfl, _, _, rfl, rfl, (show (0 : Int) < 2147483647 by decide), ?_⟩
      exact ⟨rfl, _, _, rfl⟩
    · rintro σ H' ⟨rfl, st, u, rfl⟩
      refine ⟨_, rfl, _, rfl, a, _, rfl, .inl ha, fun l hl' => ?_⟩
      refine ⟨by show 3 ≤ sizeLine; decide, fun p hp => ?_⟩
      have hl0 := same_upd hl' (o := HO.lst (ns.map V.int))
      have np : p ≠ l := fun e => by
        subst e
        rw [upd_same] at hp
        cases hp
      refine q _ p l (hl0.trans (same_upd hp)) (hl0.free hp) hl' ⟨np, ⟨_, _, upd_same⟩, ns, ?_, hl⟩
      rw [upd_ne np.symm, upd_same]
def spNext : Sp := fun vs H Q _ => ∃ (h c : Addr) (b : Int), vs = [.ref h, .int b] ∧ Drw H h c ∧ 0 < b ∧ b ≤ 10 ^ 40 ∧ ∀ r H', 0 ≤ r → r < b → Drw H' h c → Keep h c H H' → Q (.int r) H'
theorem ok_law_next (B : Blt mg) (a : At K mg "_law_next" s_law_next ["_law_h", "_law_bound"]) : Has P w K mg base "_law_next" 1 ["_law_h", "_law_bound"] spNext := by
  refine a.has fun f fd F => F.ok sc_law_next (fun vs H Q E h => ?_) (fun cdv A outer s H vs Q E hr h => ?_)
  · obtain ⟨h, c, b, rfl, _⟩ := h
    rfl
  · obtain ⟨h, c, b, rfl, d, b0, b1, q⟩ := h
    obtain ⟨hc, ⟨z, i, h1⟩, cs, h2, hl⟩ := id d
    have nd := sc_law_next.nd
    refine ⟨_, (pss_cons (ps_set (i := 2) nd rfl (by first | exact .inl rfl | exact .inr rfl) (pe_ix (ixL K) (pe_op op_cat (pe_ix (ixL K) (pv 0) pe_int (fun _ _ => rfl)) (pe_lst (pa_cons pe_int pa_nil))) (pe_op op_mod (pe_callTy call_int1 (by rfl) B.b_int boot_int (pa_cons (pe_ix (ixL K) (pv 0) pe_int (fun _ _ => rfl)) pa_nil)) (pe_callB (call_max2 rfl) (by rfl) B.b_max boot_max (pa_cons pe_int (pa_cons (pe_callB (c_len K) (by rfl) B.b_len boot_len (pa_cons (pe_ix (ixL K) (pv 0) pe_int (fun _ _ => rfl)) pa_nil)) pa_nil)))) (fun _ _ => rfl))) (pss_cons (ps_if (pt_cmpR op_ge (pv 2) (pe_op op_pow pe_int pe_int) (nomark _)) (pss_cons (ps_set (i := 3) nd rfl (by first | exact .inl rfl | exact .inr rfl) (pe_ix (ixL K) (pv 0) pe_int (fun _ _ => rfl))) (pss_cons (ps_asg (pe_op op_fdivW (pv 2) (pv 1)) (pg_sub (pv 3) (pe_op op_mod (pe_callTy call_int1 (by rfl) B.b_int boot_int (pa_cons (pe_ix (ixL K) (pv 0) pe_int (fun _ _ => rfl)) pa_nil)) (pe_callB (c_len K) (by rfl) B.b_len boot_len (pa_cons (pv 3) pa_nil))) set_list)) (pss_one (ps_ret (pe_op op_mod (pe_callTy call_int1 (by rfl) B.b_int boot_int (pa_cons (pv 2) pa_nil)) (pv 1)))))) pss_nil) (pss_cons (ps_asg (pe_op op_mod (pe_callTy call_int1 (by rfl) B.b_int boot_int (pa_cons (pe_op op_add (pe_op op_add (pe_op op_mul (pe_ix (ixL K) (pv 0) pe_int (fun _ _ => rfl)) pe_int) (pe_op op_mul (pv 2) pe_int)) pe_int) pa_nil)) pe_int) (pg_sub (pv 0) pe_int set_list)) (pss_cons (ps_asg (pe_op op_add (pe_ix (ixL K) (pv 0) pe_int (fun _ _ => rfl)) pe_int) (pg_sub (pv 0) pe_int set_list)) (pss_one (ps_ret (pe_op op_mod (pe_callTy call_int1 (by rfl) B.b_int boot_int (pa_cons (pe_op op_fdivW (pe_ix (ixL K) (pv 0) pe_int (fun _ _ => rfl)) pe_int) pa_nil)) (pv 1)))))))), ?_⟩
    refine ⟨_, rfl, h, _, _, _, rfl, rfl, SqL.of h1, atI_nat (j := 1) rfl, (by show 1 ≤ sizeLine; decide), fun p0 hp0 => ?_⟩
    have s0 := same_upd hp0 (o := HO.lst [V.int 0])
    refine ⟨c, p0, _, _, rfl, rfl, s0 _ _ h2, upd_same, (by rw [List.length_map, sizeLine_eq]; show cs.length + 1 ≤ _; omega), fun p1 hp1 => ?_⟩
    have s1 := s0.trans (same_upd hp1 (o := HO.lst (cs.map V.int ++ [V.int 0])))
    have h1' := s1 _ _ h1
    have h2' := s1 _ _ h2
    refine ⟨_, rfl, h, _, _, _, rfl, rfl, SqL.of h1', atI_nat (j := 2) rfl, .inl ⟨i, rfl, ?_⟩⟩
    refine ⟨_, rfl, h, _, _, _, rfl, rfl, SqL.of h1', atI_nat (j := 1) rfl, c, _, rfl, .inl (SqL.of h2'), 1, _, rfl, ?_⟩
    rw [List.length_map]
    generalize hm : (if ((cs.length : Nat) : Int) > 1 then ((cs.length : Nat) : Int) else 1) = m
    have m0 : 0 < m := by
      rw [← hm]
      split <;> omega
    have m1 : m ≤ ((cs.length : Nat) : Int) + 1 := by
      rw [← hm]
      split <;> omega
    have j0 := Int.emod_nonneg i (Int.ne_of_gt m0)
    have j1 := Int.emod_lt_of_pos i m0
    refine ⟨_, _, rfl, rfl, m0, ?_⟩
    obtain ⟨j, hj⟩ : ∃ j : Nat, i % m = (j : Int) := ⟨(i % m).toNat, by omega⟩
    have hj2 : j < (cs ++ [(0 : Int)]).length := by
      rw [List.length_append, List.length_singleton]
      omega
    have hat : (cs.map V.int ++ [V.int 0])[j]? = some (V.int ((cs ++ [(0 : Int)])[j])) := by
      have e : cs.map V.int ++ [V.int 0] = (cs ++ [(0 : Int)]).map V.int := by simp
      rw [e, List.getElem?_map, List.getElem?_eq_getElem hj2]
      rfl
    generalize hcell : (cs ++ [(0 : Int)])[j] = cell at hat
    refine ⟨p1, _, _, V.int cell, rfl, rfl, SqL.of upd_same, (by rw [hj]; exact atI_nat hat), ?_⟩
    -- the cell is known
    refine ⟨_, rfl, _, _, rfl, rfl, ⟨by decide, by decide, by decide⟩, _, _, rfl, rfl, _, rfl, ?_⟩
    refine ite2 (fun hbig => ?_) (fun _ => ?_)
    · have hbig' : (10 : Int) ^ 18 ≤ cell := of_decide_eq_true hbig
      have hjl : j < cs.length := by
        rcases Nat.lt_or_ge j cs.length with x | x
        · exact x
        · exfalso
          rw [List.getElem_append_right x] at hcell
          have e : cell = 0 := by
            rw [← hcell]
            simp
          rw [e] at hbig'
          exact absurd hbig' (by decide)
      refine ⟨_, rfl, h, _, _, _, rfl, rfl, SqL.of h1', atI_nat (j := 1) rfl, ?_⟩
      refine ⟨_, rfl, _, rfl, _, _, rfl, rfl, cdiv_of b0 b1, ?_⟩
      refine ⟨_, rfl, _, rfl, h, _, _, _, rfl, rfl, SqL.of h1', atI_nat (j := 2) rfl, .inl ⟨i, rfl, ?_⟩⟩
      refine ⟨_, rfl, c, _, rfl, .inl (SqL.of h2'), _, _, rfl, rfl, (by rw [List.length_map]; omega), ?_⟩
      rw [List.length_map]
      have k0 := Int.emod_nonneg i (show ((cs.length : Nat) : Int) ≠ 0 by omega)
      have k1 := Int.emod_lt_of_pos i (show (0 : Int) < ((cs.length : Nat) : Int) by omega)
      obtain ⟨jj, hjj⟩ : ∃ jj : Nat, i % ((cs.length : Nat) : Int) = (jj : Int) := ⟨(i % ((cs.length : Nat) : Int)).toNat, by omega⟩
      refine ⟨c, _, _, jj, rfl, rfl, h2', ?_, ?_⟩
      · rw [hjj, List.length_map]
        unfold ixN
        rw [if_pos (by omega), if_pos (by omega)]
        simp
      · refine ⟨_, rfl, .inl ⟨_, rfl, ?_⟩⟩
        refine ⟨_, rfl, _, _, rfl, rfl, b0, ?_⟩
        refine q _ _ (Int.emod_nonneg _ (Int.ne_of_gt b0)) (Int.emod_lt_of_pos _ b0) ⟨hc, ⟨z, i, by rw [upd_ne hc]; exact h1'⟩, cs.set jj (cell / b), ?_, by rw [List.length_set]; exact hl⟩ (fun x o n1 n2 e => ?_)
        · rw [upd_same, List.map_set]
        · rw [upd_ne n2]
          exact s1 x o e
    · refine ⟨_, rfl, h, _, _, _, rfl, rfl, SqL.of h1', atI_nat (j := 0) rfl, ?_⟩
      refine ⟨_, _, rfl, rfl, .inr ⟨by decide, by decide⟩, ?_⟩
      refine ⟨_, rfl, _, _, rfl, rfl, .inr ⟨by decide, by decide⟩, ?_⟩
      refine ⟨_, _, rfl, rfl, _, _, rfl, rfl, .inl ⟨_, rfl, _, _, rfl, rfl, (show (0 : Int) < 2147483647 by decide), ?_⟩⟩
      refine ⟨_, rfl, h, _, _, 0, rfl, rfl, h1', rfl, ?_⟩
      refine ⟨_, rfl, h, _, _, _, rfl, rfl, SqL.of upd_same, atI_nat (j := 2) rfl, ?_⟩
      refine ⟨_, _, rfl, rfl, ?_⟩
      refine ⟨_, rfl, h, _, _, 2, rfl, rfl, upd_same, rfl, ?_⟩
      refine ⟨_, rfl, h, _, _, _, rfl, rfl, SqL.of upd_same, atI_nat (j := 0) rfl, ?_⟩
      refine ⟨_, _, rfl, rfl, cdiv_of (by decide) (by decide), .inl ⟨_, rfl, _, rfl, _, _, rfl, rfl, b0, ?_⟩⟩
      refine q _ _ (Int.emod_nonneg _ (Int.ne_of_gt b0)) (Int.emod_lt_of_pos _ b0) ⟨hc, ⟨_, _, upd_same⟩, cs, ?_, hl⟩ (fun x o n1 n2 e => ?_)
      · rw [upd_ne hc.symm, upd_ne hc.symm]
        exact h2'
      · rw [upd_ne n1, upd_ne n1]
        exact s1 x o e
def spStretch : Sp := fun vs H Q _ => ∃ (h c : Addr) (n : Int), vs = [.ref h, .int n] ∧ Drw H h c ∧ 0 < n ∧ n ≤ 10 ^ 30 ∧ ∀ b e p H', 0 ≤ b → b < e → e ≤ n → Drw H' h c → Keep h c H H' → H p = none → H' p = some (.tup [.int b, .int e]) → Q (.ref p) H'
theorem ok_law_stretch (D_law_next : Has P w K mg base "_law_next" 1 ["_law_h", "_law_bound"] spNext) (a : At K mg "_law_stretch" s_law_stretch ["_law_h", "_law_cells"]) : Has P w K mg base "_law_stretch" 2 ["_law_h", "_law_cells"] spStretch := by
  refine a.has fun f fd F => F.ok sc_law_stretch (fun vs H Q E h => ?_) (fun cdv A outer s H vs Q E hr h => ?_)
  · obtain ⟨h, c, b, rfl, _⟩ := h
    rfl
  · obtain ⟨h, c, n, rfl, d, n0, n1, q⟩ := h
    have nd := sc_law_stretch.nd
    refine ⟨_, (pss_cons (ps_set (i := 2) nd rfl (by first | exact .inl rfl | exact .inr rfl) (pe_f D_law_next (hr.mono (by decide)) (by rfl) (pa_cons (pv 0) (pa_cons (pv 1) pa_nil)))) (pss_one (ps_ret (pe_tup (pa_cons (pv 2) (pa_cons (pe_op op_add (pe_op op_add (pv 2) pe_int) (pe_f D_law_next (hr.mono (by decide)) (by rfl) (pa_cons (pv 0) (pa_cons (pe_op op_sub (pv 1) (pv 2)) pa_nil)))) pa_nil)))))), ?_⟩
    refine ⟨_, rfl, _, rfl, h, c, n, rfl, d, n0, by omega, fun r H1 r0 r1 d1 k1 => ?_⟩
    refine ⟨_, rfl, _, rfl, _, _, rfl, rfl, _, rfl, _, rfl, _, rfl, _, _, rfl, rfl, h, c, n - r, rfl, d1, by omega, by omega, fun t H2 t0 t1 d2 k2 => ?_⟩
    refine ⟨_, _, rfl, rfl, (by show 2 ≤ sizeLine; decide), fun p hp => ?_⟩
    have k := k1.trans k2
    exact q r (r + 1 + t) p _ r0 (by omega) (by omega) (d2.upd hp) (k.upd hp) (k.free' d2 hp) upd_same
def spLawHolds (K : PySem.W.Frag) : Sp := fun vs H Q _ => ∃ (p a : Addr) (f : Fc) (ns : List Int), vs = [.ref a, .ref p] ∧ SqT K H p f.vs ∧ SqT K H a (ns.map V.int) ∧ Fc.ok ns.length f ∧ ∀ H', Same H H' → Q (.bl (holdsB f ns)) H'
theorem ok_law_holds (B : Blt mg) (a : At K mg "_law_holds" s_law_holds ["_law_row", "_law_fact_here"]) : Has P w K mg base "_law_holds" 1 ["_law_row", "_law_fact_here"] (spLawHolds K) := by
  refine a.has fun f fd F => F.ok sc_law_holds (fun vs H Q E h => ?_) (fun cdv A outer s H vs Q E hr h => ?_)
  · obtain ⟨p, a, f, ns, rfl, _⟩ := h
    rfl
  · obtain ⟨p, a, f, ns, rfl, hp, ha, ⟨k1, k2, k3, k4, k5, k6⟩, q⟩ := h
    refine ⟨_, (pss_one (ps_ret (pe_chain op_le op_le (pe_ix (ixT K) (pv 1) pe_int (fun _ _ => rfl)) (pe_callB (c_sumT K) (by rfl) B.b_sum boot_sum (pa_cons (pe_slice (slA K) (pv 0) (po_some (pe_ix (ixT K) (pv 1) pe_int (fun _ _ => rfl))) (po_some (pe_ix (ixT K) (pv 1) pe_int (fun _ _ => rfl)))) pa_nil)) (pe_ix (ixT K) (pv 1) pe_int (fun _ _ => rfl))))), ?_⟩
    refine ⟨_, rfl, p, _, _, _, rfl, rfl, hp, atI_nat (j := 2) rfl, ?_⟩
    refine ⟨_, rfl, _, rfl, p, _, _, _, rfl, rfl, hp, atI_nat (j := 0) rfl, _, rfl, _, rfl, p, _, _, _, rfl, rfl, hp, atI_nat (j := 1) rfl, _, rfl, slA_ints ha (by omega) (by omega) fun p' H' s' hp' => ?_⟩
    refine ⟨p', _, rfl, hp', _, _, rfl, rfl, _, rfl, ?_⟩
    by_cases c : f.lo ≤ (cut ns f.b f.e).sum
    · rw [decide_eq_true c]
      refine iteT ⟨_, rfl, p, _, _, _, rfl, rfl, SqT.same s' hp, atI_nat (j := 3) rfl, _, _, rfl, rfl, ?_⟩
      have e : holdsB f ns = decide ((cut ns f.b f.e).sum ≤ f.hi) := by
        unfold holdsB
        simp [c]
      have q' := q H' s'
      rw [e] at q'
      exact q'
    · rw [decide_eq_false c]
      have e : holdsB f ns = false := by
        unfold holdsB
        simp [c]
      have q' := q H' s'
      rw [e] at q'
      exact iteF q'
end
end ST


set_option maxRecDepth 100000
set_option maxHeartbeats 4000000
namespace ST
open PySem PySem.Spec PyProof.Rows L2
open PySem.W (Datum Tup)
section
variable {P : Program} {w : World} {K : PySem.W.Frag} {mg : Str → Option Value} {base : Heap} {C : Addr}
/-- _law_fact: a fact of the row's cells, whose numbers are bounded -/
def spFact : Sp := fun vs H Q _ => ∃ (h c r : Addr) (ns : List Int) (m L : Int), vs = [.ref h, .ref r, .int L] ∧ Drw H h c ∧ H r = some (.lst (ns.map V.int)) ∧ r ≠ h ∧ r ≠ c ∧ 0 < ns.length ∧ ns.length ≤ 20 ∧ (0 ≤ m ∧ m ≤ 10 ^ 30) ∧ (∀ n, n ∈ ns → 0 ≤ n ∧ n ≤ m) ∧
  (0 < L ∧ L ≤ 10 ^ 30 + 1) ∧ ∀ f p H', Fc.ok ns.length f → Drw H' h c → Keep h c H H' → H p = none → H' p = some (.tup (Fc.vs f)) → Q (.ref p) H'
theorem ok_law_fact (B : Blt mg) (D_law_next : Has P w K mg base "_law_next" 1 ["_law_h", "_law_bound"] spNext) (D_law_stretch : Has P w K mg base "_law_stretch" 2 ["_law_h", "_law_cells"] spStretch)
    (a : At K mg "_law_fact" s_law_fact ["_law_h", "_law_row", "_law_loose"]) : Has P w K mg base "_law_fact" 3 ["_law_h", "_law_row", "_law_loose"] spFact := by
  refine a.has fun f fd F => F.ok sc_law_fact (fun vs H Q E h => ?_) (fun cdv A outer s H vs Q E hr h => ?_)
  · obtain ⟨h, c, r, ns, m, L, rfl, _⟩ := h
    rfl
  · obtain ⟨h, c, r, ns, m, L, rfl, d, hrow, rh, rc, l0, l1, ⟨m0, m1⟩, hns, ⟨L0, L1⟩, q⟩ := h
    have nd := sc_law_fact.nd
    refine ⟨_, (pss_cons (ps_asg (pe_f D_law_stretch (hr.mono (by decide)) (by rfl) (pa_cons (pv 0) (pa_cons (pe_callB (c_len K) (by rfl) B.b_len boot_len (pa_cons (pv 1) pa_nil)) pa_nil))) (g_tup K (n := 2) rfl (pgs_cons (pg_name (i := 3) nd rfl (by first | exact .inl rfl | exact .inr rfl)) (pgs_cons (pg_name (i := 4) nd rfl (by first | exact .inl rfl | exact .inr rfl)) pgs_nil)))) (pss_cons (ps_set (i := 5) nd rfl (by first | exact .inl rfl | exact .inr rfl) (pe_callB (c_sum K) (by rfl) B.b_sum boot_sum (pa_cons (pe_slice (slL K) (pv 1) (po_some (pv 3)) (po_some (pv 4))) pa_nil))) (pss_cons (ps_par (i := 6) (j := 7) (by rfl) nd rfl rfl (by decide) rfl rfl (pa_cons (pe_callB (call_max2 rfl) (by rfl) B.b_max boot_max (pa_cons pe_int (pa_cons (pe_op op_sub (pv 5) (pe_f D_law_next (hr.mono (by decide)) (by rfl) (pa_cons (pv 0) (pa_cons (pv 2) pa_nil)))) pa_nil))) (pa_cons (pe_op op_add (pv 5) (pe_f D_law_next (hr.mono (by decide)) (by rfl) (pa_cons (pv 0) (pa_cons (pv 2) pa_nil)))) pa_nil)) (by rfl)) (pss_cons (ps_if (pt_cmpR op_eq (pe_f D_law_next (hr.mono (by decide)) (by rfl) (pa_cons (pv 0) (pa_cons pe_int pa_nil))) pe_int (nomark _)) (pss_one (ps_par (i := 6) (j := 7) (by rfl) nd rfl rfl (by decide) rfl rfl (pa_cons (pv 7) (pa_cons (pe_op op_add (pv 7) (pe_f D_law_next (hr.mono (by decide)) (by rfl) (pa_cons (pv 0) (pa_cons (pv 2) pa_nil)))) pa_nil)) (by rfl))) pss_nil) (pss_one (ps_ret (pe_tup (pa_cons (pv 3) (pa_cons (pv 4) (pa_cons (pv 6) (pa_cons (pv 7) pa_nil))))))))))), ?_⟩
    refine ⟨_, rfl, _, rfl, r, _, rfl, .inl (SqL.of hrow), h, c, _, rfl, d, (by rw [List.length_map]; omega), (by rw [List.length_map]; omega), fun b e p H1 b0 be e1 d1 k1 hp hp1 => ?_⟩
    rw [List.length_map] at e1
    refine ⟨p, _, rfl, SqT.of hp1, rfl, _, _, rfl, _, _, rfl, rfl, ?_⟩
    have hrow1 := k1 r _ rh rc hrow
    refine ⟨_, rfl, _, rfl, _, rfl, _, rfl, _, rfl, slL_ints (SqL.of hrow1) (by omega) (by omega) fun p2 hp2 => ?_⟩
    have s2 : Same H1 (upd H1 p2 (.lst ((cut ns b e).map V.int))) := same_upd hp2
    have d2 := d1.same s2
    have k2 : Keep h c H (upd H1 p2 (.lst ((cut ns b e).map V.int))) := k1.trans (Same.keep s2)
    refine ⟨p2, _, rfl, SqL.of upd_same, ?_⟩
    have hs := cut_sum_le m0 (cut ns b e) (fun n hn => hns n (cut_mem hn))
    have hcl : (cut ns b e).length ≤ ns.length := cut_len
    have hs2 : (cut ns b e).sum ≤ 20 * 10 ^ 30 := by
      have e1 : ((cut ns b e).length : Int) * m ≤ 20 * m := Int.mul_le_mul_of_nonneg_right (by omega) m0
      omega
    generalize (cut ns b e).sum = own at hs hs2
    have hs0 := hs.1
    clear hs
    refine ⟨_, rfl, _, rfl, _, rfl, h, c, L, rfl, d2, L0, by omega, fun x H3 x0 x1 d3 k3 => ?_⟩
    refine ⟨_, _, rfl, rfl, _, _, rfl, ?_⟩
    refine ⟨_, rfl, _, rfl, _, rfl, h, c, L, rfl, d3, L0, by omega, fun y H4 y0 y1 d4 k4 => ?_⟩
    refine ⟨_, _, rfl, rfl, _, _, rfl, ?_⟩
    refine ⟨_, rfl, h, c, 12, rfl, d4, by decide, by decide, fun t H5 t0 t1 d5 k5 => ?_⟩
    have k := ((k2.trans k3).trans k4).trans k5
    refine ⟨rfl, _, rfl, ?_⟩
    generalize hlow : (if own - x > 0 then own - x else 0) = low
    have low0 : 0 ≤ low := by
      rw [← hlow]
      split <;> omega
    have low1 : low ≤ own := by
      rw [← hlow]
      split <;> omega
    refine ite2 (fun _ => ?_) (fun _ => ?_)
    · refine ⟨_, rfl, _, rfl, _, rfl, _, rfl, h, c, L, rfl, d5, L0, by omega, fun z H6 z0 z1 d6 k6 => ?_⟩
      refine ⟨_, _, rfl, rfl, _, _, rfl, ?_⟩
      refine ⟨_, rfl, _, rfl, _, rfl, _, rfl, (by show 4 ≤ sizeLine; decide), fun p9 hp9 => ?_⟩
      have k' := k.trans k6
      exact q ⟨b, e, own + y, own + y + z⟩ p9 _ ⟨b0, be, e1, by show 0 ≤ own + y; omega, by show own + y ≤ own + y + z; omega, by show own + y + z ≤ 10 ^ 32; omega⟩ (d6.upd hp9) (k'.upd hp9) (k'.free' d6 hp9) upd_same
    · refine ⟨_, rfl, _, rfl, _, rfl, _, rfl, (by show 4 ≤ sizeLine; decide), fun p9 hp9 => ?_⟩
      exact q ⟨b, e, low, own + y⟩ p9 _ ⟨b0, be, e1, low0, by show low ≤ own + y; omega, by show own + y ≤ 10 ^ 32; omega⟩ (d5.upd hp9) (k.upd hp9) (k.free' d5 hp9) upd_same
/-- _law_book: cells, most and the facts' tuple, in a new list -/
def spBook (K : PySem.W.Frag) : Sp := fun vs H Q _ => ∃ (h c : Addr) (C M k : Int), vs = [.ref h, .int C, .int M, .int k] ∧ Drw H h c ∧ (1 ≤ C ∧ C ≤ 20) ∧ (0 ≤ M ∧ M ≤ 10 ^ 30) ∧ (0 ≤ k ∧ k ≤ 12) ∧
  ∀ n m fa fs p H', 1 ≤ n → n ≤ C → 0 ≤ m → m ≤ M → (fs.length : Int) ≤ k → (∀ f, f ∈ fs → Fc.ok n f) → Drw H' h c → Keep h c H H' → FactsAt K H' fa fs → H p = none → p ≠ h → p ≠ c → H' p = some (.lst [.int n, .int m, .ref fa]) → Q (.ref p) H'
theorem ok_law_book (B : Blt mg) (D_law_next : Has P w K mg base "_law_next" 1 ["_law_h", "_law_bound"] spNext) (D_law_fact : Has P w K mg base "_law_fact" 3 ["_law_h", "_law_row", "_law_loose"] spFact)
    (a : At K mg "_law_book" s_law_book ["_law_h", "_law_cells", "_law_most", "_law_many"]) : Has P w K mg base "_law_book" 4 ["_law_h", "_law_cells", "_law_most", "_law_many"] (spBook K) := by
  refine a.has fun f fd F => F.ok sc_law_book (fun vs H Q E h => ?_) (fun cdv A outer s H vs Q E hr h => ?_)
  · obtain ⟨h, c, C, M, k, rfl, _⟩ := h
    rfl
  · obtain ⟨h, c, C, M, k, rfl, d, ⟨C0, C1⟩, ⟨M0, M1⟩, ⟨k0, k1⟩, q⟩ := h
    have nd := sc_law_book.nd
    refine ⟨_, (pss_cons (ps_asg (pe_tup (pa_cons (pe_op op_add pe_int (pe_f D_law_next (hr.mono (by decide)) (by rfl) (pa_cons (pv 0) (pa_cons (pv 1) pa_nil)))) (pa_cons (pe_f D_law_next (hr.mono (by decide)) (by rfl) (pa_cons (pv 0) (pa_cons (pe_op op_add (pv 2) pe_int) pa_nil))) pa_nil))) (g_tup K (n := 2) rfl (pgs_cons (pg_name (i := 1) nd rfl (by first | exact .inl rfl | exact .inr rfl)) (pgs_cons (pg_name (i := 2) nd rfl (by first | exact .inl rfl | exact .inr rfl)) pgs_nil)))) (pss_cons (ps_set (i := 4) nd rfl (by first | exact .inl rfl | exact .inr rfl) (pe_lc (own := [("_law_k", 7)]) rfl nd (pi_range1 (by rfl) B.b_range (pa_cons (pv 1) pa_nil)) (blkOk_by (own := [("_law_k", 7)]) (N := N_law_book) (sc := defScope s_law_book) (by decide +kernel)) (fun _ _ _ _ _ => (pg_name (i := 7) nd rfl (by first | exact .inl rfl | exact .inr rfl))) (fun _ _ _ _ _ => pts_nil) (fun _ _ _ _ _ => (pe_f D_law_next (hr.mono (by decide)) (by rfl) (pa_cons (pv 0) (pa_cons (pe_op op_add (pv 2) pe_int) pa_nil)))))) (pss_cons (ps_set (i := 5) nd rfl (by first | exact .inl rfl | exact .inr rfl) (pe_ix (ixL K) (pe_lst (pa_cons pe_int (pa_cons pe_int (pa_cons pe_int (pa_cons (pe_op op_add pe_int (pv 2)) pa_nil))))) (pe_f D_law_next (hr.mono (by decide)) (by rfl) (pa_cons (pv 0) (pa_cons pe_int pa_nil))) (fun _ _ => rfl))) (pss_cons (ps_setLc (i := 6) (own := [("_law_k", 7)]) rfl nd rfl rfl (sw_true rfl rfl rfl (by decide +kernel)) (pi_range1 (by rfl) B.b_range (pa_cons (pe_f D_law_next (hr.mono (by decide)) (by rfl) (pa_cons (pv 0) (pa_cons (pe_op op_add (pv 3) pe_int) pa_nil))) pa_nil)) (blkOk_by (own := [("_law_k", 7)]) (N := N_law_book) (sc := defScope s_law_book) (by decide +kernel)) (fun _ _ _ _ _ => (pg_name (i := 7) nd rfl (by first | exact .inl rfl | exact .inr rfl))) (fun _ _ _ _ _ => pts_nil) (fun _ _ _ _ _ => (pe_f D_law_fact (hr.mono (by decide)) (by rfl) (pa_cons (pv 0) (pa_cons (pv 4) (pa_cons (pv 5) pa_nil)))))) (pss_one (ps_ret (pe_lst (pa_cons (pv 1) (pa_cons (pv 2) (pa_cons (pe_callTy (c_tuple K) (by rfl) B.b_tuple boot_tuple (pa_cons (pv 6) pa_nil)) pa_nil)))))))))), ?_⟩
    -- cells and most
    refine ⟨_, rfl, _, rfl, h, c, C, rfl, d, by omega, by omega, fun n' H1 n0 n1 d1 e1 => ?_⟩
    refine ⟨_, _, rfl, rfl, ?_⟩
    refine ⟨_, rfl, _, rfl, _, _, rfl, rfl, h, c, M + 1, rfl, d1, by omega, by omega, fun m H2 m0 m1 d2 e2 => ?_⟩
    refine ⟨(by show 2 ≤ sizeLine; decide), fun p2 hp2 => ?_⟩
    refine ⟨p2, _, rfl, SqT.of upd_same, rfl, _, _, rfl, _, _, rfl, rfl, ?_⟩
    have d3 := d2.upd hp2 (o := HO.tup [V.int (1 + n'), V.int m])
    have e3 := (e1.trans e2).upd hp2 (o := HO.tup [V.int (1 + n'), V.int m])
    generalize hH3 : upd H2 p2 (HO.tup [V.int (1 + n'), V.int m]) = H3 at d3 e3
    have hn0 : 1 ≤ 1 + n' := by omega
    have hn1 : 1 + n' ≤ C := by omega
    -- the row
    refine ⟨_, rfl, 1 + n', rfl, by omega, by omega, fun D hD => lc_drawn (walk_range (lo := 0) (n := (1 + n').toNat)) (fun i H' => Drw H' h c ∧ Keep h c H3 H' ∧ ∃ ns : List Int, H' D = some (.lst (ns.map V.int)) ∧ ns.length = i ∧ ∀ x, x ∈ ns → 0 ≤ x ∧ x ≤ m)
      ⟨d3.upd hD, Keep.refl.upd hD, [], upd_same, rfl, fun x hx => by cases hx⟩ (fun _ _ _ _ => trivial) ?_ ?_⟩
    · rintro i y H4 H4' hi ⟨d4, e4, ns, hns, hl, hx⟩ ⟨rfl, rfl⟩
      obtain ⟨Dh, Dc⟩ := d3.new hD
      refine ⟨rfl, _, rfl, _, rfl, _, _, rfl, rfl, h, c, m + 1, rfl, d4, by omega, by omega, fun x H5 x0 x1 d5 e5 => ?_⟩
      refine ⟨_, e5 D _ Dh Dc hns, ?_, d5.mut Dh Dc, (e4.trans e5).mut hD, ns ++ [x], ?_, ?_, ?_⟩
      · rw [List.length_map, sizeLine_eq]
        omega
      · rw [upd_same, List.map_append]
        rfl
      · rw [List.length_append, hl]
        rfl
      · intro y hy
        rcases List.mem_append.mp hy with z | z
        · exact hx y z
        · rw [List.mem_singleton.mp z]
          omega
    · rintro H4 ⟨d4, e4, ns, hns, hl, hx⟩
      obtain ⟨Dh, Dc⟩ := d3.new hD
      -- how loose
      refine ⟨_, rfl, _, _, rfl, rfl, (by show 4 ≤ sizeLine; decide), fun p5 hp5 => ?_⟩
      have d5 := d4.upd hp5 (o := HO.lst [V.int 1, V.int 2, V.int 2, V.int (1 + m)])
      have e5 := e4.upd hp5 (o := HO.lst [V.int 1, V.int 2, V.int 2, V.int (1 + m)])
      obtain ⟨p5h, p5c⟩ := d4.new hp5
      have hD5 : p5 ≠ D := fun e => by
        rw [e, hns] at hp5
        cases hp5
      refine ⟨_, rfl, h, c, 4, rfl, d5, by decide, by decide, fun t H6 t0 t1 d6 e6 => ?_⟩
      obtain ⟨L, hL, L0, L1⟩ : ∃ L : Int, atI [V.int 1, V.int 2, V.int 2, V.int (1 + m)] t = some (.int L) ∧ 0 < L ∧ L ≤ 10 ^ 30 + 1 := by
        have ht : t = 0 ∨ t = 1 ∨ t = 2 ∨ t = 3 := by omega
        rcases ht with rfl | rfl | rfl | rfl
        · exact ⟨1, rfl, by decide, by decide⟩
        · exact ⟨2, rfl, by decide, by decide⟩
        · exact ⟨2, rfl, by decide, by decide⟩
        · exact ⟨1 + m, rfl, by omega, by omega⟩
      refine ⟨p5, _, t, _, rfl, rfl, SqL.of (e6 p5 _ p5h p5c upd_same), hL, ?_⟩
      have e7 := e5.trans e6
      have hns6 : H6 D = some (.lst (ns.map V.int)) := e6 D _ Dh Dc (by rw [upd_ne hD5.symm]; exact hns)
      -- the facts
      refine ⟨_, rfl, _, rfl, _, _, rfl, rfl, h, c, k + 1, rfl, d6, by omega, by omega, fun kk H7 kk0 kk1 d7 e8 => ?_⟩
      have hns7 := e8 D _ Dh Dc hns6
      refine ⟨kk, rfl, by omega, by omega, fun D2 hD2 => lc_drawn (walk_range (lo := 0) (n := kk.toNat)) (fun i H' => Drw H' h c ∧ Keep h c H7 H' ∧ ∃ (as : List Addr) (fs : List Fc), H' D2 = some (.lst (as.map V.ref)) ∧ as.length = i ∧ (∀ f, f ∈ fs → Fc.ok (1 + n') f) ∧ Paired (fun p f => H' p = some (.tup (Fc.vs f))) as fs)
        ⟨d7.upd hD2, Keep.refl.upd hD2, [], [], upd_same, rfl, (fun f hf => by cases hf), .nil⟩ (fun _ _ _ _ => trivial) ?_ ?_⟩
      · rintro i y H8 H8' hi ⟨d8, e9, as, fs, has, hal, hok, hpp⟩ ⟨rfl, rfl⟩
        obtain ⟨D2h, D2c⟩ := d7.new hD2
        refine ⟨rfl, _, rfl, _, rfl, _, rfl, h, c, D, ns, m, L, rfl, d8, e9 D _ Dh Dc hns7, Dh, Dc, by omega, by omega, ⟨m0, by omega⟩, hx, ⟨L0, L1⟩, fun f p H9 hf d9 e10 hp hp9 => ?_⟩
        have has9 := e10 D2 _ D2h D2c has
        have np : p ≠ D2 := fun e => by
          rw [e, has] at hp
          cases hp
        refine ⟨_, has9, ?_, d9.mut D2h D2c, (e9.trans e10).mut hD2, as ++ [p], fs ++ [f], ?_, ?_, ?_, ?_⟩
        · rw [List.length_map, sizeLine_eq]
          omega
        · rw [upd_same, List.map_append]
          rfl
        · rw [List.length_append, hal]
          rfl
        · intro g hg
          rcases List.mem_append.mp hg with z | z
          · exact hok g z
          · rw [List.mem_singleton.mp z]
            have e : ((ns.length : Nat) : Int) = 1 + n' := by omega
            rw [← e]
            exact hf
        · refine Paired.snoc ?_ ?_
          · refine hpp.mono fun q g hq => ?_
            have n1 : q ≠ D2 := ne_of hq has (by intro z; cases z)
            obtain ⟨n2, n3⟩ := d8.ne hq (fun _ z => by cases z)
            rw [upd_ne n1]
            exact e10 q _ n2 n3 hq
          · rw [upd_ne np]
            exact hp9
      · rintro H8 ⟨d8, e9, as, fs, has, hal, hok, hpp⟩
        refine ⟨_, rfl, _, rfl, _, rfl, D2, _, rfl, .inl ⟨SqL.of has, fun l hl => ?_⟩⟩
        have hpp' : Paired (fun p f => upd H8 l (.tup (as.map V.ref)) p = some (.tup (Fc.vs f))) as fs := hpp.mono fun q g hq => by
          rw [upd_ne (ne_of_none hq hl)]
          exact hq
        refine ⟨(by show 3 ≤ sizeLine; decide), fun p hp => ?_⟩
        have d9 := d8.upd hl (o := HO.tup (as.map V.ref))
        have e10 := (((e3.trans e7).trans e8).trans e9).upd hl (o := HO.tup (as.map V.ref))
        refine q (1 + n') m l fs p _ hn0 hn1 m0 (by omega) ?_ hok (d9.upd hp) (e10.upd hp) ⟨as, SqT.of (by rw [upd_ne (ne_of_none upd_same hp)]; exact upd_same), hpp'.mono fun q g hq => SqT.of (by rw [upd_ne (ne_of_none hq hp)]; exact hq)⟩
          (e10.free' d9 hp) (d9.new hp).1 (d9.new hp).2 upd_same
        rw [← hpp.length]
        omega
end
end ST


set_option maxRecDepth 100000
set_option maxHeartbeats 4000000
namespace ST
open PySem PySem.Spec PyProof.Rows L2
open PySem.W (Datum Tup)
section
variable {P : Program} {w : World} {K : PySem.W.Frag} {mg : Str → Option Value} {base : Heap} {C : Addr}
/-- Book(..), from what its arguments are -/
theorem made {H1 : Hp} {c m : Int} {fa x dx : Addr} {fs : List Fc} {R : Hp → Prop} {E : XK} (nx : H1 x = none) (ndx : H1 dx = none) (hc : 1 ≤ c ∧ c ≤ 20) (hm : 0 ≤ m ∧ m ≤ 10 ^ 30) (hf : FactsAt K H1 fa fs) (hl : fs.length ≤ 12) (hok : ∀ f, f ∈ fs → Fc.ok c f)
    (q : ∀ H2, Same H1 H2 → H2 x = some (.ins C dx (bf c m fa)) → R H2) :
    spInit K C [.ref x, .int c, .int m, .ref fa] (upd (upd H1 dx (.own x)) x (.ins C dx [])) (fun v H2 => v = .non ∧ R H2) E := by
  have s0 : Same H1 (upd (upd H1 dx (.own x)) x (.ins C dx [])) := fun b o e => by
    rw [upd_ne (ne_of_none e nx), upd_ne (ne_of_none e ndx)]
    exact e
  refine ⟨x, dx, fa, c, m, fs, rfl, upd_same, hc, hm, hf.same s0, hl, hok, fun H' k e => ⟨rfl, q H' (fun b o eb => ?_) e⟩⟩
  exact k b o (ne_of_none eb nx) (s0 b o eb)
theorem facts_drop {H : Hp} {p : Addr} {fs : List Fc} {as : List Addr} (h : Paired (fun p f => SqT K H p (Fc.vs f)) as fs) (hp : SqT K H p (cutV (as.map V.ref) (some 1) none)) : FactsAt K H p (fs.drop 1) := by
  refine ⟨as.drop 1, ?_, ?_⟩
  · have e : cutV (as.map V.ref) (some 1) none = (as.drop 1).map V.ref := by
      cases as with
      | nil => rfl
      | cons x xs =>
        unfold cutV
        rw [List.length_map, sIx_in (by decide) (by rw [List.length_cons]; omega)]
        show ((V.ref x :: xs.map V.ref).drop 1).take (_ - 1) = _
        rw [HT.sIx_none]
        simp only [List.drop_succ_cons, List.drop_zero, List.length_cons]
        rw [List.take_of_length_le (by simp)]
    rw [← e]
    exact hp
  · cases h with
    | nil => exact .nil
    | cons r t => exact t
def spLaw (K : PySem.W.Frag) : Sp := fun vs H Q _ => ∃ (a : Addr) (ns : List Int), vs = [.ref a] ∧ SqL K H a (ns.map V.int) ∧ ns.length ≤ 63 ∧ ∀ H', Q (.bl true) H'
theorem ok_law (B : Blt mg) (T : BookT K mg C) (G_cells : Getter P w K mg base C "cells" "_cells") (G_most : Getter P w K mg base C "most" "_most") (G_facts : Getter P w K mg base C "facts" "_facts")
    (Mk_Book : Maker P w K mg base C "Book" 6 ["self", "cells", "most", "facts"] (spInit K C)) (D_broken : Has P w K mg base "broken" 5 ["book", "row"] (spBroken K C))
    (D_law_mix : Has P w K mg base "_law_mix" 1 ["_law_script", "_law_seed"] (spMix K)) (D_law_next : Has P w K mg base "_law_next" 1 ["_law_h", "_law_bound"] spNext)
    (D_law_book : Has P w K mg base "_law_book" 4 ["_law_h", "_law_cells", "_law_most", "_law_many"] (spBook K)) (D_law_holds : Has P w K mg base "_law_holds" 1 ["_law_row", "_law_fact_here"] (spLawHolds K))
    {f : Addr} {fd : FuncData} (F : Fun K "law" "law" s_law f fd) : FnOk P w K mg base CX0 9 f fd ["_law_script"] (spLaw K) := by
  refine F.ok sc_law (fun vs H Q E h => ?_) (fun cdv A outer s H vs Q E hr h => ?_)
  · obtain ⟨a, ns, rfl, _⟩ := h
    rfl
  · obtain ⟨a, cells, rfl, ha, hcells, q⟩ := h
    have nd := sc_law.nd
    obtain ⟨gL, fdL, l1, l2, l3, l4⟩ := T.len
    obtain ⟨gE, fdE, q1, q2, q3, q4⟩ := T.eq
    refine ⟨_, (pss_cons (ps_set (i := 1) nd rfl (by first | exact .inl rfl | exact .inr rfl) (pe_f D_law_mix (hr.mono (by decide)) (by rfl) (pa_cons (pv 0) (pa_cons pe_int pa_nil)))) (pss_cons (ps_set (i := 2) nd rfl (by first | exact .inl rfl | exact .inr rfl) (pe_f D_law_book (hr.mono (by decide)) (by rfl) (pa_cons (pv 1) (pa_cons pe_int (pa_cons (pe_ix (ixL K) (pe_lst (pa_cons pe_int (pa_cons pe_int (pa_cons (pe_op op_pow pe_int pe_int) pa_nil)))) (pe_f D_law_next (hr.mono (by decide)) (by rfl) (pa_cons (pv 1) (pa_cons pe_int pa_nil))) (fun _ _ => rfl)) (pa_cons pe_int pa_nil)))))) (pss_cons (ps_set (i := 3) nd rfl (by first | exact .inl rfl | exact .inr rfl) (pe_mk Mk_Book (hr.mono (by decide)) (by rfl) (pa_cons (pe_ix (ixL K) (pv 2) pe_int (fun _ _ => rfl)) (pa_cons (pe_ix (ixL K) (pv 2) pe_int (fun _ _ => rfl)) (pa_cons (pe_ix (ixL K) (pv 2) pe_int (fun _ _ => rfl)) pa_nil))))) (pss_cons (ps_if (PW.pt (pw_or (pt_cmpR op_ne (pe_gt G_cells T.cls (pv 3) (hr.mono (by decide))) (pe_ix (ixL K) (pv 2) pe_int (fun _ _ => rfl)) (nomark _)) (pw_or (pt_cmpR op_ne (pe_gt G_most T.cls (pv 3) (hr.mono (by decide))) (pe_ix (ixL K) (pv 2) pe_int (fun _ _ => rfl)) (nomark _)) (pw_or (pt_cmpR (o_neV K hr.units) (pe_gt G_facts T.cls (pv 3) (hr.mono (by decide))) (pe_ix (ixL K) (pv 2) pe_int (fun _ _ => rfl)) (nomark _)) (pw_or1 (pt_cmpR op_ne (pe_callB (call_ownLen l1 l2 (ok_len B T l3) l4 (hr.mono (by decide))) (by rfl) B.b_len boot_len (pa_cons (pv 3) pa_nil)) (pe_callB (c_len K) (by rfl) B.b_len boot_len (pa_cons (pe_ix (ixL K) (pv 2) pe_int (fun _ _ => rfl)) pa_nil)) (nomark _))))))) (pss_one (ps_ret pe_bl)) pss_nil) (pss_cons (ps_if (PW.pt (pw_or (pt_not (pt_cmpR (op_ownEq q1 q2 (ok_eq B T q3) q4 (hr.mono (by decide))) (pv 3) (pe_mk Mk_Book (hr.mono (by decide)) (by rfl) (pa_cons (pe_ix (ixL K) (pv 2) pe_int (fun _ _ => rfl)) (pa_cons (pe_ix (ixL K) (pv 2) pe_int (fun _ _ => rfl)) (pa_cons (pe_ix (ixL K) (pv 2) pe_int (fun _ _ => rfl)) pa_nil)))) (nomark _))) (pw_or1 (pt_cmpR (op_ownEq q1 q2 (ok_eq B T q3) q4 (hr.mono (by decide))) (pv 3) (pe_tup (pa_cons (pe_ix (ixL K) (pv 2) pe_int (fun _ _ => rfl)) (pa_cons (pe_ix (ixL K) (pv 2) pe_int (fun _ _ => rfl)) (pa_cons (pe_ix (ixL K) (pv 2) pe_int (fun _ _ => rfl)) pa_nil)))) (nomark _))))) (pss_one (ps_ret pe_bl)) pss_nil) (pss_cons (ps_if (PW.pt (pw_or (PW.pt (pw_and (pt_cmpR (o_neV K hr.units) (pe_ix (ixL K) (pv 2) pe_int (fun _ _ => rfl)) (pe_tup pa_nil) (nomark _)) (pw_and1 (pt_cmpR (op_ownEq q1 q2 (ok_eq B T q3) q4 (hr.mono (by decide))) (pv 3) (pe_mk Mk_Book (hr.mono (by decide)) (by rfl) (pa_cons (pe_ix (ixL K) (pv 2) pe_int (fun _ _ => rfl)) (pa_cons (pe_ix (ixL K) (pv 2) pe_int (fun _ _ => rfl)) (pa_cons (pe_slice (slA K) (pe_ix (ixL K) (pv 2) pe_int (fun _ _ => rfl)) (po_some pe_int) po_none) pa_nil)))) (nomark _))))) (pw_or1 (PW.pt (pw_and (pt_cmpR op_lt (pe_ix (ixL K) (pv 2) pe_int (fun _ _ => rfl)) (pe_op op_pow pe_int pe_int) (nomark _)) (pw_and1 (pt_cmpR (op_ownEq q1 q2 (ok_eq B T q3) q4 (hr.mono (by decide))) (pv 3) (pe_mk Mk_Book (hr.mono (by decide)) (by rfl) (pa_cons (pe_ix (ixL K) (pv 2) pe_int (fun _ _ => rfl)) (pa_cons (pe_op op_add (pe_ix (ixL K) (pv 2) pe_int (fun _ _ => rfl)) pe_int) (pa_cons (pe_ix (ixL K) (pv 2) pe_int (fun _ _ => rfl)) pa_nil)))) (nomark _)))))))) (pss_one (ps_ret pe_bl)) pss_nil) (pss_cons (ps_set (i := 4) nd rfl (by first | exact .inl rfl | exact .inr rfl) (pe_callTy (c_tuple K) (by rfl) B.b_tuple boot_tuple (pa_cons (pe_lc (own := [("_law_k", 6)]) rfl nd (pi_range1 (by rfl) B.b_range (pa_cons (pe_ix (ixL K) (pv 2) pe_int (fun _ _ => rfl)) pa_nil)) (blkOk_by (own := [("_law_k", 6)]) (N := N_law) (sc := defScope s_law) (by decide +kernel)) (fun _ _ _ _ _ => (pg_name (i := 6) nd rfl (by first | exact .inl rfl | exact .inr rfl))) (fun _ _ _ _ _ => pts_nil) (fun _ _ _ _ _ => (pe_f D_law_next (hr.mono (by decide)) (by rfl) (pa_cons (pv 1) (pa_cons (pe_op op_add (pe_ix (ixL K) (pv 2) pe_int (fun _ _ => rfl)) pe_int) pa_nil))))) pa_nil))) (pss_cons (ps_set (i := 5) nd rfl (by first | exact .inl rfl | exact .inr rfl) (pe_f D_broken (hr.mono (by decide)) (by rfl) (pa_cons (pv 3) (pa_cons (pv 4) pa_nil)))) (pss_one (ps_ret (pe_and (pe_cmpR (o_eqV K hr.units) (pv 5) (pe_lc (own := [("_law_k", 6)]) rfl nd (pi_range1 (by rfl) B.b_range (pa_cons (pe_callB (c_len K) (by rfl) B.b_len boot_len (pa_cons (pe_ix (ixL K) (pv 2) pe_int (fun _ _ => rfl)) pa_nil)) pa_nil)) (blkOk_by (own := [("_law_k", 6)]) (N := N_law) (sc := defScope s_law) (by decide +kernel)) (fun _ _ _ _ _ => (pg_name (i := 6) nd rfl (by first | exact .inl rfl | exact .inr rfl))) (fun _ _ _ _ _ => (pts_one (pt_not (pt_val (pe_f D_law_holds (hr.mono (by decide)) (by rfl) (pa_cons (pv 4) (pa_cons (pe_ix (ixT K) (pe_ix (ixL K) (pv 2) pe_int (fun _ _ => rfl)) (pv 6) (fun _ _ => rfl)) pa_nil))))))) (fun _ _ _ _ _ => (pv 6))) (nomark _)) (pe_one (pe_callB (c_isi K) (by rfl) B.b_isinstance boot_isinstance (pa_cons (pv 5) (pa_cons (pe_bltn (v := .ty "list") (by rfl) B.b_list boot_list rfl) pa_nil))))))))))))))), ?_⟩
    -- the source, the book's parts
    refine ⟨_, rfl, a, cells, 1, rfl, ha, hcells, fun H1 h c s1 nh nc d1 => ?_⟩
    refine ⟨_, rfl, _, _, rfl, rfl, ⟨by decide, by decide, by decide⟩, (by show 3 ≤ sizeLine; decide), fun p2 hp2 => ?_⟩
    have d2 := d1.upd hp2 (o := HO.lst [V.int 3, V.int 9, V.int (10 ^ (30 : Int).toNat)])
    obtain ⟨p2h, p2c⟩ := d1.new hp2
    refine ⟨_, rfl, h, c, 3, rfl, d2, by decide, by decide, fun t H3 t0 t1 d3 k3 => ?_⟩
    obtain ⟨M, hM, M0, M1⟩ : ∃ M : Int, atI [V.int 3, V.int 9, V.int (10 ^ (30 : Int).toNat)] t = some (.int M) ∧ 0 ≤ M ∧ M ≤ 10 ^ 30 := by
      have ht : t = 0 ∨ t = 1 ∨ t = 2 := by omega
      rcases ht with rfl | rfl | rfl
      · exact ⟨3, rfl, by decide, by decide⟩
      · exact ⟨9, rfl, by decide, by decide⟩
      · exact ⟨_, rfl, by decide, by decide⟩
    refine ⟨p2, _, t, _, rfl, rfl, SqL.of (k3 p2 _ p2h p2c upd_same), hM, ?_⟩
    refine ⟨h, c, 20, M, 12, rfl, d3, by decide, ⟨M0, M1⟩, by decide, fun n m fa fs pb H4 n0 n1 m0 m1 hfl hok d4 k4 hF npb pbh pbc hb => ?_⟩
    -- the book
    refine ⟨_, rfl, pb, _, _, _, rfl, rfl, SqL.of hb, atI_nat (j := 0) rfl, _, rfl, pb, _, _, _, rfl, rfl, SqL.of hb, atI_nat (j := 1) rfl, _, rfl, pb, _, _, _, rfl, rfl, SqL.of hb, atI_nat (j := 2) rfl, ?_⟩
    refine fun x dx nx ndx _ => made nx ndx ⟨n0, n1⟩ ⟨m0, by omega⟩ hF (by omega) hok fun H5 s5 hx => ?_
    have hb5 := s5 _ _ hb
    have hF5 := hF.same s5
    have d5 := d4.same s5
    clear hb hF d4 k4 hM k3 d3 d2 hp2 d1 s1
    obtain ⟨as, hfa, hpp⟩ := id hF5
    have alen : as.length = fs.length := hpp.length
    -- what it holds
    refine ⟨_, rfl, x, dx, _, _, rfl, hx, bf_cells _ _ _, _, rfl, pb, _, _, _, rfl, rfl, SqL.of hb5, atI_nat (j := 0) rfl, rfl, _, rfl, iteNS rfl ?_⟩
    refine ⟨_, rfl, x, dx, _, _, rfl, hx, bf_most _ _ _, _, rfl, pb, _, _, _, rfl, rfl, SqL.of hb5, atI_nat (j := 1) rfl, rfl, _, rfl, iteNS rfl ?_⟩
    refine ⟨_, rfl, x, dx, _, _, rfl, hx, bf_facts _ _ _, _, rfl, pb, _, _, _, rfl, rfl, SqL.of hb5, atI_nat (j := 2) rfl, Tup Fc, inferInstance, inferInstance, Tup.mk fs, Tup.mk fs, hF5.dv, hF5.dv, (by decide), false, by simp, iteF ?_⟩
    refine ⟨_, rfl, x, dx, _, rfl, hx, x, dx, fa, n, m, _, rfl, hx, hfa, _, rfl, by omega, (by rw [List.length_map]; omega), ?_⟩
    refine ⟨_, rfl, pb, _, _, _, rfl, rfl, SqL.of hb5, atI_nat (j := 2) rfl, fa, _, rfl, .inr hfa, rfl, _, rfl, iteNS rfl ?_⟩
    -- equal to one of the same parts, not to their tuple
    refine ⟨_, rfl, _, rfl, pb, _, _, _, rfl, rfl, SqL.of hb5, atI_nat (j := 0) rfl, _, rfl, pb, _, _, _, rfl, rfl, SqL.of hb5, atI_nat (j := 1) rfl, _, rfl, pb, _, _, _, rfl, rfl, SqL.of hb5, atI_nat (j := 2) rfl, ?_⟩
    refine fun x2 dx2 nx2 ndx2 _ => made nx2 ndx2 ⟨n0, n1⟩ ⟨m0, by omega⟩ hF5 (by omega) hok fun H6 s6 hx2 => ?_
    have hx6 := s6 _ _ hx
    have hb6 := s6 _ _ hb5
    have hF6 := hF5.same s6
    refine ⟨x, dx, _, _, rfl, hx6, T.ty hx2, T.nf1, x, dx, fa, n, m, fs, _, rfl, hx6, hF6, .inl ⟨x2, dx2, fa, n, m, fs, rfl, hx2, hF6, true, by simp, iteF ?_⟩⟩
    refine ⟨_, rfl, _, rfl, pb, _, _, _, rfl, rfl, SqL.of hb6, atI_nat (j := 0) rfl, _, rfl, pb, _, _, _, rfl, rfl, SqL.of hb6, atI_nat (j := 1) rfl, _, rfl, pb, _, _, _, rfl, rfl, SqL.of hb6, atI_nat (j := 2) rfl, (by show 3 ≤ sizeLine; decide), fun p7 hp7 => ?_⟩
    have s7 : Same H6 (upd H6 p7 (.tup [.int n, .int m, .ref fa])) := same_upd hp7
    refine ⟨x, dx, _, _, rfl, s7 _ _ hx6, .tup upd_same, T.nf2, x, dx, fa, n, m, fs, _, rfl, s7 _ _ hx6, hF6.same s7, .inr ⟨p7, _, rfl, SqT.of upd_same, false, rfl, iteF ?_⟩⟩
    have s67 := s6.trans s7
    have hx7 := s67 _ _ hx
    have hb7 := s67 _ _ hb5
    have hF7 := hF5.same s67
    have hfa7 := SqT.same s67 hfa
    have d7 := d5.same s67
    have hpp7 : Paired (fun p f => SqT K (upd H6 p7 (.tup [.int n, .int m, .ref fa])) p (Fc.vs f)) as fs := hpp.mono fun _ _ z => SqT.same s67 z
    generalize hH7 : upd H6 p7 (.tup [.int n, .int m, .ref fa]) = H7 at hx7 hb7 hF7 hfa7 d7 hpp7
    clear hH7 s67 s7 hp7 hF6 hb6 hx6 hx2 s6 nx2 ndx2 hpp hfa hF5 hb5 hx d5
    -- behind the third test the law goes on so
    have goOn : ∀ H8, Same H7 H8 → (tSeq (tAsg (tCB (rTupQ K) (tCons (tLc (iRng1 (tCons (tOp (rIxL K) (tVar 2) (tC (V.int 0))) tNil)) (gName 6) tYes
          (tCall spNext [] E0 (tCons (tVar 1) (tCons (tOp (rI0 fun i j => V.int (i + j)) (tOp (rIxL K) (tVar 2) (tC (V.int 1))) (tC (V.int 1))) tNil))) [6]) tNil)) (gName 4))
        (tSeq (tAsg (tCall (spBroken K C) [] E0 (tCons (tVar 3) (tCons (tVar 4) tNil))) (gName 5))
          (tRet (tAndV (tOp (rEqV K false) (tVar 5) (tLc (iRng1 (tCons (tCB (rLenQ K) (tCons (tOp (rIxL K) (tVar 2) (tC (V.int 2))) tNil)) tNil)) (gName 6)
            (tNot (tB (tCall (spLawHolds K) [] E0 (tCons (tVar 4) (tCons (tOp (rIxT K) (tOp (rIxL K) (tVar 2) (tC (V.int 2))) (tVar 6)) tNil))))) (tVar 6) [6]))
            (tCB (rIsi K) (tCons (tVar 5) (tCons (tC (V.ty "list")) tNil))))))) { nx := fun _ H' => Q .non H', rt := Q } [some (.ref a), some (.ref h), some (.ref pb), some (.ref x), none, none, none] H8 := by
      intro H8 s8
      have hb8 := s8 _ _ hb7
      have hx8 := s8 _ _ hx7
      have hF8 := hF7.same s8
      have hfa8 := SqT.same s8 hfa7
      have d8 := d7.same s8
      have hpp8 : Paired (fun p f => SqT K H8 p (Fc.vs f)) as fs := hpp7.mono fun _ _ z => SqT.same s8 z
      -- the row
      refine ⟨_, rfl, pb, _, _, _, rfl, rfl, SqL.of hb8, atI_nat (j := 0) rfl, n, rfl, by omega, by omega, fun D hD => lc_drawn (walk_range (lo := 0) (n := n.toNat)) (fun i H' => Drw H' h c ∧ Keep h c H8 H' ∧ ∃ ns : List Int, H' D = some (.lst (ns.map V.int)) ∧ ns.length = i ∧ ∀ x, x ∈ ns → 0 ≤ x ∧ x ≤ m)
        ⟨d8.upd hD, Keep.refl.upd hD, [], upd_same, rfl, fun x hx => by cases hx⟩ (fun _ _ _ _ => trivial) ?_ ?_⟩
      · rintro i y H9 H9' hi ⟨d9, e9, ns, hns, hl, hxs⟩ ⟨rfl, rfl⟩
        obtain ⟨Dh, Dc⟩ := d8.new hD
        have hb9 := e9 pb _ pbh pbc hb8
        refine ⟨rfl, _, rfl, _, rfl, pb, _, _, _, rfl, rfl, SqL.of hb9, atI_nat (j := 1) rfl, _, _, rfl, rfl, h, c, m + 1, rfl, d9, by omega, by omega, fun y H10 y0 y1 d10 e10 => ?_⟩
        refine ⟨_, e10 D _ Dh Dc hns, ?_, d10.mut Dh Dc, (e9.trans e10).mut hD, ns ++ [y], ?_, ?_, ?_⟩
        · rw [List.length_map, sizeLine_eq]
          omega
        · rw [upd_same, List.map_append]
          rfl
        · rw [List.length_append, hl]
          rfl
        · intro z hz
          rcases List.mem_append.mp hz with e | e
          · exact hxs z e
          · rw [List.mem_singleton.mp e]
            omega
      · rintro H9 ⟨d9, e9, ns, hns, hl, hxs⟩
        have hb9 := e9 pb _ pbh pbc hb8
        have hx9 := Keep.ins d8 e9 hx8
        have hF9 := FactsAt.keep d8 e9 hF8
        have hfa9 := SqT.keep d8 e9 hfa8
        have hpp9 : Paired (fun p f => SqT K H9 p (Fc.vs f)) as fs := hpp8.mono fun _ _ z => SqT.keep d8 e9 z
        refine ⟨D, _, rfl, .inl ⟨SqL.of hns, fun l hl' => ?_⟩⟩
        have s10 : Same H9 (upd H9 l (.tup (ns.map V.int))) := same_upd hl'
        have hrow : SqT K (upd H9 l (.tup (ns.map V.int))) l (ns.map V.int) := SqT.of upd_same
        generalize hH10 : upd H9 l (.tup (ns.map V.int)) = H10 at s10 hrow
        have nlen : ((ns.length : Nat) : Int) = n := by omega
        -- broken
        refine ⟨_, rfl, _, rfl, l, x, dx, fa, n, m, fs, ns, rfl, s10 _ _ hx9, hF9.same s10, by omega, hok, hrow, nlen, by omega, hxs, fun H11 po s11 npo hpo => ?_⟩
        have s910 := s10.trans s11
        have hb11 := s910 _ _ hb9
        have hfa11 := SqT.same s910 hfa9
        have hpp11 : Paired (fun p f => SqT K H11 p (Fc.vs f)) as fs := hpp9.mono fun _ _ z => SqT.same s910 z
        have hrow11 := SqT.same s11 hrow
        -- the own look
        refine ⟨_, rfl, _, rfl, pb, _, _, _, rfl, rfl, SqL.of hb11, atI_nat (j := 2) rfl, fa, _, rfl, .inr hfa11, _, rfl, by omega, (by rw [List.length_map]; omega), fun D2 hD2 =>
          lc_sel (walk_range (lo := 0)) (fun i => !holdsB (fs.getD i zF) ns) (fun i => .int (0 + (i : Int))) hD2 (by rw [List.length_map]; omega) (fun _ _ => trivial) ?_ ?_⟩
        · rintro i y H12 H12' A R hi s12 ⟨rfl, rfl⟩ hA hR
          rw [List.length_map] at hi
          have hia : i < as.length := by omega
          have hif : i < fs.length := by omega
          have h1 : (as.map V.ref)[i]? = some (.ref as[i]) := by
            rw [List.getElem?_map, List.getElem?_eq_getElem hia]
            rfl
          obtain ⟨pf, f, e1, _, hff, hq⟩ := facts_get hpp11 h1
          have e2 : as[i] = pf := V.ref.inj e1
          rw [e2] at h1
          have hokf := hok f (List.mem_of_getElem? hff)
          rw [← nlen] at hokf
          refine ⟨rfl, _, rfl, _, rfl, pb, _, _, _, rfl, rfl, SqL.of (s12 _ _ hb11), atI_nat (j := 2) rfl, _, rfl, fa, _, _, _, rfl, rfl, SqT.same s12 hfa11, at_of (Int.zero_add _) h1, ?_⟩
          refine ⟨pf, l, f, ns, rfl, SqT.same s12 hq, SqT.same s12 hrow11, hokf, fun H13 s13 => ⟨_, rfl, ?_⟩⟩
          rw [getD_of hff] at hA hR
          cases hb : holdsB f ns with
          | true => exact iteF (hR (by rw [hb]; rfl) H13 s13)
          | false => exact iteT ⟨_, rfl, hA (by rw [hb]; rfl) H13 s13⟩
        · intro H12 s12 hD12
          have e1 : selV (as.map V.ref).length (fun i => !holdsB (fs.getD i zF) ns) (fun i => V.int (0 + (i : Int))) = (brk fs ns).map V.int := by
            unfold brk
            rw [selV_map, List.length_map, alen]
            exact selV_congr (fun _ _ => rfl) (fun i _ => by rw [Int.zero_add])
          rw [Int.toNat_natCast, e1] at hD12
          have hpo12 := s12 _ _ hpo
          refine ⟨List Int, inferInstance, inferInstance, brk fs ns, brk fs ns, dv_lst_ints (SqL.of hpo12), dv_lst_ints (SqL.of hD12), (by decide), true, by simp, iteT ?_⟩
          exact ⟨_, rfl, _, _, _, _, true, rfl, .ty _, .base (.lst hpo12), kit_ty (by decide +kernel), q _⟩
    -- unlike one without its first fact
    refine ⟨_, rfl, pb, _, _, _, rfl, rfl, SqL.of hb7, atI_nat (j := 2) rfl, (by show 0 ≤ sizeLine; decide), fun p8 hp8 => ?_⟩
    have s8 : Same H7 (upd H7 p8 (.tup [])) := same_upd hp8
    have hE : Dv K (upd H7 p8 (.tup [])) (.ref p8) (Tup.mk ([] : List Fc)) := dv_tup (SqT.of upd_same) dvAll_nil
    generalize hH8 : upd H7 p8 (.tup []) = H8 at s8 hE
    have hb8 := s8 _ _ hb7
    have hx8 := s8 _ _ hx7
    have hF8 := hF7.same s8
    -- the second half of the test
    have half : ∀ H9, Same H8 H9 → ∀ R : Bool → Hp → Prop, (∀ H', Same H8 H' → R false H') → (tAnd (tTest (tOp (rI0 fun i j => V.bl (decide (i < j))) (tOp (rIxL K) (tVar 2) (tC (V.int 1))) (tOp (rI CPow fun i j => V.int (i ^ j.toNat)) (tC (V.int 10)) (tC (V.int 30)))))
        (tTest (tOp (rOwnEq K C (spEqB K C)) (tVar 3) (tMake C (spInit K C) [] E0 (tCons (tOp (rIxL K) (tVar 2) (tC (V.int 0))) (tCons (tOp (rI0 fun i j => V.int (i + j)) (tOp (rIxL K) (tVar 2) (tC (V.int 1))) (tC (V.int 1)))
          (tCons (tOp (rIxL K) (tVar 2) (tC (V.int 2))) tNil))))))) [some (.ref a), some (.ref h), some (.ref pb), some (.ref x), none, none, none] H9 R := by
      intro H9 s9 R hR
      have hb9 := s9 _ _ hb8
      have hx9 := s9 _ _ hx8
      have hF9 := hF8.same s9
      refine ⟨_, rfl, pb, _, _, _, rfl, rfl, SqL.of hb9, atI_nat (j := 1) rfl, _, _, rfl, rfl, ⟨by decide, by decide, by decide⟩, _, _, rfl, rfl, _, rfl, ?_⟩
      refine ite2 (fun hlt => ?_) (fun _ => hR _ s9)
      have hlt' : m < 10 ^ (30 : Int).toNat := of_decide_eq_true hlt
      have hlt2 : m < 10 ^ 30 := hlt'
      refine ⟨_, rfl, _, rfl, pb, _, _, _, rfl, rfl, SqL.of hb9, atI_nat (j := 0) rfl, _, rfl, pb, _, _, _, rfl, rfl, SqL.of hb9, atI_nat (j := 1) rfl, _, _, rfl, rfl, _, rfl, pb, _, _, _, rfl, rfl, SqL.of hb9, atI_nat (j := 2) rfl, ?_⟩
      refine fun x3 dx3 nx3 ndx3 _ => made nx3 ndx3 ⟨n0, n1⟩ ⟨by omega, by omega⟩ hF9 (by omega) hok fun H10 s10 hx3 => ?_
      exact ⟨x, dx, _, _, rfl, s10 _ _ hx9, T.ty hx3, T.nf1, x, dx, fa, n, m, fs, _, rfl, s10 _ _ hx9, hF9.same s10, .inl ⟨x3, dx3, fa, n, m + 1, fs, rfl, hx3, hF9.same s10, false, by simp; omega, hR _ (s9.trans s10)⟩⟩
    refine ⟨Tup Fc, inferInstance, inferInstance, Tup.mk fs, Tup.mk [], hF8.dv, hE, (by decide), ?_⟩
    by_cases hnil : fs = []
    · refine ⟨false, by simp [hnil], iteF (iteF ?_)⟩
      exact half H8 (Same.refl _) _ fun H' s' => iteF (goOn H' (s8.trans s'))
    · refine ⟨true, by simp [hnil], iteT ?_⟩
      have hfl0 : 0 < fs.length := by
        cases fs with
        | nil => exact absurd rfl hnil
        | cons _ _ => exact Nat.succ_pos _
      have hfa8 := SqT.same s8 hfa7
      refine ⟨_, rfl, _, rfl, pb, _, _, _, rfl, rfl, SqL.of hb8, atI_nat (j := 0) rfl, _, rfl, pb, _, _, _, rfl, rfl, SqL.of hb8, atI_nat (j := 1) rfl, _, rfl, pb, _, _, _, rfl, rfl, SqL.of hb8, atI_nat (j := 2) rfl, _, rfl, fa, _, rfl, hfa8, (fun z => ?_), fun _ p9 hp9 => ?_⟩
      · exfalso
        have z1 := z.1
        rw [sIx_in (by decide) (by rw [List.length_map]; omega)] at z1
        exact absurd z1 (by decide)
      · have s9 : Same H8 (upd H8 p9 (.tup (cutV (as.map V.ref) (some 1) none))) := same_upd hp9
        have hD9 : FactsAt K (upd H8 p9 (.tup (cutV (as.map V.ref) (some 1) none))) p9 (fs.drop 1) := facts_drop (hpp7.mono fun _ _ z => SqT.same (s8.trans s9) z) (SqT.of upd_same)
        refine fun x3 dx3 nx3 ndx3 _ => made nx3 ndx3 ⟨n0, n1⟩ ⟨m0, by omega⟩ hD9 (by rw [List.length_drop]; omega) (fun f hf => hok f (List.mem_of_mem_drop hf)) fun H10 s10 hx3 => ?_
        have s89 := s9.trans s10
        refine ⟨x, dx, _, _, rfl, s89 _ _ hx8, T.ty hx3, T.nf1, x, dx, fa, n, m, fs, _, rfl, s89 _ _ hx8, hF8.same s89, .inl ⟨x3, dx3, p9, n, m, fs.drop 1, rfl, hx3, hD9.same s10, false, ?_, iteF ?_⟩⟩
        · have e : ¬ (n = n ∧ m = m ∧ fs = fs.drop 1) := fun z => by
            have e1 := congrArg List.length z.2.2
            rw [List.length_drop] at e1
            omega
          rw [decide_eq_false e]
        · exact half _ s89 _ fun H' s' => iteF (goOn H' (s8.trans s'))
end
end ST


set_option maxRecDepth 100000
set_option maxHeartbeats 2000000
namespace ST
open PySem PySem.Spec PyProof.Rows L2
section
variable {K : PySem.W.Frag} {h : Heap} {mg : Str → Option Value}
theorem at_mk {x : Str} {st : Stmt} {ps : List Str} {f : Addr} {oc : Value} {od an : Option Addr} {osl : Array (Option Value)} {kV doc pm cdv ct : Value} (X : K.In h) (G : h.Ns mainGlobals mg)
    (a : PySem.W.nsIn K mainGlobals x = some (some (.ref f))) (l : K.lookup f = some ⟨oc, od, .func (PySem.W.fnOf x x (defArgs st) (defBody st) (defScope st) .none kV doc pm an cdv ct), osl⟩)
    (c : PySem.W.codeIn K cdv x = true) (k : PySem.W.keepIn K (.ref f) = true)
    (b : ∀ (kV doc pm : Value) (an : Option Addr) (cdv ct : Value) (us : List Value), us.length = ps.length → bindArgs (PySem.W.fnOf x x (defArgs st) (defBody st) (defScope st) .none kV doc pm an cdv ct) ⟨us, []⟩ = pure (ps.zip us)) : At K mg x st ps :=
  ⟨f, _, PySem.W.mg_of X G a, fun_mk l c k, (fun_mk l c k).binds b⟩
theorem cst_mk {x : Str} {n : Int} {t : Tok} (X : K.In h) (G : h.Ns mainGlobals mg) (a : PySem.W.nsIn K mainGlobals x = some (some (.int n t))) : ∃ t, mg x = some (.int n t) := ⟨t, PySem.W.mg_of X G a⟩
theorem mth_mk {C f : Addr} {x qual : Str} {st : Stmt} {ps : List Str} {oc : Value} {od an : Option Addr} {osl : Array (Option Value)} {kV doc pm cdv ct : Value}
    (a : PySem.W.findIn K (.ref C) x = some (some (.ref f))) (i : PySem.W.isFn K (.ref f) = true) (l : K.lookup f = some ⟨oc, od, .func (PySem.W.fnOf x qual (defArgs st) (defBody st) (defScope st) .none kV doc pm an cdv ct), osl⟩)
    (c : PySem.W.codeIn K cdv qual = true) (k : PySem.W.keepIn K (.ref f) = true)
    (b : ∀ (kV doc pm : Value) (an : Option Addr) (cdv ct : Value) (us : List Value), us.length = ps.length → bindArgs (PySem.W.fnOf x qual (defArgs st) (defBody st) (defScope st) .none kV doc pm an cdv ct) ⟨us, []⟩ = pure (ps.zip us)) :
    ∃ g fd, PySem.W.findIn K (.ref C) x = some (some (.ref g)) ∧ PySem.W.isFn K (.ref g) = true ∧ Fun K x qual st g fd ∧ Binds K fd ps [] := ⟨f, _, a, i, fun_mk l c k, (fun_mk l c k).binds b⟩
theorem ini_mk {C f : Addr} {qual : Str} {st : Stmt} {ps : List Str} {oc : Value} {od an : Option Addr} {osl : Array (Option Value)} {kV doc pm cdv ct : Value}
    (m : PySem.W.makesIn K C = true) (a : PySem.W.findIn K (.ref C) "__init__" = some (some (.ref f))) (i : PySem.W.isFn K (.ref f) = true) (kc : PySem.W.keepIn K (.ref C) = true)
    (l : K.lookup f = some ⟨oc, od, .func (PySem.W.fnOf "__init__" qual (defArgs st) (defBody st) (defScope st) .none kV doc pm an cdv ct), osl⟩)
    (c : PySem.W.codeIn K cdv qual = true) (k : PySem.W.keepIn K (.ref f) = true)
    (b : ∀ (kV doc pm : Value) (an : Option Addr) (cdv ct : Value) (us : List Value), us.length = ps.length → bindArgs (PySem.W.fnOf "__init__" qual (defArgs st) (defBody st) (defScope st) .none kV doc pm an cdv ct) ⟨us, []⟩ = pure (ps.zip us)) :
    ∃ f fd, Mk K C f ∧ Fun K "__init__" qual st f fd ∧ Binds K fd ps [] := ⟨f, _, ⟨m, a, i, kc⟩, fun_mk l c k, (fun_mk l c k).binds b⟩
theorem prp_mk {C p g : Addr} {x qual : Str} {st : Stmt} {rest : List Value} {oc : Value} {od an : Option Addr} {osl : Array (Option Value)} {kV doc pm cdv ct : Value}
    (a : PySem.W.findIn K (.ref C) x = some (some (.ref p))) (s : PySem.W.specialIn K (.ref p) "__get__" = some (some (.builtin "property.__get__"))) (t : PySem.W.takesIn K (.ref p) = some true) (r : PySem.W.recIn K p "property" = some (.ref g :: rest))
    (l : K.lookup g = some ⟨oc, od, .func (PySem.W.fnOf x qual (defArgs st) (defBody st) (defScope st) .none kV doc pm an cdv ct), osl⟩)
    (c : PySem.W.codeIn K cdv qual = true) (k : PySem.W.keepIn K (.ref g) = true)
    (b : ∀ (kV doc pm : Value) (an : Option Addr) (cdv ct : Value) (us : List Value), us.length = (["self"] : List Str).length → bindArgs (PySem.W.fnOf x qual (defArgs st) (defBody st) (defScope st) .none kV doc pm an cdv ct) ⟨us, []⟩ = pure ((["self"] : List Str).zip us)) :
    ∃ p g fd, PropOf K C x p g ∧ Fun K x qual st g fd ∧ Binds K fd ["self"] [] := ⟨p, g, _, ⟨a, s, t, rest, r⟩, fun_mk l c k, (fun_mk l c k).binds b⟩
end
theorem walk {l : PySem.W.OpenLaw} {q : Program} {loose : List Str} {XP : (Str → Option Value) → Heap → Prop} {YP : World → Heap → Prop} {d : DefRec} {K : Params → PySem.W.Frag} {k : Nat} {sp : World → Sp} (hn : l.most = some 63) (hdf : d.params.defaults = []) (hk : k ≤ 20)
    (hY : ∀ (w : World) (h : Heap), YP w h → (K w.params).In h)
    (F : ∀ (w : World) (mg : Str → Option Value) (fa : Addr) (h : Heap), (K w.params).In h → h.Ns mainGlobals mg → mg d.name = some (.ref fa) →
      ∃ fd : FuncData, (∀ (s : Shared) (u : Value), BindsTo s fd ⟨[u], []⟩ [("_law_script", u)]) ∧ ∀ base : Heap, (K w.params).In base → base.Ns mainGlobals mg → FnOk l.prog w (K w.params) mg base CX0 k fa fd ["_law_script"] (sp w))
    (hsp : ∀ (w : World) (H : Hp) (a : Addr) (ns : List Int), ns.length ≤ 63 → Only H → SqL (K w.params) H a (ns.map V.int) → sp w [.ref a] H (fun v _ => v = .bl true) fun _ _ _ => False) :
    PySem.W.WalkO q loose XP YP l.row.toRowW d [] (fun f vs => PySem.call f vs) := by
  have hr : Room 20 callerA := ⟨rfl, by decide, by decide⟩
  exact L2.walk_of (n := 63) (k := k) (x := "_law_script") (CX := fun _ => CX0) (sp := sp) hn (by decide) hdf (hr.mono hk) hY F hsp fun _ _ _ _ _ z => z
end ST

set_option maxRecDepth 100000
namespace ST
open PySem PySem.Spec PyProof.Rows L2
set_option maxHeartbeats 4000000 in
theorem all_mk {P : Program} {w : World} {K : PySem.W.Frag} {h : Heap} {mg : Str → Option Value} {fa : Addr}
    {t_MOST_CELLS : Tok}
    {t_GREATEST_MOST : Tok}
    {t_MOST_FACTS : Tok}
    {t_GREATEST_TOLD : Tok}
    {C : Addr}
    {f_init : Addr}
    {oc1 kV1 dc1 pm1 cd1 ct1 : Value} {od1 an1 : Option Addr} {sl1 : Array (Option Value)}
    {p_cells g_cells : Addr} {r_cells : List Value}
    {oc2 kV2 dc2 pm2 cd2 ct2 : Value} {od2 an2 : Option Addr} {sl2 : Array (Option Value)}
    {p_most g_most : Addr} {r_most : List Value}
    {oc3 kV3 dc3 pm3 cd3 ct3 : Value} {od3 an3 : Option Addr} {sl3 : Array (Option Value)}
    {p_facts g_facts : Addr} {r_facts : List Value}
    {oc4 kV4 dc4 pm4 cd4 ct4 : Value} {od4 an4 : Option Addr} {sl4 : Array (Option Value)}
    {f_len : Addr}
    {oc5 kV5 dc5 pm5 cd5 ct5 : Value} {od5 an5 : Option Addr} {sl5 : Array (Option Value)}
    {f_eq : Addr}
    {oc6 kV6 dc6 pm6 cd6 ct6 : Value} {od6 an6 : Option Addr} {sl6 : Array (Option Value)}
    {f_is_integer : Addr}
    {oc7 kV7 dc7 pm7 cd7 ct7 : Value} {od7 an7 : Option Addr} {sl7 : Array (Option Value)}
    {f_is_between : Addr}
    {oc8 kV8 dc8 pm8 cd8 ct8 : Value} {od8 an8 : Option Addr} {sl8 : Array (Option Value)}
    {f_is_stretch : Addr}
    {oc9 kV9 dc9 pm9 cd9 ct9 : Value} {od9 an9 : Option Addr} {sl9 : Array (Option Value)}
    {f_is_fact : Addr}
    {oc10 kV10 dc10 pm10 cd10 ct10 : Value} {od10 an10 : Option Addr} {sl10 : Array (Option Value)}
    {f_check_facts : Addr}
    {oc11 kV11 dc11 pm11 cd11 ct11 : Value} {od11 an11 : Option Addr} {sl11 : Array (Option Value)}
    {f_is_row : Addr}
    {oc12 kV12 dc12 pm12 cd12 ct12 : Value} {od12 an12 : Option Addr} {sl12 : Array (Option Value)}
    {f_check_book : Addr}
    {oc13 kV13 dc13 pm13 cd13 ct13 : Value} {od13 an13 : Option Addr} {sl13 : Array (Option Value)}
    {f_check_row : Addr}
    {oc14 kV14 dc14 pm14 cd14 ct14 : Value} {od14 an14 : Option Addr} {sl14 : Array (Option Value)}
    {f_holds : Addr}
    {oc15 kV15 dc15 pm15 cd15 ct15 : Value} {od15 an15 : Option Addr} {sl15 : Array (Option Value)}
    {f_broken : Addr}
    {oc16 kV16 dc16 pm16 cd16 ct16 : Value} {od16 an16 : Option Addr} {sl16 : Array (Option Value)}
    {f_law_mix : Addr}
    {oc17 kV17 dc17 pm17 cd17 ct17 : Value} {od17 an17 : Option Addr} {sl17 : Array (Option Value)}
    {f_law_next : Addr}
    {oc18 kV18 dc18 pm18 cd18 ct18 : Value} {od18 an18 : Option Addr} {sl18 : Array (Option Value)}
    {f_law_stretch : Addr}
    {oc19 kV19 dc19 pm19 cd19 ct19 : Value} {od19 an19 : Option Addr} {sl19 : Array (Option Value)}
    {f_law_fact : Addr}
    {oc20 kV20 dc20 pm20 cd20 ct20 : Value} {od20 an20 : Option Addr} {sl20 : Array (Option Value)}
    {f_law_book : Addr}
    {oc21 kV21 dc21 pm21 cd21 ct21 : Value} {od21 an21 : Option Addr} {sl21 : Array (Option Value)}
    {f_law_holds : Addr}
    {oc22 kV22 dc22 pm22 cd22 ct22 : Value} {od22 an22 : Option Addr} {sl22 : Array (Option Value)}
    {f_law : Addr}
    {oc23 kV23 dc23 pm23 cd23 ct23 : Value} {od23 an23 : Option Addr} {sl23 : Array (Option Value)}
    (X : K.In h) (G : h.Ns mainGlobals mg) (hfa : mg "law" = some (.ref fa))
    (z_isinstance : PySem.W.nsIn K mainGlobals "isinstance" = some none)
    (z_int : PySem.W.nsIn K mainGlobals "int" = some none)
    (z_bool : PySem.W.nsIn K mainGlobals "bool" = some none)
    (z_tuple : PySem.W.nsIn K mainGlobals "tuple" = some none)
    (z_list : PySem.W.nsIn K mainGlobals "list" = some none)
    (z_len : PySem.W.nsIn K mainGlobals "len" = some none)
    (z_all : PySem.W.nsIn K mainGlobals "all" = some none)
    (z_any : PySem.W.nsIn K mainGlobals "any" = some none)
    (z_sum : PySem.W.nsIn K mainGlobals "sum" = some none)
    (z_max : PySem.W.nsIn K mainGlobals "max" = some none)
    (z_min : PySem.W.nsIn K mainGlobals "min" = some none)
    (z_range : PySem.W.nsIn K mainGlobals "range" = some none)
    (z_enumerate : PySem.W.nsIn K mainGlobals "enumerate" = some none)
    (z_zip : PySem.W.nsIn K mainGlobals "zip" = some none)
    (n_MOST_CELLS : PySem.W.nsIn K mainGlobals "MOST_CELLS" = some (some (.int 20 t_MOST_CELLS)))
    (n_GREATEST_MOST : PySem.W.nsIn K mainGlobals "GREATEST_MOST" = some (some (.int 1000000000000000000000000000000 t_GREATEST_MOST)))
    (n_MOST_FACTS : PySem.W.nsIn K mainGlobals "MOST_FACTS" = some (some (.int 12 t_MOST_FACTS)))
    (n_GREATEST_TOLD : PySem.W.nsIn K mainGlobals "GREATEST_TOLD" = some (some (.int 100000000000000000000000000000000 t_GREATEST_TOLD)))
    (gC : PySem.W.nsIn K mainGlobals "Book" = some (some (.ref C)))
    (pg : PySem.W.plainGet K C Str.empty = true)
    (hd : PySem.W.hasDictIn K C = true)
    (po : PySem.W.plainOver K C = true)
    (sa : PySem.W.findIn K (.ref C) "__setattr__" = some (some (.builtin "object.__setattr__")))
    (no_cells : PySem.W.findIn K (.ref C) "_cells" = some none)
    (no_most : PySem.W.findIn K (.ref C) "_most" = some none)
    (no_facts : PySem.W.findIn K (.ref C) "_facts" = some none)
    (mk : PySem.W.makesIn K C = true)
    (a_init : PySem.W.findIn K (.ref C) "__init__" = some (some (.ref f_init)))
    (i_init : PySem.W.isFn K (.ref f_init) = true)
    (kc : PySem.W.keepIn K (.ref C) = true)
    (l1 : K.lookup f_init = some ⟨oc1, od1, .func (PySem.W.fnOf "__init__" "Book.__init__" (defArgs s_Book_init) (defBody s_Book_init) (defScope s_Book_init) .none kV1 dc1 pm1 an1 cd1 ct1), sl1⟩)
    (c1 : PySem.W.codeIn K cd1 "Book.__init__" = true) (k1 : PySem.W.keepIn K (.ref f_init) = true)
    (a_cells : PySem.W.findIn K (.ref C) "cells" = some (some (.ref p_cells)))
    (s_cells : PySem.W.specialIn K (.ref p_cells) "__get__" = some (some (.builtin "property.__get__")))
    (t_cells : PySem.W.takesIn K (.ref p_cells) = some true)
    (e_cells : PySem.W.recIn K p_cells "property" = some (.ref g_cells :: r_cells))
    (l2 : K.lookup g_cells = some ⟨oc2, od2, .func (PySem.W.fnOf "cells" "Book.cells" (defArgs s_Book_cells) (defBody s_Book_cells) (defScope s_Book_cells) .none kV2 dc2 pm2 an2 cd2 ct2), sl2⟩)
    (c2 : PySem.W.codeIn K cd2 "Book.cells" = true) (k2 : PySem.W.keepIn K (.ref g_cells) = true)
    (a_most : PySem.W.findIn K (.ref C) "most" = some (some (.ref p_most)))
    (s_most : PySem.W.specialIn K (.ref p_most) "__get__" = some (some (.builtin "property.__get__")))
    (t_most : PySem.W.takesIn K (.ref p_most) = some true)
    (e_most : PySem.W.recIn K p_most "property" = some (.ref g_most :: r_most))
    (l3 : K.lookup g_most = some ⟨oc3, od3, .func (PySem.W.fnOf "most" "Book.most" (defArgs s_Book_most) (defBody s_Book_most) (defScope s_Book_most) .none kV3 dc3 pm3 an3 cd3 ct3), sl3⟩)
    (c3 : PySem.W.codeIn K cd3 "Book.most" = true) (k3 : PySem.W.keepIn K (.ref g_most) = true)
    (a_facts : PySem.W.findIn K (.ref C) "facts" = some (some (.ref p_facts)))
    (s_facts : PySem.W.specialIn K (.ref p_facts) "__get__" = some (some (.builtin "property.__get__")))
    (t_facts : PySem.W.takesIn K (.ref p_facts) = some true)
    (e_facts : PySem.W.recIn K p_facts "property" = some (.ref g_facts :: r_facts))
    (l4 : K.lookup g_facts = some ⟨oc4, od4, .func (PySem.W.fnOf "facts" "Book.facts" (defArgs s_Book_facts) (defBody s_Book_facts) (defScope s_Book_facts) .none kV4 dc4 pm4 an4 cd4 ct4), sl4⟩)
    (c4 : PySem.W.codeIn K cd4 "Book.facts" = true) (k4 : PySem.W.keepIn K (.ref g_facts) = true)
    (a_len : PySem.W.findIn K (.ref C) "__len__" = some (some (.ref f_len)))
    (i_len : PySem.W.isFn K (.ref f_len) = true)
    (l5 : K.lookup f_len = some ⟨oc5, od5, .func (PySem.W.fnOf "__len__" "Book.__len__" (defArgs s_Book_len) (defBody s_Book_len) (defScope s_Book_len) .none kV5 dc5 pm5 an5 cd5 ct5), sl5⟩)
    (c5 : PySem.W.codeIn K cd5 "Book.__len__" = true) (k5 : PySem.W.keepIn K (.ref f_len) = true)
    (a_eq : PySem.W.findIn K (.ref C) "__eq__" = some (some (.ref f_eq)))
    (i_eq : PySem.W.isFn K (.ref f_eq) = true)
    (l6 : K.lookup f_eq = some ⟨oc6, od6, .func (PySem.W.fnOf "__eq__" "Book.__eq__" (defArgs s_Book_eq) (defBody s_Book_eq) (defScope s_Book_eq) .none kV6 dc6 pm6 an6 cd6 ct6), sl6⟩)
    (c6 : PySem.W.codeIn K cd6 "Book.__eq__" = true) (k6 : PySem.W.keepIn K (.ref f_eq) = true)
    (ca : PySem.W.findIn K (.ref C) "__class__" = some (some (.builtin "object.__class__")))
    (cn : PySem.W.specialIn K (.builtin "object.__class__") "__get__" = some (some (.builtin "getset_descriptor.__get__")))
    (ct : PySem.W.takesIn K (.builtin "object.__class__") = some true)
    (cm : PySem.W.mroIn K C (.type "object") = some true)
    (kit1 : PySem.W.kitOne K (.ref C) (.ref C) = some true)
    (kit2 : PySem.W.kitOne K (.type "tuple") (.ref C) = some false)
    (nf1 : PySem.W.notFirst K C (.ref C) = true)
    (nf2 : PySem.W.notFirst K C (.type "tuple") = true)
    (a_is_integer : PySem.W.nsIn K mainGlobals "is_integer" = some (some (.ref f_is_integer)))
    (l7 : K.lookup f_is_integer = some ⟨oc7, od7, .func (PySem.W.fnOf "is_integer" "is_integer" (defArgs s_is_integer) (defBody s_is_integer) (defScope s_is_integer) .none kV7 dc7 pm7 an7 cd7 ct7), sl7⟩)
    (c7 : PySem.W.codeIn K cd7 "is_integer" = true) (k7 : PySem.W.keepIn K (.ref f_is_integer) = true)
    (a_is_between : PySem.W.nsIn K mainGlobals "is_between" = some (some (.ref f_is_between)))
    (l8 : K.lookup f_is_between = some ⟨oc8, od8, .func (PySem.W.fnOf "is_between" "is_between" (defArgs s_is_between) (defBody s_is_between) (defScope s_is_between) .none kV8 dc8 pm8 an8 cd8 ct8), sl8⟩)
    (c8 : PySem.W.codeIn K cd8 "is_between" = true) (k8 : PySem.W.keepIn K (.ref f_is_between) = true)
    (a_is_stretch : PySem.W.nsIn K mainGlobals "is_stretch" = some (some (.ref f_is_stretch)))
    (l9 : K.lookup f_is_stretch = some ⟨oc9, od9, .func (PySem.W.fnOf "is_stretch" "is_stretch" (defArgs s_is_stretch) (defBody s_is_stretch) (defScope s_is_stretch) .none kV9 dc9 pm9 an9 cd9 ct9), sl9⟩)
    (c9 : PySem.W.codeIn K cd9 "is_stretch" = true) (k9 : PySem.W.keepIn K (.ref f_is_stretch) = true)
    (a_is_fact : PySem.W.nsIn K mainGlobals "is_fact" = some (some (.ref f_is_fact)))
    (l10 : K.lookup f_is_fact = some ⟨oc10, od10, .func (PySem.W.fnOf "is_fact" "is_fact" (defArgs s_is_fact) (defBody s_is_fact) (defScope s_is_fact) .none kV10 dc10 pm10 an10 cd10 ct10), sl10⟩)
    (c10 : PySem.W.codeIn K cd10 "is_fact" = true) (k10 : PySem.W.keepIn K (.ref f_is_fact) = true)
    (a_check_facts : PySem.W.nsIn K mainGlobals "check_facts" = some (some (.ref f_check_facts)))
    (l11 : K.lookup f_check_facts = some ⟨oc11, od11, .func (PySem.W.fnOf "check_facts" "check_facts" (defArgs s_check_facts) (defBody s_check_facts) (defScope s_check_facts) .none kV11 dc11 pm11 an11 cd11 ct11), sl11⟩)
    (c11 : PySem.W.codeIn K cd11 "check_facts" = true) (k11 : PySem.W.keepIn K (.ref f_check_facts) = true)
    (a_is_row : PySem.W.nsIn K mainGlobals "is_row" = some (some (.ref f_is_row)))
    (l12 : K.lookup f_is_row = some ⟨oc12, od12, .func (PySem.W.fnOf "is_row" "is_row" (defArgs s_is_row) (defBody s_is_row) (defScope s_is_row) .none kV12 dc12 pm12 an12 cd12 ct12), sl12⟩)
    (c12 : PySem.W.codeIn K cd12 "is_row" = true) (k12 : PySem.W.keepIn K (.ref f_is_row) = true)
    (a_check_book : PySem.W.nsIn K mainGlobals "check_book" = some (some (.ref f_check_book)))
    (l13 : K.lookup f_check_book = some ⟨oc13, od13, .func (PySem.W.fnOf "check_book" "check_book" (defArgs s_check_book) (defBody s_check_book) (defScope s_check_book) .none kV13 dc13 pm13 an13 cd13 ct13), sl13⟩)
    (c13 : PySem.W.codeIn K cd13 "check_book" = true) (k13 : PySem.W.keepIn K (.ref f_check_book) = true)
    (a_check_row : PySem.W.nsIn K mainGlobals "check_row" = some (some (.ref f_check_row)))
    (l14 : K.lookup f_check_row = some ⟨oc14, od14, .func (PySem.W.fnOf "check_row" "check_row" (defArgs s_check_row) (defBody s_check_row) (defScope s_check_row) .none kV14 dc14 pm14 an14 cd14 ct14), sl14⟩)
    (c14 : PySem.W.codeIn K cd14 "check_row" = true) (k14 : PySem.W.keepIn K (.ref f_check_row) = true)
    (a_holds : PySem.W.nsIn K mainGlobals "holds" = some (some (.ref f_holds)))
    (l15 : K.lookup f_holds = some ⟨oc15, od15, .func (PySem.W.fnOf "holds" "holds" (defArgs s_holds) (defBody s_holds) (defScope s_holds) .none kV15 dc15 pm15 an15 cd15 ct15), sl15⟩)
    (c15 : PySem.W.codeIn K cd15 "holds" = true) (k15 : PySem.W.keepIn K (.ref f_holds) = true)
    (a_broken : PySem.W.nsIn K mainGlobals "broken" = some (some (.ref f_broken)))
    (l16 : K.lookup f_broken = some ⟨oc16, od16, .func (PySem.W.fnOf "broken" "broken" (defArgs s_broken) (defBody s_broken) (defScope s_broken) .none kV16 dc16 pm16 an16 cd16 ct16), sl16⟩)
    (c16 : PySem.W.codeIn K cd16 "broken" = true) (k16 : PySem.W.keepIn K (.ref f_broken) = true)
    (a_law_mix : PySem.W.nsIn K mainGlobals "_law_mix" = some (some (.ref f_law_mix)))
    (l17 : K.lookup f_law_mix = some ⟨oc17, od17, .func (PySem.W.fnOf "_law_mix" "_law_mix" (defArgs s_law_mix) (defBody s_law_mix) (defScope s_law_mix) .none kV17 dc17 pm17 an17 cd17 ct17), sl17⟩)
    (c17 : PySem.W.codeIn K cd17 "_law_mix" = true) (k17 : PySem.W.keepIn K (.ref f_law_mix) = true)
    (a_law_next : PySem.W.nsIn K mainGlobals "_law_next" = some (some (.ref f_law_next)))
    (l18 : K.lookup f_law_next = some ⟨oc18, od18, .func (PySem.W.fnOf "_law_next" "_law_next" (defArgs s_law_next) (defBody s_law_next) (defScope s_law_next) .none kV18 dc18 pm18 an18 cd18 ct18), sl18⟩)
    (c18 : PySem.W.codeIn K cd18 "_law_next" = true) (k18 : PySem.W.keepIn K (.ref f_law_next) = true)
    (a_law_stretch : PySem.W.nsIn K mainGlobals "_law_stretch" = some (some (.ref f_law_stretch)))
    (l19 : K.lookup f_law_stretch = some ⟨oc19, od19, .func (PySem.W.fnOf "_law_stretch" "_law_stretch" (defArgs s_law_stretch) (defBody s_law_stretch) (defScope s_law_stretch) .none kV19 dc19 pm19 an19 cd19 ct19), sl19⟩)
    (c19 : PySem.W.codeIn K cd19 "_law_stretch" = true) (k19 : PySem.W.keepIn K (.ref f_law_stretch) = true)
    (a_law_fact : PySem.W.nsIn K mainGlobals "_law_fact" = some (some (.ref f_law_fact)))
    (l20 : K.lookup f_law_fact = some ⟨oc20, od20, .func (PySem.W.fnOf "_law_fact" "_law_fact" (defArgs s_law_fact) (defBody s_law_fact) (defScope s_law_fact) .none kV20 dc20 pm20 an20 cd20 ct20), sl20⟩)
    (c20 : PySem.W.codeIn K cd20 "_law_fact" = true) (k20 : PySem.W.keepIn K (.ref f_law_fact) = true)
    (a_law_book : PySem.W.nsIn K mainGlobals "_law_book" = some (some (.ref f_law_book)))
    (l21 : K.lookup f_law_book = some ⟨oc21, od21, .func (PySem.W.fnOf "_law_book" "_law_book" (defArgs s_law_book) (defBody s_law_book) (defScope s_law_book) .none kV21 dc21 pm21 an21 cd21 ct21), sl21⟩)
    (c21 : PySem.W.codeIn K cd21 "_law_book" = true) (k21 : PySem.W.keepIn K (.ref f_law_book) = true)
    (a_law_holds : PySem.W.nsIn K mainGlobals "_law_holds" = some (some (.ref f_law_holds)))
    (l22 : K.lookup f_law_holds = some ⟨oc22, od22, .func (PySem.W.fnOf "_law_holds" "_law_holds" (defArgs s_law_holds) (defBody s_law_holds) (defScope s_law_holds) .none kV22 dc22 pm22 an22 cd22 ct22), sl22⟩)
    (c22 : PySem.W.codeIn K cd22 "_law_holds" = true) (k22 : PySem.W.keepIn K (.ref f_law_holds) = true)
    (a_law : PySem.W.nsIn K mainGlobals "law" = some (some (.ref f_law)))
    (l23 : K.lookup f_law = some ⟨oc23, od23, .func (PySem.W.fnOf "law" "law" (defArgs s_law) (defBody s_law) (defScope s_law) .none kV23 dc23 pm23 an23 cd23 ct23), sl23⟩)
    (c23 : PySem.W.codeIn K cd23 "law" = true) (k23 : PySem.W.keepIn K (.ref f_law) = true)
    : ∃ fd : FuncData, (∀ (s : Shared) (u : Value), BindsTo s fd ⟨[u], []⟩ [("_law_script", u)]) ∧ ∀ base : Heap, K.In base → base.Ns mainGlobals mg → FnOk P w K mg base CX0 9 fa fd ["_law_script"] (spLaw K) := by
  have e := hfa.symm.trans (PySem.W.mg_of X G a_law)
  cases e
  have B : Blt mg := ⟨PySem.W.mg_none_of X G z_isinstance, PySem.W.mg_none_of X G z_int, PySem.W.mg_none_of X G z_bool, PySem.W.mg_none_of X G z_tuple, PySem.W.mg_none_of X G z_list, PySem.W.mg_none_of X G z_len, PySem.W.mg_none_of X G z_all, PySem.W.mg_none_of X G z_any, PySem.W.mg_none_of X G z_sum, PySem.W.mg_none_of X G z_max, PySem.W.mg_none_of X G z_min, PySem.W.mg_none_of X G z_range, PySem.W.mg_none_of X G z_enumerate, PySem.W.mg_none_of X G z_zip⟩
  have Z : Cst mg := ⟨cst_mk X G n_MOST_CELLS, cst_mk X G n_GREATEST_MOST, cst_mk X G n_MOST_FACTS, cst_mk X G n_GREATEST_TOLD⟩
  have T : BookT K mg C := { cls := ⟨pg, hd, po, sa⟩, nC := no_cells, nM := no_most, nF := no_facts, mgC := PySem.W.mg_of X G gC, ca := ca, cn := cn, ct := ct, cm := cm, kit1 := kit1, kit2 := kit2, nf1 := nf1, nf2 := nf2, init := ini_mk mk a_init i_init kc l1 c1 k1 (fun _ _ _ _ _ _ us hl => match us, hl with | [_, _, _, _], _ => rfl), pC := prp_mk a_cells s_cells t_cells e_cells l2 c2 k2 (fun _ _ _ _ _ _ us hl => match us, hl with | [_], _ => rfl), pM := prp_mk a_most s_most t_most e_most l3 c3 k3 (fun _ _ _ _ _ _ us hl => match us, hl with | [_], _ => rfl), pF := prp_mk a_facts s_facts t_facts e_facts l4 c4 k4 (fun _ _ _ _ _ _ us hl => match us, hl with | [_], _ => rfl), len := mth_mk a_len i_len l5 c5 k5 (fun _ _ _ _ _ _ us hl => match us, hl with | [_], _ => rfl), eq := mth_mk a_eq i_eq l6 c6 k6 (fun _ _ _ _ _ _ us hl => match us, hl with | [_, _], _ => rfl) }
  have A_is_integer : At K mg "is_integer" s_is_integer ["value"] := at_mk X G a_is_integer l7 c7 k7 (fun _ _ _ _ _ _ us hl => match us, hl with | [_], _ => rfl)
  have A_is_between : At K mg "is_between" s_is_between ["value", "low", "high"] := at_mk X G a_is_between l8 c8 k8 (fun _ _ _ _ _ _ us hl => match us, hl with | [_, _, _], _ => rfl)
  have A_is_stretch : At K mg "is_stretch" s_is_stretch ["begin", "end", "cells"] := at_mk X G a_is_stretch l9 c9 k9 (fun _ _ _ _ _ _ us hl => match us, hl with | [_, _, _], _ => rfl)
  have A_is_fact : At K mg "is_fact" s_is_fact ["value", "cells"] := at_mk X G a_is_fact l10 c10 k10 (fun _ _ _ _ _ _ us hl => match us, hl with | [_, _], _ => rfl)
  have A_check_facts : At K mg "check_facts" s_check_facts ["facts", "cells"] := at_mk X G a_check_facts l11 c11 k11 (fun _ _ _ _ _ _ us hl => match us, hl with | [_, _], _ => rfl)
  have A_is_row : At K mg "is_row" s_is_row ["value", "book"] := at_mk X G a_is_row l12 c12 k12 (fun _ _ _ _ _ _ us hl => match us, hl with | [_, _], _ => rfl)
  have A_check_book : At K mg "check_book" s_check_book ["book"] := at_mk X G a_check_book l13 c13 k13 (fun _ _ _ _ _ _ us hl => match us, hl with | [_], _ => rfl)
  have A_check_row : At K mg "check_row" s_check_row ["book", "row"] := at_mk X G a_check_row l14 c14 k14 (fun _ _ _ _ _ _ us hl => match us, hl with | [_, _], _ => rfl)
  have A_holds : At K mg "holds" s_holds ["fact", "row"] := at_mk X G a_holds l15 c15 k15 (fun _ _ _ _ _ _ us hl => match us, hl with | [_, _], _ => rfl)
  have A_broken : At K mg "broken" s_broken ["book", "row"] := at_mk X G a_broken l16 c16 k16 (fun _ _ _ _ _ _ us hl => match us, hl with | [_, _], _ => rfl)
  have A_law_mix : At K mg "_law_mix" s_law_mix ["_law_script", "_law_seed"] := at_mk X G a_law_mix l17 c17 k17 (fun _ _ _ _ _ _ us hl => match us, hl with | [_, _], _ => rfl)
  have A_law_next : At K mg "_law_next" s_law_next ["_law_h", "_law_bound"] := at_mk X G a_law_next l18 c18 k18 (fun _ _ _ _ _ _ us hl => match us, hl with | [_, _], _ => rfl)
  have A_law_stretch : At K mg "_law_stretch" s_law_stretch ["_law_h", "_law_cells"] := at_mk X G a_law_stretch l19 c19 k19 (fun _ _ _ _ _ _ us hl => match us, hl with | [_, _], _ => rfl)
  have A_law_fact : At K mg "_law_fact" s_law_fact ["_law_h", "_law_row", "_law_loose"] := at_mk X G a_law_fact l20 c20 k20 (fun _ _ _ _ _ _ us hl => match us, hl with | [_, _, _], _ => rfl)
  have A_law_book : At K mg "_law_book" s_law_book ["_law_h", "_law_cells", "_law_most", "_law_many"] := at_mk X G a_law_book l21 c21 k21 (fun _ _ _ _ _ _ us hl => match us, hl with | [_, _, _, _], _ => rfl)
  have A_law_holds : At K mg "_law_holds" s_law_holds ["_law_row", "_law_fact_here"] := at_mk X G a_law_holds l22 c22 k22 (fun _ _ _ _ _ _ us hl => match us, hl with | [_, _], _ => rfl)
  refine ⟨PySem.W.fnOf "law" "law" (defArgs s_law) (defBody s_law) (defScope s_law) .none kV23 dc23 pm23 an23 cd23 ct23, fun s u => .of_eq rfl, fun base _ _ => ?_⟩
  have FL := fun_mk (st := s_law) l23 c23 k23
  have D1 := ok_is_integer (P := P) (w := w) (base := base) B A_is_integer
  have D2 := ok_is_between D1 A_is_between
  have D3 := ok_is_stretch D2 A_is_stretch
  have D4 := ok_is_fact B Z D2 D3 A_is_fact
  have D5 := ok_check_facts B Z D4 A_check_facts
  have M := ok_init Z T D2 D5
  have G1 := ok_cells (P := P) (w := w) (base := base) T
  have G2 := ok_most (P := P) (w := w) (base := base) T
  have G3 := ok_facts (P := P) (w := w) (base := base) T
  have D6 := ok_is_row B T G1 G2 D2 A_is_row
  have D7 := ok_check_book (P := P) (w := w) (base := base) B T A_check_book
  have D8 := ok_check_row D6 A_check_row
  have D9 := ok_holds (P := P) (w := w) (base := base) B A_holds
  have D10 := ok_broken B T G3 D7 D8 D9 A_broken
  have E1 := ok_law_mix (P := P) (w := w) (base := base) B A_law_mix
  have E2 := ok_law_next (P := P) (w := w) (base := base) B A_law_next
  have E3 := ok_law_stretch E2 A_law_stretch
  have E4 := ok_law_fact B E2 E3 A_law_fact
  have E5 := ok_law_book B E2 E4 A_law_book
  have E6 := ok_law_holds (P := P) (w := w) (base := base) B A_law_holds
  exact ok_law B T G1 G2 G3 M D10 E1 E2 E5 E6 FL
end ST
open PySem PySem.W PyProof.Rows in
set_option maxRecDepth 100000 in
set_option maxHeartbeats 0 in
theorem PySem.Challenge.cw_stretchtold_k01_whole_rows_judged_holds : PySem.Challenge.rw_stretchtold_k01_whole_rows_judged.Holds := by
  w_on; o_law; k_head; (case hw => w_witness2)
  k_fill
  refine ST.walk (l := PySem.Challenge.rw_stretchtold_k01_whole_rows_judged) (k := 9) (sp := fun w => ST.spLaw _) rfl rfl (by decide) (fun w h Y => PySem.W.kIn_of Y) ?F (fun _ _ a ns hl _ hS => ⟨a, ns, rfl, hS, hl, fun _ => rfl⟩)
  case F =>
    intro w mg fa h KX G hmg
    refine' ST.all_mk KX G hmg ?z_isinstance ?z_int ?z_bool ?z_tuple ?z_list ?z_len ?z_all ?z_any ?z_sum ?z_max ?z_min ?z_range ?z_enumerate ?z_zip ?n_MOST_CELLS ?n_GREATEST_MOST ?n_MOST_FACTS ?n_GREATEST_TOLD ?gC ?pg ?hd ?po ?sa ?no_cells ?no_most ?no_facts ?mk ?a_init ?i_init ?kc ?l1 ?c1 ?k1 ?a_cells ?s_cells ?t_cells ?e_cells ?l2 ?c2 ?k2 ?a_most ?s_most ?t_most ?e_most ?l3 ?c3 ?k3 ?a_facts ?s_facts ?t_facts ?e_facts ?l4 ?c4 ?k4 ?a_len ?i_len ?l5 ?c5 ?k5 ?a_eq ?i_eq ?l6 ?c6 ?k6 ?ca ?cn ?ct ?cm ?kit1 ?kit2 ?nf1 ?nf2 ?a_is_integer ?l7 ?c7 ?k7 ?a_is_between ?l8 ?c8 ?k8 ?a_is_stretch ?l9 ?c9 ?k9 ?a_is_fact ?l10 ?c10 ?k10 ?a_check_facts ?l11 ?c11 ?k11 ?a_is_row ?l12 ?c12 ?k12 ?a_check_book ?l13 ?c13 ?k13 ?a_check_row ?l14 ?c14 ?k14 ?a_holds ?l15 ?c15 ?k15 ?a_broken ?l16 ?c16 ?k16 ?a_law_mix ?l17 ?c17 ?k17 ?a_law_next ?l18 ?c18 ?k18 ?a_law_stretch ?l19 ?c19 ?k19 ?a_law_fact ?l20 ?c20 ?k20 ?a_law_book ?l21 ?c21 ?k21 ?a_law_holds ?l22 ?c22 ?k22 ?a_law ?l23 ?c23 ?k23
    (case z_isinstance => k_is)
    (case z_int => k_is)
    (case z_bool => k_is)
    (case z_tuple => k_is)
    (case z_list => k_is)
    (case z_len => k_is)
    (case z_all => k_is)
    (case z_any => k_is)
    (case z_sum => k_is)
    (case z_max => k_is)
    (case z_min => k_is)
    (case z_range => k_is)
    (case z_enumerate => k_is)
    (case z_zip => k_is)
    (case n_MOST_CELLS => k_is)
    (case n_GREATEST_MOST => k_is)
    (case n_MOST_FACTS => k_is)
    (case n_GREATEST_TOLD => k_is)
    (case gC => k_is)
    (case pg => k_is)
    (case hd => k_is)
    (case po => k_is)
    (case sa => k_is)
    (case no_cells => k_is)
    (case no_most => k_is)
    (case no_facts => k_is)
    (case mk => k_is)
    (case a_init => k_is)
    (case i_init => k_is)
    (case kc => k_is)
    (case l1 => k_is)
    (case c1 => k_is)
    (case k1 => k_is)
    (case a_cells => k_is)
    (case s_cells => k_is)
    (case t_cells => k_is)
    (case e_cells => k_is)
    (case l2 => k_is)
    (case c2 => k_is)
    (case k2 => k_is)
    (case a_most => k_is)
    (case s_most => k_is)
    (case t_most => k_is)
    (case e_most => k_is)
    (case l3 => k_is)
    (case c3 => k_is)
    (case k3 => k_is)
    (case a_facts => k_is)
    (case s_facts => k_is)
    (case t_facts => k_is)
    (case e_facts => k_is)
    (case l4 => k_is)
    (case c4 => k_is)
    (case k4 => k_is)
    (case a_len => k_is)
    (case i_len => k_is)
    (case l5 => k_is)
    (case c5 => k_is)
    (case k5 => k_is)
    (case a_eq => k_is)
    (case i_eq => k_is)
    (case l6 => k_is)
    (case c6 => k_is)
    (case k6 => k_is)
    (case ca => k_is)
    (case cn => k_is)
    (case ct => k_is)
    (case cm => k_is)
    (case kit1 => kit_is)
    (case kit2 => kit_is)
    (case nf1 => k_is)
    (case nf2 => k_is)
    (case a_is_integer => k_is)
    (case l7 => k_is)
    (case c7 => k_is)
    (case k7 => k_is)
    (case a_is_between => k_is)
    (case l8 => k_is)
    (case c8 => k_is)
    (case k8 => k_is)
    (case a_is_stretch => k_is)
    (case l9 => k_is)
    (case c9 => k_is)
    (case k9 => k_is)
    (case a_is_fact => k_is)
    (case l10 => k_is)
    (case c10 => k_is)
    (case k10 => k_is)
    (case a_check_facts => k_is)
    (case l11 => k_is)
    (case c11 => k_is)
    (case k11 => k_is)
    (case a_is_row => k_is)
    (case l12 => k_is)
    (case c12 => k_is)
    (case k12 => k_is)
    (case a_check_book => k_is)
    (case l13 => k_is)
    (case c13 => k_is)
    (case k13 => k_is)
    (case a_check_row => k_is)
    (case l14 => k_is)
    (case c14 => k_is)
    (case k14 => k_is)
    (case a_holds => k_is)
    (case l15 => k_is)
    (case c15 => k_is)
    (case k15 => k_is)
    (case a_broken => k_is)
    (case l16 => k_is)
    (case c16 => k_is)
    (case k16 => k_is)
    (case a_law_mix => k_is)
    (case l17 => k_is)
    (case c17 => k_is)
    (case k17 => k_is)
    (case a_law_next => k_is)
    (case l18 => k_is)
    (case c18 => k_is)
    (case k18 => k_is)
    (case a_law_stretch => k_is)
    (case l19 => k_is)
    (case c19 => k_is)
    (case k19 => k_is)
    (case a_law_fact => k_is)
    (case l20 => k_is)
    (case c20 => k_is)
    (case k20 => k_is)
    (case a_law_book => k_is)
    (case l21 => k_is)
    (case c21 => k_is)
    (case k21 => k_is)
    (case a_law_holds => k_is)
    (case l22 => k_is)
    (case c22 => k_is)
    (case k22 => k_is)
    (case a_law => k_is)
    (case l23 => k_is)
    (case c23 => k_is)
    (case k23 => k_is)
