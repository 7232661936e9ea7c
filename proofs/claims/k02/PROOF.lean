import PyProof.Rows.All
import Wide.All
import OpenK.AllK
import Wide.FinOn
import KE.GoesMore
import KE.GoesEnum
import HandS.ForMost
import HandS.Evl
import HandS.TupAny
import HandS.TupMul
import HandS.CallLocal
import HandS.IsInst
import HandS.Strs
import HandS.Style
import HandS.Flow
import HandS.Walk
import PySem.Challenge.RW_lostexits_k02_whole_stacks_totals_caller
set_option Elab.async false
set_option linter.all false
set_option maxRecDepth 100000
set_option maxHeartbeats 2000000
namespace Lx
open PySem PySem.Spec PyProof.Rows L2

/-! ### enumerate over a tuple -/
theorem newT (l : Addr) (items : Array Value) (n : Nat) (dct : Option Addr) (sl : Array (Option Value)) :
    Meets (Builtin.«enumerate.__new__» ⟨[.type "enumerate", .ref l], []⟩) (fun _ R s =>
      s.heap.get? l = some { cls := .type "tuple", dict := dct, data := .seq items n, slots := sl } ∧
      R (.ok (.ret (.ref (s.heap.push { cls := .type "tuple_iterator", data := .fields #[.ref l, .int 0 0] }).objs.size)))
        { s with heap := (s.heap.push { cls := .type "tuple_iterator", data := .fields #[.ref l, .int 0 0] }).push (⟨.type "enumerate", none, .fields #[.none, .bool false, .ref s.heap.objs.size, rawInt 0, .none, .none], #[]⟩) }) :=
  .of_wp fun prog w A R s h => by
    obtain ⟨hp, g, d, tk, os⟩ := s
    obtain ⟨hl, h⟩ := h
    have hsub := sub_enumerate
    have hT : Heap.IsTuple (Shared.heap ⟨hp, g, d, tk, os⟩) l items := ⟨_, hl, rfl, n, rfl⟩
    wp_walk using AutoSeq1.wpAny_loadPart' hl
    refine wpAny_stack_any fun st => wpAny_pure ?_
    split
    · rename_i c _ _ _ _ _
      cases (c == Value.type "enumerate") <;>
        (wp_walk using AutoSeq1.wpAny_loadPart' hl, wpAny_pyIter_tuple hT; exact ⟨_, rfl, h⟩)
    · wp_walk using AutoSeq1.wpAny_loadPart' hl, wpAny_pyIter_tuple hT
      exact ⟨_, rfl, h⟩

section
variable {prog : Program} {w : World} {A : Around} {E : Value → Shared → Prop} {s : Shared}
theorem call_enumT {l : Addr} {items : Array Value} {Q : Value → Shared → Prop} (hL : s.heap.IsTuple l items)
    (h : ∀ h', IsEnum h' (s.heap.objs.size + 1) s.heap.objs.size 0 .none → h'.IsTupleIter s.heap.objs.size l 0 →
      (∀ b o, s.heap.get? b = some o → h'.get? b = some o) → Q (.ref (s.heap.objs.size + 1)) { s with heap := h' }) :
    wpAny (model prog w) A (call (.type "enumerate") [.ref l]) Q E s := by
  obtain ⟨⟨c, dct, dt, sl⟩, hl, hc, n, hd⟩ := hL
  replace hc : c = .type "tuple" := hc
  replace hd : dt = .seq items n := hd
  subst hc hd
  refine callType_new F.called_enumerate (by decide) (F.typeCall_enumerate_1 _) (F.newCall_enumerate_1 _)
    (fun obj => F.args_object_init_2 obj _) F.entry_enumerate_new (newT l items n dct sl) ⟨hl, ?_⟩
  let h1 := s.heap.push { cls := .type "tuple_iterator", data := .fields #[.ref l, .int 0 0] }
  have hz : h1.objs.size = s.heap.objs.size + 1 := Heap.size_push ..
  show _ ∧ _
  rw [hz]
  have he : IsEnum (h1.push { cls := .type "enumerate", data := .fields #[.none, .bool false, .ref s.heap.objs.size, rawInt 0, .none, .none] })
      (s.heap.objs.size + 1) s.heap.objs.size 0 .none := by
    have q := Heap.get?_push_size h1 (o := { cls := .type "enumerate", data := .fields #[.none, .bool false, .ref s.heap.objs.size, rawInt 0, .none, .none] }) rfl
    rw [hz] at q
    exact q
  exact ⟨⟨_, he, rfl⟩, h _ he ⟨_, Heap.get?_push_of_some _ (Heap.get?_push_size _ rfl), rfl, rfl⟩
    fun b o x => Heap.get?_push_of_some _ (Heap.get?_push_of_some _ x)⟩
end

/-- the tuple at a, each item in a new pair with its place -/
def Iu (K : PySem.W.Frag) (a : Addr) : It :=
  ⟨fun i H => ∃ (xs : List V) (x : V), SqT K H a xs ∧ xs[i]? = some x,
    fun i H v H' => ∃ T x, v = .ref T ∧ H T = none ∧ H' = upd H T (.tup [.int (i : Nat), x]) ∧ ∀ xs, SqT K H a xs → xs[i]? = some x,
    fun i H => ∃ xs : List V, SqT K H a xs ∧ xs.length ≤ i⟩
theorem turn_u {P : Program} {w : World} {K : PySem.W.Frag} {elts : List Expr} {kk : Nat} {tpos : Pos} (a e it : Addr) :
    Turn P w K (.Tuple elts kk tpos) (Iu K a) [e, it] e
      (fun i h => (∃ old, IsEnum h e it ((i : Nat) : Int) old) ∧ h.IsTupleIter it a i ∧ e ≠ it) where
  mem := by simp
  obj := fun i h st b hb => by
    obtain ⟨⟨old, he⟩, ⟨o, ho, hc, hd⟩, _⟩ := st
    rcases (show b = e ∨ b = it by simpa using hb) with rfl | rfl
    · exact ⟨_, he, fun v q => nomatch q⟩
    · exact ⟨o, ho, fun v q => by rw [hd] at q; cases q⟩
  keep := fun i h h' st k => by
    obtain ⟨⟨old, he⟩, hi, hne⟩ := st
    exact ⟨⟨old, k e (by simp) _ he⟩, hi.at fun o q => k it (by simp) o q, hne⟩
  item := by
    intro X hP hw hK hc i pins s σ H E I hf st hg
    subst hP hw hK
    obtain ⟨⟨old, he⟩, hit, hne⟩ := st
    obtain ⟨xs, x, hq, hx⟩ := hg
    obtain ⟨its, rv, p, hz⟩ := I.tuple hq
    obtain ⟨u, hu, ru⟩ := rv.get hx
    have hT : s.heap.IsTuple a its.toArray := p
    have hel : e < s.heap.objs.size := Heap.lt_size he
    have hil : it < s.heap.objs.size := by obtain ⟨_, q, _⟩ := hit; exact Heap.lt_size q
    have hai : a ≠ it := fun z => by
      obtain ⟨o1, q1, c1, _⟩ := hit
      obtain ⟨o2, q2, c2, _⟩ := id hT
      rw [z, q1] at q2; cases q2; rw [c1] at c2; revert c2; decide
    have hea : e ≠ a := fun z => by
      obtain ⟨o2, q2, c2, _⟩ := id hT
      rw [← z, he] at q2; cases q2; exact absurd (show Value.type "enumerate" = Value.type "tuple" from c2) (by decide)
    have hlt : i < its.toArray.size := by
      have q := (List.getElem?_eq_some_iff.mp hu).1
      simpa using q
    refine wpAny_pyNext_enum_itemD (Draws.tuple (A := X.A.in1) (I.ok.hd hc) it a hai its.toArray) he ⟨hit, hT⟩ hlt hne
      (by simp only [List.mem_cons, List.not_mem_nil, or_false, not_or]; exact ⟨hne, hea⟩) fun x' h' tk hx' ho hst' hT' hsz hk => ?_
    have hxu : x' = u := by
      have q : its.toArray[i]? = some u := by simpa using hu
      have q2 : its.toArray[i]? = some x' := hx'
      rw [q] at q2; exact (Option.some.inj q2).symm
    subst hxu
    refine ⟨_, rfl, wpAny_letOwnedTupleGo_enum (s := { s with heap := h', toks := tk + 1 }) ho fun h'' he' sb => ?_⟩
    have hT2 : h''.get? s.heap.objs.size = some { cls := .type "tuple", data := .seq #[.int i tk, x'] } :=
      (sb.2 _ (Nat.ne_of_gt hel)).trans hT'
    have new : ObjOk X.prog X.w (upd H s.heap.objs.size (.tup [.int (i : Nat), x])) h'' s.heap.objs.size (.tup [.int (i : Nat), x]) :=
      ⟨(by show 2 ≤ sizeLine; decide), [.int i tk, x'], .cons ⟨_, rfl⟩ (.cons ru .nil), ⟨_, hT2, rfl, _, rfl⟩⟩
    have I1 : Inv X pins σ (upd H s.heap.objs.size (.tup [.int (i : Nat), x])) { s with heap := h'', toks := tk + 1 } :=
      I.turnedNew (ch := [e, it]) (fun b ob hb q =>
        (sb.2 b (fun z => hb (by simp [z]))).trans (hk b ob (fun z => hb (by simp [z])) (fun z => hb (by simp [z])) q)) hf (Nat.le_refl _) new
    refine ⟨.ref s.heap.objs.size, _, I1, rfl,
      ⟨_, x, rfl, I.hok.fresh (Nat.le_refl _), rfl, fun ys hy => by rw [I.tuple_inj hy hq]; exact hx⟩,
      ⟨⟨x', ?_⟩, hst'.1.at fun o q => (sb.2 it (Ne.symm hne)).trans q, hne⟩, fun b hb => ?_⟩
    · rw [show ((i + 1 : Nat) : Int) = (i : Int) + 1 by omega]; exact he'
    · have hb' : b < s.heap.objs.size := by
        rcases (show b = e ∨ b = it by simpa using hb) with z | z <;> rw [z] <;> assumption
      rw [upd_ne (Nat.ne_of_lt hb')]
      exact (hf b hb).1
  done := by
    intro X hP hw hK hc i pins s σ H E I hf st hg
    subst hP hw hK
    obtain ⟨⟨old, he⟩, hit, hne⟩ := st
    obtain ⟨xs, hq, hx⟩ := hg
    obtain ⟨its, rv, p, hz⟩ := I.tuple hq
    obtain ⟨f0, f1, f2, f3, f4, f5⟩ := hf it (by simp)
    have hl := rv.length
    have hT : s.heap.IsTuple a its.toArray := p
    have hTy : s.TypeIs (.ref e) "enumerate" := ⟨_, he, rfl⟩
    unfold pyNext
    refine wpAny_bind (wpAny_attempt (wpAny_callSpecial?_slot (name := Str.ofString "__next__") hTy F.slot_enumerate_next
      (wpAny_call_entry F.slot_enumerate_next hTy F.entry_enumerate_next ?_ (F.args_enumerate_next_1 _))))
    show wpAny _ _ (field (.ref e) 2 >>= _) _ _ _
    refine wpAny_bind (wpAny_field he rfl (x := .ref it) rfl ?_)
    refine wpAny_bind (wpAny_nextOf_tuple_end (I.ok.hd hc) hit hT (by simp; omega) fun h' x he' hx' => ?_)
    obtain ⟨o, ho, hcl⟩ := hx'
    refine wpAny_bind (wpAny_isInstance (T := "StopIteration") (b := true) ⟨o, ho, hcl⟩ isSubtype_stop ?_)
    exact wpAny_pure ⟨rfl, I.turned (t' := s.toks) (fun b o hb q => he' b o hb q) f0 f1 f3 f4 f5⟩
  self := fun A i s Q E st h => by
    obtain ⟨⟨_, he⟩, _⟩ := st
    exact wpAny_pyIter_enum he h
def iEnumT (K : PySem.W.Frag) (ta : TA) : TI := fun σ H R => ta σ H fun vs H1 => ∃ a xs, vs = [.ref a] ∧ SqT K H1 a xs ∧ R (Iu K a) H1
theorem pi_enumT {X : Cx} {e : Expr} {ta : TA} {p pos tpos : Pos} {elts : List Expr} {kk : Nat} (hg : Gl X "enumerate") (hm : X.mg "enumerate" = none) (ha : PA X [e] ta)
    (hs : starEach [e] X.env = [(false, eval e X.env)] := by rfl) : PI X (.Tuple elts kk tpos) (.Call (.Name "enumerate" p) [e] [] pos) (iEnumT X.K ta) := by
  refine ⟨fun pins s σ H R I h => ?_⟩
  refine Call_ (ld_blt I hg hm boot_enumerate (PyProof.Rows.callWith_type1 (thn (ha.run pos pins s σ H _ I h) fun us s1 ⟨vs, H1, I1, r1, q1⟩ => ?_) hs rfl))
  obtain ⟨a, xs, ex, hq, q⟩ := q1
  subst ex
  obtain ⟨u1, rfl, r⟩ := vals1 r1
  cases r
  obtain ⟨its, rv, p', hz⟩ := I1.tuple hq
  refine call_enumT (show s1.heap.IsTuple a its.toArray from p') fun h' he hit hk => wpAny_pyIter_enum he ?_
  have I2 : Inv X pins σ H1 { s1 with heap := h' } := I1.kept (t' := s1.toks) hk
  refine ⟨s1.heap.objs.size + 1, [s1.heap.objs.size + 1, s1.heap.objs.size], _, _, H1, rfl, I2,
    turn_u a (s1.heap.objs.size + 1) s1.heap.objs.size, ⟨⟨.none, he⟩, hit, Nat.succ_ne_self _⟩, fun b hb => ?_, q⟩
  have hle : s1.heap.objs.size ≤ b := by
    rcases (show b = s1.heap.objs.size + 1 ∨ b = s1.heap.objs.size by simpa using hb) with z | z
    · rw [z]; exact Nat.le_succ _
    · rw [z]; exact Nat.le_refl _
  exact I1.fpOk hle (I1.hok.fresh hle)
theorem walk_u {K : PySem.W.Frag} {a : Addr} {xs : List V} : Walk (Iu K a) xs.length (fun H => SqT K H a xs) (YPair (fun i => some (.int (i : Nat))) (fun i => xs[i]?)) := by
  refine ⟨fun i _ hi q => ⟨xs, xs[i], q, by simp [hi]⟩, fun _ q => ⟨xs, q, Nat.le_refl _⟩, fun i H v H' _ q y => ?_⟩
  obtain ⟨T, x, h1, h2, h3, h4⟩ := y
  exact ⟨T, .int (i : Nat), x, h1, h2, h3, rfl, h4 xs q⟩

/-! ### t.index(x) of a tuple of flat things -/
section
variable {X : Cx}
def rIdxT (K : PySem.W.Frag) : V → List V → Hp → VK → Prop := fun x xs H Q => ∃ (a : Addr) (ys : List V) (y : V) (j : Nat) (z : V), x = V.ref a ∧ xs = [y] ∧ SqT K H a ys ∧
  flatV y = true ∧ ys.all flatV = true ∧ ys[j]? = some z ∧ eqV z y = true ∧ (∀ (m : Nat) (z' : V), m < j → ys[m]? = some z' → eqV z' y = false) ∧ Q (.int (j : Nat)) H
theorem mt_idxT : MtR X "tuple.index" (rIdxT X.K) := by
  intro pins s σ H x xs v us Q I rx rs h
  obtain ⟨p, ys, y, j, z, rfl, rfl, hq, fy, fys, hz, hzj, hno, q⟩ := h
  cases rx
  obtain ⟨uy, rfl, ry⟩ := vals1 rs
  obtain ⟨its, r, pl, hsz⟩ := I.tuple hq
  obtain ⟨⟨cls, dd, dt, sl⟩, ho, hc, n, hd⟩ := pl
  simp only at hc hd
  subst hc
  subst hd
  obtain ⟨u, hu, ru⟩ := r.get hz
  obtain ⟨hjl, hje⟩ := List.getElem?_eq_some_iff.mp hu
  have hj : j < its.toArray.size := by simpa using hjl
  refine call_meets PySem.F.slot_tuple_index ⟨_, ho, rfl⟩ PySem.F.entry_tuple_index (PySem.F.args_tuple_index_2 _ _)
    (TI.tuple_indexAt p its.toArray n dd sl uy (eqU y) j hj ?_ ?_)
    ⟨ho, fun u' hu' => mem_eqAt ry fy r fys u' (by simpa using hu'), ⟨.int (j : Nat), H, I.tok _, ⟨_, rfl⟩, q⟩⟩
  · rw [show its.toArray[j] = u by simpa using hje, eqU_of ru (flat_at fys hz)]
    exact hzj
  · intro m hm hmj
    have hml : m < its.length := by simpa using hm
    have hmy : m < ys.length := by rw [r.length]; exact hml
    have hy' : ys[m]? = some ys[m] := List.getElem?_eq_getElem hmy
    obtain ⟨u2, hu2, ru2⟩ := r.get hy'
    obtain ⟨_, hme⟩ := List.getElem?_eq_some_iff.mp hu2
    rw [show its.toArray[m] = u2 by simpa using hme, eqU_of ru2 (flat_at fys hy')]
    exact hno m _ hmj hy'
end
end Lx

set_option Elab.async false
set_option linter.all false
set_option maxRecDepth 100000
set_option maxHeartbeats 2000000
namespace Lx
open PySem PySem.Spec PyProof.Rows L2
/-! ### tuples that are known to be plain: each new one is held by its object, without a dict of its own -/
theorem okFrz {P : Program} {w : World} {H : Hp} {h : Heap} {p : Addr} {o : Obj} {u : HO} (e : h.get? p = some o) (q : ObjOk P w H h p u) : ObjOk P w H h p (.frz o u) := ⟨e, q⟩
section
variable {X : Cx}
def tTupN (t : TA) : TE := fun σ H Q => t σ H fun xs H1 => xs.length ≤ sizeLine ∧ ∀ p o, H1 p = none → o.dict = none → Q (.ref p) (upd H1 p (.frz o (.tup xs)))
theorem pe_tupN {es : List Expr} {t : TA} {x1} {pos : Pos} (h : PA X es t) : PE X (.Tuple es x1 pos) (tTupN t) := by
  refine ⟨fun pins s σ H Q I hq => ?_⟩
  refine wpAny_Tuple_spliced (thn (h.run pos pins s σ H _ I hq) fun us s1 ⟨xs, H1, I1, r, z, q⟩ => ⟨by rw [← r.length]; exact z, ?_⟩)
  have hf : H1 s1.heap.objs.size = none := I1.hok.fresh (Nat.le_refl _)
  let ob : Obj := { cls := .type "tuple", data := .seq us.toArray }
  refine ⟨.ref s1.heap.objs.size, upd H1 s1.heap.objs.size (.frz ob (.tup xs)), I1.laid (t' := s1.toks) (fun b u e => Heap.get?_push_of_some _ e) (Nat.le_refl _) ?_, rfl, q _ ob hf rfl⟩
  exact okFrz (Heap.get?_push_size _ rfl) ⟨z, us, r, ⟨_, Heap.get?_push_size _ rfl, rfl, _, rfl⟩⟩
def rCatN (K : PySem.W.Frag) : R2 := fun x y H Q => ∃ a b xs ys, x = .ref a ∧ y = .ref b ∧ SqT K H a xs ∧ SqT K H b ys ∧ xs.length + ys.length ≤ sizeLine ∧
  (xs = [] → Q (.ref b) H) ∧ (xs ≠ [] → ys = [] → Q (.ref a) H) ∧ (xs ≠ [] → ys ≠ [] → ∀ p o, H p = none → o.dict = none → Q (.ref p) (upd H p (.frz o (.tup (xs ++ ys)))))
theorem op_catN : OpR X (binaryOp .Add) (rCatN X.K) := by
  intro pins s σ H x y v u Q I rx ry h
  obtain ⟨a, b, xs, ys, rfl, rfl, ha, hb, hz, q0, q1, q2⟩ := h
  cases rx
  cases ry
  obtain ⟨its, r1, p1, _⟩ := I.tuple ha
  obtain ⟨its2, r2, p2, _⟩ := I.tuple hb
  by_cases hx : xs = []
  · subst hx
    cases r1
    exact cat_tup0 p1 p2 ⟨.ref b, H, I, rfl, q0 rfl⟩
  · refine HT.cat_tup p1 p2 (fun z => hx (r1.nil_iff.mp z)) (fun z => ⟨.ref a, H, I, rfl, q1 hx (r2.nil_iff.mp z)⟩) (fun z => ?_) (by rw [← r1.length, ← r2.length]; exact hz)
    let ob : Obj := { cls := .type "tuple", data := .seq (its ++ its2).toArray }
    refine ⟨.ref s.heap.objs.size, _, I.laid (t' := s.toks) (o := .frz ob (.tup (xs ++ ys))) (fun b ob q => Heap.get?_push_of_some _ q) (Nat.le_refl _) ?_, rfl, q2 hx (fun w => z (r2.nil_iff.mpr w)) _ ob (I.hok.fresh (Nat.le_refl _)) rfl⟩
    exact okFrz (Heap.get?_push_size _ rfl) ⟨by rw [List.length_append]; exact hz, _, r1.append r2, IsTup.new _ _⟩
def rSlN (K : PySem.W.Frag) : V → Option Int → Option Int → Hp → VK → Prop := fun x lo hi H Q => ∃ a xs, x = .ref a ∧ SqT K H a xs ∧
  (HT.sIx xs.length 0 lo = 0 ∧ HT.sIx xs.length xs.length hi = xs.length → Q (.ref a) H) ∧
  (¬ (HT.sIx xs.length 0 lo = 0 ∧ HT.sIx xs.length xs.length hi = xs.length) → ∀ p o, H p = none → o.dict = none → Q (.ref p) (upd H p (.frz o (.tup (cutV xs lo hi)))))
theorem sl_tupN : SlR X (rSlN X.K) := by
  intro pins s σ H x v vl vu lo hi sl Q I rx hs pl pu h
  obtain ⟨a, xs, rfl, hx, q1, q2⟩ := h
  cases rx
  obtain ⟨its, r, ht, hz⟩ := I.tuple hx
  have hlen : its.toArray.size = xs.length := by rw [List.size_toArray]; exact r.length.symm
  refine ⟨"tuple", _, PyProof.Rows.slot_tuple_getitem.lookup, ht.typeIs, ?_⟩
  by_cases hw : HT.sIx xs.length 0 lo = 0 ∧ HT.sIx xs.length xs.length hi = xs.length
  · exact getItem_tuple_whole ht hs pl pu (by rw [hlen]; exact hw) ⟨.ref a, H, I, rfl, q1 hw⟩
  · refine HT.getItem_tuple_cut ht hs pl pu (by rw [hlen]; exact hw) ?_ (by rw [hlen]; exact hz)
    rw [hlen]
    let ob : Obj := { cls := .type "tuple", data := .seq ((its.toArray.toList.drop (HT.sIx xs.length 0 lo)).take (HT.sIx xs.length xs.length hi - HT.sIx xs.length 0 lo)).toArray }
    refine ⟨.ref s.heap.objs.size, _, I.laid (t' := s.toks) (o := .frz ob (.tup (cutV xs lo hi))) (fun b ob q => Heap.get?_push_of_some _ q) (Nat.le_refl _) ?_, rfl, q2 hw _ ob (I.hok.fresh (Nat.le_refl _)) rfl⟩
    · exact okFrz (Heap.get?_push_size _ rfl) ⟨Nat.le_trans (cutV_length xs lo hi) hz, _, (r.drop (HT.sIx xs.length 0 lo)).take (HT.sIx xs.length xs.length hi - HT.sIx xs.length 0 lo), IsTup.new _ _⟩
theorem call_tupN : CallR X (.type "tuple") (fun xs H Q => ∃ p ys, xs = [.ref p] ∧ SqL X.K H p ys ∧ ∀ l o, H l = none → o.dict = none → Q (.ref l) (upd H l (.frz o (.tup ys)))) := by
  intro pins s σ H xs us Q I r h
  obtain ⟨p, ys, rfl, hq, q⟩ := h
  obtain ⟨u, rfl, rx⟩ := vals1 r
  cases rx
  obtain ⟨its, r', pl, hz⟩ := I.list hq
  have hlen := r'.length
  refine call_tuple_list pl.isList (fun h' kp => ?_) (by simp only [List.size_toArray] <;> omega)
  have I1 : Inv X pins σ H { s with heap := h' } := I.kept (t' := s.toks) kp
  let ob : Obj := { cls := .type "tuple", data := .seq its.toArray }
  have I2 : Inv X pins σ (upd H h'.objs.size (.frz ob (.tup ys))) { s with heap := h'.push ob } :=
    I1.laid (t' := s.toks) (fun b o e => Heap.get?_push_of_some _ e) (Nat.le_refl _) (okFrz (Heap.get?_push_size _ rfl) ⟨hz, its, r', IsTup.new _ _⟩)
  exact ⟨.ref h'.objs.size, _, I2, rfl, q _ ob (I1.hok.fresh (Nat.le_refl _)) rfl⟩
def rRepN (K : PySem.W.Frag) : R2 := fun x y H Q => ∃ l k xs, x = .ref l ∧ y = .int k ∧ SqT K H l xs ∧ xs ≠ [] ∧ 2 ≤ k ∧ k ≤ 1000 ∧ xs.length ≤ 1000 ∧ ∀ p o, H p = none → o.dict = none → Q (.ref p) (upd H p (.frz o (.tup (List.replicate k.toNat xs).flatten)))
theorem op_repN : OpR X (binaryOp .Mult) (rRepN X.K) := by
  intro pins s σ H x y v u Q I rx ry h
  obtain ⟨l, k, xs, rfl, rfl, hT, hne, h1, h2, hz, q⟩ := h
  cases rx
  obtain ⟨t, rfl⟩ := ry
  obtain ⟨its, r, ⟨⟨cls, dd, data, sl⟩, ho, hc, n, hd⟩, hs⟩ := I.tuple hT
  simp only at hc hd
  subst hc hd
  have hle : its.length = xs.length := r.length.symm
  have hn : its ≠ [] := fun e => hne (List.eq_nil_of_length_eq_zero (by rw [← hle, e]; rfl))
  have hi : its.toArray.isEmpty = false := by
    cases its with
    | nil => exact absurd rfl hn
    | cons a b => rfl
  have hsz0 : its.toArray.size = xs.length := by rw [List.size_toArray, hle]
  have hm : ((its.toArray.size : Nat) : Int) * k ≤ 1000000 := by
    rw [hsz0]
    exact Int.le_trans (Int.mul_le_mul_of_nonneg_right (show ((xs.length : Nat) : Int) ≤ 1000 by omega) (show 0 ≤ k by omega)) (by omega)
  have big : k.toNat * xs.length ≤ 1000 * 1000 := Nat.mul_le_mul (by omega) hz
  have c1 : (its.toArray.isEmpty || k == 1) = false := by rw [hi, Bool.false_or]; exact beq_eq_false_iff_ne.mpr (by omega)
  have c2 : (decide (k ≤ 0) || its.toArray.isEmpty) = false := by rw [hi, Bool.or_false]; exact decide_eq_false (by omega)
  have c0 : (decide (k < -(2 ^ 63)) || decide (k ≥ 2 ^ 63)) = false := by rw [decide_eq_false (by omega), decide_eq_false (by omega)] <;> rfl
  have c4 : Builtin.Tuple.tupleTooMany (((its.toArray.size : Nat) : Int) * k) = false := by
    unfold Builtin.Tuple.tupleTooMany
    rw [sizeLine_eq]; exact decide_eq_false (by omega)
  have fl : (List.replicate k.toNat its).flatten.length ≤ sizeLine := by rw [PyProof.Rows.lm_len_rep_flat, hle, sizeLine_eq]; omega
  refine wpAny_binaryOp_repeat_ref (T := "tuple") (U := "int") (by decide) ⟨_, ho, rfl⟩ (fun s' => typeIs_int s' k t) noFill_tuple_mul F.fills_int_mul F.slot_int_rmul repeat_tuple F.slot_int_index.lookup
    (call_meets F.slot_int_rmul (typeIs_int s k t) F.entry_int_rmul (F.args_int_rmul_2 _ _) (int_rmul_tuple k t l its.toArray n dd sl)
      ⟨ho, rfl, ⟨_, ho, rfl⟩, call_meets F.slot_tuple_mul ⟨_, ho, rfl⟩ F.entry_tuple_mul (F.args_tuple_mul_2 _ _) (tuple_mulW l its.toArray n dd sl k t c0 c1 c2 (by omega) c4 (by rw [size_rep, List.size_toArray]; exact fl)) ⟨ho, ?_⟩⟩)
  rw [size_rep]
  let ob : Obj := { cls := .type "tuple", data := .seq (List.replicate k.toNat its).flatten.toArray }
  refine ⟨.ref s.heap.objs.size, _, I.laid (t' := s.toks) (o := .frz ob (.tup (List.replicate k.toNat xs).flatten)) (fun b ob q => Heap.get?_push_of_some _ q) (Nat.le_refl _) ?_, rfl, q _ ob (I.hok.fresh (Nat.le_refl _)) rfl⟩
  exact okFrz (Heap.get?_push_size _ rfl) ⟨by rw [PyProof.Rows.lm_len_rep_flat, sizeLine_eq]; omega, _, r.rep k.toNat, IsTup.new _ _⟩
/-- t.index(x) of such a tuple -/
def tIdx (K : PySem.W.Frag) (to : TE) (t : TA) : TE := fun σ H Q => to σ H fun x H1 => (∃ a o xs, x = .ref a ∧ H1 a = some (.frz o (.tup xs)) ∧ o.dict = none) ∧ t σ H1 fun xs H2 => rIdxT K x xs H2 Q
theorem pe_tidx {o e : Expr} {es : List Expr} {to : TE} {t : TA} {apos cpos : Pos} (ho : PE X o to) (ha : PA X (e :: es) t)
    (hbase : attributeBase o "index" X.env (eval o X.env) = eval o X.env := by rfl)
    (hfew : ((backTo cpos (starEach (e :: es) X.env)).all (fun x => !x.1) && (backToKw cpos (keywordEach [] X.env)).all (fun x => x.1.isSome)
      && decide ((e :: es).length + ([] : List Keyword).length + (if ([] : List Keyword).isEmpty then 0 else 1) < 30)) = true := by rfl)
    (hline : (apos.endLine == cpos.line) = true := by rfl) (hs : starEach (e :: es) X.env = (false, eval e X.env) :: starEach es X.env := by rfl) (hplain : (backTo cpos (starEach es X.env)).any (·.1) = false := by rfl) :
    PE X (.Call (.Attribute o "index" apos) (e :: es) [] cpos) (tIdx X.K to t) := by
  refine ⟨fun pins s σ H Q I h => ?_⟩
  refine wpAny_Call_method_late hbase hfew hline rfl (thn (ho.run pins s σ H _ I h) fun v s1 ⟨x, H1, I1, r1, ty, q1⟩ => ?_)
  obtain ⟨a, ob, xs, rfl, hH, hd⟩ := ty
  cases r1
  have hok := I1.hok a _ hH
  have hT : IsTup s1.heap a _ := hok.2.2.choose_spec.2
  refine ⟨"tuple", "tuple.index", PySem.F.plainAttrs_tuple, PySem.F.slot_tuple_index, PySem.F.type_tuple_index, hT.typeIs, fun b e => by cases e; exact ⟨ob, hok.1, hd⟩, ?_⟩
  have hA := ha.run cpos pins s1 σ H1 _ I1 q1
  rw [hs] at hA ⊢
  refine Calls.callWith_builtin (by show (false || (backTo cpos (starEach es X.env)).any (·.1)) = false; rw [hplain] <;> rfl) (Calls.evalArgs_plain ?_)
  exact thn hA fun us s2 ⟨vs, H2, I2, r2, q2⟩ => mt_idxT pins s2 σ H2 (.ref a) vs _ us Q I2 rfl r2 q2
end
end Lx

set_option Elab.async false
set_option linter.all false
set_option maxRecDepth 100000
set_option maxHeartbeats 1000000
/-! Data-level words over the hand layer: a slot holds data (immutable, or the caller's), or a list of its own; expressions and statements are told over such slots, without the heap. -/
namespace Lx
open PySem L2
open Evl (Ex)

/-! ### data -/
mutual
def imm : PyData → Bool
  | .none => true
  | .bool _ => true
  | .int _ => true
  | .str _ => true
  | .tuple xs => immAll xs
  | .list _ => false
  | .dict _ => false
def immAll : List PyData → Bool
  | [] => true
  | x :: xs => imm x && immAll xs
end
theorem immAll_iff : ∀ {ds : List PyData}, immAll ds = true ↔ ∀ d ∈ ds, imm d = true
  | [] => by simp [immAll]
  | x :: xs => by simp [immAll, immAll_iff (ds := xs)]
theorem immAll_append {xs ys : List PyData} (h1 : immAll xs = true) (h2 : immAll ys = true) : immAll (xs ++ ys) = true :=
  immAll_iff.mpr fun d hd => (List.mem_append.mp hd).elim (immAll_iff.mp h1 d) (immAll_iff.mp h2 d)
theorem immAll_one {d : PyData} (h : imm d = true) : immAll [d] = true := by simp [immAll, h]
theorem immAll_get {ds : List PyData} (h : immAll ds = true) {i : Nat} {d : PyData} (e : ds[i]? = some d) : imm d = true := immAll_iff.mp h d (List.mem_of_getElem? e)
theorem immAll_ints (ns : List Int) : immAll (ns.map PyData.int) = true := immAll_iff.mpr fun d hd => by
  obtain ⟨n, _, rfl⟩ := List.mem_map.mp hd
  rfl
/-- a tuple without a dict of its own -/
def NT (H : Hp) (a : Addr) (xs : List V) : Prop := ∃ o, H a = some (.frz o (.tup xs)) ∧ o.dict = none
theorem NT.s {K : PySem.W.Frag} {H : Hp} {a : Addr} {xs : List V} (h : NT H a xs) : SqT K H a xs := by
  obtain ⟨o, h, _⟩ := h
  exact .inl (.inr ⟨o, h⟩)
theorem NT.new {H : Hp} {a : Addr} {xs : List V} {o : Obj} (h : o.dict = none) : NT (upd H a (.frz o (.tup xs))) a xs := ⟨o, upd_same, h⟩
theorem NT.ex {H H' : Hp} {a : Addr} {xs : List V} (e : Ex H H') (h : NT H a xs) : NT H' a xs := by
  obtain ⟨o, h, d⟩ := h
  exact ⟨o, e _ _ h, d⟩
mutual
inductive Dq (K : PySem.W.Frag) (H : Hp) : V → PyData → Prop
  | non : Dq K H .non .none
  | bl (b : Bool) : Dq K H (.bl b) (.bool b)
  | int (i : Int) : Dq K H (.int i) (.int i)
  | str (x : Str) : Dq K H (.str x) (.str x)
  | lst {a : Addr} {xs : List V} {ds : List PyData} : SqL K H a xs → DqAll K H xs ds → Dq K H (.ref a) (.list ds)
  | tup {a : Addr} {xs : List V} {ds : List PyData} : NT H a xs → DqAll K H xs ds → Dq K H (.ref a) (.tuple ds)
inductive DqAll (K : PySem.W.Frag) (H : Hp) : List V → List PyData → Prop
  | nil : DqAll K H [] []
  | cons {v : V} {vs : List V} {d : PyData} {ds : List PyData} : Dq K H v d → DqAll K H vs ds → DqAll K H (v :: vs) (d :: ds)
end
mutual
theorem dq_dp {K : PySem.W.Frag} {H : Hp} : ∀ {d : PyData} {v : V}, Dq K H v d → L2.Dp K H v d
  | .none, _, h => by cases h; exact .non
  | .bool _, _, h => by cases h; exact .bl _
  | .int _, _, h => by cases h; exact .int _
  | .str _, _, h => by cases h; exact .str _
  | .tuple _, _, h => by
    cases h with
    | tup a b => exact .tup a.s (dqAll_dp b)
  | .list _, _, h => by
    cases h with
    | lst a b => exact .lst a (dqAll_dp b)
  | .dict _, _, h => nomatch h
theorem dqAll_dp {K : PySem.W.Frag} {H : Hp} : ∀ {ds : List PyData} {vs : List V}, DqAll K H vs ds → L2.DpAll K H vs ds
  | [], _, h => by cases h; exact .nil
  | _ :: _, _, h => by
    cases h with
    | cons a b => exact .cons (dq_dp a) (dqAll_dp b)
end
section
variable {K : PySem.W.Frag} {H H' : Hp}
mutual
theorem dp_ex (e : Ex H H') : ∀ {d : PyData} {v : V}, Dq K H v d → Dq K H' v d
  | .none, _, h => by cases h; exact .non
  | .bool _, _, h => by cases h; exact .bl _
  | .int _, _, h => by cases h; exact .int _
  | .str _, _, h => by cases h; exact .str _
  | .tuple _, _, h => by
    cases h with
    | tup a b => exact .tup (a.ex e) (dpAll_ex e b)
  | .list _, _, h => by
    cases h with
    | lst a b => exact .lst (Evl.ex_l e a) (dpAll_ex e b)
  | .dict _, _, h => nomatch h
theorem dpAll_ex (e : Ex H H') : ∀ {ds : List PyData} {vs : List V}, DqAll K H vs ds → DqAll K H' vs ds
  | [], _, h => by cases h; exact .nil
  | _ :: _, _, h => by
    cases h with
    | cons a b => exact .cons (dp_ex e a) (dpAll_ex e b)
end
/-- tuples stay -/
def Tx (H H' : Hp) : Prop := ∀ a o xs, H a = some (.frz o (.tup xs)) → H' a = some (.frz o (.tup xs))
theorem NT.tx {a : Addr} {xs : List V} (e : Tx H H') (h : NT H a xs) : NT H' a xs := by
  obtain ⟨o, h, d⟩ := h
  exact ⟨o, e _ _ _ h, d⟩
mutual
theorem dp_tx (e : Tx H H') : ∀ {d : PyData} {v : V}, imm d = true → Dq K H v d → Dq K H' v d
  | .none, _, _, h => by cases h; exact .non
  | .bool _, _, _, h => by cases h; exact .bl _
  | .int _, _, _, h => by cases h; exact .int _
  | .str _, _, _, h => by cases h; exact .str _
  | .tuple _, _, i, h => by
    cases h with
    | tup a b => exact .tup (a.tx e) (dpAll_tx e (by simpa [imm] using i) b)
  | .list _, _, i, _ => by simp [imm] at i
  | .dict _, _, _, h => nomatch h
theorem dpAll_tx (e : Tx H H') : ∀ {ds : List PyData} {vs : List V}, immAll ds = true → DqAll K H vs ds → DqAll K H' vs ds
  | [], _, _, h => by cases h; exact .nil
  | _ :: _, _, i, h => by
    have i' := (by simpa [immAll] using i)
    cases h with
    | cons a b => exact .cons (dp_tx e i'.1 a) (dpAll_tx e i'.2 b)
end
theorem tx_ex (e : Ex H H') : Tx H H' := fun _ _ _ h => e _ _ h
theorem tx_but {p : Addr} {vs : List V} (hp : H p = some (.lst vs)) (e : ∀ a o, a ≠ p → H a = some o → H' a = some o) : Tx H H' := fun a o xs h => e a _ (ne_of h hp (fun z => nomatch z)) h
theorem tx_upd {p : Addr} {vs : List V} {o : HO} (hp : H p = some (.lst vs)) : Tx H (upd H p o) := tx_but hp fun a u n e => by rw [upd_ne n]; exact e
theorem dpAll_len : ∀ {vs : List V} {ds : List PyData}, DqAll K H vs ds → vs.length = ds.length
  | _, _, .nil => rfl
  | _, _, .cons _ b => by rw [List.length_cons, List.length_cons, dpAll_len b]
theorem dpAll_append : ∀ {vs ws : List V} {ds es : List PyData}, DqAll K H vs ds → DqAll K H ws es → DqAll K H (vs ++ ws) (ds ++ es)
  | _, _, _, _, .nil, h => h
  | _, _, _, _, .cons a b, h => .cons a (dpAll_append b h)
theorem dpAll_get : ∀ {vs : List V} {ds : List PyData} {i : Nat} {d : PyData}, DqAll K H vs ds → ds[i]? = some d → ∃ v, vs[i]? = some v ∧ Dq K H v d
  | _, _, _, _, .nil, e => by simp at e
  | _, _, 0, _, .cons a _, e => by
    simp at e; subst e
    exact ⟨_, rfl, a⟩
  | _, _, i + 1, _, .cons _ b, e => by
    obtain ⟨v, h1, h2⟩ := dpAll_get (i := i) b (by simpa using e)
    exact ⟨v, by simpa using h1, h2⟩
theorem dpAll_getV : ∀ {vs : List V} {ds : List PyData} {i : Nat} {v : V}, DqAll K H vs ds → vs[i]? = some v → ∃ d, ds[i]? = some d ∧ Dq K H v d
  | _, _, _, _, .nil, e => by simp at e
  | _, _, 0, _, .cons a _, e => by
    simp at e; subst e
    exact ⟨_, rfl, a⟩
  | _, _, i + 1, _, .cons _ b, e => by
    obtain ⟨v, h1, h2⟩ := dpAll_getV (i := i) b (by simpa using e)
    exact ⟨v, by simpa using h1, h2⟩
theorem dpAll_take : ∀ {vs : List V} {ds : List PyData} (n : Nat), DqAll K H vs ds → DqAll K H (vs.take n) (ds.take n)
  | _, _, 0, _ => .nil
  | _, _, _ + 1, .nil => .nil
  | _, _, n + 1, .cons a b => .cons a (dpAll_take n b)
theorem dpAll_drop : ∀ {vs : List V} {ds : List PyData} (n : Nat), DqAll K H vs ds → DqAll K H (vs.drop n) (ds.drop n)
  | _, _, 0, h => h
  | _, _, _ + 1, .nil => .nil
  | _, _, n + 1, .cons _ b => dpAll_drop n b
theorem dpAll_set : ∀ {vs : List V} {ds : List PyData} {v : V} {d : PyData} (n : Nat), DqAll K H vs ds → Dq K H v d → DqAll K H (vs.set n v) (ds.set n d)
  | _, _, _, _, _, .nil, _ => .nil
  | _, _, _, _, 0, .cons _ b, h => .cons h b
  | _, _, _, _, n + 1, .cons a b, h => .cons a (dpAll_set n b h)
theorem dpAll_rep {vs : List V} {ds : List PyData} (h : DqAll K H vs ds) : ∀ n : Nat, DqAll K H (List.replicate n vs).flatten (List.replicate n ds).flatten
  | 0 => .nil
  | n + 1 => by
    rw [List.replicate_succ, List.replicate_succ, List.flatten_cons, List.flatten_cons]
    exact dpAll_append h (dpAll_rep h n)
theorem dpAll_ints : ∀ {ns : List Int} {vs : List V}, DqAll K H vs (ns.map PyData.int) → vs = ns.map V.int
  | [], _, h => by cases h; rfl
  | _ :: r, _, h => by
    cases h with
    | cons a b => cases a; rw [dpAll_ints (ns := r) b]; rfl
theorem dpAll_bls : ∀ {ns : List Bool} {vs : List V}, DqAll K H vs (ns.map PyData.bool) → vs = ns.map V.bl
  | [], _, h => by cases h; rfl
  | _ :: r, _, h => by
    cases h with
    | cons a b => cases a; rw [dpAll_bls (ns := r) b]; rfl
theorem ofInts : ∀ (ns : List Int), DqAll K H (ns.map V.int) (ns.map PyData.int)
  | [] => .nil
  | n :: r => .cons (.int n) (ofInts r)
theorem dp_tup {v : V} {ds : List PyData} (h : Dq K H v (.tuple ds)) : ∃ a vs, v = .ref a ∧ NT H a vs ∧ DqAll K H vs ds := by
  cases h with
  | tup a b => exact ⟨_, _, rfl, a, b⟩
theorem dp_lst {v : V} {ds : List PyData} (h : Dq K H v (.list ds)) : ∃ a vs, v = .ref a ∧ SqL K H a vs ∧ DqAll K H vs ds := by
  cases h with
  | lst a b => exact ⟨_, _, rfl, a, b⟩
end

/-! ### slots -/
inductive Sl where
  | dat (d : PyData)
  | lst (ds : List PyData)
abbrev En := List (Option Sl)
def Sl.d : Sl → PyData
  | .dat d => d
  | .lst ds => .list ds
def sl : PyData → Sl
  | .list ds => .lst ds
  | d => .dat d
def own (σ : L2.St) (ρ : En) (a : Addr) : Prop := ∃ (i : Nat) (ds : List PyData), ρ[i]? = some (some (Sl.lst ds)) ∧ σ[i]? = some (some (.ref a))
/-- a value that is data which cannot change, or a list that was not there at H -/
def Res (K : PySem.W.Frag) (H H' : Hp) (v : V) (d : PyData) : Prop :=
  (imm d = true ∧ Dq K H' v d) ∨ ∃ ds p vs, d = .list ds ∧ v = .ref p ∧ H p = none ∧ H' p = some (.lst vs) ∧ DqAll K H' vs ds ∧ immAll ds = true
theorem Res.dp {K : PySem.W.Frag} {H H' : Hp} {v : V} {d : PyData} (h : Res K H H' v d) : Dq K H' v d := by
  rcases h with ⟨_, h⟩ | ⟨ds, p, vs, rfl, rfl, _, h, b, _⟩
  · exact h
  · exact .lst (SqL.of h) b
theorem Res.back {K : PySem.W.Frag} {H0 H H' : Hp} {v : V} {d : PyData} (e : Ex H0 H) (h : Res K H H' v d) : Res K H0 H' v d := by
  rcases h with h | ⟨ds, p, vs, e1, e2, h1, h2⟩
  · exact .inl h
  · exact .inr ⟨ds, p, vs, e1, e2, Evl.fresh_back e h1, h2⟩
structure Ok (K : PySem.W.Frag) (H0 H : Hp) (σ : L2.St) (ρ : En) : Prop where
  ex : Ex H0 H
  len : σ.length = ρ.length
  dat : ∀ (i : Nat) (d : PyData), ρ[i]? = some (some (.dat d)) → ∃ v, σ[i]? = some (some v) ∧ Dq K H v d ∧ (imm d = true ∨ Dq K H0 v d)
  lst : ∀ (i : Nat) (ds : List PyData), ρ[i]? = some (some (.lst ds)) → ∃ p vs, σ[i]? = some (some (.ref p)) ∧ H0 p = none ∧ H p = some (.lst vs) ∧ DqAll K H vs ds ∧ immAll ds = true
  sep : ∀ (i j : Nat) (ds es : List PyData) (p : Addr), ρ[i]? = some (some (.lst ds)) → ρ[j]? = some (some (.lst es)) → σ[i]? = some (some (.ref p)) → σ[j]? = some (some (.ref p)) → i = j
section
variable {K : PySem.W.Frag} {H0 H H' : Hp} {σ : L2.St} {ρ : En}
theorem Ok.mono (o : Ok K H0 H σ ρ) (e : Ex H H') : Ok K H0 H' σ ρ :=
  ⟨o.ex.trans e, o.len, fun i d h => by
    obtain ⟨v, a, b, c⟩ := o.dat i d h
    exact ⟨v, a, dp_ex e b, c⟩, fun i ds h => by
    obtain ⟨p, vs, a, b, c, f, g⟩ := o.lst i ds h
    exact ⟨p, vs, a, b, e _ _ c, dpAll_ex e f, g⟩, o.sep⟩
theorem Ok.var (o : Ok K H0 H σ ρ) {i : Nat} {s : Sl} (h : ρ[i]? = some (some s)) : ∃ v, σ[i]? = some (some v) ∧ Dq K H v s.d := by
  cases s with
  | dat d =>
    obtain ⟨v, a, b, _⟩ := o.dat i d h
    exact ⟨v, a, b⟩
  | lst ds =>
    obtain ⟨p, vs, a, _, c, f, _⟩ := o.lst i ds h
    exact ⟨.ref p, a, .lst (SqL.of c) f⟩
/-- a slot is set to what stands still -/
theorem Ok.put (o : Ok K H0 H σ ρ) {i : Nat} {v : V} {d : PyData} (hd : Dq K H v d) (hs : imm d = true ∨ Dq K H0 v d) : Ok K H0 H (σ.set i (some v)) (ρ.set i (some (.dat d))) := by
  refine ⟨o.ex, by rw [List.length_set, List.length_set]; exact o.len, fun j e h => ?_, fun j ds h => ?_, fun j k ds es p h1 h2 h3 h4 => ?_⟩
  · by_cases hj : i = j
    · subst hj
      by_cases hl : i < ρ.length
      · rw [List.getElem?_set_self hl] at h
        cases h
        exact ⟨v, List.getElem?_set_self (by rw [o.len]; exact hl), hd, hs⟩
      · rw [List.getElem?_eq_none (by simpa using hl)] at h; cases h
    · rw [List.getElem?_set_ne hj] at h
      rw [List.getElem?_set_ne hj]
      exact o.dat j e h
  · by_cases hj : i = j
    · subst hj
      by_cases hl : i < ρ.length
      · rw [List.getElem?_set_self hl] at h; cases h
      · rw [List.getElem?_eq_none (by simpa using hl)] at h; cases h
    · rw [List.getElem?_set_ne hj] at h
      rw [List.getElem?_set_ne hj]
      exact o.lst j ds h
  · have ne : ∀ (m : Nat) (xs : List PyData), (ρ.set i (some (.dat d)))[m]? = some (some (.lst xs)) → i ≠ m := fun m xs h hm => by
      subst hm
      by_cases hl : i < ρ.length
      · rw [List.getElem?_set_self hl] at h; cases h
      · rw [List.getElem?_eq_none (by simpa using hl)] at h; cases h
    have n1 := ne j ds h1
    have n2 := ne k es h2
    rw [List.getElem?_set_ne n1] at h1 h3
    rw [List.getElem?_set_ne n2] at h2 h4
    exact o.sep j k ds es p h1 h2 h3 h4
theorem own_put {i : Nat} {v : V} {d : PyData} (o : Ok K H0 H σ ρ) {a : Addr} (h : own (σ.set i (some v)) (ρ.set i (some (.dat d))) a) : own σ ρ a := by
  obtain ⟨j, ds, h1, h2⟩ := h
  by_cases hj : i = j
  · subst hj
    by_cases hl : i < ρ.length
    · rw [List.getElem?_set_self hl] at h1; cases h1
    · rw [List.getElem?_eq_none (by simpa using hl)] at h1; cases h1
  · rw [List.getElem?_set_ne hj] at h1 h2
    exact ⟨j, ds, h1, h2⟩
/-- a slot is given a list of its own -/
theorem Ok.putL (o : Ok K H0 H σ ρ) {i : Nat} {p : Addr} {vs : List V} {ds : List PyData} (h0 : H0 p = none) (hp : H p = some (.lst vs)) (hn : ∀ (j : Nat) (es : List PyData), j ≠ i → ρ[j]? = some (some (.lst es)) → σ[j]? ≠ some (some (.ref p)))
    (hd : DqAll K H vs ds) (hi : immAll ds = true) : Ok K H0 H (σ.set i (some (.ref p))) (ρ.set i (some (.lst ds))) := by
  refine ⟨o.ex, by rw [List.length_set, List.length_set]; exact o.len, fun j e h => ?_, fun j es h => ?_, fun j k es fs q h1 h2 h3 h4 => ?_⟩
  · by_cases hj : i = j
    · subst hj
      by_cases hl : i < ρ.length
      · rw [List.getElem?_set_self hl] at h; cases h
      · rw [List.getElem?_eq_none (by simpa using hl)] at h; cases h
    · rw [List.getElem?_set_ne hj] at h
      rw [List.getElem?_set_ne hj]
      exact o.dat j e h
  · by_cases hj : i = j
    · subst hj
      by_cases hl : i < ρ.length
      · rw [List.getElem?_set_self hl] at h
        cases h
        exact ⟨p, vs, List.getElem?_set_self (by rw [o.len]; exact hl), h0, hp, hd, hi⟩
      · rw [List.getElem?_eq_none (by simpa using hl)] at h; cases h
    · rw [List.getElem?_set_ne hj] at h
      rw [List.getElem?_set_ne hj]
      exact o.lst j es h
  · have at_i : ∀ (m : Nat) (xs : List PyData), i = m → (ρ.set i (some (.lst ds)))[m]? = some (some (.lst xs)) → (σ.set i (some (.ref p)))[m]? = some (some (.ref p)) := fun m xs hm h => by
      subst hm
      by_cases hl : i < ρ.length
      · exact List.getElem?_set_self (by rw [o.len]; exact hl)
      · rw [List.getElem?_eq_none (by simpa using hl)] at h; cases h
    by_cases hj : i = j
    · by_cases hk : i = k
      · rw [← hj, ← hk]
      · rw [at_i j es hj h1] at h3
        cases h3
        rw [List.getElem?_set_ne hk] at h2 h4
        exact absurd h4 (hn k fs (Ne.symm hk) h2)
    · by_cases hk : i = k
      · rw [at_i k fs hk h2] at h4
        cases h4
        rw [List.getElem?_set_ne hj] at h1 h3
        exact absurd h3 (hn j es (Ne.symm hj) h1)
      · rw [List.getElem?_set_ne hj] at h1 h3
        rw [List.getElem?_set_ne hk] at h2 h4
        exact o.sep j k es fs q h1 h2 h3 h4
theorem own_putL {i : Nat} {p : Addr} {ds : List PyData} {a : Addr} (h : own (σ.set i (some (.ref p))) (ρ.set i (some (.lst ds))) a) : own σ ρ a ∨ a = p := by
  obtain ⟨j, es, h1, h2⟩ := h
  by_cases hj : i = j
  · subst hj
    by_cases hl : i < σ.length
    · rw [List.getElem?_set_self hl] at h2
      cases h2
      exact .inr rfl
    · rw [List.getElem?_eq_none (by simpa using hl)] at h2; cases h2
  · rw [List.getElem?_set_ne hj] at h1 h2
    exact .inl ⟨j, es, h1, h2⟩
/-- the list of a slot is changed -/
theorem Ok.mut (o : Ok K H0 H σ ρ) {i : Nat} {p : Addr} {ds es : List PyData} {vs : List V} (hi : ρ[i]? = some (some (.lst ds))) (hs : σ[i]? = some (some (.ref p))) (hd : DqAll K H vs es) (hm : immAll es = true) :
    Ok K H0 (upd H p (.lst vs)) σ (ρ.set i (some (.lst es))) := by
  obtain ⟨p', vs0, a, b, c, f, g⟩ := o.lst i ds hi
  rw [hs] at a
  cases a
  have tx : Tx H (upd H p (.lst vs)) := tx_upd c
  have ex' : Ex H0 (upd H p (.lst vs)) := Evl.Ex.mut o.ex b
  have hl : i < ρ.length := (List.getElem?_eq_some_iff.mp hi).1
  refine ⟨ex', by rw [List.length_set]; exact o.len, fun j e h => ?_, fun j fs h => ?_, fun j k fs gs q h1 h2 h3 h4 => ?_⟩
  · by_cases hj : i = j
    · subst hj
      rw [List.getElem?_set_self hl] at h; cases h
    · rw [List.getElem?_set_ne hj] at h
      obtain ⟨v, v1, v2, v3⟩ := o.dat j e h
      refine ⟨v, v1, ?_, v3⟩
      rcases v3 with z | z
      · exact dp_tx tx z v2
      · exact dp_ex ex' z
  · by_cases hj : i = j
    · subst hj
      rw [List.getElem?_set_self hl] at h
      cases h
      exact ⟨p, vs, hs, b, upd_same, dpAll_tx tx hm hd, hm⟩
    · rw [List.getElem?_set_ne hj] at h
      obtain ⟨q, ws, w1, w2, w3, w4, w5⟩ := o.lst j fs h
      have hq : q ≠ p := fun z => hj (o.sep i j ds fs p hi h hs (by rw [w1, z]))
      exact ⟨q, ws, w1, w2, by rw [upd_ne hq]; exact w3, dpAll_tx tx w5 w4, w5⟩
  · have at_ : ∀ (m : Nat) (xs : List PyData), (ρ.set i (some (.lst es)))[m]? = some (some (.lst xs)) → ∃ ys, ρ[m]? = some (some (.lst ys)) := fun m xs h => by
      by_cases hm : i = m
      · exact ⟨ds, by rw [← hm]; exact hi⟩
      · rw [List.getElem?_set_ne hm] at h
        exact ⟨xs, h⟩
    obtain ⟨ys, y1⟩ := at_ j fs h1
    obtain ⟨zs, z1⟩ := at_ k gs h2
    exact o.sep j k ys zs q y1 z1 h3 h4
theorem own_mut {i : Nat} {es ds : List PyData} {a : Addr} (hi : ρ[i]? = some (some (.lst ds))) (h : own σ (ρ.set i (some (.lst es))) a) : own σ ρ a := by
  obtain ⟨j, fs, h1, h2⟩ := h
  by_cases hj : i = j
  · exact ⟨j, ds, by rw [← hj]; exact hi, h2⟩
  · rw [List.getElem?_set_ne hj] at h1
    exact ⟨j, fs, h1, h2⟩
end
/-! ### what stays beside -/
structure Fr (σ : L2.St) (ρ : En) (H : Hp) (σ' : L2.St) (ρ' : En) (H' : Hp) : Prop where
  keep : ∀ a o, H a = some o → ¬ own σ ρ a → H' a = some o
  news : ∀ a, own σ' ρ' a → own σ ρ a ∨ H a = none
  s0 : σ'[0]? = σ[0]?
theorem Fr.refl {σ : L2.St} {ρ : En} {H : Hp} : Fr σ ρ H σ ρ H := ⟨fun _ _ h _ => h, fun _ h => .inl h, rfl⟩
theorem Fr.trans {σ σ1 σ2 : L2.St} {ρ ρ1 ρ2 : En} {H H1 H2 : Hp} (a : Fr σ ρ H σ1 ρ1 H1) (b : Fr σ1 ρ1 H1 σ2 ρ2 H2) : Fr σ ρ H σ2 ρ2 H2 := by
  refine ⟨fun x o h n => b.keep x o (a.keep x o h n) fun q => ?_, fun x h => ?_, b.s0.trans a.s0⟩
  · rcases a.news x q with z | z
    · exact n z
    · rw [h] at z; cases z
  · rcases b.news x h with z | z
    · exact a.news x z
    · by_cases q : own σ ρ x
      · exact .inl q
      · refine .inr ?_
        cases e : H x with
        | none => rfl
        | some o =>
          rw [a.keep x o e q] at z; cases z
theorem Fr.of_ex {σ : L2.St} {ρ : En} {H H' : Hp} (e : Ex H H') : Fr σ ρ H σ ρ H' := ⟨fun _ _ h _ => e _ _ h, fun _ h => .inl h, rfl⟩
theorem Fr.ex {σ σ1 : L2.St} {ρ ρ1 : En} {H H1 H2 : Hp} (a : Fr σ ρ H σ1 ρ1 H1) (e : Ex H1 H2) : Fr σ ρ H σ1 ρ1 H2 := a.trans (Fr.of_ex e)

/-! ### expressions -/
section
variable (K : PySem.W.Frag)
def EvR (te : TE) (ρ : En) (d : PyData) : Prop := ∀ H0 σ H, Ok K H0 H σ ρ → ∀ Q : VK, (∀ v H2, Ex H H2 → Dq K H2 v d → Q v H2) → te σ H Q
def EvF (te : TE) (ρ : En) (d : PyData) : Prop := ∀ H0 σ H, Ok K H0 H σ ρ → ∀ Q : VK, (∀ v H2, Ex H H2 → Res K H H2 v d → Q v H2) → te σ H Q
def EvT (tt : TT) (ρ : En) (b : Bool) : Prop := ∀ H0 σ H, Ok K H0 H σ ρ → ∀ Q : Bool → Hp → Prop, (∀ H2, Ex H H2 → Q b H2) → tt σ H Q
def EvA (ta : TA) (ρ : En) (ds : List PyData) : Prop := ∀ H0 σ H, Ok K H0 H σ ρ → ∀ Q : List V → Hp → Prop, (∀ vs H2, Ex H H2 → DqAll K H2 vs ds → Q vs H2) → ta σ H Q
def EvO (to : TO) (ρ : En) (o : Option Int) : Prop := ∀ H0 σ H, Ok K H0 H σ ρ → ∀ Q : Option Int → Hp → Prop, (∀ H2, Ex H H2 → Q o H2) → to σ H Q
/-- a pair that a walk has just made, or data -/
def Dw (H : Hp) (v : V) (d : PyData) : Prop := Dq K H v d ∨ ∃ ds a vs, d = .tuple ds ∧ v = .ref a ∧ SqT K H a vs ∧ DqAll K H vs ds
def Dz (b : Bool) (H : Hp) (v : V) (d : PyData) : Prop := if b = true then Dq K H v d else Dw K H v d
/-- a walk: the items (b: they are data; else pairs) -/
def EvI (b : Bool) (wi : TI) (ρ : En) (ds : List PyData) : Prop := immAll ds = true ∧ ∀ H0 σ H, Ok K H0 H σ ρ → ∀ R : It → Hp → Prop,
  (∀ J H1 (G : Hp → Prop), Ex H H1 → Walk J ds.length G (fun i H x H' => Ex H H' ∧ ∃ d, ds[i]? = some d ∧ Dz K b H' x d) →
    (∀ H', Ex H0 H' → (∀ a o, H1 a = some o → ¬ own σ ρ a → H' a = some o) → G H') → R J H1) → wi σ H R
/-- the promise of a def over data: R, the arguments and the answer -/
def spD (R : List PyData → PyData → Prop) : Sp := fun vs H Q _ => ∃ ds d, DqAll K H vs ds ∧ R ds d ∧ ∀ v H', Ex H H' → Res K H H' v d → Q v H'
end
section
variable {K : PySem.W.Frag} {ρ : En} {ta tb tc te : TE} {t u : TT} {d e : PyData}
theorem EvF.r (h : EvF K te ρ d) : EvR K te ρ d := fun H0 σ H o Q q => h H0 σ H o Q fun v H2 e r => q v H2 e r.dp
theorem EvR.f (h : EvR K te ρ d) (hi : imm d = true) : EvF K te ρ d := fun H0 σ H o Q q => h H0 σ H o Q fun v H2 e r => q v H2 e (.inl ⟨hi, r⟩)
theorem er_is (h : EvR K te ρ d) (q : d = e) : EvR K te ρ e := q ▸ h
theorem ef_is (h : EvF K te ρ d) (q : d = e) : EvF K te ρ e := q ▸ h
theorem et_is {a b : Bool} (h : EvT K t ρ a) (q : a = b) : EvT K t ρ b := q ▸ h
theorem er_var {i : Nat} {s : Sl} (h : ρ[i]? = some (some s)) : EvR K (tVar i) ρ s.d := fun H0 σ H o Q q => by
  obtain ⟨v, a, b⟩ := o.var h
  exact ⟨v, a, q v H (Ex.refl H) b⟩
theorem er_v (i : Nat) (h : ρ[i]? = some (some (.dat d)) := by rfl) : EvR K (tVar i) ρ d := er_var h
theorem er_vl (i : Nat) {ds : List PyData} (h : ρ[i]? = some (some (.lst ds)) := by rfl) : EvR K (tVar i) ρ (.list ds) := er_var h
theorem ef_int {i : Int} : EvF K (tC (.int i)) ρ (.int i) := fun _ _ H _ _ q => q _ H (Ex.refl H) (.inl ⟨rfl, .int i⟩)
theorem ef_str {x : Str} : EvF K (tC (.str x)) ρ (.str x) := fun _ _ H _ _ q => q _ H (Ex.refl H) (.inl ⟨rfl, .str x⟩)
theorem ef_bl {x : Bool} : EvF K (tC (.bl x)) ρ (.bool x) := fun _ _ H _ _ q => q _ H (Ex.refl H) (.inl ⟨rfl, .bl x⟩)
theorem ef_non : EvF K (tC .non) ρ .none := fun _ _ H _ _ q => q _ H (Ex.refl H) (.inl ⟨rfl, .non⟩)
theorem er_int {i : Int} : EvR K (tC (.int i)) ρ (.int i) := ef_int.r
theorem er_str {x : Str} : EvR K (tC (.str x)) ρ (.str x) := ef_str.r
theorem er_bl {x : Bool} : EvR K (tC (.bl x)) ρ (.bool x) := ef_bl.r
theorem er_non : EvR K (tC .non) ρ .none := ef_non.r
/-- two operands, then the operation -/
theorem er_bin {r : R2} {x y z : PyData} (ha : EvR K ta ρ x) (hb : EvR K tb ρ y)
    (hr : ∀ H v w (Q : VK), Dq K H v x → Dq K H w y → (∀ u H2, Ex H H2 → Dq K H2 u z → Q u H2) → r v w H Q) : EvR K (tOp r ta tb) ρ z := fun H0 σ H o Q q =>
  ha H0 σ H o _ fun v H1 e1 d1 => hb H0 σ H1 (o.mono e1) _ fun w H2 e2 d2 => hr H2 v w Q (dp_ex e2 d1) d2 fun u H3 e3 d3 => q u H3 ((e1.trans e2).trans e3) d3
theorem er_I0 {g : Int → Int → V} {gd : PyData} {i j : Int} (ha : EvR K ta ρ (.int i)) (hb : EvR K tb ρ (.int j)) (hg : ∀ H, Dq K H (g i j) gd) : EvR K (tOp (rI0 g) ta tb) ρ gd :=
  er_bin ha hb fun H v w Q h1 h2 q => by
    cases h1; cases h2
    exact ⟨i, j, rfl, rfl, q _ H (Ex.refl H) (hg H)⟩
theorem er_I {C : Int → Int → Prop} {g : Int → Int → V} {gd : PyData} {i j : Int} (ha : EvR K ta ρ (.int i)) (hb : EvR K tb ρ (.int j)) (hc : C i j) (hg : ∀ H, Dq K H (g i j) gd) : EvR K (tOp (rI C g) ta tb) ρ gd :=
  er_bin ha hb fun H v w Q h1 h2 q => by
    cases h1; cases h2
    exact ⟨i, j, rfl, rfl, hc, q _ H (Ex.refl H) (hg H)⟩
section
variable {i j : Int}
theorem er_add (ha : EvR K ta ρ (.int i)) (hb : EvR K tb ρ (.int j)) : EvR K (tOp (rI0 fun i j => .int (i + j)) ta tb) ρ (.int (i + j)) := er_I0 ha hb fun _ => .int _
theorem er_sub (ha : EvR K ta ρ (.int i)) (hb : EvR K tb ρ (.int j)) : EvR K (tOp (rI0 fun i j => .int (i - j)) ta tb) ρ (.int (i - j)) := er_I0 ha hb fun _ => .int _
theorem er_mul (ha : EvR K ta ρ (.int i)) (hb : EvR K tb ρ (.int j)) (hc : CMul i j) : EvR K (tOp (rI CMul fun i j => .int (i * j)) ta tb) ρ (.int (i * j)) := er_I ha hb hc fun _ => .int _
theorem er_mod (ha : EvR K ta ρ (.int i)) (hb : EvR K tb ρ (.int j)) (hc : 0 < j) : EvR K (tOp (rI (fun _ j => 0 < j) fun i j => .int (i % j)) ta tb) ρ (.int (i % j)) := er_I ha hb hc fun _ => .int _
theorem er_fdiv (ha : EvR K ta ρ (.int i)) (hb : EvR K tb ρ (.int j)) (hc : CDiv i j) : EvR K (tOp (rI CDiv fun i j => .int (i / j)) ta tb) ρ (.int (i / j)) := er_I ha hb hc fun _ => .int _
theorem er_pow (ha : EvR K ta ρ (.int i)) (hb : EvR K tb ρ (.int j)) (hc : CPow i j) : EvR K (tOp (rI CPow fun i j => .int (i ^ j.toNat)) ta tb) ρ (.int (i ^ j.toNat)) := er_I ha hb hc fun _ => .int _
theorem er_lt (ha : EvR K ta ρ (.int i)) (hb : EvR K tb ρ (.int j)) : EvR K (tOp (rI0 fun i j => .bl (decide (i < j))) ta tb) ρ (.bool (decide (i < j))) := er_I0 ha hb fun _ => .bl _
theorem er_le (ha : EvR K ta ρ (.int i)) (hb : EvR K tb ρ (.int j)) : EvR K (tOp (rI0 fun i j => .bl (decide (i ≤ j))) ta tb) ρ (.bool (decide (i ≤ j))) := er_I0 ha hb fun _ => .bl _
theorem er_gt (ha : EvR K ta ρ (.int i)) (hb : EvR K tb ρ (.int j)) : EvR K (tOp (rI0 fun i j => .bl (decide (j < i))) ta tb) ρ (.bool (decide (j < i))) := er_I0 ha hb fun _ => .bl _
theorem er_ge (ha : EvR K ta ρ (.int i)) (hb : EvR K tb ρ (.int j)) : EvR K (tOp (rI0 fun i j => .bl (decide (j ≤ i))) ta tb) ρ (.bool (decide (j ≤ i))) := er_I0 ha hb fun _ => .bl _
theorem er_neg (ha : EvR K ta ρ (.int i)) : EvR K (tUn (rU fun i => .int (-i)) ta) ρ (.int (-i)) := fun H0 σ H o Q q =>
  ha H0 σ H o _ fun v H1 e1 d1 => by
    cases d1
    exact ⟨i, rfl, q _ H1 e1 (.int _)⟩
/-- a < b < c and the like -/
theorem er_chain {r r' : R2} {x y z : PyData} {b1 b2 : Bool} (ha : EvR K ta ρ x) (hb : EvR K tb ρ y) (hc : EvR K tc ρ z)
    (h1 : ∀ H v w (Q : VK), Dq K H v x → Dq K H w y → Q (.bl b1) H → r v w H Q) (h2 : b1 = true → ∀ H v w (Q : VK), Dq K H v y → Dq K H w z → Q (.bl b2) H → r' v w H Q) :
    EvR K (tChain r r' ta tb tc) ρ (.bool (b1 && b2)) := fun H0 σ H o Q q =>
  ha H0 σ H o _ fun v H1 e1 d1 => hb H0 σ H1 (o.mono e1) _ fun w H2 e2 d2 => h1 H2 v w _ (dp_ex e2 d1) d2 ⟨b1, rfl, by
    cases b1 with
    | false => exact iteF (q _ H2 (e1.trans e2) (.bl _))
    | true => exact iteT (hc H0 σ H2 (o.mono (e1.trans e2)) _ fun x H3 e3 d3 => h2 rfl H3 w x Q (dp_ex e3 d2) d3 (q _ H3 ((e1.trans e2).trans e3) (.bl _)))⟩
theorem rI0_bl {p : Int → Int → Bool} {i j : Int} {H : Hp} {v w : V} {Q : VK} (h1 : Dq K H v (.int i)) (h2 : Dq K H w (.int j)) (q : Q (.bl (p i j)) H) : rI0 (fun i j => .bl (p i j)) v w H Q := by
  cases h1; cases h2
  exact ⟨i, j, rfl, rfl, q⟩
theorem er_le_le {k : Int} (ha : EvR K ta ρ (.int i)) (hb : EvR K tb ρ (.int j)) (hc : EvR K tc ρ (.int k)) :
    EvR K (tChain (rI0 fun i j => .bl (decide (i ≤ j))) (rI0 fun i j => .bl (decide (i ≤ j))) ta tb tc) ρ (.bool (decide (i ≤ j) && decide (j ≤ k))) :=
  er_chain ha hb hc (fun _ _ _ _ a b q => rI0_bl (p := fun i j => decide (i ≤ j)) a b q) fun _ _ _ _ _ a b q => rI0_bl (p := fun i j => decide (i ≤ j)) a b q
theorem er_le_lt {k : Int} (ha : EvR K ta ρ (.int i)) (hb : EvR K tb ρ (.int j)) (hc : EvR K tc ρ (.int k)) :
    EvR K (tChain (rI0 fun i j => .bl (decide (i ≤ j))) (rI0 fun i j => .bl (decide (i < j))) ta tb tc) ρ (.bool (decide (i ≤ j) && decide (j < k))) :=
  er_chain ha hb hc (fun _ _ _ _ a b q => rI0_bl (p := fun i j => decide (i ≤ j)) a b q) fun _ _ _ _ _ a b q => rI0_bl (p := fun i j => decide (i < j)) a b q
end
theorem er_eqD {x y : PyData} (ha : EvR K ta ρ x) (hb : EvR K tb ρ y) (sx : SeqAt.shaped x = true) (sy : SeqAt.shaped y = true) : EvR K (tOp (rEqD K) ta tb) ρ (.bool (PyData.eqv x y)) :=
  er_bin ha hb fun H v w Q h1 h2 q => ⟨x, y, dq_dp h1, dq_dp h2, sx, sy, q _ H (Ex.refl H) (.bl _)⟩
theorem er_neD {x y : PyData} (ha : EvR K ta ρ x) (hb : EvR K tb ρ y) (sx : SeqAt.shaped x = true) (sy : SeqAt.shaped y = true) : EvR K (tOp (rNeD K) ta tb) ρ (.bool (!PyData.eqv x y)) :=
  er_bin ha hb fun H v w Q h1 h2 q => ⟨x, y, dq_dp h1, dq_dp h2, sx, sy, q _ H (Ex.refl H) (.bl _)⟩
theorem er_isN {x : PyData} (ha : EvR K ta ρ x) {b : Bool} (hb : b = (match x with | .none => true | _ => false)) : EvR K (tOp (fun x y H Q => y = V.non ∧ Q (.bl (decide (x = V.non))) H) ta (tC .non)) ρ (.bool b) :=
  er_bin ha er_non fun H v w Q h1 h2 q => by
    cases h2
    refine ⟨rfl, ?_⟩
    have e : decide (v = V.non) = b := by rw [hb]; cases h1 <;> rfl
    rw [e]
    exact q _ H (Ex.refl H) (.bl _)
theorem er_notN {x : PyData} (ha : EvR K ta ρ x) {b : Bool} (hb : b = (match x with | .none => false | _ => true)) : EvR K (tOp (fun x y H Q => y = V.non ∧ Q (.bl (!decide (x = V.non))) H) ta (tC .non)) ρ (.bool b) :=
  er_bin ha er_non fun H v w Q h1 h2 q => by
    cases h2
    refine ⟨rfl, ?_⟩
    have e : (!decide (v = V.non)) = b := by rw [hb]; cases h1 <;> rfl
    rw [e]
    exact q _ H (Ex.refl H) (.bl _)
/-! in a sequence of flat things -/
def flatD : PyData → Bool
  | .none => true
  | .bool _ => true
  | .int _ => true
  | .str _ => true
  | _ => false
def eqD : PyData → PyData → Bool
  | .none, .none => true
  | .bool a, .bool b => a == b
  | .bool a, .int b => (if a then 1 else 0) == b
  | .int a, .bool b => a == (if b then 1 else 0)
  | .int a, .int b => a == b
  | .str a, .str b => a == b
  | _, _ => false
theorem flat_of {H : Hp} {v : V} {d : PyData} (h : Dq K H v d) (f : flatD d = true) : flatV v = true := by cases h <;> first | rfl | simp [flatD] at f
theorem eq_of {H : Hp} {v w : V} {d e : PyData} (h : Dq K H v d) (h' : Dq K H w e) (f : flatD d = true) (f' : flatD e = true) : eqV v w = eqD d e := by
  cases h <;> cases h' <;> first | rfl | simp [flatD] at f | simp [flatD] at f'
theorem flats_of {H : Hp} : ∀ {vs : List V} {ds : List PyData}, DqAll K H vs ds → ds.all flatD = true → vs.all flatV = true
  | _, _, .nil, _ => rfl
  | _, _, .cons a b, f => by
    simp only [List.all_cons, Bool.and_eq_true] at f ⊢
    exact ⟨flat_of a f.1, flats_of b f.2⟩
theorem in_of {H : Hp} {x : V} {d : PyData} (h : Dq K H x d) (f : flatD d = true) : ∀ {vs : List V} {ds : List PyData}, DqAll K H vs ds → ds.all flatD = true → inV x vs = ds.any fun y => eqD y d
  | _, _, .nil, _ => rfl
  | _, _, .cons a b, g => by
    simp only [List.all_cons, Bool.and_eq_true] at g
    have ih := in_of h f b g.2
    unfold inV at ih ⊢
    rw [List.any_cons, List.any_cons, ih, eq_of a h g.1 f]
theorem er_inS {neg : Bool} {x y : PyData} {ds : List PyData} (ha : EvR K ta ρ x) (hb : EvR K tb ρ y) (hy : y = .tuple ds ∨ y = .list ds) (fx : flatD x = true) (fs : ds.all flatD = true) :
    EvR K (tOp (rIn K neg) ta tb) ρ (.bool (if neg then !(ds.any fun y => eqD y x) else ds.any fun y => eqD y x)) :=
  er_bin ha hb fun H v w Q h1 h2 q => by
    rcases hy with rfl | rfl
    · obtain ⟨a, vs, rfl, s, al⟩ := dp_tup h2
      refine ⟨a, vs, rfl, .inr s.s, flat_of h1 fx, flats_of al fs, ?_⟩
      rw [in_of h1 fx al fs]
      exact q _ H (Ex.refl H) (.bl _)
    · obtain ⟨a, vs, rfl, s, al⟩ := dp_lst h2
      refine ⟨a, vs, rfl, .inl s, flat_of h1 fx, flats_of al fs, ?_⟩
      rw [in_of h1 fx al fs]
      exact q _ H (Ex.refl H) (.bl _)
theorem any_ints (ns : List Int) (k : Int) : (ns.map PyData.int).any (fun y => eqD y (.int k)) = decide (k ∈ ns) := by
  induction ns with
  | nil => rfl
  | cons a r ih =>
    rw [List.map_cons, List.any_cons, ih]
    show (a == k || decide (k ∈ r)) = _
    by_cases h : a = k
    · subst h; simp
    · have : ¬ k = a := fun z => h z.symm
      simp [h, this]
theorem flat_ints (ns : List Int) : (ns.map PyData.int).all flatD = true := by
  induction ns with
  | nil => rfl
  | cons a r ih => rw [List.map_cons, List.all_cons, ih]; rfl
/-! displays, arguments -/
theorem ea_nil : EvA K tNil ρ [] := fun _ _ H _ _ q => q [] H (Ex.refl H) .nil
theorem ea_cons {tr : TA} {ds : List PyData} (h : EvR K ta ρ d) (hr : EvA K tr ρ ds) : EvA K (tCons ta tr) ρ (d :: ds) := fun H0 σ H o Q q =>
  h H0 σ H o _ fun v H1 e1 d1 => hr H0 σ H1 (o.mono e1) _ fun vs H2 e2 d2 => q _ H2 (e1.trans e2) (.cons (dp_ex e2 d1) d2)
theorem er_tup {ta : TA} {ds : List PyData} (h : EvA K ta ρ ds) (hl : ds.length ≤ 100000 := by simp) : EvR K (tTupN ta) ρ (.tuple ds) := fun H0 σ H o Q q =>
  h H0 σ H o _ fun vs H1 e1 d1 => ⟨Evl.sz_of (by rw [dpAll_len d1]; exact hl), fun p ob hp hd =>
    q _ _ (e1.trans (Evl.Ex.new hp)) (.tup (NT.new hd) (dpAll_ex (Evl.Ex.new hp) d1))⟩
theorem ef_lst {ta : TA} {ds : List PyData} (h : EvA K ta ρ ds) (hi : immAll ds = true) (hl : ds.length ≤ 100000 := by simp) : EvF K (tLst ta) ρ (.list ds) := fun H0 σ H o Q q =>
  h H0 σ H o _ fun vs H1 e1 d1 => ⟨Evl.sz_of (by rw [dpAll_len d1]; exact hl), fun p hp =>
    q _ _ (e1.trans (Evl.Ex.new hp)) (.inr ⟨ds, p, vs, rfl, rfl, Evl.fresh_back e1 hp, upd_same, dpAll_ex (Evl.Ex.new hp) d1, hi⟩)⟩
theorem ef_call {R : List PyData → PyData → Prop} {ta : TA} {ds : List PyData} {E : XK} (h : EvA K ta ρ ds) (hR : R ds d) : EvF K (tCall (spD K R) [] E ta) ρ d := fun H0 σ H o Q q =>
  h H0 σ H o _ fun vs H1 e1 d1 => by
    show spD K R (vs ++ []) H1 Q E
    rw [List.append_nil]
    exact ⟨ds, d, d1, hR, fun v H' e' r => q v H' (e1.trans e') (r.back e1)⟩
theorem er_call {R : List PyData → PyData → Prop} {ta : TA} {ds : List PyData} {E : XK} (h : EvA K ta ρ ds) (hR : R ds d) : EvR K (tCall (spD K R) [] E ta) ρ d := (ef_call h hR).r
/-! items, slices, sums of sequences -/
theorem dp_inv {H : Hp} {x y : PyData} {ds : List PyData} (hy : y = .tuple ds ∨ y = .list ds) {v : V} (h : Dq K H v y) : ∃ a vs, v = .ref a ∧ (SqT K H a vs ∨ SqL K H a vs) ∧ DqAll K H vs ds := by
  rcases hy with rfl | rfl
  · obtain ⟨a, vs, r, s, al⟩ := dp_tup h
    exact ⟨a, vs, r, .inl s.s, al⟩
  · obtain ⟨a, vs, r, s, al⟩ := dp_lst h
    exact ⟨a, vs, r, .inr s, al⟩
theorem at_of_dp {H : Hp} {vs : List V} {ds : List PyData} {i : Int} (al : DqAll K H vs ds) (h : atI ds i = some d) : ∃ v, atI vs i = some v ∧ Dq K H v d := by
  unfold atI at h ⊢
  rw [dpAll_len al]
  cases e : ixN ds.length i with
  | none => rw [e] at h; cases h
  | some j =>
    rw [e] at h
    exact dpAll_get al h
theorem er_ixT {ds : List PyData} {i : Int} (ha : EvR K ta ρ (.tuple ds)) (hb : EvR K tb ρ (.int i)) (h : atI ds i = some d) : EvR K (tOp (rIxT K) ta tb) ρ d :=
  er_bin ha hb fun H v w Q h1 h2 q => by
    obtain ⟨a, vs, rfl, s, al⟩ := dp_tup h1
    cases h2
    obtain ⟨x, e1, e2⟩ := at_of_dp al h
    exact ⟨a, vs, i, x, rfl, rfl, s.s, e1, q x H (Ex.refl H) e2⟩
theorem er_ixL {ds : List PyData} {i : Int} (ha : EvR K ta ρ (.list ds)) (hb : EvR K tb ρ (.int i)) (h : atI ds i = some d) : EvR K (tOp (rIxL K) ta tb) ρ d :=
  er_bin ha hb fun H v w Q h1 h2 q => by
    obtain ⟨a, vs, rfl, s, al⟩ := dp_lst h1
    cases h2
    obtain ⟨x, e1, e2⟩ := at_of_dp al h
    exact ⟨a, vs, i, x, rfl, rfl, s, e1, q x H (Ex.refl H) e2⟩
def cutD (xs : List PyData) (lo hi : Option Int) : List PyData := (xs.drop (HT.sIx xs.length 0 lo)).take (HT.sIx xs.length xs.length hi - HT.sIx xs.length 0 lo)
theorem eo_none : EvO K tNoPart ρ none := fun _ _ H _ _ q => q H (Ex.refl H)
theorem eo_some {i : Int} (h : EvR K te ρ (.int i)) : EvO K (tPart te) ρ (some i) := fun H0 σ H o Q q => h H0 σ H o _ fun v H1 e1 d1 => by
  cases d1
  exact ⟨i, rfl, q H1 e1⟩
theorem cut_of {H : Hp} {vs : List V} {ds : List PyData} (al : DqAll K H vs ds) (lo hi : Option Int) : DqAll K H (cutV vs lo hi) (cutD ds lo hi) := by
  unfold cutV cutD
  rw [dpAll_len al]
  exact dpAll_take _ (dpAll_drop _ al)
theorem er_slT {tl th : TO} {ds : List PyData} {lo hi : Option Int} (ha : EvR K ta ρ (.tuple ds)) (hl : EvO K tl ρ lo) (hh : EvO K th ρ hi) : EvR K (tSl (rSlN K) ta tl th) ρ (.tuple (cutD ds lo hi)) := fun H0 σ H o Q q =>
  ha H0 σ H o _ fun v H1 e1 d1 => hl H0 σ H1 (o.mono e1) _ fun H2 e2 => hh H0 σ H2 (o.mono (e1.trans e2)) _ fun H3 e3 => by
    obtain ⟨a, vs, rfl, s, al⟩ := dp_tup (dp_ex (e2.trans e3) d1)
    refine ⟨a, vs, rfl, s.s, fun hw => ?_, fun _ p ob hp hd => ?_⟩
    · refine q _ H3 ((e1.trans e2).trans e3) (.tup s ?_)
      have c : cutD ds lo hi = ds := by
        unfold cutD
        rw [← dpAll_len al, hw.1, hw.2, List.drop_zero, Nat.sub_zero, dpAll_len al, List.take_length]
      rw [c]
      exact al
    · exact q _ _ (((e1.trans e2).trans e3).trans (Evl.Ex.new hp)) (.tup (NT.new hd) (dpAll_ex (Evl.Ex.new hp) (cut_of al lo hi)))
theorem immAll_sub {xs ys : List PyData} (h : immAll xs = true) (hs : ∀ y ∈ ys, y ∈ xs) : immAll ys = true := immAll_iff.mpr fun d hd => immAll_iff.mp h d (hs d hd)
theorem imm_cut {ds : List PyData} {lo hi : Option Int} (h : immAll ds = true) : immAll (cutD ds lo hi) = true := immAll_sub h fun y hy => List.mem_of_mem_drop (List.mem_of_mem_take hy)
theorem ef_slL {tl th : TO} {ds : List PyData} {lo hi : Option Int} (ha : EvR K ta ρ (.list ds)) (hl : EvO K tl ρ lo) (hh : EvO K th ρ hi) (hi' : immAll ds = true) : EvF K (tSl (rSlL K) ta tl th) ρ (.list (cutD ds lo hi)) := fun H0 σ H o Q q =>
  ha H0 σ H o _ fun v H1 e1 d1 => hl H0 σ H1 (o.mono e1) _ fun H2 e2 => hh H0 σ H2 (o.mono (e1.trans e2)) _ fun H3 e3 => by
    obtain ⟨a, vs, rfl, s, al⟩ := dp_lst (dp_ex (e2.trans e3) d1)
    exact ⟨a, vs, rfl, s, fun p hp => q _ _ (((e1.trans e2).trans e3).trans (Evl.Ex.new hp))
      (.inr ⟨_, p, _, rfl, rfl, Evl.fresh_back ((e1.trans e2).trans e3) hp, upd_same, dpAll_ex (Evl.Ex.new hp) (cut_of al lo hi), imm_cut hi'⟩)⟩
theorem er_catT {xs ys : List PyData} (ha : EvR K ta ρ (.tuple xs)) (hb : EvR K tb ρ (.tuple ys)) (hl : xs.length + ys.length ≤ 100000) : EvR K (tOp (rCatN K) ta tb) ρ (.tuple (xs ++ ys)) :=
  er_bin ha hb fun H v w Q h1 h2 q => by
    obtain ⟨a, vs, rfl, s, al⟩ := dp_tup h1
    obtain ⟨b, ws, rfl, s', al'⟩ := dp_tup h2
    refine ⟨a, b, vs, ws, rfl, rfl, s.s, s'.s, Evl.sz_of (by rw [dpAll_len al, dpAll_len al']; exact hl), fun z => ?_, fun _ z => ?_, fun _ _ p ob hp hd => ?_⟩
    · subst z; cases al
      exact q _ H (Ex.refl H) (.tup s' al')
    · subst z; cases al'
      rw [List.append_nil] at q
      exact q _ H (Ex.refl H) (.tup s al)
    · exact q _ _ (Evl.Ex.new hp) (.tup (NT.new hd) (dpAll_ex (Evl.Ex.new hp) (dpAll_append al al')))
/-! len, int, min, tuple, list -/
theorem er_len {y : PyData} {ds : List PyData} (ha : EvR K ta ρ y) (hy : y = .tuple ds ∨ y = .list ds) :
    EvR K (tCB (fun xs H Q => ∃ x n, xs = [x] ∧ LenV K x H n ∧ Q (.int n) H) (tCons ta tNil)) ρ (.int (ds.length : Nat)) := fun H0 σ H o Q q =>
  ha H0 σ H o _ fun v H1 e1 d1 => by
    obtain ⟨a, vs, rfl, s, al⟩ := dp_inv (x := .none) hy d1
    refine ⟨_, vs.length, rfl, ?_, ?_⟩
    · rcases s with s | s
      · exact .inr ⟨vs, s, rfl⟩
      · exact .inl ⟨vs, s, rfl⟩
    · rw [dpAll_len al]
      exact q _ H1 e1 (.int _)
theorem er_lenT {ds : List PyData} (ha : EvR K ta ρ (.tuple ds)) : EvR K (tCB (fun xs H Q => ∃ x n, xs = [x] ∧ LenV K x H n ∧ Q (.int n) H) (tCons ta tNil)) ρ (.int (ds.length : Nat)) := er_len ha (.inl rfl)
theorem er_lenL {ds : List PyData} (ha : EvR K ta ρ (.list ds)) : EvR K (tCB (fun xs H Q => ∃ x n, xs = [x] ∧ LenV K x H n ∧ Q (.int n) H) (tCons ta tNil)) ρ (.int (ds.length : Nat)) := er_len ha (.inr rfl)
theorem er_lenS {x : Str} (ha : EvR K ta ρ (.str x)) (hl : x.length ≤ 100000) : EvR K (tCB (fun xs H Q => ∃ x n, xs = [x] ∧ LenV K x H n ∧ Q (.int n) H) (tCons ta tNil)) ρ (.int (x.length : Nat)) := fun H0 σ H o Q q =>
  ha H0 σ H o _ fun v H1 e1 d1 => by
    cases d1
    exact ⟨_, x.length, rfl, ⟨Evl.sz_of hl, rfl⟩, q _ H1 e1 (.int _)⟩
theorem er_intB {b : Bool} (ha : EvR K ta ρ (.bool b)) : EvR K (tCB (fun xs H Q => (∃ i, xs = [.int i] ∧ Q (.int i) H) ∨ ∃ k, xs = [.bl k] ∧ Q (.int (if k then 1 else 0)) H) (tCons ta tNil)) ρ (.int (if b then 1 else 0)) := fun H0 σ H o Q q =>
  ha H0 σ H o _ fun v H1 e1 d1 => by
    cases d1
    exact .inr ⟨b, rfl, q _ H1 e1 (.int _)⟩
theorem er_min {i j : Int} (ha : EvR K ta ρ (.int i)) (hb : EvR K tb ρ (.int j)) : EvR K (tCB (fun xs H Q => ∃ i j, xs = [.int i, .int j] ∧ Q (.int (if j < i then j else i)) H) (tCons ta (tCons tb tNil))) ρ (.int (if j < i then j else i)) := fun H0 σ H o Q q =>
  ha H0 σ H o _ fun v H1 e1 d1 => hb H0 σ H1 (o.mono e1) _ fun w H2 e2 d2 => by
    cases d1; cases d2
    exact ⟨i, j, rfl, q _ H2 (e1.trans e2) (.int _)⟩
theorem er_tupleL {ds : List PyData} (ha : EvR K ta ρ (.list ds)) :
    EvR K (tCB (fun xs H Q => ∃ p ys, xs = [.ref p] ∧ SqL K H p ys ∧ ∀ l o, H l = none → o.dict = none → Q (.ref l) (upd H l (.frz o (.tup ys)))) (tCons ta tNil)) ρ (.tuple ds) := fun H0 σ H o Q q =>
  ha H0 σ H o _ fun v H1 e1 d1 => by
    obtain ⟨a, vs, rfl, s, al⟩ := dp_lst d1
    exact ⟨a, vs, rfl, s, fun l ob hl hd => q _ _ (e1.trans (Evl.Ex.new hl)) (.tup (NT.new hd) (dpAll_ex (Evl.Ex.new hl) al))⟩
theorem ef_listS {y : PyData} {ds : List PyData} (ha : EvR K ta ρ y) (hy : y = .tuple ds ∨ y = .list ds) (hi : immAll ds = true) :
    EvF K (tCB (fun xs H Q => ∃ p ys, xs = [.ref p] ∧ (SqL K H p ys ∨ SqT K H p ys) ∧ ∀ l, H l = none → Q (.ref l) (upd H l (.lst ys))) (tCons ta tNil)) ρ (.list ds) := fun H0 σ H o Q q =>
  ha H0 σ H o _ fun v H1 e1 d1 => by
    obtain ⟨a, vs, rfl, s, al⟩ := dp_inv (x := .none) hy d1
    exact ⟨a, vs, rfl, s.symm, fun l hl => q _ _ (e1.trans (Evl.Ex.new hl)) (.inr ⟨ds, l, vs, rfl, rfl, Evl.fresh_back e1 hl, upd_same, dpAll_ex (Evl.Ex.new hl) al, hi⟩)⟩
/-! tests -/
theorem et_test {b : Bool} (h : EvR K te ρ (.bool b)) : EvT K (tTest te) ρ b := fun H0 σ H o Q q => h H0 σ H o _ fun v H1 e1 d1 => by
  cases d1
  exact ⟨b, rfl, q H1 e1⟩
theorem et_B {b : Bool} (h : EvR K te ρ (.bool b)) : EvT K (tB te) ρ b := fun H0 σ H o Q q => h H0 σ H o _ fun v H1 e1 d1 => by
  cases d1
  exact ⟨b, rfl, q H1 e1⟩
theorem et_not {b : Bool} (h : EvT K t ρ b) : EvT K (tNot t) ρ (!b) := fun H0 σ H o Q q => h H0 σ H o _ fun H1 e1 => q H1 e1
theorem et_and {a b : Bool} (h1 : EvT K t ρ a) (h2 : a = true → EvT K u ρ b) : EvT K (tAnd t u) ρ (a && b) := fun H0 σ H o Q q => h1 H0 σ H o _ fun H1 e1 => by
  cases a with
  | true => exact iteT (h2 rfl H0 σ H1 (o.mono e1) Q fun H2 e2 => q H2 (e1.trans e2))
  | false => exact iteF (q H1 e1)
theorem et_or {a b : Bool} (h1 : EvT K t ρ a) (h2 : a = false → EvT K u ρ b) : EvT K (tOr t u) ρ (a || b) := fun H0 σ H o Q q => h1 H0 σ H o _ fun H1 e1 => by
  cases a with
  | true => exact iteT (q H1 e1)
  | false => exact iteF (h2 rfl H0 σ H1 (o.mono e1) Q fun H2 e2 => q H2 (e1.trans e2))
theorem et_tru {y : PyData} {ds : List PyData} (ha : EvR K ta ρ y) (hy : y = .tuple ds ∨ y = .list ds) : EvT K (fun σ H Q => ta σ H fun x H' => ∃ k, TruV K x H' k ∧ Q k H') ρ (!ds.isEmpty) := fun H0 σ H o Q q =>
  ha H0 σ H o _ fun v H1 e1 d1 => by
    obtain ⟨a, vs, rfl, s, al⟩ := dp_inv (x := .none) hy d1
    refine ⟨!ds.isEmpty, ?_, q H1 e1⟩
    have e : vs.isEmpty = ds.isEmpty := by cases al <;> rfl
    rw [← e]
    rcases s with s | s
    · exact .inr (.inl ⟨vs, s, rfl⟩)
    · exact .inl ⟨vs, s, rfl⟩
theorem er_andV {a b : Bool} (h1 : EvR K ta ρ (.bool a)) (h2 : a = true → EvR K tb ρ (.bool b)) : EvR K (tAndV ta tb) ρ (.bool (a && b)) := fun H0 σ H o Q q => h1 H0 σ H o _ fun v H1 e1 d1 => by
  cases d1
  refine ⟨a, rfl, ?_⟩
  cases a with
  | true => exact iteT (h2 rfl H0 σ H1 (o.mono e1) Q fun v H2 e2 d2 => q v H2 (e1.trans e2) d2)
  | false => exact iteF (q _ H1 e1 (.bl _))
theorem er_notV {a : Bool} (h1 : EvR K ta ρ (.bool a)) : EvR K (tNotV ta) ρ (.bool (!a)) := fun H0 σ H o Q q => h1 H0 σ H o _ fun v H1 e1 d1 => by
  cases d1
  exact ⟨a, rfl, q _ H1 e1 (.bl _)⟩
theorem er_if {b : Bool} (h : EvT K t ρ b) (h1 : b = true → EvR K ta ρ d) (h2 : b = false → EvR K tb ρ d) : EvR K (tIf t ta tb) ρ d := fun H0 σ H o Q q => h H0 σ H o _ fun H1 e1 => by
  cases b with
  | true => exact iteT (h1 rfl H0 σ H1 (o.mono e1) Q fun v H2 e2 d2 => q v H2 (e1.trans e2) d2)
  | false => exact iteF (h2 rfl H0 σ H1 (o.mono e1) Q fun v H2 e2 d2 => q v H2 (e1.trans e2) d2)
end
end Lx

set_option Elab.async false
set_option linter.all false
set_option maxRecDepth 100000
set_option maxHeartbeats 1000000
namespace Lx
open PySem PySem.Spec PyProof.Rows L2
open Evl (Ex)

theorem sl_imm {d : PyData} (h : imm d = true) : sl d = .dat d := by cases d <;> first | rfl | simp [imm] at h
section
variable {K : PySem.W.Frag} {H0 H H' Ha : Hp} {σ : L2.St} {ρ : En}
theorem Ok.there (o : Ok K H0 H σ ρ) {a : Addr} (h : own σ ρ a) : ∃ vs, H a = some (.lst vs) := by
  obtain ⟨i, ds, h1, h2⟩ := h
  obtain ⟨p, vs, a1, _, c, _⟩ := o.lst i ds h1
  rw [h2] at a1; cases a1
  exact ⟨vs, c⟩
theorem Ok.putRes {i : Nat} {v : V} {d : PyData} (o : Ok K H0 H σ ρ) (r : Res K Ha H v d) (ha : Ex H0 Ha) (hw : ∀ a, own σ ρ a → Ha a ≠ none) :
    Ok K H0 H (σ.set i (some v)) (ρ.set i (some (sl d))) ∧ ∀ a, own (σ.set i (some v)) (ρ.set i (some (sl d))) a → own σ ρ a ∨ Ha a = none := by
  rcases r with ⟨hi, h⟩ | ⟨ds, p, vs, rfl, rfl, hp, h, al, im⟩
  · rw [sl_imm hi]
    exact ⟨o.put h (.inl hi), fun a q => .inl (own_put o q)⟩
  · show Ok K H0 H _ (ρ.set i (some (.lst ds))) ∧ ∀ a, own _ (ρ.set i (some (.lst ds))) a → _
    refine ⟨o.putL (Evl.fresh_back ha hp) h (fun j es _ h1 h2 => hw p ⟨j, es, h1, h2⟩ hp) al im, fun a q => ?_⟩
    rcases own_putL q with z | z
    · exact .inl z
    · rw [z]; exact .inr hp
theorem Ok.put1 {i : Nat} {v : V} {d : PyData} (o : Ok K H0 H σ ρ) (e : Ex H H') (r : Res K H H' v d) (hi : i ≠ 0) :
    Ok K H0 H' (σ.set i (some v)) (ρ.set i (some (sl d))) ∧ Fr σ ρ H (σ.set i (some v)) (ρ.set i (some (sl d))) H' := by
  have q := (o.mono e).putRes (i := i) r o.ex fun a h z => by
    obtain ⟨vs, c⟩ := o.there h
    rw [c] at z; cases z
  exact ⟨q.1, fun a u h _ => e a u h, q.2, List.getElem?_set_ne hi⟩
theorem Ok.drop (o : Ok K H0 H σ ρ) (i : Nat) : Ok K H0 H (σ.set i none) (ρ.set i none) := by
  have ne : ∀ (m : Nat) (s : Sl), (ρ.set i none)[m]? = some (some s) → i ≠ m := fun m s h hm => by
    subst hm
    by_cases hl : i < ρ.length
    · rw [List.getElem?_set_self hl] at h; cases h
    · rw [List.getElem?_eq_none (by simpa using hl)] at h; cases h
  refine ⟨o.ex, by rw [List.length_set, List.length_set]; exact o.len, fun j d h => ?_, fun j ds h => ?_, fun j k ds es p h1 h2 h3 h4 => ?_⟩
  · have n := ne j _ h
    rw [List.getElem?_set_ne n] at h ⊢
    exact o.dat j d h
  · have n := ne j _ h
    rw [List.getElem?_set_ne n] at h ⊢
    exact o.lst j ds h
  · have n1 := ne j _ h1
    have n2 := ne k _ h2
    rw [List.getElem?_set_ne n1] at h1 h3
    rw [List.getElem?_set_ne n2] at h2 h4
    exact o.sep j k ds es p h1 h2 h3 h4
end
def wipeR (ρ : En) : List Nat → En
  | [] => ρ
  | v :: vs => (wipeR ρ vs).set v none
theorem Ok.wipe {K : PySem.W.Frag} {H0 H : Hp} {σ : L2.St} {ρ : En} (o : Ok K H0 H σ ρ) : ∀ vs : List Nat, Ok K H0 H (L2.wipe σ vs) (wipeR ρ vs)
  | [] => o
  | v :: vs => (o.wipe vs).drop v
theorem wipe_get (σ : L2.St) : ∀ (vs : List Nat) (i : Nat), (L2.wipe σ vs)[i]? = if i ∈ vs then (σ[i]?).map (fun _ => none) else σ[i]?
  | [], i => by simp [L2.wipe]
  | v :: vs, i => by
    unfold L2.wipe
    by_cases h : v = i
    · subst h
      rw [if_pos (by simp)]
      by_cases hl : v < σ.length
      · rw [List.getElem?_set_self (by rw [wipe_length]; exact hl), List.getElem?_eq_getElem hl]; rfl
      · rw [List.getElem?_eq_none (by rw [List.length_set, wipe_length]; omega), List.getElem?_eq_none (by omega)]; rfl
    · rw [List.getElem?_set_ne h, wipe_get σ vs i]
      have e : (i ∈ v :: vs) ↔ i ∈ vs := by simp [Ne.symm h]
      by_cases hm : i ∈ vs
      · rw [if_pos hm, if_pos (e.mpr hm)]
      · rw [if_neg hm, if_neg (fun z => hm (e.mp z))]
theorem wipe_same {σ σ2 : L2.St} {vs : List Nat} (hl : σ2.length = σ.length) (h : ∀ i, i ∉ vs → σ2[i]? = σ[i]?) : L2.wipe σ2 vs = L2.wipe σ vs := by
  refine List.ext_getElem? fun i => ?_
  rw [wipe_get, wipe_get]
  by_cases hm : i ∈ vs
  · rw [if_pos hm, if_pos hm]
    by_cases hi : i < σ.length
    · rw [List.getElem?_eq_getElem (by rw [hl]; exact hi), List.getElem?_eq_getElem hi]; rfl
    · rw [List.getElem?_eq_none (by omega), List.getElem?_eq_none (by omega)]
  · rw [if_neg hm, if_neg hm]
    exact h i hm

/-! ### targets -/
section
variable (K : PySem.W.Frag)
def TgR (b : Bool) (g : TG) (d : PyData) (ρ : En) (js : List Nat) (ρ' : En) : Prop := ∀ H0 σ H v, Ok K H0 H σ ρ → Dz K b H v d → imm d = true → ∀ Q : L2.St → Hp → Prop,
  (∀ σ', Ok K H0 H σ' ρ' → (∀ a, own σ' ρ' a → own σ ρ a) → σ'.length = σ.length → σ'[0]? = σ[0]? → (∀ i, i ∉ js → σ'[i]? = σ[i]?) → Q σ' H) → g v σ H Q
def TgsR (g : TGs) (ds : List PyData) (ρ : En) (js : List Nat) (ρ' : En) : Prop := ∀ H0 σ H vs, Ok K H0 H σ ρ → DqAll K H vs ds → immAll ds = true → ∀ Q : L2.St → Hp → Prop,
  (∀ σ', Ok K H0 H σ' ρ' → (∀ a, own σ' ρ' a → own σ ρ a) → σ'.length = σ.length → σ'[0]? = σ[0]? → (∀ i, i ∉ js → σ'[i]? = σ[i]?) → Q σ' H) → g vs σ H Q
end
section
variable {K : PySem.W.Frag} {ρ ρ1 ρ2 : En} {d : PyData}
theorem tg_name (j : Nat) (hj : j ≠ 0 := by decide) : TgR K true (gName j) d ρ [j] (ρ.set j (some (.dat d))) := fun H0 σ H v o hd hi Q q =>
  q _ (o.put hd (.inl hi)) (fun _ z => own_put o z) (List.length_set ..) (List.getElem?_set_ne hj) fun i hm => List.getElem?_set_ne (fun z => hm (by simp [z]))
theorem tgs_nil : TgsR K gNil [] ρ [] ρ := fun H0 σ H vs o hd _ Q q => by
  cases hd
  exact ⟨rfl, q σ o (fun _ z => z) rfl rfl fun _ _ => rfl⟩
theorem tgs_cons {g : TG} {gs : TGs} {ds : List PyData} {js ks : List Nat} (h1 : TgR K true g d ρ js ρ1) (h2 : TgsR K gs ds ρ1 ks ρ2) : TgsR K (gCons g gs) (d :: ds) ρ (js ++ ks) ρ2 := fun H0 σ H vs o hd hi Q q => by
  cases hd with
  | cons a b =>
    have hi' := (by simpa [immAll] using hi : imm d = true ∧ immAll ds = true)
    refine ⟨_, _, rfl, h1 H0 σ H _ o a hi'.1 _ fun σ1 o1 w1 l1 z1 k1 => h2 H0 σ1 H _ o1 b hi'.2 Q fun σ2 o2 w2 l2 z2 k2 => ?_⟩
    exact q σ2 o2 (fun a z => w1 a (w2 a z)) (l2.trans l1) (z2.trans z1) fun i hm => (k2 i fun z => hm (List.mem_append_right _ z)).trans (k1 i fun z => hm (List.mem_append_left _ z))
theorem tg_tup {gs : TGs} {ds : List PyData} {js : List Nat} {n : Nat} {b : Bool} (h : TgsR K gs ds ρ js ρ1) (hn : ds.length = n := by rfl) : TgR K b (gTup K n gs) (.tuple ds) ρ js ρ1 := fun H0 σ H v o hd hi Q q => by
  have w : ∃ a vs, v = .ref a ∧ SqT K H a vs ∧ DqAll K H vs ds := by
    have weak : Dw K H v (.tuple ds) := by
      cases b with
      | true => exact .inl hd
      | false => exact hd
    rcases weak with z | ⟨es, a, vs, e, r, s, al⟩
    · obtain ⟨a, vs, r, s, al⟩ := dp_tup z
      exact ⟨a, vs, r, s.s, al⟩
    · cases e
      exact ⟨a, vs, r, s, al⟩
  obtain ⟨a, vs, rfl, s, al⟩ := w
  exact ⟨a, vs, rfl, s, (dpAll_len al).trans hn, h H0 σ H vs o al (by simpa [imm] using hi) Q q⟩
end

/-! ### walks -/
section
variable (K : PySem.W.Frag)
/-- in a comprehension nothing of one's own is changed -/
def EvC (b : Bool) (wi : TI) (ρ : En) (ds : List PyData) : Prop := immAll ds = true ∧ ∀ H0 σ H, Ok K H0 H σ ρ → ∀ R : It → Hp → Prop,
  (∀ J H1 (G : Hp → Prop), Ex H H1 → Walk J ds.length G (fun i H x H' => Ex H H' ∧ ∃ d, ds[i]? = some d ∧ Dz K b H' x d) → (∀ H', Ex H1 H' → G H') → R J H1) → wi σ H R
end
def enumD (ds : List PyData) : List PyData := ds.zipIdx.map fun p => .tuple [.int (p.2 : Nat), p.1]
theorem enumD_len (ds : List PyData) : (enumD ds).length = ds.length := by simp [enumD]
theorem enumD_get {ds : List PyData} {i : Nat} {d : PyData} (h : ds[i]? = some d) : (enumD ds)[i]? = some (.tuple [.int (i : Nat), d]) := by
  simp [enumD, List.getElem?_zipIdx, h]
theorem enumD_of {ds : List PyData} {i : Nat} {e : PyData} (h : (enumD ds)[i]? = some e) : ∃ d, ds[i]? = some d ∧ e = .tuple [.int (i : Nat), d] := by
  cases q : ds[i]? with
  | none =>
    have : (enumD ds)[i]? = none := by
      rw [List.getElem?_eq_none_iff] at q ⊢
      rw [enumD_len]; exact q
    rw [this] at h; cases h
  | some d =>
    rw [enumD_get q] at h
    cases h
    exact ⟨d, rfl, rfl⟩
theorem enumD_imm {ds : List PyData} (h : immAll ds = true) : immAll (enumD ds) = true := immAll_iff.mpr fun e he => by
  obtain ⟨i, hi⟩ := List.getElem?_of_mem he
  obtain ⟨d, hd, rfl⟩ := enumD_of hi
  simp [imm, immAll, immAll_get h hd]
def rngD (lo : Int) (n : Nat) : List PyData := (List.range n).map fun i => .int (lo + (i : Nat))
theorem rngD_imm (lo : Int) (n : Nat) : immAll (rngD lo n) = true := immAll_iff.mpr fun e he => by
  obtain ⟨i, _, rfl⟩ := List.mem_map.mp he
  rfl
theorem rngD_get {lo : Int} {n i : Nat} (h : i < n) : (rngD lo n)[i]? = some (.int (lo + (i : Nat))) := by simp [rngD, h]
theorem rngD_of {lo : Int} {n i : Nat} {e : PyData} (h : (rngD lo n)[i]? = some e) : i < n ∧ e = .int (lo + (i : Nat)) := by
  by_cases q : i < n
  · rw [rngD_get q] at h; cases h; exact ⟨q, rfl⟩
  · rw [List.getElem?_eq_none (by simp [rngD]; omega)] at h; cases h
theorem rngD_len (lo : Int) (n : Nat) : (rngD lo n).length = n := by simp [rngD]
def zipD (xs ys : List PyData) : List PyData := (xs.zip ys).map fun p => .tuple [p.1, p.2]
section
variable {K : PySem.W.Frag} {ρ : En} {te tb : TE} {ds es : List PyData}
theorem EvI.c {b : Bool} {wi : TI} (h : EvI K b wi ρ ds) : EvC K b wi ρ ds := ⟨h.1, fun H0 σ H o R q => h.2 H0 σ H o R fun J H1 G e w g => q J H1 G e w fun H' e' => g H' (o.ex.trans (e.trans e')) fun a u h _ => e' a u h⟩
/-- what a walk over the values vs yields -/
theorem y_at {J : It} {vs : List V} {G : Hp → Prop} (h : Walk J vs.length G (YAt vs)) (hl : vs.length = ds.length) (hg : ∀ H, G H → DqAll K H vs ds) : Walk J ds.length G (fun i H x H' => Ex H H' ∧ ∃ d, ds[i]? = some d ∧ Dz K true H' x d) := by
  rw [hl] at h
  refine ⟨h.goes, h.stops, fun i H x H' hi g y => ?_⟩
  obtain ⟨rfl, hx⟩ := h.yields i H x H' hi g y
  exact ⟨Ex.refl _, dpAll_getV (hg _ g) hx⟩
theorem y_en {J : It} {vs : List V} {G : Hp → Prop} (h : Walk J vs.length G (YPair (fun i => some (.int (i : Nat))) (fun i => vs[i]?))) (hl : vs.length = ds.length) (hg : ∀ H, G H → DqAll K H vs ds) :
    Walk J (enumD ds).length G (fun i H x H' => Ex H H' ∧ ∃ d, (enumD ds)[i]? = some d ∧ Dz K false H' x d) := by
  rw [hl] at h
  rw [enumD_len]
  refine ⟨h.goes, h.stops, fun i H x H' hi g y => ?_⟩
  obtain ⟨T, x1, y1, rfl, hn, rfl, hx, hy⟩ := h.yields i H x H' hi g y
  cases hx
  obtain ⟨d, hd, dp⟩ := dpAll_getV (hg _ g) hy
  have ex : Ex H (upd H T (.tup [.int (i : Nat), y1])) := Evl.Ex.new hn
  exact ⟨ex, _, enumD_get hd, .inr ⟨_, T, _, rfl, rfl, SqT.of upd_same, .cons (.int _) (.cons (dp_ex ex dp) .nil)⟩⟩
/-- tuples and lists that stay -/
theorem tup_stays {H0 H H1 H' : Hp} {σ : L2.St} (o : Ok K H0 H σ ρ) (e : Ex H H1) (k : ∀ a o, H1 a = some o → ¬ own σ ρ a → H' a = some o) : Tx H1 H' := by
  have nown : ∀ b u, H1 b = some u → (∀ ws, u ≠ .lst ws) → ¬ own σ ρ b := fun b u hb hu z => by
    obtain ⟨ws, c⟩ := o.there z
    rw [e b _ c] at hb
    cases hb
    exact hu ws rfl
  intro a ob xs s
  exact k a _ s (nown a _ s fun ws z => nomatch z)
theorem ei_tup (h : EvR K te ρ (.tuple ds)) (hi : immAll ds = true) : EvI K true (iTup K te) ρ ds := ⟨hi, fun H0 σ H o R q =>
  h H0 σ H o _ fun v H1 e1 d1 => by
    obtain ⟨a, vs, rfl, s, al⟩ := dp_tup d1
    refine ⟨a, rfl, ⟨vs, s.s⟩, q _ H1 (fun H' => SqT K H' a vs ∧ DqAll K H' vs ds) e1 (y_at (walk_tup.mono (fun _ z => z.1) fun _ _ _ _ _ _ y => y) (dpAll_len al) fun _ g => g.2) fun H' _ k => ?_⟩
    exact ⟨(s.tx (tup_stays o e1 k)).s, dpAll_tx (tup_stays o e1 k) hi al⟩⟩
theorem ei_enT (h : EvR K te ρ (.tuple ds)) (hi : immAll ds = true) : EvI K false (iEnumT K (tCons te tNil)) ρ (enumD ds) := ⟨enumD_imm hi, fun H0 σ H o R q =>
  h H0 σ H o _ fun v H1 e1 d1 => by
    obtain ⟨a, vs, rfl, s, al⟩ := dp_tup d1
    refine ⟨a, vs, rfl, s.s, q _ H1 (fun H' => SqT K H' a vs ∧ DqAll K H' vs ds) e1 (y_en (walk_u.mono (fun _ z => z.1) fun _ _ _ _ _ _ y => y) (dpAll_len al) fun _ g => g.2) fun H' _ k => ?_⟩
    exact ⟨(s.tx (tup_stays o e1 k)).s, dpAll_tx (tup_stays o e1 k) hi al⟩⟩
/-- a list that a loop may walk: the caller's, or one just made -/
def Stab (K : PySem.W.Frag) (te : TE) (ρ : En) (ds : List PyData) : Prop := immAll ds = true ∧ ∀ H0 σ H, Ok K H0 H σ ρ → ∀ Q : VK,
  (∀ a vs H1, Ex H H1 → SqL K H1 a vs → DqAll K H1 vs ds → (∀ H', Ex H0 H' → (∀ b o, H1 b = some o → ¬ own σ ρ b → H' b = some o) → SqL K H' a vs ∧ DqAll K H' vs ds) → Q (.ref a) H1) → te σ H Q
theorem stab_v (i : Nat) (h : ρ[i]? = some (some (.dat (.list ds)))) (hi : immAll ds = true) : Stab K (tVar i) ρ ds := ⟨hi, fun H0 σ H o Q q => by
  obtain ⟨v, a, b, c⟩ := o.dat i _ h
  rcases c with c | c
  · simp [imm] at c
  · obtain ⟨p, vs, rfl, s, al⟩ := dp_lst c
    exact ⟨.ref p, a, q p vs H (Ex.refl H) (Evl.ex_l o.ex s) (dpAll_ex o.ex al) fun H' e _ => ⟨Evl.ex_l e s, dpAll_ex e al⟩⟩⟩
theorem stab_f (h : EvF K te ρ (.list ds)) : immAll ds = true → Stab K te ρ ds := fun hi => ⟨hi, fun H0 σ H o Q q =>
  h H0 σ H o Q fun v H1 e1 r => by
    rcases r with ⟨z, _⟩ | ⟨ds', p, vs, e2, rfl, hn, hp, al, _⟩
    · simp [imm] at z
    · cases e2
      have nown : ¬ own σ ρ p := fun z => by
        obtain ⟨ws, c⟩ := o.there z
        rw [c] at hn; cases hn
      exact q p vs H1 e1 (SqL.of hp) al fun H' _ k => ⟨SqL.of (k p _ hp nown), dpAll_tx (tup_stays o e1 k) hi al⟩⟩
theorem ei_lst (h : Stab K te ρ ds) : EvI K true (iList K te) ρ ds := ⟨h.1, fun H0 σ H o R q =>
  h.2 H0 σ H o _ fun a vs H1 e1 s al k => ⟨a, rfl, ⟨vs, s⟩, q _ H1 (fun H' => SqL K H' a vs ∧ DqAll K H' vs ds) e1 (y_at (walk_list.mono (fun _ z => z.1) fun _ _ _ _ _ _ y => y) (dpAll_len al) fun _ g => g.2) k⟩⟩
theorem ei_en (h : Stab K te ρ ds) : EvI K false (iEnum K (tCons te tNil)) ρ (enumD ds) := ⟨enumD_imm h.1, fun H0 σ H o R q =>
  h.2 H0 σ H o _ fun a vs H1 e1 s al k => ⟨a, vs, rfl, s, q _ H1 (fun H' => SqL K H' a vs ∧ DqAll K H' vs ds) e1 (y_en (walk_enum.mono (fun _ z => z.1) fun _ _ _ _ _ _ y => y) (dpAll_len al) fun _ g => g.2) k⟩⟩
theorem ec_lst (h : EvR K te ρ (.list ds)) (hi : immAll ds = true) : EvC K true (iList K te) ρ ds := ⟨hi, fun H0 σ H o R q =>
  h H0 σ H o _ fun v H1 e1 d1 => by
    obtain ⟨a, vs, rfl, s, al⟩ := dp_lst d1
    exact ⟨a, rfl, ⟨vs, s⟩, q _ H1 (fun H' => SqL K H' a vs ∧ DqAll K H' vs ds) e1 (y_at (walk_list.mono (fun _ z => z.1) fun _ _ _ _ _ _ y => y) (dpAll_len al) fun _ g => g.2) fun H' e' => ⟨Evl.ex_l e' s, dpAll_ex e' al⟩⟩⟩
theorem ec_en (h : EvR K te ρ (.list ds)) (hi : immAll ds = true) : EvC K false (iEnum K (tCons te tNil)) ρ (enumD ds) := ⟨enumD_imm hi, fun H0 σ H o R q =>
  h H0 σ H o _ fun v H1 e1 d1 => by
    obtain ⟨a, vs, rfl, s, al⟩ := dp_lst d1
    exact ⟨a, vs, rfl, s, q _ H1 (fun H' => SqL K H' a vs ∧ DqAll K H' vs ds) e1 (y_en (walk_enum.mono (fun _ z => z.1) fun _ _ _ _ _ _ y => y) (dpAll_len al) fun _ g => g.2) fun H' e' => ⟨Evl.ex_l e' s, dpAll_ex e' al⟩⟩⟩
theorem ec_zip (h : EvR K te ρ (.list ds)) (h2 : EvR K tb ρ (.list es)) (hl : ds.length = es.length) (hi : immAll ds = true) (hj : immAll es = true) : EvC K false (iZip K (tCons te (tCons tb tNil))) ρ (zipD ds es) := by
  refine ⟨immAll_iff.mpr fun e he => ?_, fun H0 σ H o R q => h H0 σ H o _ fun v H1 e1 d1 => h2 H0 σ H1 (o.mono e1) _ fun w H2 e2 d2 => ?_⟩
  · obtain ⟨p, hp, rfl⟩ := List.mem_map.mp he
    have z := List.of_mem_zip hp
    simp [imm, immAll, immAll_iff.mp hi _ z.1, immAll_iff.mp hj _ z.2]
  · obtain ⟨a, vs, rfl, s, al⟩ := dp_lst (dp_ex e2 d1)
    obtain ⟨b, ws, rfl, s', al'⟩ := dp_lst d2
    have hn : (zipD ds es).length = min vs.length ws.length := by simp [zipD, dpAll_len al, dpAll_len al']
    refine ⟨a, b, vs, ws, rfl, s, s', q _ H2 (fun H' => (SqL K H' a vs ∧ SqL K H' b ws) ∧ DqAll K H' vs ds ∧ DqAll K H' ws es) (e1.trans e2) ?_ fun H' e' => ⟨⟨Evl.ex_l e' s, Evl.ex_l e' s'⟩, dpAll_ex e' al, dpAll_ex e' al'⟩⟩
    have W := (walk_zip (K := K) (a := a) (b := b) (xs := vs) (ys := ws) hn)
    refine ⟨fun i H hi g => W.goes i H hi g.1, fun H g => W.stops H g.1, fun i H x H' hi g y => ?_⟩
    obtain ⟨T, x1, y1, rfl, hne, rfl, hx, hy⟩ := W.yields i H x H' hi g.1 y
    obtain ⟨d, hd, dp⟩ := dpAll_getV g.2.1 hx
    obtain ⟨d', hd', dp'⟩ := dpAll_getV g.2.2 hy
    have ex : Ex H (upd H T (.tup [x1, y1])) := Evl.Ex.new hne
    refine ⟨ex, .tuple [d, d'], ?_, .inr ⟨_, T, _, rfl, rfl, SqT.of upd_same, .cons (dp_ex ex dp) (.cons (dp_ex ex dp') .nil)⟩⟩
    have hz : (ds.zip es)[i]? = some (d, d') := List.getElem?_zip_eq_some.mpr ⟨hd, hd'⟩
    simp [zipD, List.getElem?_map, hz]
theorem ei_rng1 {ta : TA} {n : Int} (h : EvA K ta ρ [.int n]) (hn : -100000 ≤ n ∧ n ≤ 100000) : EvI K true (iRng1 ta) ρ (rngD 0 n.toNat) := ⟨rngD_imm _ _, fun H0 σ H o R q =>
  h H0 σ H o _ fun vs H1 e1 d1 => by
    cases d1 with
    | cons a b =>
      cases b; cases a
      refine ⟨n, rfl, by omega, by omega, q _ H1 (fun _ => True) e1 ?_ fun _ _ _ => trivial⟩
      rw [rngD_len]
      have W := walk_range (lo := 0) (n := n.toNat)
      refine ⟨W.goes, W.stops, fun i H x H' hi g y => ?_⟩
      obtain ⟨rfl, rfl⟩ := W.yields i H x H' hi g y
      exact ⟨Ex.refl _, _, rngD_get hi, show Dq K _ _ _ from .int _⟩⟩
theorem ei_rng2 {ta : TA} {m n : Int} (h : EvA K ta ρ [.int m, .int n]) (hm : -100000 ≤ m ∧ m ≤ 100000) (hn : -100000 ≤ n ∧ n ≤ 100000) : EvI K true (iRng2 ta) ρ (rngD m (n - m).toNat) := ⟨rngD_imm _ _, fun H0 σ H o R q =>
  h H0 σ H o _ fun vs H1 e1 d1 => by
    cases d1 with
    | cons a b =>
      cases a
      cases b with
      | cons a b =>
        cases b; cases a
        refine ⟨m, n, rfl, ⟨by omega, by omega, by omega, by omega⟩, q _ H1 (fun _ => True) e1 ?_ fun _ _ _ => trivial⟩
        rw [rngD_len]
        have W := walk_range (lo := m) (n := (n - m).toNat)
        refine ⟨W.goes, W.stops, fun i H x H' hi g y => ?_⟩
        obtain ⟨rfl, rfl⟩ := W.yields i H x H' hi g y
        exact ⟨Ex.refl _, _, rngD_get hi, show Dq K _ _ _ from .int _⟩⟩
/-- a text, sign by sign -/
theorem ec_str {z : Str} (h : EvR K te ρ (.str z)) : EvC K true (iStr te) ρ (z.cps.toList.map fun c => .str ⟨#[c]⟩) := by
  refine ⟨immAll_iff.mpr fun e he => ?_, fun H0 σ H o R q => h H0 σ H o _ fun v H1 e1 d1 => ?_⟩
  · obtain ⟨c, _, rfl⟩ := List.mem_map.mp he
    rfl
  · cases d1
    refine ⟨z, rfl, q _ H1 (fun _ => True) e1 ?_ fun _ _ => trivial⟩
    have W := walk_str (z := z)
    have hl : (z.cps.toList.map fun c => PyData.str ⟨#[c]⟩).length = z.cps.size := by simp
    rw [hl]
    refine ⟨W.goes, W.stops, fun i H x H' hi g y => ?_⟩
    obtain ⟨rfl, c, hc, rfl⟩ := W.yields i H x H' hi g y
    exact ⟨Ex.refl _, .str ⟨#[c]⟩, by simp [hc], show Dq K _ _ _ from .str _⟩
/-- a comprehension: acc i is what is made of the first i items -/
theorem ef_lc {wi : TI} {g : TG} {tt : TT} {vs : List Nat} {items : List PyData} {bz : Bool} (acc : Nat → List PyData) (h : EvC K bz wi ρ items) (h0 : acc 0 = [])
    (hs : ∀ (i : Nat) (d : PyData), items[i]? = some d → ∃ (js : List Nat) (ρ2 : En) (b : Bool), TgR K bz g d (wipeR ρ vs) js ρ2 ∧ (∀ j ∈ js, j ∈ vs) ∧ EvT K tt ρ2 b ∧
      (b = true → ∃ e, EvR K te ρ2 e ∧ imm e = true ∧ acc (i + 1) = acc i ++ [e]) ∧ (b = false → acc (i + 1) = acc i)) (hz : items.length ≤ 10000) :
    EvF K (tLc wi g tt te vs) ρ (.list (acc items.length)) := fun H0 σ H o Q q => h.2 H0 σ H o _ fun J H1 G e1 W hG D hD => by
  refine lc_it (Qd := fun H' => Q (.ref D) H') W (fun i H' => i ≤ items.length → Ex H1 H' ∧ ∃ xs, H' D = some (.lst xs) ∧ DqAll K H' xs (acc i) ∧ immAll (acc i) = true ∧ (acc i).length ≤ i)
    (fun _ => ⟨Evl.Ex.new hD, [], upd_same, by rw [h0]; exact .nil, by rw [h0]; rfl, by rw [h0]; exact Nat.le_refl _⟩) (fun i H' hi p => hG H' (p hi).1) (fun i x H' H'' hi p y => ?_) (fun H' p => ?_)
  · obtain ⟨p1, xs, p2, p3, p4, p5⟩ := p (Nat.le_of_lt hi)
    obtain ⟨y1, d, y2, y3⟩ := y
    obtain ⟨js, ρ2, b, tg, sub, et, yes, no⟩ := hs i d y2
    have e2 : Ex H H'' := e1.trans (p1.trans y1)
    have o2 : Ok K H0 H'' (L2.wipe σ vs) (wipeR ρ vs) := (o.mono e2).wipe vs
    refine tg H0 _ H'' x o2 y3 (immAll_get h.1 y2) _ fun σ2 o3 _ l3 _ k3 => ⟨?_, et H0 σ2 H'' o3 _ fun H3 e3 => ?_⟩
    · rw [wipe_same (σ := L2.wipe σ vs) (σ2 := σ2) (vs := vs) l3 fun i hm => k3 i fun z => hm (sub i z)]
      refine List.ext_getElem? fun i => ?_
      rw [wipe_get, wipe_get]
      by_cases hm : i ∈ vs
      · rw [if_pos hm, if_pos hm, Option.map_map]; rfl
      · rw [if_neg hm, if_neg hm]
    · cases b with
      | false =>
        refine iteF fun _ => ⟨p1.trans (y1.trans e3), xs, e3 _ _ (y1 _ _ p2), ?_, ?_, ?_⟩
        · rw [no rfl]; exact dpAll_ex (y1.trans e3) p3
        · rw [no rfl]; exact p4
        · rw [no rfl]; omega
      | true =>
        obtain ⟨e, er, ie, ea⟩ := yes rfl
        refine iteT (er H0 σ2 H3 (o3.mono e3) _ fun w H4 e4 d4 => ⟨xs, e4 _ _ (e3 _ _ (y1 _ _ p2)), ?_, fun _ => ⟨?_, xs ++ [w], upd_same, ?_, ?_, ?_⟩⟩)
        · rw [dpAll_len p3]
          exact Evl.sz_lt (by omega)
        · exact Evl.Ex.mut (p1.trans (y1.trans (e3.trans e4))) hD
        · rw [ea]
          have hl : H4 D = some (.lst xs) := e4 _ _ (e3 _ _ (y1 _ _ p2))
          exact dpAll_append (dpAll_tx (tx_upd hl) p4 (dpAll_ex (y1.trans (e3.trans e4)) p3)) (.cons (dp_tx (tx_upd hl) ie d4) .nil)
        · rw [ea]; exact immAll_append p4 (immAll_one ie)
        · rw [ea, List.length_append]
          show _ + 1 ≤ i + 1
          omega
  · obtain ⟨p1, xs, p2, p3, p4, p5⟩ := p (Nat.le_refl _)
    exact q _ H' (e1.trans p1) (.inr ⟨_, D, xs, rfl, rfl, Evl.fresh_back e1 hD, p2, p3, p4⟩)
end

/-! ### statements -/
structure Po where
  nx : En → Prop := fun _ => False
  bk : En → Prop := fun _ => False
  ct : En → Prop := fun _ => False
  rt : En → PyData → Prop := fun _ _ => False
def StR (K : PySem.W.Frag) (t : TS) (ρ : En) (P : Po) : Prop := ∀ H0 σ H (D : Ends), Ok K H0 H σ ρ →
  (∀ ρ' σ' H', P.nx ρ' → Ok K H0 H' σ' ρ' → Fr σ ρ H σ' ρ' H' → D.nx σ' H') → (∀ ρ' σ' H', P.bk ρ' → Ok K H0 H' σ' ρ' → Fr σ ρ H σ' ρ' H' → D.bk σ' H') →
  (∀ ρ' σ' H', P.ct ρ' → Ok K H0 H' σ' ρ' → Fr σ ρ H σ' ρ' H' → D.ct σ' H') → (∀ ρ' σ' d v H', P.rt ρ' d → Ok K H0 H' σ' ρ' → Fr σ ρ H σ' ρ' H' → Res K H0 H' v d → D.rt v H') → t D σ H
section
variable {K : PySem.W.Frag} {ρ : En} {P : Po} {te tb : TE} {tt : TT} {t u tz : TS} {d : PyData}
theorem sr_next (h : P.nx ρ) : StR K tNext ρ P := fun _ _ _ _ o n _ _ _ => n _ _ _ h o Fr.refl
theorem sr_break (h : P.bk ρ) : StR K tBreak ρ P := fun _ _ _ _ o _ b _ _ => b _ _ _ h o Fr.refl
theorem sr_cont (h : P.ct ρ) : StR K tCont ρ P := fun _ _ _ _ o _ _ c _ => c _ _ _ h o Fr.refl
/-- from a state that was reached -/
theorem StR.go {H0 H H1 : Hp} {σ σ1 : L2.St} {ρ1 : En} {D : Ends} (h : StR K t ρ1 P) (o : Ok K H0 H1 σ1 ρ1) (f : Fr σ ρ H σ1 ρ1 H1)
    (n : ∀ ρ' σ' H', P.nx ρ' → Ok K H0 H' σ' ρ' → Fr σ ρ H σ' ρ' H' → D.nx σ' H') (b : ∀ ρ' σ' H', P.bk ρ' → Ok K H0 H' σ' ρ' → Fr σ ρ H σ' ρ' H' → D.bk σ' H')
    (c : ∀ ρ' σ' H', P.ct ρ' → Ok K H0 H' σ' ρ' → Fr σ ρ H σ' ρ' H' → D.ct σ' H') (r : ∀ ρ' σ' d v H', P.rt ρ' d → Ok K H0 H' σ' ρ' → Fr σ ρ H σ' ρ' H' → Res K H0 H' v d → D.rt v H') : t D σ1 H1 :=
  h H0 σ1 H1 D o (fun ρ' σ' H' p o' f' => n ρ' σ' H' p o' (f.trans f')) (fun ρ' σ' H' p o' f' => b ρ' σ' H' p o' (f.trans f')) (fun ρ' σ' H' p o' f' => c ρ' σ' H' p o' (f.trans f')) (fun ρ' σ' d v H' p o' f' => r ρ' σ' d v H' p o' (f.trans f'))
theorem sr_seq (M : En → Prop) (h1 : StR K t ρ { P with nx := M }) (h2 : ∀ ρ', M ρ' → StR K u ρ' P) : StR K (tSeq t u) ρ P := fun H0 σ H D o n b c r =>
  h1 H0 σ H { D with nx := u D } o (fun ρ' σ' H' m o' f => (h2 ρ' m).go o' f n b c r) b c r
theorem sr_set1 {i : Nat} (h : EvF K te ρ d) (k : P.nx (ρ.set i (some (sl d)))) (hi : i ≠ 0 := by decide) : StR K (tAsg te (gName i)) ρ P := fun H0 σ H D o n b c r =>
  h H0 σ H o _ fun v H1 e1 q => n _ _ _ k (o.put1 e1 q hi).1 (o.put1 e1 q hi).2
theorem sr_set {i : Nat} (h : EvF K te ρ d) (k : StR K tz (ρ.set i (some (sl d))) P) (hi : i ≠ 0 := by decide) : StR K (tSeq (tAsg te (gName i)) tz) ρ P :=
  sr_seq (· = ρ.set i (some (sl d))) (sr_set1 h rfl hi) fun ρ' e => by rw [e]; exact k
theorem sr_tgt1 {g : TG} {js : List Nat} {ρ1 : En} (h : EvR K te ρ d) (hi : imm d = true) (hg : TgR K true g d ρ js ρ1) (k : P.nx ρ1) : StR K (tAsg te g) ρ P := fun H0 σ H D o n b c r =>
  h H0 σ H o _ fun v H1 e1 q => hg H0 σ H1 v (o.mono e1) q hi _ fun σ' o' w _ z0 _ => n _ _ _ k o' ⟨fun a u h _ => e1 a u h, fun a z => .inl (w a z), z0⟩
theorem sr_tgt {g : TG} {js : List Nat} {ρ1 : En} (h : EvR K te ρ d) (hi : imm d = true) (hg : TgR K true g d ρ js ρ1) (k : StR K tz ρ1 P) : StR K (tSeq (tAsg te g) tz) ρ P :=
  sr_seq (· = ρ1) (sr_tgt1 h hi hg rfl) fun ρ' e => by rw [e]; exact k
theorem sr_ret (h : EvF K te ρ d) (k : P.rt ρ d) : StR K (tRet te) ρ P := fun H0 σ H D o n b c r => h H0 σ H o _ fun v H1 e1 q => r ρ σ d v H1 k (o.mono e1) (Fr.of_ex e1) (q.back o.ex)
theorem sr_retL {i : Nat} {ds : List PyData} (h : ρ[i]? = some (some (.lst ds))) (k : P.rt ρ (.list ds)) : StR K (tRet (tVar i)) ρ P := fun H0 σ H D o n b c r => by
  obtain ⟨p, vs, a, h0, hp, al, im⟩ := o.lst i ds h
  exact ⟨.ref p, a, r ρ σ _ _ H k o Fr.refl (.inr ⟨ds, p, vs, rfl, rfl, h0, hp, al, im⟩)⟩
theorem sr_if {b : Bool} (h : EvT K tt ρ b) (h1 : b = true → StR K t ρ P) (h2 : b = false → StR K u ρ P) : StR K (tIfS tt t u) ρ P := fun H0 σ H D o n bk c r =>
  h H0 σ H o _ fun H1 e1 => by
    cases b with
    | true => exact iteT ((h1 rfl).go (o.mono e1) (Fr.of_ex e1) n bk c r)
    | false => exact iteF ((h2 rfl).go (o.mono e1) (Fr.of_ex e1) n bk c r)
theorem sr_nxt {Q : Po} (h : StR K t ρ P) (n : ∀ r, P.nx r → Q.nx r) (b : ∀ r, P.bk r → Q.bk r) (c : ∀ r, P.ct r → Q.ct r) (r : ∀ r d, P.rt r d → Q.rt r d) : StR K t ρ Q := fun H0 σ H D o n' b' c' r' =>
  h H0 σ H D o (fun ρ' σ' H' z => n' ρ' σ' H' (n _ z)) (fun ρ' σ' H' z => b' ρ' σ' H' (b _ z)) (fun ρ' σ' H' z => c' ρ' σ' H' (c _ z)) fun ρ' σ' d v H' z => r' ρ' σ' d v H' (r _ _ z)
/-- if, then what follows: the branch ends, or falls through -/
theorem sr_ifq {b : Bool} (h : EvT K tt ρ b) (h1 : b = true → StR K (tSeq t tz) ρ P) (h2 : b = false → StR K (tSeq u tz) ρ P) : StR K (tSeq (tIfS tt t u) tz) ρ P := fun H0 σ H D o n bk c r =>
  h H0 σ H o _ fun H1 e1 => by
    cases b with
    | true => exact iteT ((h1 rfl).go (o.mono e1) (Fr.of_ex e1) n bk c r)
    | false => exact iteF ((h2 rfl).go (o.mono e1) (Fr.of_ex e1) n bk c r)
/-- an if without else whose test is false -/
theorem sr_skip (h : EvT K tt ρ false) (k : StR K tz ρ P) : StR K (tSeq (tIfS tt t tNext) tz) ρ P := sr_ifq h (fun z => nomatch z) fun _ => sr_seq (· = ρ) (sr_next rfl) fun ρ' e => by rw [e]; exact k
/-- a branch that ends -/
theorem sr_ends (h : StR K t ρ { P with nx := fun _ => False }) : StR K (tSeq t tz) ρ P := sr_seq _ h fun _ z => z.elim
theorem sr_take (h : EvT K tt ρ true) (k : StR K t ρ { P with nx := fun _ => False }) : StR K (tSeq (tIfS tt t u) tz) ρ P := sr_ifq h (fun _ => sr_ends k) fun z => nomatch z
theorem sr_drop1 (h : EvR K te ρ d) (k : P.nx ρ) : StR K (tDrop te) ρ P := fun H0 σ H D o n b c r => h H0 σ H o _ fun v H1 e1 _ => n _ _ _ k (o.mono e1) (Fr.of_ex e1)
theorem sr_drop (h : EvR K te ρ d) (k : StR K tz ρ P) : StR K (tSeq (tDrop te) tz) ρ P := sr_seq (· = ρ) (sr_drop1 h rfl) fun ρ' e => by rw [e]; exact k
theorem sr_aug1 {i : Nat} {f : Int → Int → Int} {a b : Int} (hx : ρ[i]? = some (some (.dat (.int a)))) (h : EvR K te ρ (.int b)) (k : P.nx (ρ.set i (some (.dat (.int (f a b)))))) (hi : i ≠ 0 := by decide) : StR K (tAug i te (ipI f)) ρ P := fun H0 σ H D o n _ c r => by
  obtain ⟨v, s1, s2, _⟩ := o.dat i _ hx
  cases s2
  refine ⟨.int a, s1, h H0 σ H o _ fun w H1 e1 d1 => ?_⟩
  cases d1
  have p := (o.put1 (i := i) (v := .int (f a b)) (d := .int (f a b)) e1 (.inl ⟨rfl, .int _⟩) hi)
  exact ⟨a, b, rfl, rfl, n _ _ _ k p.1 p.2⟩
theorem sr_app1 {i : Nat} {ds : List PyData} (hl : ρ[i]? = some (some (.lst ds))) (h : EvR K te ρ d) (hi : imm d = true) (hz : ds.length < 100000) (k : P.nx (ρ.set i (some (.lst (ds ++ [d]))))) :
    StR K (tDrop (tBM K "list" rAppend (tVar i) (tCons te tNil))) ρ P := fun H0 σ H D o n b c r => by
  obtain ⟨p, vs, a, h0, hp, al, im⟩ := o.lst i ds hl
  refine ⟨.ref p, a, .inl ⟨rfl, vs, SqL.of hp⟩, h H0 σ H o _ fun w H1 e1 d1 => ?_⟩
  refine ⟨p, vs, w, rfl, rfl, e1 _ _ hp, Evl.sz_lt (by rw [dpAll_len al]; exact hz), ?_⟩
  have o1 := (o.mono e1).mut hl a (dpAll_append (dpAll_ex e1 al) (.cons d1 .nil)) (immAll_append im (immAll_one hi))
  refine n _ _ _ k o1 ⟨fun x u hx hn => ?_, fun x hx => .inl (own_mut hl hx), rfl⟩
  have nx : x ≠ p := fun z => hn ⟨i, ds, hl, by rw [z]; exact a⟩
  rw [upd_ne nx]
  exact e1 _ _ hx
theorem sr_app {i : Nat} {ds : List PyData} (hl : ρ[i]? = some (some (.lst ds))) (h : EvR K te ρ d) (hi : imm d = true) (hz : ds.length < 100000) (k : StR K tz (ρ.set i (some (.lst (ds ++ [d])))) P) :
    StR K (tSeq (tDrop (tBM K "list" rAppend (tVar i) (tCons te tNil))) tz) ρ P := sr_seq (· = ρ.set i (some (.lst (ds ++ [d])))) (sr_app1 hl h hi hz rfl) fun ρ' e => by rw [e]; exact k
/-- a, b = x, y -/
theorem sr_par1 {i j : Nat} {x y : PyData} (h1 : EvF K te ρ x) (h2 : EvF K tb ρ y) (k : P.nx ((ρ.set i (some (sl x))).set j (some (sl y)))) (hi : i ≠ 0 := by decide) (hj : j ≠ 0 := by decide) : StR K (tPar i j (tCons te (tCons tb tNil))) ρ P := fun H0 σ H D o n b c r =>
  h1 H0 σ H o _ fun v H1 e1 q1 => h2 H0 σ H1 (o.mono e1) _ fun w H2 e2 q2 => by
    refine ⟨v, w, rfl, ?_⟩
    have p := o.put1 (i := i) e1 q1 hi
    have p2 := p.1.put1 (i := j) e2 q2 hj
    exact n _ _ _ k p2.1 (p.2.trans p2.2)
theorem sr_par {i j : Nat} {x y : PyData} (h1 : EvF K te ρ x) (h2 : EvF K tb ρ y) (k : StR K tz ((ρ.set i (some (sl x))).set j (some (sl y))) P) (hi : i ≠ 0 := by decide) (hj : j ≠ 0 := by decide) : StR K (tSeq (tPar i j (tCons te (tCons tb tNil))) tz) ρ P :=
  sr_seq (· = (ρ.set i (some (sl x))).set j (some (sl y))) (sr_par1 h1 h2 rfl hi hj) fun ρ' e => by rw [e]; exact k
theorem sr_par3 {i j l : Nat} {x y z : PyData} {tc : TE} (h1 : EvF K te ρ x) (h2 : EvF K tb ρ y) (h3 : EvF K tc ρ z) (k : StR K tz (((ρ.set i (some (sl x))).set j (some (sl y))).set l (some (sl z))) P) (hi : i ≠ 0 := by decide) (hj : j ≠ 0 := by decide) (hl : l ≠ 0 := by decide) :
    StR K (tSeq (tPar3 i j l (tCons te (tCons tb (tCons tc tNil)))) tz) ρ P := fun H0 σ H D o n b c r =>
  h1 H0 σ H o _ fun v H1 e1 q1 => h2 H0 σ H1 (o.mono e1) _ fun w H2 e2 q2 => h3 H0 σ H2 (o.mono (e1.trans e2)) _ fun u H3 e3 q3 => by
    refine ⟨v, w, u, rfl, ?_⟩
    have p := o.put1 (i := i) e1 q1 hi
    have p2 := p.1.put1 (i := j) e2 q2 hj
    have p3 := p2.1.put1 (i := l) e3 q3 hl
    exact k.go p3.1 ((p.2.trans p2.2).trans p3.2) n b c r
/-- for: Iv by the turn -/
theorem sr_for1 {wi : TI} {g : TG} {items : List PyData} {bz : Bool} (Iv : Nat → En → Prop) (hi : EvI K bz wi ρ items) (h0 : Iv 0 ρ)
    (hs : ∀ (i : Nat) (d : PyData) (ρ' : En), items[i]? = some d → Iv i ρ' → ∃ (js : List Nat) (ρ2 : En), TgR K bz g d ρ' js ρ2 ∧ StR K t ρ2 { nx := Iv (i + 1), ct := Iv (i + 1), bk := P.nx, rt := P.rt })
    (hd : ∀ ρ', Iv items.length ρ' → P.nx ρ') : StR K (tFor wi g t) ρ P := fun H0 σ H D o n b c r => hi.2 H0 σ H o _ fun J H1 G e1 W hG => by
  refine for_it W (fun i σ' H' => ∃ ρ', Iv i ρ' ∧ Ok K H0 H' σ' ρ' ∧ Fr σ ρ H1 σ' ρ' H') ⟨ρ, h0, o.mono e1, Fr.refl⟩ (fun i σ' H' _ p => ?_) (fun i x σ' H' H'' hlt p y => ?_) (fun σ' H' p => ?_)
  · obtain ⟨ρ', _, o', f⟩ := p
    exact hG H' o'.ex f.keep
  · obtain ⟨ρ', iv, o', f⟩ := p
    obtain ⟨y1, d, y2, y3⟩ := y
    obtain ⟨js, ρ2, tg, body⟩ := hs i d ρ' y2 iv
    refine tg H0 σ' H'' x (o'.mono y1) y3 (immAll_get hi.1 y2) _ fun σ2 o2 w2 _ z2 _ => ?_
    have f2 : Fr σ ρ H1 σ2 ρ2 H'' := f.trans ⟨fun a u h _ => y1 a u h, fun a z => .inl (w2 a z), z2⟩
    have fb : Fr σ ρ H σ ρ H1 := Fr.of_ex e1
    exact body H0 σ2 H'' _ o2 (fun ρ3 σ3 H3 p3 o3 f3 => ⟨ρ3, p3, o3, f2.trans f3⟩) (fun ρ3 σ3 H3 p3 o3 f3 => n ρ3 σ3 H3 p3 o3 (fb.trans (f2.trans f3))) (fun ρ3 σ3 H3 p3 o3 f3 => ⟨ρ3, p3, o3, f2.trans f3⟩) (fun ρ3 σ3 d v H3 p3 o3 f3 => r ρ3 σ3 d v H3 p3 o3 (fb.trans (f2.trans f3)))
  · obtain ⟨ρ', iv, o', f⟩ := p
    exact n ρ' σ' H' (hd ρ' iv) o' ((Fr.of_ex e1).trans f)
theorem sr_for {wi : TI} {g : TG} {items : List PyData} {bz : Bool} (Iv : Nat → En → Prop) (M : En → Prop) (hi : EvI K bz wi ρ items) (h0 : Iv 0 ρ)
    (hs : ∀ (i : Nat) (d : PyData) (ρ' : En), items[i]? = some d → Iv i ρ' → ∃ (js : List Nat) (ρ2 : En), TgR K bz g d ρ' js ρ2 ∧ StR K t ρ2 { nx := Iv (i + 1), ct := Iv (i + 1), bk := M, rt := P.rt })
    (hd : ∀ ρ', Iv items.length ρ' → M ρ') (hk : ∀ ρ', M ρ' → StR K tz ρ' P) : StR K (tSeq (tFor wi g t) tz) ρ P := sr_seq M (sr_for1 (P := { P with nx := M }) Iv hi h0 hs hd) hk
end

/-! ### a def -/
section
variable {Pr : Program} {w : World} {K : PySem.W.Frag} {mg : Str → Option Value} {base : Heap}
def env0 (N : List Str) (ds : List PyData) : En := ds.map (fun d => some (.dat d)) ++ List.replicate (N.length - ds.length) none
theorem start_ok {N : List Str} {H : Hp} {vs : List V} {ds : List PyData} (al : DqAll K H vs ds) : Ok K H H (L2.start N vs) (env0 N ds) := by
  have hl := dpAll_len al
  have split : ∀ (i : Nat) (s : Sl), (env0 N ds)[i]? = some (some s) → ∃ d, ds[i]? = some d ∧ s = .dat d := fun i s h => by
    unfold env0 at h
    by_cases hi : i < ds.length
    · rw [List.getElem?_append_left (by simpa using hi), List.getElem?_map, List.getElem?_eq_getElem hi] at h
      cases h
      exact ⟨_, List.getElem?_eq_getElem hi, rfl⟩
    · rw [List.getElem?_append_right (by simpa using hi), List.getElem?_replicate] at h
      split at h <;> cases h
  refine ⟨Ex.refl H, ?_, fun i d h => ?_, fun i es h => ?_, fun i j es fs p h _ _ _ => ?_⟩
  · unfold L2.start env0
    rw [List.length_append, List.length_append, List.length_map, List.length_map, List.length_replicate, List.length_replicate, hl]
  · obtain ⟨d', h1, h2⟩ := split i _ h
    cases h2
    obtain ⟨v, hv, dv⟩ := dpAll_get al h1
    refine ⟨v, ?_, dv, .inr dv⟩
    unfold L2.start
    rw [List.getElem?_append_left (by rw [List.length_map]; exact (List.getElem?_eq_some_iff.mp hv).1), List.getElem?_map, hv]
    rfl
  · obtain ⟨d', _, h2⟩ := split i _ h
    cases h2
  · obtain ⟨d', _, h2⟩ := split i _ h
    cases h2
theorem okD {x qual : Str} {st : Stmt} {f : Addr} {fd : FuncData} {N ps : List Str} {k : Nat} {R : List PyData → PyData → Prop} (F : Fun K x qual st f fd) (S : FnScope N ps (defScope st)) (len : ∀ ds d, R ds d → ds.length = ps.length)
    (body : ∀ (ds : List PyData) (d : PyData), R ds d → ∀ (cdv : Value) (A : Around) (outer : List Env) (s : Shared) (H : Hp) (E : XK), Room k (A.deeper (envOfC qual (defScope st) s.heap.objs.size f cdv)) →
      ∃ t, PSs (cxOf CX0 Pr w K mg base N qual (defScope st) f cdv A outer s H E).nox (defBody st) t ∧ StR K t (env0 N ds) { nx := fun _ => d = .none, rt := fun _ e => e = d }) :
    FnOk Pr w K mg base CX0 (k + 1) f fd ps (spD K R) := by
  refine F.ok S (fun vs H Q E h => ?_) (fun cdv A outer s H vs Q E hr h => ?_)
  · obtain ⟨ds, d, al, hR, _⟩ := h
    rw [dpAll_len al]
    exact len ds d hR
  · obtain ⟨ds, d, al, hR, q⟩ := h
    obtain ⟨t, ht, hs⟩ := body ds d hR cdv A outer s H E hr
    refine ⟨t, ht, hs H _ H _ (start_ok al) (fun ρ' σ' H' p o _ => ?_) (fun _ _ _ z => z.elim) (fun _ _ _ z => z.elim) (fun ρ' σ' e v H' p o _ r => ?_)⟩
    · have p' : d = .none := p
      subst p'
      exact q .non H' o.ex (.inl ⟨rfl, .non⟩)
    · have p' : e = d := p
      subst p'
      exact q v H' o.ex r
/-- a def that callers know by its name -/
structure Cal (Pr : Program) (w : World) (K : PySem.W.Frag) (mg : Str → Option Value) (base : Heap) (k : Nat) (x : Str) (sp : Sp) : Prop where
  ex : ∃ (f : Addr) (fd : FuncData) (ps : List Str), FnOk Pr w K mg base CX0 k f fd ps sp ∧ mg x = some (.ref f) ∧ PySem.W.keepIn K (.ref f) = true ∧ Binds K fd ps []
theorem pe_cal {X : Cx} {k j : Nat} {x : Str} {sp : Sp} {p pos : Pos} {e : Expr} {es : List Expr} {t : TA} (c : Cal X.prog X.w X.K X.mg X.base k x sp) (hr : Room j X.A) (hk : k ≤ j) (hg : Gl X x) (ha : PA X (e :: es) t)
    (hdb : (x == ("__debug__" : Str)) = false := by decide) (he : starEach (e :: es) X.env = (false, eval e X.env) :: starEach es X.env := by rfl) (hpl : (backTo pos (starEach es X.env)).any (·.1) = false := by rfl) :
    PE X (.Call (.Name x p) (e :: es) [] pos) (tCall sp [] E0 t) := by
  obtain ⟨f, fd, ps, F, m, kp, b⟩ := c.ex
  exact pe_call F (hr.mono hk) hg m kp b .nil pass0 ha hdb he hpl
end
end Lx

set_option Elab.async false
set_option linter.all false
set_option maxRecDepth 100000
set_option maxHeartbeats 1000000
namespace Lx
open PySem PySem.Spec PyProof.Rows L2
open Evl (Ex)

/-! ### a walk over a list or a tuple -/
def iSeq (K : PySem.W.Frag) (tl : TE) : TI := fun σ H R => tl σ H fun x H1 => ∃ a, x = .ref a ∧ (((∃ xs, SqL K H1 a xs) ∧ R (Itl K a) H1) ∨ ((∃ xs, SqT K H1 a xs) ∧ R (Itt K a) H1))
theorem pi_seq {X : Cx} {tg l : Expr} {tl : TE} (hl : PE X l tl) : PI X tg l (iSeq X.K tl) := by
  refine ⟨fun pins s σ H R I h => ?_⟩
  refine thn (hl.run pins s σ H _ I h) fun v s1 ⟨x, H1, I1, r1, q1⟩ => ?_
  obtain ⟨a, e, q⟩ := q1
  subst e
  cases r1
  rcases q with ⟨⟨xs, hq⟩, q⟩ | ⟨⟨xs, hq⟩, q⟩
  · obtain ⟨its, rv, p, hz⟩ := I1.list hq
    refine wpAny_pyIter_list p.isList ?_
    have k := I1.kept (t' := s1.toks) fun b o (e : s1.heap.get? b = some o) => Heap.get?_push_of_some { cls := .type "list_iterator", data := .fields #[.ref a, .int 0 0] } e
    refine ⟨s1.heap.objs.size, [s1.heap.objs.size], _, _, H1, rfl, k, turn_list a _, ⟨_, Heap.get?_push_size _ rfl, rfl, rfl⟩, fun b hb => ?_, q⟩
    rw [show b = s1.heap.objs.size by simpa using hb]
    exact I1.fpOk (Nat.le_refl _) (I1.hok.fresh (Nat.le_refl _))
  · obtain ⟨its, rv, p, hz⟩ := I1.tuple hq
    refine wpAny_pyIter_tuple (show s1.heap.IsTuple a its.toArray from p) ?_
    have k := I1.kept (t' := s1.toks) fun b o (e : s1.heap.get? b = some o) => Heap.get?_push_of_some { cls := .type "tuple_iterator", data := .fields #[.ref a, .int 0 0] } e
    refine ⟨s1.heap.objs.size, [s1.heap.objs.size], _, _, H1, rfl, k, turn_tuple a _, ⟨_, Heap.get?_push_size _ rfl, rfl, rfl⟩, fun b hb => ?_, q⟩
    rw [show b = s1.heap.objs.size by simpa using hb]
    exact I1.fpOk (Nat.le_refl _) (I1.hok.fresh (Nat.le_refl _))
theorem ec_seq {K : PySem.W.Frag} {ρ : En} {te : TE} {y : PyData} {ds : List PyData} (h : EvR K te ρ y) (hy : y = .tuple ds ∨ y = .list ds) (hi : immAll ds = true) : EvC K true (iSeq K te) ρ ds := ⟨hi, fun H0 σ H o R q =>
  h H0 σ H o _ fun v H1 e1 d1 => by
    rcases hy with rfl | rfl
    · obtain ⟨a, vs, rfl, s, al⟩ := dp_tup d1
      exact ⟨a, rfl, .inr ⟨⟨vs, s.s⟩, q _ H1 (fun H' => SqT K H' a vs ∧ DqAll K H' vs ds) e1 (y_at (walk_tup.mono (fun _ z => z.1) fun _ _ _ _ _ _ y => y) (dpAll_len al) fun _ g => g.2) fun H' e' => ⟨(s.ex e').s, dpAll_ex e' al⟩⟩⟩
    · obtain ⟨a, vs, rfl, s, al⟩ := dp_lst d1
      exact ⟨a, rfl, .inl ⟨⟨vs, s⟩, q _ H1 (fun H' => SqL K H' a vs ∧ DqAll K H' vs ds) e1 (y_at (walk_list.mono (fun _ z => z.1) fun _ _ _ _ _ _ y => y) (dpAll_len al) fun _ g => g.2) fun H' e' => ⟨Evl.ex_l e' s, dpAll_ex e' al⟩⟩⟩⟩
/-! ### isinstance, all, index -/
def tyD : PyData → String
  | .none => "NoneType"
  | .bool _ => "bool"
  | .int _ => "int"
  | .str _ => "str"
  | .list _ => "list"
  | .tuple _ => "tuple"
  | .dict _ => "dict"
theorem ty_of {K : PySem.W.Frag} {H : Hp} {v : V} {d : PyData} (h : Dq K H v d) : TyX K H v (.type (tyD d)) := by
  cases h with
  | non => exact .base .non
  | bl b => exact .base (.bl b)
  | int i => exact .base (.int i)
  | str x => exact .base (.str x)
  | lst a b =>
    rcases a with (a | ⟨o, a⟩) | ⟨o, its, n, hk, hc, _⟩
    · exact .base (.lst a)
    · exact .base (.frz a)
    · exact .kList hk hc
  | tup a b =>
    obtain ⟨o, a, _⟩ := a
    exact .fTuple a
theorem er_isi {K : PySem.W.Frag} {ρ : En} {te : TE} {d : PyData} {T : String} {b : Bool} (h : EvR K te ρ d) (hb : kitB (tyD d) T = some b) : EvR K (tCB (rIsi K) (tCons te (tCons (tC (.ty T)) tNil))) ρ (.bool b) := fun H0 σ H o Q q =>
  h H0 σ H o _ fun v H1 e1 d1 => ⟨v, .ty T, _, _, b, rfl, .ty T, ty_of d1, kit_ty hb, q _ H1 e1 (.bl b)⟩
theorem er_all {K : PySem.W.Frag} {ρ : En} {te : TE} {bs : List Bool} (h : EvR K te ρ (.list (bs.map .bool))) : EvR K (tCB (rAll K) (tCons te tNil)) ρ (.bool (bs.all id)) := fun H0 σ H o Q q =>
  h H0 σ H o _ fun v H1 e1 d1 => by
    obtain ⟨a, vs, rfl, s, al⟩ := dp_lst d1
    rw [dpAll_bls al] at s
    exact ⟨a, bs, rfl, s, q _ H1 e1 (.bl _)⟩
theorem er_idx {K : PySem.W.Frag} {ρ : En} {te ta : TE} {ns : List Int} {k : Int} {j : Nat} (h : EvR K te ρ (.tuple (ns.map .int))) (ha : EvR K ta ρ (.int k)) (hj : ns[j]? = some k) (hn : ∀ m, m < j → ns[m]? ≠ some k) :
    EvR K (tIdx K te (tCons ta tNil)) ρ (.int (j : Nat)) := fun H0 σ H o Q q =>
  h H0 σ H o _ fun v H1 e1 d1 => by
    obtain ⟨a, vs, rfl, s, al⟩ := dp_tup d1
    have ev := dpAll_ints al
    subst ev
    refine ⟨⟨a, s.choose, _, rfl, s.choose_spec.1, s.choose_spec.2⟩, ha H0 σ H1 (o.mono e1) _ fun w H2 e2 d2 => ?_⟩
    cases d2
    refine ⟨a, ns.map V.int, .int k, j, .int k, rfl, rfl, (s.ex e2).s, rfl, ?_, ?_, ?_, ?_, q _ H2 (e1.trans e2) (.int _)⟩
    · exact List.all_eq_true.mpr fun x hx => by
        obtain ⟨n, _, rfl⟩ := List.mem_map.mp hx
        rfl
    · rw [List.getElem?_map, hj]; rfl
    · show (k == k) = true
      exact beq_self_eq_true k
    · intro m z hm hz
      rw [List.getElem?_map] at hz
      cases e : ns[m]? with
      | none => rw [e] at hz; cases hz
      | some n =>
        rw [e] at hz
        cases hz
        show (n == k) = false
        refine beq_eq_false_iff_ne.mpr fun z => hn m hm ?_
        rw [e, z]
theorem er_strLe {K : PySem.W.Frag} {ρ : En} {ta tb tc : TE} {x y z : Str} (ha : EvR K ta ρ (.str x)) (hb : EvR K tb ρ (.str y)) (hc : EvR K tc ρ (.str z)) :
    EvR K (tChain (fun x y H Q => ∃ i j, x = V.str i ∧ y = V.str j ∧ Q (.bl (!decide (j.cps.toList < i.cps.toList))) H) (fun x y H Q => ∃ i j, x = V.str i ∧ y = V.str j ∧ Q (.bl (!decide (j.cps.toList < i.cps.toList))) H) ta tb tc) ρ
      (.bool ((!decide (y.cps.toList < x.cps.toList)) && (!decide (z.cps.toList < y.cps.toList)))) :=
  er_chain ha hb hc (fun H v w Q h1 h2 q => by cases h1; cases h2; exact ⟨x, y, rfl, rfl, q⟩) fun _ H v w Q h1 h2 q => by cases h1; cases h2; exact ⟨y, z, rfl, rfl, q⟩
/-! ### the text -/
def topS (i : Nat) : Stmt := PySem.Challenge.pw_lostexits_k02_whole_stacks_totals_caller.main.body.getD i (.Pass ⟨0, 0, 0, 0⟩)
structure Md (mg : Str → Option Value) : Prop where
  len : mg "len" = none
  range : mg "range" = none
  enumerate : mg "enumerate" = none
  zip : mg "zip" = none
  min : mg "min" = none
  all : mg "all" = none
  int : mg "int" = none
  str : mg "str" = none
  bool : mg "bool" = none
  list : mg "list" = none
  tuple : mg "tuple" = none
  isinstance : mg "isinstance" = none
  MOST_EVENTS : ∃ t, mg "MOST_EVENTS" = some (.int 24 t)
  MOST_FRAMES : ∃ t, mg "MOST_FRAMES" = some (.int 10 t)
  LONGEST_NAME : ∃ t, mg "LONGEST_NAME" = some (.int 8 t)
theorem pe_gint {X : Cx} {x : Str} {i : Int} {pos : Pos} (hg : Gl X x) (h : ∃ t, X.mg x = some (.int i t)) (hd : (x == ("__debug__" : Str)) = false := by decide) : PE X (.Name x pos) (tC (.int i)) := by
  obtain ⟨t, h⟩ := h
  exact pe_glob hg h ⟨t, rfl⟩ hd
/-! ### events, traces -/
inductive Evt where
  | enter (s : Str)
  | tail (s : Str)
  | exit (f : Int)
  | caught (f : Int)
  | mark
def creates : Evt → Bool
  | .enter _ => true
  | .tail _ => true
  | _ => false
def encE : Evt → PyData
  | .enter s => .tuple [.str "enter", .str s]
  | .tail s => .tuple [.str "tail", .str s]
  | .exit f => .tuple [.str "exit", .int f]
  | .caught f => .tuple [.str "catch", .int f]
  | .mark => .tuple [.str "mark"]
def encS (st : List Int) : PyData := .tuple (st.map .int)
def encT (t : List Evt) : PyData := .tuple (t.map encE)
def optS : Option (List Int) → PyData
  | none => .none
  | some s => encS s
theorem imm_encE (e : Evt) : imm (encE e) = true := by cases e <;> rfl
theorem imm_encS (s : List Int) : imm (encS s) = true := by
  show immAll _ = true
  exact immAll_ints s
theorem immAll_encE (t : List Evt) : immAll (t.map encE) = true := immAll_iff.mpr fun d hd => by
  obtain ⟨e, _, rfl⟩ := List.mem_map.mp hd
  exact imm_encE e
theorem immAll_encS (t : List (List Int)) : immAll (t.map encS) = true := immAll_iff.mpr fun d hd => by
  obtain ⟨e, _, rfl⟩ := List.mem_map.mp hd
  exact imm_encS e
theorem imm_encT (t : List Evt) : imm (encT t) = true := by
  show immAll _ = true
  exact immAll_encE t
theorem imm_optS (o : Option (List Int)) : imm (optS o) = true := by
  cases o with
  | none => rfl
  | some s => exact imm_encS s
def cr (t : List Evt) (i : Nat) : Nat := ((t.take i).filter creates).length
def okName (s : Str) : Prop := 1 ≤ s.cps.size ∧ s.cps.size ≤ 8 ∧ ∀ c ∈ s.cps.toList, 97 ≤ c ∧ c ≤ 122
def EvOk (e : Evt) (c : Nat) : Prop :=
  match e with
  | .enter s => okName s
  | .tail s => okName s ∧ 0 < c
  | .exit f => 0 ≤ f ∧ f < (c : Int)
  | .caught f => 0 ≤ f ∧ f < (c : Int)
  | .mark => True
structure Tr (t : List Evt) : Prop where
  len : t.length ≤ 24
  few : cr t t.length ≤ 10
  ok : ∀ (i : Nat) (e : Evt), t[i]? = some e → EvOk e (cr t i)
end Lx

set_option Elab.async false
set_option linter.all false
set_option maxRecDepth 100000
set_option maxHeartbeats 1000000
namespace Lx
open PySem PySem.Spec PyProof.Rows L2
open Evl (Ex)
theorem cutD_take (xs : List PyData) (i : Nat) : cutD xs none (some (i : Int)) = xs.take i := by
  unfold cutD
  rw [HT.sIx_none, HT.sIx_nat, List.drop_zero, Nat.sub_zero]
  by_cases h : i ≤ xs.length
  · rw [Nat.min_eq_left h]
  · rw [Nat.min_eq_right (by omega), List.take_length, List.take_of_length_le (by omega)]
theorem take_succ_of {α : Type} {xs : List α} {i : Nat} {x : α} (h : xs[i]? = some x) : xs.take (i + 1) = xs.take i ++ [x] := by
  rw [List.take_add_one, h]; rfl
section
variable {Pr : Program} {w : World} {K : PySem.W.Frag} {mg : Str → Option Value} {base : Heap}
theorem k_ii : kitB "int" "int" = some true := by decide +kernel
theorem k_ib : kitB "int" "bool" = some false := by decide +kernel
theorem k_ni : kitB "NoneType" "int" = some false := by decide +kernel
theorem k_bi : kitB "bool" "int" = some true := by decide +kernel
theorem k_bb : kitB "bool" "bool" = some true := by decide +kernel
theorem k_si : kitB "str" "int" = some false := by decide +kernel
theorem k_ss : kitB "str" "str" = some true := by decide +kernel
theorem k_tt : kitB "tuple" "tuple" = some true := by decide +kernel
theorem k_ll : kitB "list" "list" = some true := by decide +kernel
theorem k_tl : kitB "tuple" "list" = some false := by decide +kernel
theorem k_nl : kitB "NoneType" "list" = some false := by decide +kernel
/-! ### is_plain_int -/
abbrev s_is_plain_int : Stmt := topS 8
abbrev N_is_plain_int : List Str := ["value"]
theorem sc_is_plain_int : FnScope N_is_plain_int ["value"] (defScope s_is_plain_int) := ⟨rfl, rfl, rfl, by decide +kernel, rfl, by decide +kernel, by decide +kernel⟩
def plain : PyData → Bool
  | .int _ => true
  | _ => false
def R_is_plain_int : List PyData → PyData → Prop := fun ds d => ∃ x, ds = [x] ∧ flatD x = true ∧ d = .bool (plain x)
theorem ok_is_plain_int {f : Addr} {fd : FuncData} (M : Md mg)  (F : Fun K "is_plain_int" "is_plain_int" s_is_plain_int f fd) : FnOk Pr w K mg base CX0 1 f fd ["value"] (spD K R_is_plain_int) := by
  refine okD (k := 0) F sc_is_plain_int (fun ds d h => ?_) (fun ds d h cdv A outer s H E hr => ⟨_, (pss_one (ps_ret (pe_and (pe_callB call_isi (by rfl) M.isinstance (by decide +kernel) (pa_cons (pv 0) (pa_cons (pe_bltn (v := .ty "int") (by rfl) M.int (by decide +kernel) rfl) pa_nil))) (pe_one (pe_not (pe_callB call_isi (by rfl) M.isinstance (by decide +kernel) (pa_cons (pv 0) (pa_cons (pe_bltn (v := .ty "bool") (by rfl) M.bool (by decide +kernel) rfl) pa_nil)))))))), ?_⟩)
  · obtain ⟨x, rfl, _⟩ := h
    rfl
  · obtain ⟨x, rfl, fx, rfl⟩ := h
    cases x with
    | int i =>
      have h1 : EvR K _ _ _ := er_isi (K := K) (ρ := env0 N_is_plain_int [.int i]) (te := tVar 0) (d := .int i) (T := "int") (er_v 0) k_ii
      have h2 : EvR K _ _ _ := er_isi (K := K) (ρ := env0 N_is_plain_int [.int i]) (te := tVar 0) (d := .int i) (T := "bool") (er_v 0) k_ib
      exact sr_ret ((er_andV h1 fun _ => er_notV h2).f rfl) rfl
    | none =>
      have h1 : EvR K _ _ _ := er_isi (K := K) (ρ := env0 N_is_plain_int [.none]) (te := tVar 0) (d := .none) (T := "int") (er_v 0) k_ni
      exact sr_ret ((er_andV (b := false) h1 fun z => Bool.noConfusion z).f rfl) rfl
    | bool b =>
      have h1 : EvR K _ _ _ := er_isi (K := K) (ρ := env0 N_is_plain_int [.bool b]) (te := tVar 0) (d := .bool b) (T := "int") (er_v 0) k_bi
      have h2 : EvR K _ _ _ := er_isi (K := K) (ρ := env0 N_is_plain_int [.bool b]) (te := tVar 0) (d := .bool b) (T := "bool") (er_v 0) k_bb
      exact sr_ret ((er_andV h1 fun _ => er_notV h2).f rfl) rfl
    | str z =>
      have h1 : EvR K _ _ _ := er_isi (K := K) (ρ := env0 N_is_plain_int [.str z]) (te := tVar 0) (d := .str z) (T := "int") (er_v 0) k_si
      exact sr_ret ((er_andV (b := false) h1 fun z => Bool.noConfusion z).f rfl) rfl
    | list _ => simp [flatD] at fx
    | tuple _ => simp [flatD] at fx
    | dict _ => simp [flatD] at fx
/-! ### creates_frame -/
abbrev s_creates_frame : Stmt := topS 10
abbrev N_creates_frame : List Str := ["event"]
theorem sc_creates_frame : FnScope N_creates_frame ["event"] (defScope s_creates_frame) := ⟨rfl, rfl, rfl, by decide +kernel, rfl, by decide +kernel, by decide +kernel⟩
def R_creates_frame : List PyData → PyData → Prop := fun ds d => ∃ e, ds = [encE e] ∧ d = .bool (creates e)
theorem in_kinds {ρ : En} {te : TE} {e : Evt} (h : EvR K te ρ (encE e)) :
    EvR K (tOp (rIn K false) (tOp (rIxT K) te (tC (.int 0))) (tTupN (tCons (tC (.str "enter")) (tCons (tC (.str "tail")) tNil)))) ρ (.bool (creates e)) := by
  cases e with
  | enter s => exact er_is (er_inS (er_ixT h er_int rfl) (er_tup (ea_cons er_str (ea_cons er_str ea_nil))) (.inl rfl) rfl rfl) rfl
  | tail s => exact er_is (er_inS (er_ixT h er_int rfl) (er_tup (ea_cons er_str (ea_cons er_str ea_nil))) (.inl rfl) rfl rfl) rfl
  | exit s => exact er_is (er_inS (er_ixT h er_int rfl) (er_tup (ea_cons er_str (ea_cons er_str ea_nil))) (.inl rfl) rfl rfl) rfl
  | caught s => exact er_is (er_inS (er_ixT h er_int rfl) (er_tup (ea_cons er_str (ea_cons er_str ea_nil))) (.inl rfl) rfl rfl) rfl
  | mark => exact er_is (er_inS (er_ixT h er_int rfl) (er_tup (ea_cons er_str (ea_cons er_str ea_nil))) (.inl rfl) rfl rfl) rfl
theorem ok_creates_frame {f : Addr} {fd : FuncData} (M : Md mg)  (F : Fun K "creates_frame" "creates_frame" s_creates_frame f fd) : FnOk Pr w K mg base CX0 1 f fd ["event"] (spD K R_creates_frame) := by
  refine okD (k := 0) F sc_creates_frame (fun ds d h => ?_) (fun ds d h cdv A outer s H E hr => ⟨_, (pss_one (ps_ret (pe_cmpR op_in_seq (pe_ix ix_tup (pv 0) pe_int (fun _ _ => rfl)) (pe_tupN (pa_cons pe_str (pa_cons pe_str pa_nil))) (by rfl)))), ?_⟩)
  · obtain ⟨x, rfl, _⟩ := h
    rfl
  · obtain ⟨e, rfl, rfl⟩ := h
    exact sr_ret ((in_kinds (er_v 0)).f rfl) rfl
/-! ### created_before -/
abbrev s_created_before : Stmt := topS 11
abbrev N_created_before : List Str := ["trace", "moment", "event"]
theorem sc_created_before : FnScope N_created_before ["trace", "moment"] (defScope s_created_before) := ⟨rfl, rfl, rfl, by decide +kernel, rfl, by decide +kernel, by decide +kernel⟩
def R_created_before : List PyData → PyData → Prop := fun ds d => ∃ (t : List Evt) (i : Nat), ds = [encT t, .int (i : Nat)] ∧ t.length ≤ 100 ∧ d = .int (cr t i : Nat)
theorem ok_created_before {f : Addr} {fd : FuncData} (M : Md mg) (C_creates_frame : Cal Pr w K mg base 1 "creates_frame" (spD K R_creates_frame)) (F : Fun K "created_before" "created_before" s_created_before f fd) : FnOk Pr w K mg base CX0 2 f fd ["trace", "moment"] (spD K R_created_before) := by
  refine okD (k := 1) F sc_created_before (fun ds d h => ?_) (fun ds d h cdv A outer s H E hr => ⟨_, (pss_one (ps_ret (pe_callB call_len (by rfl) M.len PySem.boot_len (pa_cons (pe_lc (own := [("event", 2)]) (wi := (iTup K (tSl (rSlN K) (tVar 0) tNoPart (tPart (tVar 1))))) (g := (gName 2)) (tt := (tB (tCall (spD K R_creates_frame) [] E0 (tCons (tVar 2) tNil)))) (te := (tVar 2)) (by rfl) sc_created_before.nd (pi_tup (pe_slice sl_tupN (pv 0) po_none (po_some (pv 1)))) (blkOk_by (own := [("event", 2)]) (N := N_created_before) (sc := defScope s_created_before) (by decide +kernel)) (fun _ _ _ _ _ => (pg_name (i := 2) sc_created_before.nd rfl (Or.inl rfl))) (fun _ _ _ _ _ => (pts_one (pt_val (pe_cal C_creates_frame hr (by decide) (by rfl) (pa_cons (pv 2) pa_nil))))) (fun _ _ _ _ _ => (pv 2))) pa_nil)))), ?_⟩)
  · obtain ⟨x, y, rfl, _⟩ := h
    rfl
  · obtain ⟨t, m, rfl, hl, rfl⟩ := h
    have ev : EvR K (tVar 0) (env0 N_created_before [encT t, .int (m : Nat)]) (.tuple (t.map encE)) := er_v 0
    have it := (ei_tup (er_slT ev eo_none (eo_some (er_v 1))) (imm_cut (immAll_encE t))).c
    rw [cutD_take, ← List.map_take] at it
    have lc := ef_lc (fun i => (((t.take m).take i).filter creates).map encE) it rfl (g := gName 2) (vs := [2]) (tt := tB (tCall (spD K R_creates_frame) [] E0 (tCons (tVar 2) tNil))) (te := tVar 2) (fun i d hd => by
      rw [List.getElem?_map] at hd
      cases q : (t.take m)[i]? with
      | none => rw [q] at hd; cases hd
      | some e =>
        rw [q] at hd
        cases hd
        refine ⟨[2], _, creates e, tg_name 2, by simp, et_B (er_call (ea_cons (er_v 2) ea_nil) ⟨e, rfl, rfl⟩), fun hc => ⟨encE e, er_v 2, imm_encE e, ?_⟩, fun hc => ?_⟩
        · rw [take_succ_of q, List.filter_append, List.map_append, List.filter_cons_of_pos hc]; rfl
        · rw [take_succ_of q, List.filter_append, List.map_append, List.filter_cons_of_neg (by rw [hc]; decide)]; simp) (by rw [List.length_map, List.length_take]; omega)
    refine sr_ret ((er_lenL lc.r).f rfl) ?_
    show PyData.int _ = PyData.int _
    rw [List.length_map, List.length_map, List.take_length]
    rfl
end
end Lx

set_option Elab.async false
set_option linter.all false
set_option maxRecDepth 100000
set_option maxHeartbeats 1000000
namespace Lx
open PySem PySem.Spec PyProof.Rows L2
open Evl (Ex)
theorem cr_succ {t : List Evt} {i : Nat} {e : Evt} (h : t[i]? = some e) : cr t (i + 1) = cr t i + (if creates e then 1 else 0) := by
  unfold cr
  rw [take_succ_of h, List.filter_append, List.length_append]
  cases hc : creates e with
  | true => rw [List.filter_cons_of_pos hc]; rfl
  | false => rw [List.filter_cons_of_neg (by rw [hc]; decide)]; rfl
theorem cr_mono {t : List Evt} {i j : Nat} (h : i ≤ j) : cr t i ≤ cr t j := by
  unfold cr
  exact ((List.take_sublist_take_left h).filter _).length_le
theorem cr_le {t : List Evt} (T : Tr t) (i : Nat) : cr t i ≤ 10 := by
  by_cases h : i ≤ t.length
  · exact Nat.le_trans (cr_mono h) T.few
  · have e : cr t i = cr t t.length := by
      unfold cr
      rw [List.take_of_length_le (by omega), List.take_length]
    rw [e]; exact T.few
theorem one_lt {a b : Nat} (h : b ≤ a) : decide (([a] : List Nat) < [b]) = false := by
  refine decide_eq_false fun z => ?_
  cases z with
  | rel h' => exact absurd h' (by omega)
  | cons h' => cases h'
section
variable {Pr : Program} {w : World} {K : PySem.W.Frag} {mg : Str → Option Value} {base : Heap}
/-! ### is_name -/
abbrev s_is_name : Stmt := topS 9
abbrev N_is_name : List Str := ["value", "letter"]
theorem sc_is_name : FnScope N_is_name ["value"] (defScope s_is_name) := ⟨rfl, rfl, rfl, by decide +kernel, rfl, by decide +kernel, by decide +kernel⟩
def R_is_name : List PyData → PyData → Prop := fun ds d => ∃ s, ds = [.str s] ∧ okName s ∧ d = .bool true
theorem ok_is_name {f : Addr} {fd : FuncData} (M : Md mg)  (F : Fun K "is_name" "is_name" s_is_name f fd) : FnOk Pr w K mg base CX0 1 f fd ["value"] (spD K R_is_name) := by
  refine okD (k := 0) F sc_is_name (fun ds d h => ?_) (fun ds d h cdv A outer s H E hr => ⟨_, (pss_cons (ps_if (PW.pt (pw_or (pt_not (pt_val (pe_callB call_isi (by rfl) M.isinstance (by decide +kernel) (pa_cons (pv 0) (pa_cons (pe_bltn (v := .ty "str") (by rfl) M.str (by decide +kernel) rfl) pa_nil))))) (pw_or1 (pt_not (pt_chain op_le op_le pe_int (pe_callB call_len (by rfl) M.len PySem.boot_len (pa_cons (pv 0) pa_nil)) (pe_gint (by rfl) M.LONGEST_NAME)))))) (pss_one (ps_ret pe_bl)) pss_nil) (pss_one (ps_ret (pe_callB (cr_all rfl) (by rfl) M.all (by decide +kernel) (pa_cons (pe_lc (own := [("letter", 1)]) (wi := (iStr (tVar 0))) (g := (gName 1)) (tt := tYes) (te := (tChain (fun x y H Q => ∃ i j, x = V.str i ∧ y = V.str j ∧ Q (.bl (!decide (j.cps.toList < i.cps.toList))) H) (fun x y H Q => ∃ i j, x = V.str i ∧ y = V.str j ∧ Q (.bl (!decide (j.cps.toList < i.cps.toList))) H) (tC (.str "a")) (tVar 1) (tC (.str "z")))) (by rfl) sc_is_name.nd (pi_str (pv 0)) (blkOk_by (own := [("letter", 1)]) (N := N_is_name) (sc := defScope s_is_name) (by decide +kernel)) (fun _ _ _ _ _ => (pg_name (i := 1) sc_is_name.nd rfl (Or.inl rfl))) (fun _ _ _ _ _ => pts_nil) (fun _ _ _ _ _ => (pe_chain op_le_str op_le_str pe_str (pv 1) pe_str))) pa_nil))))), ?_⟩)
  · obtain ⟨x, rfl, _⟩ := h
    rfl
  · obtain ⟨s, rfl, ⟨n1, n2, n3⟩, rfl⟩ := h
    have isi : EvR K _ _ _ := er_isi (K := K) (ρ := env0 N_is_name [.str s]) (te := tVar 0) (d := .str s) (T := "str") (er_v 0) k_ss
    have hl : s.length = s.cps.size := rfl
    refine sr_skip (et_is (et_or (et_not (et_B isi)) fun _ => et_not (et_test (er_le_le er_int (er_lenS (er_v 0) (by omega)) er_int))) ?_) ?_
    · rw [decide_eq_true (show (1 : Int) ≤ (s.length : Nat) by omega), decide_eq_true (show ((s.length : Nat) : Int) ≤ 8 by omega)]; rfl
    · have lc := ef_lc (K := K) (ρ := env0 N_is_name [.str s]) (fun i => (List.replicate i true).map PyData.bool) (ec_str (er_v 0)) rfl (g := gName 1) (vs := [1]) (tt := tYes)
        (te := tChain (fun x y H Q => ∃ i j, x = V.str i ∧ y = V.str j ∧ Q (.bl (!decide (j.cps.toList < i.cps.toList))) H) (fun x y H Q => ∃ i j, x = V.str i ∧ y = V.str j ∧ Q (.bl (!decide (j.cps.toList < i.cps.toList))) H) (tC (.str "a")) (tVar 1) (tC (.str "z"))) (fun i d hd => by
        rw [List.getElem?_map] at hd
        cases q : s.cps.toList[i]? with
        | none => rw [q] at hd; cases hd
        | some c =>
          rw [q] at hd
          cases hd
          obtain ⟨c1, c2⟩ := n3 c (List.mem_of_getElem? q)
          refine ⟨[1], _, true, tg_name 1, by simp, fun _ _ H _ _ q => q H (Ex.refl H), fun _ => ⟨.bool true, er_is (er_strLe er_str (er_v 1) er_str) ?_, rfl, ?_⟩, fun z => nomatch z⟩
          · show PyData.bool ((!decide (([c] : List Nat) < [97])) && (!decide (([122] : List Nat) < [c]))) = _
            rw [one_lt c1, one_lt c2]; rfl
          · rw [List.replicate_succ', List.map_append]; rfl) (by rw [List.length_map, Array.length_toList]; omega)
      refine sr_ret ((er_all lc.r).f rfl) ?_
      show PyData.bool _ = PyData.bool true
      simp
/-! ### is_event -/
abbrev s_is_event : Stmt := topS 12
abbrev N_is_event : List Str := ["value", "created", "kind", "detail"]
theorem sc_is_event : FnScope N_is_event ["value", "created"] (defScope s_is_event) := ⟨rfl, rfl, rfl, by decide +kernel, rfl, by decide +kernel, by decide +kernel⟩
def R_is_event : List PyData → PyData → Prop := fun ds d => ∃ (e : Evt) (c : Nat), ds = [encE e, .int (c : Nat)] ∧ EvOk e c ∧ d = .bool true
theorem sh_str1 : SeqAt.shaped (.str "enter") = true ∧ SeqAt.shaped (.str "tail") = true ∧ SeqAt.shaped (.str "exit") = true ∧ SeqAt.shaped (.str "catch") = true ∧ SeqAt.shaped (.str "mark") = true := by decide +kernel
theorem ok_is_event {f : Addr} {fd : FuncData} (M : Md mg) (C_is_plain_int : Cal Pr w K mg base 1 "is_plain_int" (spD K R_is_plain_int)) (C_is_name : Cal Pr w K mg base 1 "is_name" (spD K R_is_name)) (F : Fun K "is_event" "is_event" s_is_event f fd) : FnOk Pr w K mg base CX0 2 f fd ["value", "created"] (spD K R_is_event) := by
  refine okD (k := 1) F sc_is_event (fun ds d h => ?_) (fun ds d h cdv A outer s H E hr => ⟨_, (pss_cons (ps_if (pt_not (pt_val (pe_callB call_isi (by rfl) M.isinstance (by decide +kernel) (pa_cons (pv 0) (pa_cons (pe_bltn (v := .ty "tuple") (by rfl) M.tuple (by decide +kernel) rfl) pa_nil))))) (pss_one (ps_ret pe_bl)) pss_nil) (pss_cons (ps_if (pt_cmpR (op_neD hr.units) (pe_callB call_len (by rfl) M.len PySem.boot_len (pa_cons (pv 0) pa_nil)) pe_int (nomark _)) (pss_one (ps_ret (pe_cmpR (op_eqD hr.units) (pv 0) (pe_tupN (pa_cons pe_str pa_nil)) (nomark _)))) pss_nil) (pss_cons (ps_asg (pv 0) (pg_tup rfl (pgs_cons (pg_name (i := 2) sc_is_event.nd rfl (Or.inl rfl)) (pgs_cons (pg_name (i := 3) sc_is_event.nd rfl (Or.inl rfl)) pgs_nil)))) (pss_cons (ps_if (pt_cmpR (op_eqD hr.units) (pv 2) pe_str (nomark _)) (pss_one (ps_ret (pe_cal C_is_name hr (by decide) (by rfl) (pa_cons (pv 3) pa_nil)))) pss_nil) (pss_cons (ps_if (pt_cmpR (op_eqD hr.units) (pv 2) pe_str (nomark _)) (pss_one (ps_ret (pe_and (pe_cmpR op_gt (pv 1) pe_int (nomark _)) (pe_one (pe_cal C_is_name hr (by decide) (by rfl) (pa_cons (pv 3) pa_nil)))))) pss_nil) (pss_cons (ps_if (pt_cmpR op_in_seq (pv 2) (pe_tupN (pa_cons pe_str (pa_cons pe_str pa_nil))) (by rfl)) (pss_one (ps_ret (pe_and (pe_cal C_is_plain_int hr (by decide) (by rfl) (pa_cons (pv 3) pa_nil)) (pe_one (pe_chain op_le op_lt pe_int (pv 3) (pv 1)))))) pss_nil) (pss_one (ps_ret pe_bl)))))))), ?_⟩)
  · obtain ⟨x, c, rfl, _⟩ := h
    rfl
  · obtain ⟨e, c, rfl, ok, rfl⟩ := h
    obtain ⟨s1, s2, s3, s4, s5⟩ := sh_str1
    have isi : ∀ {ds : List PyData}, EvR K (tVar 0) (env0 N_is_event [encE e, .int (c : Nat)]) (.tuple ds) → EvT K (tNot (tB (tCB (rIsi K) (tCons (tVar 0) (tCons (tC (.ty "tuple")) tNil))))) (env0 N_is_event [encE e, .int (c : Nat)]) false :=
      fun h => et_not (et_B (er_isi h (show kitB (tyD (.tuple _)) "tuple" = some true from k_tt)))
    cases e with
    | enter s =>
      have v : EvR K (tVar 0) (env0 N_is_event [encE (.enter s), .int (c : Nat)]) (.tuple [.str "enter", .str s]) := er_v 0
      refine sr_skip (isi v) (sr_skip (et_test (er_is (er_neD (er_lenT v) er_int rfl rfl) rfl)) (sr_tgt v rfl (tg_tup (tgs_cons (tg_name 2) (tgs_cons (tg_name 3) tgs_nil))) ?_))
      exact sr_take (et_test (er_is (er_eqD (er_v 2) er_str s1 s1) rfl)) (sr_ret (ef_call (ea_cons (er_v 3) ea_nil) ⟨s, rfl, ok, rfl⟩) rfl)
    | tail s =>
      have v : EvR K (tVar 0) (env0 N_is_event [encE (.tail s), .int (c : Nat)]) (.tuple [.str "tail", .str s]) := er_v 0
      obtain ⟨ok, hc⟩ := ok
      refine sr_skip (isi v) (sr_skip (et_test (er_is (er_neD (er_lenT v) er_int rfl rfl) rfl)) (sr_tgt v rfl (tg_tup (tgs_cons (tg_name 2) (tgs_cons (tg_name 3) tgs_nil))) ?_))
      refine sr_skip (et_test (er_is (er_eqD (er_v 2) er_str s2 s1) (congrArg PyData.bool (by decide +kernel)))) (sr_take (et_test (er_is (er_eqD (er_v 2) er_str s2 s2) rfl)) (sr_ret (EvR.f (er_is (er_andV (er_gt (er_v 1) er_int) fun _ => er_call (ea_cons (er_v 3) ea_nil) ⟨s, rfl, ok, rfl⟩) ?_) rfl) rfl))
      rw [decide_eq_true (show (0 : Int) < (c : Nat) by omega)]; rfl
    | exit g =>
      have v : EvR K (tVar 0) (env0 N_is_event [encE (.exit g), .int (c : Nat)]) (.tuple [.str "exit", .int g]) := er_v 0
      obtain ⟨o1, o2⟩ := ok
      refine sr_skip (isi v) (sr_skip (et_test (er_is (er_neD (er_lenT v) er_int rfl rfl) rfl)) (sr_tgt v rfl (tg_tup (tgs_cons (tg_name 2) (tgs_cons (tg_name 3) tgs_nil))) ?_))
      refine sr_skip (et_test (er_is (er_eqD (er_v 2) er_str s3 s1) (congrArg PyData.bool (by decide +kernel)))) (sr_skip (et_test (er_is (er_eqD (er_v 2) er_str s3 s2) (congrArg PyData.bool (by decide +kernel)))) (sr_take (et_test (er_is (er_inS (er_v 2) (er_tup (ea_cons er_str (ea_cons er_str ea_nil))) (.inl rfl) rfl rfl) (congrArg PyData.bool (by decide +kernel)))) (sr_ret (EvR.f (er_is (er_andV (er_call (ea_cons (er_v 3) ea_nil) ⟨.int g, rfl, rfl, rfl⟩) fun _ => er_le_lt er_int (er_v 3) (er_v 1)) ?_) rfl) rfl)))
      rw [decide_eq_true o1, decide_eq_true o2]; rfl
    | caught g =>
      have v : EvR K (tVar 0) (env0 N_is_event [encE (.caught g), .int (c : Nat)]) (.tuple [.str "catch", .int g]) := er_v 0
      obtain ⟨o1, o2⟩ := ok
      refine sr_skip (isi v) (sr_skip (et_test (er_is (er_neD (er_lenT v) er_int rfl rfl) rfl)) (sr_tgt v rfl (tg_tup (tgs_cons (tg_name 2) (tgs_cons (tg_name 3) tgs_nil))) ?_))
      refine sr_skip (et_test (er_is (er_eqD (er_v 2) er_str s4 s1) (congrArg PyData.bool (by decide +kernel)))) (sr_skip (et_test (er_is (er_eqD (er_v 2) er_str s4 s2) (congrArg PyData.bool (by decide +kernel)))) (sr_take (et_test (er_is (er_inS (er_v 2) (er_tup (ea_cons er_str (ea_cons er_str ea_nil))) (.inl rfl) rfl rfl) (congrArg PyData.bool (by decide +kernel)))) (sr_ret (EvR.f (er_is (er_andV (er_call (ea_cons (er_v 3) ea_nil) ⟨.int g, rfl, rfl, rfl⟩) fun _ => er_le_lt er_int (er_v 3) (er_v 1)) ?_) rfl) rfl)))
      rw [decide_eq_true o1, decide_eq_true o2]; rfl
    | mark =>
      have v : EvR K (tVar 0) (env0 N_is_event [encE .mark, .int (c : Nat)]) (.tuple [.str "mark"]) := er_v 0
      exact sr_skip (isi v) (sr_take (et_test (er_is (er_neD (er_lenT v) er_int rfl rfl) rfl)) (sr_ret (EvR.f (er_is (er_eqD v (er_tup (ea_cons er_str ea_nil)) (by decide +kernel) (by decide +kernel)) (congrArg PyData.bool (by decide +kernel))) rfl) rfl))
/-! ### is_trace -/
abbrev s_is_trace : Stmt := topS 13
abbrev N_is_trace : List Str := ["value", "created", "event"]
theorem sc_is_trace : FnScope N_is_trace ["value"] (defScope s_is_trace) := ⟨rfl, rfl, rfl, by decide +kernel, rfl, by decide +kernel, by decide +kernel⟩
def R_is_trace : List PyData → PyData → Prop := fun ds d => ∃ t, ds = [encT t] ∧ Tr t ∧ d = .bool true
theorem ok_is_trace {f : Addr} {fd : FuncData} (M : Md mg) (C_creates_frame : Cal Pr w K mg base 1 "creates_frame" (spD K R_creates_frame)) (C_is_event : Cal Pr w K mg base 2 "is_event" (spD K R_is_event)) (F : Fun K "is_trace" "is_trace" s_is_trace f fd) : FnOk Pr w K mg base CX0 3 f fd ["value"] (spD K R_is_trace) := by
  refine okD (k := 2) F sc_is_trace (fun ds d h => ?_) (fun ds d h cdv A outer s H E hr => ⟨_, (pss_cons (ps_if (PW.pt (pw_or (pt_not (pt_val (pe_callB call_isi (by rfl) M.isinstance (by decide +kernel) (pa_cons (pv 0) (pa_cons (pe_bltn (v := .ty "tuple") (by rfl) M.tuple (by decide +kernel) rfl) pa_nil))))) (pw_or1 (pt_cmpR op_gt (pe_callB call_len (by rfl) M.len PySem.boot_len (pa_cons (pv 0) pa_nil)) (pe_gint (by rfl) M.MOST_EVENTS) (nomark _))))) (pss_one (ps_ret pe_bl)) pss_nil) (pss_cons (ps_set (i := 1) sc_is_trace.nd rfl (Or.inl rfl) pe_int) (pss_cons (ps_for PassesOwn.never rfl (pi_tup (pv 0)) (pg_name (i := 2) sc_is_trace.nd rfl (Or.inl rfl)) (pss_cons (ps_if (pt_not (pt_val (pe_cal C_is_event hr (by decide) (by rfl) (pa_cons (pv 2) (pa_cons (pv 1) pa_nil))))) (pss_one (ps_ret pe_bl)) pss_nil) (pss_one (ps_if (pt_val (pe_cal C_creates_frame hr (by decide) (by rfl) (pa_cons (pv 2) pa_nil))) (pss_one (ps_aug (i := 1) sc_is_trace.nd rfl (Or.inl rfl) pe_int ip_add)) pss_nil)))) (pss_one (ps_ret (pe_cmpR op_le (pv 1) (pe_gint (by rfl) M.MOST_FRAMES) (nomark _))))))), ?_⟩)
  · obtain ⟨x, rfl, _⟩ := h
    rfl
  · obtain ⟨t, rfl, T, rfl⟩ := h
    have v : EvR K (tVar 0) (env0 N_is_trace [encT t]) (.tuple (t.map encE)) := er_v 0
    have tl := T.len
    refine sr_skip (et_is (et_or (et_not (et_B (er_isi v (show kitB (tyD (.tuple _)) "tuple" = some true from k_tt)))) fun _ => et_test (er_gt (er_lenT v) er_int)) ?_) (sr_set ef_int ?_)
    · rw [List.length_map, decide_eq_false (by omega)]; rfl
    · refine sr_for (fun i ρ' => ∃ x, ρ' = [some (.dat (encT t)), some (.dat (.int (cr t i : Nat))), x]) (fun ρ' => ∃ x, ρ' = [some (.dat (encT t)), some (.dat (.int (cr t t.length : Nat))), x])
        (ei_tup (ds := t.map encE) (er_v 0) (immAll_encE t)) ⟨none, rfl⟩ (fun i d ρ' hd iv => ?_) (fun ρ' iv => by rw [List.length_map] at iv; exact iv) (fun ρ' iv => ?_)
      · rw [List.getElem?_map] at hd
        cases q : t[i]? with
        | none => rw [q] at hd; cases hd
        | some e =>
          rw [q] at hd
          cases hd
          obtain ⟨x, rfl⟩ := iv
          refine ⟨_, _, tg_name 2, sr_skip (et_is (et_not (et_B (er_call (ea_cons (er_v 2) (ea_cons (er_v 1) ea_nil)) ⟨e, cr t i, rfl, T.ok i e q, rfl⟩))) rfl) (sr_if (et_B (er_call (ea_cons (er_v 2) ea_nil) ⟨e, rfl, rfl⟩)) (fun hc => sr_aug1 rfl er_int ⟨some (.dat (encE e)), ?_⟩) (fun hc => sr_next ⟨some (.dat (encE e)), ?_⟩))⟩
          · rw [cr_succ q, hc]; rfl
          · rw [cr_succ q, hc]; rfl
      · obtain ⟨x, rfl⟩ := iv
        refine sr_ret ((er_le (er_v 1) er_int).f rfl) ?_
        have tf := T.few
        show PyData.bool _ = PyData.bool true
        rw [decide_eq_true (by omega)]
/-! ### check_trace -/
abbrev s_check_trace : Stmt := topS 14
abbrev N_check_trace : List Str := ["value"]
theorem sc_check_trace : FnScope N_check_trace ["value"] (defScope s_check_trace) := ⟨rfl, rfl, rfl, by decide +kernel, rfl, by decide +kernel, by decide +kernel⟩
def R_check_trace : List PyData → PyData → Prop := fun ds d => ∃ t, ds = [encT t] ∧ Tr t ∧ d = .none
theorem ok_check_trace {f : Addr} {fd : FuncData} (M : Md mg) (C_is_trace : Cal Pr w K mg base 3 "is_trace" (spD K R_is_trace)) (F : Fun K "check_trace" "check_trace" s_check_trace f fd) : FnOk Pr w K mg base CX0 4 f fd ["value"] (spD K R_check_trace) := by
  refine okD (k := 3) F sc_check_trace (fun ds d h => ?_) (fun ds d h cdv A outer s H E hr => ⟨_, (pss_one (ps_if (pt_not (pt_val (pe_cal C_is_trace hr (by decide) (by rfl) (pa_cons (pv 0) pa_nil)))) (pss_one ps_never) pss_nil)), ?_⟩)
  · obtain ⟨x, rfl, _⟩ := h
    rfl
  · obtain ⟨t, rfl, T, rfl⟩ := h
    exact sr_if (et_not (et_B (er_call (ea_cons (er_v 0) ea_nil) ⟨t, rfl, T, rfl⟩))) (fun z => nomatch z) (fun _ => sr_next rfl)
/-! ### frames -/
abbrev s_frames : Stmt := topS 15
abbrev N_frames : List Str := ["trace", "at", "event"]
theorem sc_frames : FnScope N_frames ["trace"] (defScope s_frames) := ⟨rfl, rfl, rfl, by decide +kernel, rfl, by decide +kernel, by decide +kernel⟩
def nameD : Evt → PyData
  | .enter s => .str s
  | .tail s => .str s
  | .exit f => .int f
  | .caught f => .int f
  | .mark => .none
def frL (t : List Evt) : List PyData := (t.zipIdx.filter fun p => creates p.1).map fun p => .tuple [nameD p.1, .int (p.2 : Nat)]
theorem imm_nameD (e : Evt) : imm (nameD e) = true := by cases e <;> rfl
def R_frames : List PyData → PyData → Prop := fun ds d => ∃ t, ds = [encT t] ∧ Tr t ∧ d = .list (frL t)
theorem zipIdx_take {α : Type} {t : List α} {i : Nat} {e : α} (h : t[i]? = some e) : (t.take (i + 1)).zipIdx = (t.take i).zipIdx ++ [(e, i)] := by
  rw [take_succ_of h, List.zipIdx_append]
  have hi : i < t.length := (List.getElem?_eq_some_iff.mp h).1
  simp [List.length_take, Nat.min_eq_left (Nat.le_of_lt hi)]
theorem name_at {ρ : En} {te : TE} {e : Evt} (h : EvR K te ρ (encE e)) (hc : creates e = true) : EvR K (tOp (rIxT K) te (tC (.int 1))) ρ (nameD e) := by
  cases e with
  | enter s => exact er_ixT h er_int rfl
  | tail s => exact er_ixT h er_int rfl
  | exit s => cases hc
  | caught s => cases hc
  | mark => cases hc
theorem ok_frames {f : Addr} {fd : FuncData} (M : Md mg) (C_creates_frame : Cal Pr w K mg base 1 "creates_frame" (spD K R_creates_frame)) (C_check_trace : Cal Pr w K mg base 4 "check_trace" (spD K R_check_trace)) (F : Fun K "frames" "frames" s_frames f fd) : FnOk Pr w K mg base CX0 5 f fd ["trace"] (spD K R_frames) := by
  refine okD (k := 4) F sc_frames (fun ds d h => ?_) (fun ds d h cdv A outer s H E hr => ⟨_, (pss_cons (ps_expr (pe_cal C_check_trace hr (by decide) (by rfl) (pa_cons (pv 0) pa_nil))) (pss_one (ps_ret (pe_lc (own := [("at", 1), ("event", 2)]) (wi := (iEnumT K (tCons (tVar 0) tNil))) (g := (gTup K 2 (gCons (gName 1) (gCons (gName 2) gNil)))) (tt := (tB (tCall (spD K R_creates_frame) [] E0 (tCons (tVar 2) tNil)))) (te := (tTupN (tCons (tOp (rIxT K) (tVar 2) (tC (.int 1))) (tCons (tVar 1) tNil)))) (by rfl) sc_frames.nd (pi_enumT (by rfl) M.enumerate (pa_cons (pv 0) pa_nil)) (blkOk_by (own := [("at", 1), ("event", 2)]) (N := N_frames) (sc := defScope s_frames) (by decide +kernel)) (fun _ _ _ _ _ => (pg_tup rfl (pgs_cons (pg_name (i := 1) sc_frames.nd rfl (Or.inl rfl)) (pgs_cons (pg_name (i := 2) sc_frames.nd rfl (Or.inl rfl)) pgs_nil)))) (fun _ _ _ _ _ => (pts_one (pt_val (pe_cal C_creates_frame hr (by decide) (by rfl) (pa_cons (pv 2) pa_nil))))) (fun _ _ _ _ _ => (pe_tupN (pa_cons (pe_ix ix_tup (pv 2) pe_int (fun _ _ => rfl)) (pa_cons (pv 1) pa_nil)))))))), ?_⟩)
  · obtain ⟨x, rfl, _⟩ := h
    rfl
  · obtain ⟨t, rfl, T, rfl⟩ := h
    have tl := T.len
    have v : EvR K (tVar 0) (env0 N_frames [encT t]) (.tuple (t.map encE)) := er_v 0
    refine sr_drop (er_call (ea_cons (er_v 0) ea_nil) ⟨t, rfl, T, rfl⟩) ?_
    have lc := ef_lc (ρ := env0 N_frames [encT t]) (wi := (iEnumT K (tCons (tVar 0) tNil))) (g := (gTup K 2 (gCons (gName 1) (gCons (gName 2) gNil)))) (vs := [1, 2]) (tt := (tB (tCall (spD K R_creates_frame) [] E0 (tCons (tVar 2) tNil)))) (te := (tTupN (tCons (tOp (rIxT K) (tVar 2) (tC (.int 1))) (tCons (tVar 1) tNil)))) (fun i => frL (t.take i)) (ei_enT v (immAll_encE t)).c rfl (fun i d hd => by
      obtain ⟨d', hd', rfl⟩ := enumD_of hd
      rw [List.getElem?_map] at hd'
      cases q : t[i]? with
      | none => rw [q] at hd'; cases hd'
      | some e =>
        rw [q] at hd'
        cases hd'
        refine ⟨_, _, creates e, tg_tup (tgs_cons (tg_name 1) (tgs_cons (tg_name 2) tgs_nil)), by simp, et_B (er_call (ea_cons (er_v 2) ea_nil) ⟨e, rfl, rfl⟩), fun hc => ⟨.tuple [nameD e, .int (i : Nat)], er_tup (ea_cons (name_at (er_v 2) hc) (ea_cons (er_v 1) ea_nil)), by simp [imm, immAll, imm_nameD], ?_⟩, fun hc => ?_⟩
        · show frL _ = frL _ ++ _
          unfold frL
          rw [zipIdx_take q, List.filter_append, List.map_append]; simp [List.filter_cons, hc]
        · show frL _ = frL _
          unfold frL
          rw [zipIdx_take q, List.filter_append, List.map_append]; simp [List.filter_cons, hc]) (by rw [enumD_len, List.length_map]; omega)
    refine sr_ret lc ?_
    show PyData.list _ = PyData.list _
    rw [enumD_len, List.length_map, List.take_length]
end
end Lx

set_option Elab.async false
set_option linter.all false
set_option maxRecDepth 100000
set_option maxHeartbeats 1000000
/-! the mathematics: stacks, completions, totals -/
namespace Lx
open PySem PySem.Spec PyProof.Rows L2
def after (st : List Int) (e : Evt) (c : Int) : Option (List Int) :=
  match e with
  | .enter _ => some (st ++ [c])
  | .tail _ => if st = [] then none else some (st.dropLast ++ [c])
  | .exit f => if st.getLast? = some f then some st.dropLast else none
  | .caught f => if f ∈ st then some (st.filter (fun x => decide (x ≤ f))) else none
  | .mark => some st
abbrev Asc (s : List Int) : Prop := s.Pairwise (· < ·)
theorem asc_index : ∀ {st : List Int} {f : Int}, Asc st → f ∈ st → ∃ j : Nat, st[j]? = some f ∧ (∀ m, m < j → st[m]? ≠ some f) ∧ st.take (j + 1) = st.filter (fun x => decide (x ≤ f))
  | [], _, _, h => by simp at h
  | a :: r, f, p, h => by
    rw [Asc, List.pairwise_cons] at p
    by_cases e : a = f
    · subst e
      refine ⟨0, rfl, fun m hm => absurd hm (by omega), ?_⟩
      have hr : r.filter (fun x => decide (x ≤ a)) = [] := List.filter_eq_nil_iff.mpr fun x hx => by
        have := p.1 x hx
        simp; omega
      rw [List.filter_cons_of_pos (by simp), hr]; rfl
    · have hf : f ∈ r := by
        rcases List.mem_cons.mp h with z | z
        · exact absurd z.symm e
        · exact z
      have lt := p.1 f hf
      obtain ⟨j, h1, h2, h3⟩ := asc_index p.2 hf
      refine ⟨j + 1, by simpa using h1, fun m hm => ?_, ?_⟩
      · cases m with
        | zero => simp; exact e
        | succ m => simpa using h2 m (by omega)
      · rw [List.take_succ_cons, h3, List.filter_cons_of_pos (by simp; omega)]
/-- the stack ahead of the unseen returns, behind the stacks so far -/
def nextS (t : List Evt) (ss : List (List Int)) : Option (List Int) :=
  match ss.getLast? with
  | none => some []
  | some s => match t[ss.length - 1]? with
    | none => none
    | some e => after s e (cr t (ss.length - 1) : Nat)
def stepS (t : List Evt) (ss : List (List Int)) (u : Int) : Option (List (List Int)) :=
  match nextS t ss with
  | none => none
  | some s => if 0 ≤ u ∧ u ≤ (s.length : Nat) then some (ss ++ [s.take (s.length - u.toNat)]) else none
def runS (t : List Evt) (c : List Int) : Option (List (List Int)) := c.foldlM (stepS t) []
theorem runS_nil (t : List Evt) : runS t [] = some [] := rfl
theorem runS_snoc (t : List Evt) (c : List Int) (u : Int) : runS t (c ++ [u]) = (runS t c).bind fun ss => stepS t ss u := by
  unfold runS
  rw [List.foldlM_append]
  cases h : List.foldlM (stepS t) [] c with
  | none => rfl
  | some ss =>
    show List.foldlM (stepS t) ss [u] = stepS t ss u
    rw [List.foldlM_cons]
    cases stepS t ss u <;> rfl
theorem runS_append (t : List Evt) (c d : List Int) : runS t (c ++ d) = (runS t c).bind fun ss => d.foldlM (stepS t) ss := by
  unfold runS
  rw [List.foldlM_append]
  rfl
theorem runS_take {t : List Evt} {c : List Int} {i : Nat} {u : Int} (h : c[i]? = some u) : runS t (c.take (i + 1)) = (runS t (c.take i)).bind fun ss => stepS t ss u := by
  rw [take_succ_of h, runS_snoc]
/-- stacks as they must be: ascending, of frames that are there -/
def Good (t : List Evt) (ss : List (List Int)) : Prop := ∀ (i : Nat) (s : List Int), ss[i]? = some s → Asc s ∧ ∀ x ∈ s, 0 ≤ x ∧ x < (cr t i : Nat)
theorem asc_len : ∀ {n : Nat} {s : List Int}, Asc s → (∀ x ∈ s, 0 ≤ x ∧ x < (n : Nat)) → s.length ≤ n := by
  intro n
  induction n with
  | zero =>
    intro s _ h
    cases s with
    | nil => exact Nat.le_refl _
    | cons a r =>
      have := h a (by simp)
      omega
  | succ n ih =>
    intro s p h
    cases hs : s.getLast? with
    | none =>
      rw [List.getLast?_eq_none_iff] at hs
      subst hs
      exact Nat.zero_le _
    | some z =>
      obtain ⟨r, rfl⟩ : ∃ r, s = r ++ [z] := ⟨s.dropLast, by
        rw [List.getLast?_eq_some_iff] at hs
        obtain ⟨ys, rfl⟩ := hs
        simp⟩
      rw [Asc, List.pairwise_append] at p
      have hz := h z (by simp)
      have := ih p.1 fun x hx => by
        have h1 := h x (by simp [hx])
        have h2 := p.2.2 x hx z (by simp)
        omega
      rw [List.length_append]
      show r.length + 1 ≤ n + 1
      omega
theorem asc_sub {s r : List Int} (h : r.Sublist s) (p : Asc s) : Asc r := List.Pairwise.sublist h p
theorem after_good {t : List Evt} {i : Nat} {e : Evt} {s r : List Int} (q : t[i]? = some e) (p : Asc s) (b : ∀ x ∈ s, 0 ≤ x ∧ x < (cr t i : Nat)) (h : after s e (cr t i : Nat) = some r) :
    Asc r ∧ ∀ x ∈ r, 0 ≤ x ∧ x < (cr t (i + 1) : Nat) := by
  have push : ∀ s' : List Int, s'.Sublist s → creates e = true → Asc (s' ++ [((cr t i : Nat) : Int)]) ∧ ∀ x ∈ s' ++ [((cr t i : Nat) : Int)], 0 ≤ x ∧ x < (cr t (i + 1) : Nat) := fun s' hs hc => by
    have hcr := cr_succ q
    rw [hc] at hcr
    simp at hcr
    refine ⟨List.pairwise_append.mpr ⟨asc_sub hs p, by simp, fun a ha y hy => ?_⟩, fun x hx => ?_⟩
    · have := b a (hs.subset ha)
      rw [List.mem_singleton] at hy
      omega
    · rcases List.mem_append.mp hx with z | z
      · have := b x (hs.subset z)
        omega
      · rw [List.mem_singleton] at z
        omega
  have keep : ∀ s' : List Int, s'.Sublist s → Asc s' ∧ ∀ x ∈ s', 0 ≤ x ∧ x < (cr t (i + 1) : Nat) := fun s' hs => by
    have hcr := cr_mono (t := t) (Nat.le_succ i)
    refine ⟨asc_sub hs p, fun x hx => ?_⟩
    have := b x (hs.subset hx)
    have hh : cr t i ≤ cr t (i + 1) := hcr
    omega
  cases e with
  | enter n =>
    cases (show some (s ++ [((cr t i : Nat) : Int)]) = some r from h)
    exact push s (List.Sublist.refl s) rfl
  | tail n =>
    simp only [after] at h
    split at h
    · cases h
    · cases h
      exact push _ (List.dropLast_sublist s) rfl
  | exit f =>
    simp only [after] at h
    split at h
    · cases h
      exact keep _ (List.dropLast_sublist s)
    · cases h
  | caught f =>
    simp only [after] at h
    split at h
    · cases h
      exact keep _ List.filter_sublist
    · cases h
  | mark =>
    cases (show some s = some r from h)
    exact keep _ (List.Sublist.refl s)
theorem nextS_good {t : List Evt} {ss : List (List Int)} {s : List Int} (g : Good t ss) (h : nextS t ss = some s) : Asc s ∧ ∀ x ∈ s, 0 ≤ x ∧ x < (cr t ss.length : Nat) := by
  unfold nextS at h
  cases hl : ss.getLast? with
  | none =>
    rw [hl] at h
    cases h
    exact ⟨List.Pairwise.nil, fun x hx => by simp at hx⟩
  | some z =>
    rw [hl] at h
    have hn : ss ≠ [] := fun e => by rw [e] at hl; cases hl
    have hpos : 0 < ss.length := List.length_pos_iff.mpr hn
    have hz : ss[ss.length - 1]? = some z := by rw [← List.getLast?_eq_getElem?]; exact hl
    cases q : t[ss.length - 1]? with
    | none => simp only [q] at h; cases h
    | some e =>
      simp only [q] at h
      obtain ⟨g1, g2⟩ := g _ _ hz
      have r := after_good q g1 g2 h
      rw [show ss.length - 1 + 1 = ss.length by omega] at r
      exact r
theorem step_good {t : List Evt} {ss r : List (List Int)} {s : List Int} {n : Nat} (g : Good t ss) (h : nextS t ss = some s) (e : r = ss ++ [s.take n]) : Good t r := by
  subst e
  obtain ⟨g1, g2⟩ := nextS_good g h
  intro i z hz
  by_cases hi : i < ss.length
  · rw [List.getElem?_append_left hi] at hz
    exact g i z hz
  · rw [List.getElem?_append_right (by omega)] at hz
    have hi' : i - ss.length = 0 := by
      by_cases q : i - ss.length = 0
      · exact q
      · rw [List.getElem?_eq_none (by simp; omega)] at hz; cases hz
    rw [hi'] at hz
    cases hz
    rw [show i = ss.length by omega]
    exact ⟨asc_sub (List.take_sublist _ _) g1, fun x hx => g2 x (List.mem_of_mem_take hx)⟩
theorem good_nil (t : List Evt) : Good t [] := fun i s h => by simp at h
theorem stepS_some {t : List Evt} {ss r : List (List Int)} {u : Int} (h : stepS t ss u = some r) : ∃ s, nextS t ss = some s ∧ 0 ≤ u ∧ u ≤ (s.length : Nat) ∧ r = ss ++ [s.take (s.length - u.toNat)] := by
  unfold stepS at h
  cases q : nextS t ss with
  | none => simp only [q] at h; cases h
  | some s =>
    simp only [q] at h
    split at h
    · rename_i hu
      cases h
      exact ⟨s, rfl, hu.1, hu.2, rfl⟩
    · cases h
theorem run_good {t : List Evt} : ∀ {n : Nat} {c : List Int} {ss : List (List Int)}, c.length = n → runS t c = some ss → Good t ss ∧ ss.length = c.length := by
  intro n
  induction n with
  | zero =>
    intro c ss hl h
    have e := List.eq_nil_of_length_eq_zero hl
    subst e
    cases h
    exact ⟨good_nil t, rfl⟩
  | succ n ih =>
    intro c ss hl h
    obtain ⟨d, u, rfl⟩ : ∃ d u, c = d ++ [u] := ⟨c.dropLast, c.getLast (fun e => by rw [e] at hl; cases hl), (List.dropLast_concat_getLast _).symm⟩
    rw [List.length_append] at hl
    have hd : d.length = n := by simpa using hl
    rw [runS_snoc] at h
    cases q : runS t d with
    | none => rw [q] at h; cases h
    | some s1 =>
      rw [q] at h
      obtain ⟨g, l⟩ := ih hd q
      obtain ⟨s, h1, _, _, rfl⟩ := stepS_some h
      refine ⟨step_good g h1 rfl, ?_⟩
      rw [List.length_append, List.length_append, l]
      rfl
/-- every part of a run -/
theorem run_part {t : List Evt} {c : List Int} {ss : List (List Int)} (h : runS t c = some ss) (i : Nat) (hi : i ≤ c.length) : runS t (c.take i) = some (ss.take i) := by
  have key : ∀ (k : Nat) (i : Nat), i + k = c.length → runS t (c.take i) = some (ss.take i) := by
    intro k
    induction k with
    | zero =>
      intro i hi
      rw [Nat.add_zero] at hi
      rw [hi, List.take_length, h, ← (run_good rfl h).2, List.take_length]
    | succ k ih =>
      intro i hi
      have h1 := ih (i + 1) (by omega)
      have hlt : i < c.length := by omega
      have hu : c[i]? = some c[i] := List.getElem?_eq_getElem hlt
      rw [runS_take hu] at h1
      cases q : runS t (c.take i) with
      | none => rw [q] at h1; cases h1
      | some s1 =>
        rw [q] at h1
        obtain ⟨s, _, _, _, e⟩ := stepS_some h1
        have l1 : s1.length = i := by rw [(run_good rfl q).2, List.length_take]; omega
        have : s1 = (ss.take (i + 1)).take i := by rw [e]; exact (List.take_left' l1).symm
        rw [this, List.take_take, Nat.min_eq_left (by omega)]
  exact key (c.length - i) i (by omega)
/-- from totals -/
def stepT (t : List Evt) (p : List (List Int) × List Int) (x : Int) : Option (List (List Int) × List Int) :=
  match nextS t p.1 with
  | none => none
  | some s => if 0 ≤ ((cr t p.1.length : Nat) : Int) - x ∧ ((cr t p.1.length : Nat) : Int) - x ≤ (s.length : Nat) then
      some (p.1 ++ [s.take (((cr t p.1.length : Nat) : Int) - x).toNat], p.2 ++ [(s.length : Nat) - (((cr t p.1.length : Nat) : Int) - x)]) else none
def ftS (t : List Evt) (xs : List Int) : Option (List (List Int) × List Int) := xs.foldlM (stepT t) ([], [])
theorem ftS_snoc (t : List Evt) (c : List Int) (u : Int) : ftS t (c ++ [u]) = (ftS t c).bind fun p => stepT t p u := by
  unfold ftS
  rw [List.foldlM_append]
  cases h : List.foldlM (stepT t) ([], []) c with
  | none => rfl
  | some ss =>
    show List.foldlM (stepT t) ss [u] = stepT t ss u
    rw [List.foldlM_cons]
    cases stepT t ss u <;> rfl
theorem ftS_take {t : List Evt} {c : List Int} {i : Nat} {u : Int} (h : c[i]? = some u) : ftS t (c.take (i + 1)) = (ftS t (c.take i)).bind fun p => stepT t p u := by
  rw [take_succ_of h, ftS_snoc]
theorem ftS_none {t : List Evt} {c : List Int} {i : Nat} (h : ftS t (c.take i) = none) : ftS t c = none := by
  have e : ftS t c = (ftS t (c.take i)).bind fun p => (c.drop i).foldlM (stepT t) p := by
    conv => lhs; rw [← List.take_append_drop i c]
    unfold ftS
    rw [List.foldlM_append]; rfl
  rw [e, h]; rfl
theorem stepT_some {t : List Evt} {p r : List (List Int) × List Int} {x : Int} (h : stepT t p x = some r) : ∃ s, nextS t p.1 = some s ∧ 0 ≤ ((cr t p.1.length : Nat) : Int) - x ∧ ((cr t p.1.length : Nat) : Int) - x ≤ (s.length : Nat) ∧
    r = (p.1 ++ [s.take (((cr t p.1.length : Nat) : Int) - x).toNat], p.2 ++ [(s.length : Nat) - (((cr t p.1.length : Nat) : Int) - x)]) := by
  unfold stepT at h
  cases q : nextS t p.1 with
  | none => simp only [q] at h; cases h
  | some s =>
    simp only [q] at h
    split at h
    · rename_i hu
      cases h
      exact ⟨s, rfl, hu.1, hu.2, rfl⟩
    · cases h
/-- what from_totals reaches is a run of the completion that it gives -/
theorem ft_run {t : List Evt} : ∀ {n : Nat} {xs : List Int} {p : List (List Int) × List Int}, xs.length = n → ftS t xs = some p → runS t p.2 = some p.1 ∧ p.2.length = xs.length ∧ p.1.length = xs.length := by
  intro n
  induction n with
  | zero =>
    intro c ss hl h
    have e := List.eq_nil_of_length_eq_zero hl
    subst e
    cases h
    exact ⟨rfl, rfl, rfl⟩
  | succ n ih =>
    intro c p hl h
    obtain ⟨d, u, rfl⟩ : ∃ d u, c = d ++ [u] := ⟨c.dropLast, c.getLast (fun e => by rw [e] at hl; cases hl), (List.dropLast_concat_getLast _).symm⟩
    rw [List.length_append] at hl
    have hd : d.length = n := by simpa using hl
    rw [ftS_snoc] at h
    cases q : ftS t d with
    | none => rw [q] at h; cases h
    | some p1 =>
      rw [q] at h
      obtain ⟨r1, r2, r3⟩ := ih hd q
      obtain ⟨s, h1, h2, h3, rfl⟩ := stepT_some h
      refine ⟨?_, by rw [List.length_append, List.length_append, r2]; rfl, by rw [List.length_append, List.length_append, r3]; rfl⟩
      show runS t (p1.2 ++ [_]) = some (p1.1 ++ [_])
      rw [runS_snoc, r1]
      show stepS t p1.1 _ = _
      unfold stepS
      rw [h1]
      show (if _ then _ else _) = _
      rw [if_pos ⟨by omega, by omega⟩]
      congr 4
      omega
/-- totals of a run give its completion again -/
def totS (t : List Evt) (ss : List (List Int)) : List Int := ss.zipIdx.map fun p => ((cr t p.2 : Nat) : Int) - (p.1.length : Nat)
theorem totS_len (t : List Evt) (ss : List (List Int)) : (totS t ss).length = ss.length := by simp [totS]
theorem totS_get {t : List Evt} {ss : List (List Int)} {i : Nat} {s : List Int} (h : ss[i]? = some s) : (totS t ss)[i]? = some (((cr t i : Nat) : Int) - (s.length : Nat)) := by
  simp [totS, List.getElem?_zipIdx, h]
theorem totS_snoc (t : List Evt) (ss : List (List Int)) (s : List Int) : totS t (ss ++ [s]) = totS t ss ++ [((cr t ss.length : Nat) : Int) - (s.length : Nat)] := by
  simp [totS, List.zipIdx_append]
theorem ft_tot {t : List Evt} : ∀ {n : Nat} {c : List Int} {ss : List (List Int)}, c.length = n → runS t c = some ss → ftS t (totS t ss) = some (ss, c) := by
  intro n
  induction n with
  | zero =>
    intro c ss hl h
    have e := List.eq_nil_of_length_eq_zero hl
    subst e
    cases h
    rfl
  | succ n ih =>
    intro c ss hl h
    obtain ⟨d, u, rfl⟩ : ∃ d u, c = d ++ [u] := ⟨c.dropLast, c.getLast (fun e => by rw [e] at hl; cases hl), (List.dropLast_concat_getLast _).symm⟩
    rw [List.length_append] at hl
    have hd : d.length = n := by simpa using hl
    rw [runS_snoc] at h
    cases q : runS t d with
    | none => rw [q] at h; cases h
    | some s1 =>
      rw [q] at h
      obtain ⟨s, h1, h2, h3, rfl⟩ := stepS_some h
      rw [totS_snoc, ftS_snoc, ih hd q]
      show stepT t (s1, d) _ = _
      unfold stepT
      show (match nextS t s1 with | none => none | some s => _) = _
      rw [h1]
      have lt : (s.take (s.length - u.toNat)).length = s.length - u.toNat := by rw [List.length_take]; omega
      have e1 : ((cr t s1.length : Nat) : Int) - (((cr t s1.length : Nat) : Int) - ((s.take (s.length - u.toNat)).length : Nat)) = ((s.length - u.toNat : Nat) : Int) := by rw [lt]; omega
      show (if 0 ≤ ((cr t s1.length : Nat) : Int) - _ ∧ _ then _ else _) = _
      rw [e1, if_pos ⟨by omega, by omega⟩, Int.toNat_natCast]
      have e2 : ((s.length : Nat) : Int) - ((s.length - u.toNat : Nat) : Int) = u := by omega
      show some (s1 ++ [_], d ++ [((s.length : Nat) : Int) - ((s.length - u.toNat : Nat) : Int)]) = _
      rw [e2]
end Lx

set_option Elab.async false
set_option linter.all false
set_option maxRecDepth 100000
set_option maxHeartbeats 1000000
namespace Lx
open PySem PySem.Spec PyProof.Rows L2
open Evl (Ex)
/-! ### data of ints -/
theorem eqvAll_ints : ∀ (xs ys : List Int), PyData.eqvAll (xs.map .int) (ys.map .int) = decide (xs = ys)
  | [], [] => rfl
  | [], _ :: _ => rfl
  | _ :: _, [] => rfl
  | x :: xs, y :: ys => by
    show ((x == y) && PyData.eqvAll (xs.map .int) (ys.map .int)) = _
    rw [eqvAll_ints xs ys]
    by_cases h : x = y <;> by_cases h2 : xs = ys <;> simp [h, h2]
theorem canLay_ints : ∀ ns : List Int, PyData.canLayAll0 (ns.map .int) = true
  | [] => rfl
  | n :: r => by
    show (true && PyData.canLayAll0 (r.map .int)) = true
    rw [canLay_ints r]; rfl
theorem depth_ints : ∀ ns : List Int, PyData.depthAll (ns.map .int) = 0
  | [] => rfl
  | n :: r => by
    show max 0 (PyData.depthAll (r.map .int)) = 0
    rw [depth_ints r]; rfl
theorem sh_ints (ns : List Int) : SeqAt.shaped (.tuple (ns.map .int)) = true := by
  show (PyData.canLayAll0 (ns.map .int) && decide (PyData.depthAll (ns.map .int) + 1 ≤ 64)) = true
  rw [canLay_ints, depth_ints]; rfl
theorem sh_ints1 (n : Int) : SeqAt.shaped (.tuple [.int n]) = true := sh_ints [n]
theorem cut_last (xs : List Int) : cutD (xs.map .int) none (some (-1)) = xs.dropLast.map .int := by
  unfold cutD
  rw [HT.sIx_none, List.drop_zero, Nat.sub_zero]
  show ((xs.map PyData.int).take (-1 + ((xs.map PyData.int).length : Int)).toNat) = _
  rw [List.length_map, List.dropLast_eq_take, List.map_take]
  congr 1
  omega
theorem cut_tail (xs : List Int) : cutD (xs.map .int) (some (-1)) none = (xs.getLast?.toList).map .int := by
  unfold cutD
  rw [HT.sIx_none]
  show ((xs.map PyData.int).drop (-1 + ((xs.map PyData.int).length : Int)).toNat).take _ = _
  rw [List.length_map, ← List.map_drop, List.take_of_length_le (by rw [List.length_map, List.length_drop]; exact Nat.le_refl _)]
  congr 1
  cases xs with
  | nil => rfl
  | cons a r =>
    rw [show (-1 + ((a :: r).length : Int)).toNat = (a :: r).length - 1 by rw [List.length_cons]; omega, List.getLast?_eq_getElem?]
    have h : (a :: r).length - 1 < (a :: r).length := by rw [List.length_cons]; omega
    rw [List.drop_eq_getElem_cons h, List.getElem?_eq_getElem h, List.drop_eq_nil_of_le (by omega)]
    rfl
theorem cut_to (xs : List Int) (i : Nat) : cutD (xs.map .int) none (some (i : Int)) = (xs.take i).map .int := by rw [cutD_take, List.map_take]
section
variable {Pr : Program} {w : World} {K : PySem.W.Frag} {mg : Str → Option Value} {base : Heap}
/-! ### stack_after -/
abbrev s_stack_after : Stmt := topS 17
abbrev N_stack_after : List Str := ["stack", "event", "created", "kind"]
theorem sc_stack_after : FnScope N_stack_after ["stack", "event", "created"] (defScope s_stack_after) := ⟨rfl, rfl, rfl, by decide +kernel, rfl, by decide +kernel, by decide +kernel⟩
def R_stack_after : List PyData → PyData → Prop := fun ds d => ∃ (st : List Int) (e : Evt) (c : Int), ds = [encS st, encE e, .int c] ∧ Asc st ∧ st.length ≤ 1000 ∧ d = optS (after st e c)
theorem ok_stack_after {f : Addr} {fd : FuncData} (M : Md mg)  (F : Fun K "stack_after" "stack_after" s_stack_after f fd) : FnOk Pr w K mg base CX0 1 f fd ["stack", "event", "created"] (spD K R_stack_after) := by
  refine okD (k := 0) F sc_stack_after (fun ds d h => ?_) (fun ds d h cdv A outer s H E hr => ⟨_, (pss_cons (ps_set (i := 3) sc_stack_after.nd rfl (Or.inl rfl) (pe_ix ix_tup (pv 1) pe_int (fun _ _ => rfl))) (pss_cons (ps_if (pt_cmpR (op_eqD hr.units) (pv 3) pe_str (nomark _)) (pss_one (ps_ret (pe_op op_catN (pv 0) (pe_tupN (pa_cons (pv 2) pa_nil))))) pss_nil) (pss_cons (ps_if (pt_cmpR (op_eqD hr.units) (pv 3) pe_str (nomark _)) (pss_one (ps_ret (pe_ifExp (pt_truth (pv 0) (by intro _; rfl)) (pe_op op_catN (pe_slice sl_tupN (pv 0) po_none (po_some (pe_un un_neg pe_int))) (pe_tupN (pa_cons (pv 2) pa_nil))) pe_non))) pss_nil) (pss_cons (ps_if (pt_cmpR (op_eqD hr.units) (pv 3) pe_str (nomark _)) (pss_one (ps_ret (pe_ifExp (pt_cmpR (op_eqD hr.units) (pe_slice sl_tupN (pv 0) (po_some (pe_un un_neg pe_int)) po_none) (pe_tupN (pa_cons (pe_ix ix_tup (pv 1) pe_int (fun _ _ => rfl)) pa_nil)) (nomark _)) (pe_slice sl_tupN (pv 0) po_none (po_some (pe_un un_neg pe_int))) pe_non))) pss_nil) (pss_cons (ps_if (pt_cmpR (op_eqD hr.units) (pv 3) pe_str (nomark _)) (pss_one (ps_ret (pe_ifExp (pt_cmpR op_in_seq (pe_ix ix_tup (pv 1) pe_int (fun _ _ => rfl)) (pv 0) (by rfl)) (pe_slice sl_tupN (pv 0) po_none (po_some (pe_op op_add (pe_tidx (pv 0) (pa_cons (pe_ix ix_tup (pv 1) pe_int (fun _ _ => rfl)) pa_nil)) pe_int))) pe_non))) pss_nil) (pss_one (ps_ret (pv 0)))))))), ?_⟩)
  · obtain ⟨x, y, z, rfl, _⟩ := h
    rfl
  · obtain ⟨st, e, c, rfl, asc, hl, rfl⟩ := h
    obtain ⟨s1, s2, s3, s4, s5⟩ := sh_str1
    have hl1 : (st.map PyData.int).length + [PyData.int c].length ≤ 100000 := by rw [List.length_map]; show _ + 1 ≤ _; omega
    cases e with
    | enter n =>
      refine sr_set (d := .str "enter") (EvR.f (er_ixT (er_v 1 (d := .tuple [.str "enter", .str n])) er_int rfl) rfl) (sr_take (et_test (er_is (er_eqD (er_v 3) er_str s1 s1) rfl)) (sr_ret ((er_catT (er_v 0 (d := .tuple (st.map .int))) (er_tup (ea_cons (er_v 2) ea_nil)) hl1).f ?_) ?_))
      · show immAll _ = true
        exact immAll_append (immAll_ints st) rfl
      · show PyData.tuple _ = PyData.tuple _
        rw [List.map_append]; rfl
    | tail n =>
      refine sr_set (d := .str "tail") (EvR.f (er_ixT (er_v 1 (d := .tuple [.str "tail", .str n])) er_int rfl) rfl) (sr_skip (et_test (er_is (er_eqD (er_v 3) er_str s2 s1) (congrArg PyData.bool (by decide +kernel)))) (sr_take (et_test (er_is (er_eqD (er_v 3) er_str s2 s2) rfl)) (sr_ret (EvR.f (er_if (et_tru (er_v 0 (d := .tuple (st.map .int))) (.inl rfl)) (fun h => ?_) (fun h => ?_)) (imm_optS _)) rfl)))
      · have hne : st ≠ [] := fun z => by subst z; cases h
        have q := er_catT (K := K) (er_slT (er_v 0 (d := .tuple (st.map .int)) (ρ := (env0 N_stack_after [encS st, encE (.tail n), .int c]).set 3 (some (sl (.str "tail"))))) eo_none (eo_some (er_neg (er_int (i := 1))))) (er_tup (ea_cons (er_v 2) ea_nil)) (by rw [show (-(1 : Int)) = -1 from rfl, cut_last, List.length_map, List.length_dropLast]; show _ + 1 ≤ _; omega)
        refine er_is q ?_
        simp only [after, if_neg hne]
        show PyData.tuple _ = PyData.tuple _
        rw [show (-(1 : Int)) = -1 from rfl, cut_last, List.map_append]; rfl
      · have he : st = [] := by
          cases st with
          | nil => rfl
          | cons a r => cases h
        subst he
        exact er_non
    | exit g =>
      refine sr_set (d := .str "exit") (EvR.f (er_ixT (er_v 1 (d := .tuple [.str "exit", .int g])) er_int rfl) rfl) (sr_skip (et_test (er_is (er_eqD (er_v 3) er_str s3 s1) (congrArg PyData.bool (by decide +kernel)))) (sr_skip (et_test (er_is (er_eqD (er_v 3) er_str s3 s2) (congrArg PyData.bool (by decide +kernel)))) (sr_take (et_test (er_is (er_eqD (er_v 3) er_str s3 s3) rfl)) (sr_ret (EvR.f (er_if (b := decide (st.getLast? = some g)) (et_test (er_is (er_eqD (er_slT (er_v 0 (d := .tuple (st.map .int))) (eo_some (er_neg er_int)) eo_none) (er_tup (ea_cons (er_ixT (er_v 1 (d := .tuple [.str "exit", .int g])) er_int rfl) ea_nil)) ?_ (sh_ints1 g)) ?_)) (fun h => ?_) (fun h => ?_)) (imm_optS _)) rfl))))
      · rw [show (-(1 : Int)) = -1 from rfl, cut_tail]; exact sh_ints _
      · rw [show (-(1 : Int)) = -1 from rfl, cut_tail]
        show PyData.bool (PyData.eqvAll _ ([g].map .int)) = _
        rw [eqvAll_ints]
        congr 1
        cases st.getLast? with
        | none => simp
        | some z => simp
      · simp only [after, if_pos (of_decide_eq_true h)]
        refine er_is (er_slT (er_v 0 (d := .tuple (st.map .int))) eo_none (eo_some (er_neg er_int))) ?_
        rw [show (-(1 : Int)) = -1 from rfl, cut_last]; rfl
      · simp only [after, if_neg (of_decide_eq_false h)]
        exact er_non
    | caught g =>
      refine sr_set (d := .str "catch") (EvR.f (er_ixT (er_v 1 (d := .tuple [.str "catch", .int g])) er_int rfl) rfl) (sr_skip (et_test (er_is (er_eqD (er_v 3) er_str s4 s1) (congrArg PyData.bool (by decide +kernel)))) (sr_skip (et_test (er_is (er_eqD (er_v 3) er_str s4 s2) (congrArg PyData.bool (by decide +kernel)))) (sr_skip (et_test (er_is (er_eqD (er_v 3) er_str s4 s3) (congrArg PyData.bool (by decide +kernel)))) (sr_take (et_test (er_is (er_eqD (er_v 3) er_str s4 s4) rfl)) (sr_ret (EvR.f (er_if (b := decide (g ∈ st)) (et_test (er_is (er_inS (er_ixT (er_v 1 (d := .tuple [.str "catch", .int g])) er_int rfl) (er_v 0 (d := .tuple (st.map .int))) (.inl rfl) rfl (flat_ints st)) ?_)) (fun h => ?_) (fun h => ?_)) (imm_optS _)) rfl)))))
      · show PyData.bool (List.any _ _) = _
        rw [any_ints]
      · have hg := of_decide_eq_true h
        obtain ⟨j, h1, h2, h3⟩ := asc_index asc hg
        simp only [after, if_pos hg]
        refine er_is (er_slT (er_v 0 (d := .tuple (st.map .int))) eo_none (eo_some (er_add (er_idx (er_v 0 (d := .tuple (st.map .int))) (er_ixT (er_v 1 (d := .tuple [.str "catch", .int g])) er_int rfl) h1 h2) er_int))) ?_
        rw [show ((j : Nat) : Int) + 1 = ((j + 1 : Nat) : Int) by omega, cut_to, h3]; rfl
      · simp only [after, if_neg (of_decide_eq_false h)]
        exact er_non
    | mark =>
      exact sr_set (d := .str "mark") (EvR.f (er_ixT (er_v 1 (d := .tuple [.str "mark"])) er_int rfl) rfl) (sr_skip (et_test (er_is (er_eqD (er_v 3) er_str s5 s1) (congrArg PyData.bool (by decide +kernel)))) (sr_skip (et_test (er_is (er_eqD (er_v 3) er_str s5 s2) (congrArg PyData.bool (by decide +kernel)))) (sr_skip (et_test (er_is (er_eqD (er_v 3) er_str s5 s3) (congrArg PyData.bool (by decide +kernel)))) (sr_skip (et_test (er_is (er_eqD (er_v 3) er_str s5 s4) (congrArg PyData.bool (by decide +kernel)))) (sr_ret ((er_v 0).f (imm_encS st)) rfl)))))
/-! ### next_stack -/
abbrev s_next_stack : Stmt := topS 18
abbrev N_next_stack : List Str := ["trace", "reached", "last"]
theorem sc_next_stack : FnScope N_next_stack ["trace", "reached"] (defScope s_next_stack) := ⟨rfl, rfl, rfl, by decide +kernel, rfl, by decide +kernel, by decide +kernel⟩
def R_next_stack : List PyData → PyData → Prop := fun ds d => ∃ (t : List Evt) (ss : List (List Int)), ds = [encT t, .list (ss.map encS)] ∧ t.length ≤ 100 ∧ ss.length ≤ t.length ∧ (∀ s ∈ ss, Asc s ∧ s.length ≤ 1000) ∧ d = optS (nextS t ss)
theorem ok_next_stack {f : Addr} {fd : FuncData} (M : Md mg) (C_created_before : Cal Pr w K mg base 2 "created_before" (spD K R_created_before)) (C_stack_after : Cal Pr w K mg base 1 "stack_after" (spD K R_stack_after)) (F : Fun K "next_stack" "next_stack" s_next_stack f fd) : FnOk Pr w K mg base CX0 3 f fd ["trace", "reached"] (spD K R_next_stack) := by
  refine okD (k := 2) F sc_next_stack (fun ds d h => ?_) (fun ds d h cdv A outer s H E hr => ⟨_, (pss_cons (ps_if (pt_not (pt_truth (pv 1) (by intro _; rfl))) (pss_one (ps_ret (pe_tupN pa_nil))) pss_nil) (pss_cons (ps_set (i := 2) sc_next_stack.nd rfl (Or.inl rfl) (pe_op op_sub (pe_callB call_len (by rfl) M.len PySem.boot_len (pa_cons (pv 1) pa_nil)) pe_int)) (pss_one (ps_ret (pe_cal C_stack_after hr (by decide) (by rfl) (pa_cons (pe_ix ix_list (pv 1) (pv 2) (fun _ _ => rfl)) (pa_cons (pe_ix ix_tup (pv 0) (pv 2) (fun _ _ => rfl)) (pa_cons (pe_cal C_created_before hr (by decide) (by rfl) (pa_cons (pv 0) (pa_cons (pv 2) pa_nil))) pa_nil)))))))), ?_⟩)
  · obtain ⟨x, y, rfl, _⟩ := h
    rfl
  · obtain ⟨t, ss, rfl, hl, hs, hg, rfl⟩ := h
    have tru : EvT K _ (env0 N_next_stack [encT t, .list (ss.map encS)]) _ := et_not (et_tru (er_v 1) (.inr rfl))
    cases hz : ss.getLast? with
    | none =>
      rw [List.getLast?_eq_none_iff] at hz
      subst hz
      exact sr_take tru (sr_ret ((er_tup ea_nil).f rfl) rfl)
    | some z =>
      have hn : ss ≠ [] := fun e => by rw [e] at hz; cases hz
      have hpos : 0 < ss.length := List.length_pos_iff.mpr hn
      have hz' : ss[ss.length - 1]? = some z := by rw [← List.getLast?_eq_getElem?]; exact hz
      obtain ⟨g1, g2⟩ := hg z (List.mem_of_getElem? hz')
      have ht : ss.length - 1 < t.length := by omega
      have q : t[ss.length - 1]? = some t[ss.length - 1] := List.getElem?_eq_getElem ht
      have e1 : ((((ss.map encS).length : Nat) : Int) - 1) = ((ss.length - 1 : Nat) : Int) := by rw [List.length_map]; omega
      refine sr_skip (et_is tru (by cases ss with | nil => exact absurd rfl hn | cons a r => rfl)) (sr_set (d := .int ((ss.length - 1 : Nat) : Int)) (EvR.f (er_is (er_sub (er_lenL (er_v 1)) er_int) (by rw [e1])) rfl) ?_)
      have ho : nextS t ss = after z t[ss.length - 1] (cr t (ss.length - 1) : Nat) := by
        unfold nextS
        rw [hz]
        show (match t[ss.length - 1]? with | none => none | some e => _) = _
        rw [q]
      rw [ho]
      refine sr_ret (ef_call (ea_cons (er_ixL (er_v 1) (er_v 2) (d := encS z) ?_) (ea_cons (er_ixT (er_v 0 (d := .tuple (t.map encE))) (er_v 2) (d := encE t[ss.length - 1]) ?_) (ea_cons (er_call (ea_cons (er_v 0) (ea_cons (er_v 2) ea_nil)) ⟨t, ss.length - 1, rfl, hl, rfl⟩) ea_nil))) ⟨z, t[ss.length - 1], _, rfl, g1, g2, rfl⟩) rfl
      · exact atI_nat (by rw [List.getElem?_map, hz']; rfl)
      · exact atI_nat (by rw [List.getElem?_map, q]; rfl)
/-! ### are_moment_numbers -/
abbrev s_are_moment_numbers : Stmt := topS 19
abbrev N_are_moment_numbers : List Str := ["trace", "numbers", "number"]
theorem sc_are_moment_numbers : FnScope N_are_moment_numbers ["trace", "numbers"] (defScope s_are_moment_numbers) := ⟨rfl, rfl, rfl, by decide +kernel, rfl, by decide +kernel, by decide +kernel⟩
def R_are_moment_numbers : List PyData → PyData → Prop := fun ds d => ∃ (t : List Evt) (y : PyData) (xs : List PyData), ds = [encT t, y] ∧ (y = .tuple xs ∨ y = .list xs) ∧ xs.all flatD = true ∧ xs.length ≤ 1000 ∧ d = .bool (decide (xs.length = t.length + 1) && xs.all plain)
theorem imm_flat {d : PyData} (h : flatD d = true) : imm d = true := by cases d <;> first | rfl | simp [flatD] at h
theorem ok_are_moment_numbers {f : Addr} {fd : FuncData} (M : Md mg) (C_is_plain_int : Cal Pr w K mg base 1 "is_plain_int" (spD K R_is_plain_int)) (F : Fun K "are_moment_numbers" "are_moment_numbers" s_are_moment_numbers f fd) : FnOk Pr w K mg base CX0 2 f fd ["trace", "numbers"] (spD K R_are_moment_numbers) := by
  refine okD (k := 1) F sc_are_moment_numbers (fun ds d h => ?_) (fun ds d h cdv A outer s H E hr => ⟨_, (pss_one (ps_ret (pe_and (pe_cmpR (op_eqD hr.units) (pe_callB call_len (by rfl) M.len PySem.boot_len (pa_cons (pv 1) pa_nil)) (pe_op op_add (pe_callB call_len (by rfl) M.len PySem.boot_len (pa_cons (pv 0) pa_nil)) pe_int) (nomark _)) (pe_one (pe_callB (cr_all rfl) (by rfl) M.all (by decide +kernel) (pa_cons (pe_lc (own := [("number", 2)]) (wi := (iSeq K (tVar 1))) (g := (gName 2)) (tt := tYes) (te := (tCall (spD K R_is_plain_int) [] E0 (tCons (tVar 2) tNil))) (by rfl) sc_are_moment_numbers.nd (pi_seq (pv 1)) (blkOk_by (own := [("number", 2)]) (N := N_are_moment_numbers) (sc := defScope s_are_moment_numbers) (by decide +kernel)) (fun _ _ _ _ _ => (pg_name (i := 2) sc_are_moment_numbers.nd rfl (Or.inl rfl))) (fun _ _ _ _ _ => pts_nil) (fun _ _ _ _ _ => (pe_cal C_is_plain_int hr (by decide) (by rfl) (pa_cons (pv 2) pa_nil)))) pa_nil)))))), ?_⟩)
  · obtain ⟨x, y, z, rfl, _⟩ := h
    rfl
  · obtain ⟨t, y, xs, rfl, hy, hf, hl, rfl⟩ := h
    have him : immAll xs = true := immAll_iff.mpr fun d hd => imm_flat (List.all_eq_true.mp hf d hd)
    have lc := ef_lc (K := K) (ρ := env0 N_are_moment_numbers [encT t, y]) (wi := (iSeq K (tVar 1))) (g := (gName 2)) (vs := [2]) (tt := tYes) (te := (tCall (spD K R_is_plain_int) [] E0 (tCons (tVar 2) tNil))) (fun i => (((xs.take i).map plain).map PyData.bool)) (ec_seq (er_v 1) hy him) rfl (fun i d hd => by
      refine ⟨_, _, true, tg_name 2, by simp, fun _ _ H _ _ q => q H (Ex.refl H), fun _ => ⟨.bool (plain d), er_call (ea_cons (er_v 2) ea_nil) ⟨d, rfl, List.all_eq_true.mp hf d (List.mem_of_getElem? hd), rfl⟩, rfl, ?_⟩, fun z => nomatch z⟩
      rw [take_succ_of hd, List.map_append, List.map_append]; rfl) (by omega)
    refine sr_ret (EvR.f (er_is (er_andV (er_eqD (er_len (er_v 1) hy) (er_add (er_lenT (er_v 0 (d := .tuple (t.map encE)))) er_int) rfl rfl) fun _ => er_all lc.r) ?_) rfl) rfl
    congr 1
    rw [List.take_length, List.all_map]
    show ((((xs.length : Nat) : Int) == (((t.map encE).length : Nat) : Int) + 1) && _) = _
    rw [List.length_map]
    congr 1
    by_cases h : xs.length = t.length + 1
    · rw [decide_eq_true h, h]; simp
    · rw [decide_eq_false h]
      exact beq_eq_false_iff_ne.mpr (by omega)
/-! ### reached_stacks -/
abbrev s_reached_stacks : Stmt := topS 20
abbrev N_reached_stacks : List Str := ["trace", "value", "reached", "unseen", "stack"]
theorem sc_reached_stacks : FnScope N_reached_stacks ["trace", "value"] (defScope s_reached_stacks) := ⟨rfl, rfl, rfl, by decide +kernel, rfl, by decide +kernel, by decide +kernel⟩
def R_reached_stacks : List PyData → PyData → Prop := fun ds d => ∃ (t : List Evt) (c : List Int) (ss : List (List Int)), ds = [encT t, .tuple (c.map .int)] ∧ Tr t ∧ c.length = t.length + 1 ∧ runS t c = some ss ∧ d = .list (ss.map encS)
theorem good_le {t : List Evt} {ss : List (List Int)} (T : Tr t) (g : Good t ss) : ∀ s ∈ ss, Asc s ∧ s.length ≤ 1000 := fun s hs => by
  obtain ⟨i, hi⟩ := List.getElem?_of_mem hs
  obtain ⟨g1, g2⟩ := g i s hi
  have h1 := asc_len g1 g2
  have h2 := cr_le T i
  exact ⟨g1, by omega⟩
theorem plain_ints (ns : List Int) : (ns.map PyData.int).all plain = true := by
  induction ns with
  | nil => rfl
  | cons a r ih => rw [List.map_cons, List.all_cons, ih]; rfl
theorem ok_reached_stacks {f : Addr} {fd : FuncData} (M : Md mg) (C_next_stack : Cal Pr w K mg base 3 "next_stack" (spD K R_next_stack)) (C_are_moment_numbers : Cal Pr w K mg base 2 "are_moment_numbers" (spD K R_are_moment_numbers)) (F : Fun K "reached_stacks" "reached_stacks" s_reached_stacks f fd) : FnOk Pr w K mg base CX0 4 f fd ["trace", "value"] (spD K R_reached_stacks) := by
  refine okD (k := 3) F sc_reached_stacks (fun ds d h => ?_) (fun ds d h cdv A outer s H E hr => ⟨_, (pss_cons (ps_if (PW.pt (pw_or (pt_not (pt_val (pe_callB call_isi (by rfl) M.isinstance (by decide +kernel) (pa_cons (pv 1) (pa_cons (pe_bltn (v := .ty "tuple") (by rfl) M.tuple (by decide +kernel) rfl) pa_nil))))) (pw_or1 (pt_not (pt_val (pe_cal C_are_moment_numbers hr (by decide) (by rfl) (pa_cons (pv 0) (pa_cons (pv 1) pa_nil)))))))) (pss_one (ps_ret pe_non)) pss_nil) (pss_cons (ps_set (i := 2) sc_reached_stacks.nd rfl (Or.inl rfl) (pe_lst pa_nil)) (pss_cons (ps_for PassesOwn.never rfl (pi_tup (pv 1)) (pg_name (i := 3) sc_reached_stacks.nd rfl (Or.inl rfl)) (pss_cons (ps_set (i := 4) sc_reached_stacks.nd rfl (Or.inl rfl) (pe_cal C_next_stack hr (by decide) (by rfl) (pa_cons (pv 0) (pa_cons (pv 2) pa_nil)))) (pss_cons (ps_if (PW.pt (pw_or (pt_cmpR op_isN (pv 4) pe_non (nomark _)) (pw_or1 (pt_not (pt_chain op_le op_le pe_int (pv 3) (pe_callB call_len (by rfl) M.len PySem.boot_len (pa_cons (pv 4) pa_nil))))))) (pss_one (ps_ret pe_non)) pss_nil) (pss_one (ps_expr (pe_bm PySem.F.plainAttrs_list PySem.F.slot_list_append PySem.F.type_list_append mt_append (pv 2) (pa_cons (pe_slice sl_tupN (pv 4) po_none (po_some (pe_op op_sub (pe_callB call_len (by rfl) M.len PySem.boot_len (pa_cons (pv 4) pa_nil)) (pv 3)))) pa_nil))))))) (pss_one (ps_ret (pv 2)))))), ?_⟩)
  · obtain ⟨x, y, z, rfl, _⟩ := h
    rfl
  · obtain ⟨t, c, ss, rfl, T, hc, hr', rfl⟩ := h
    have tl := T.len
    have hall : (decide ((c.map PyData.int).length = t.length + 1) && (c.map PyData.int).all plain) = true := by rw [plain_ints, List.length_map, decide_eq_true hc]; rfl
    refine sr_skip (et_is (et_or (et_not (et_B (er_isi (er_v 1 (d := .tuple (c.map .int))) (show kitB (tyD (.tuple _)) "tuple" = some true from k_tt)))) fun _ => et_not (et_B (er_call (ea_cons (er_v 0) (ea_cons (er_v 1) ea_nil)) ⟨t, _, c.map .int, rfl, .inl rfl, flat_ints c, by rw [List.length_map]; omega, rfl⟩))) (by rw [hall]; rfl)) (sr_set (ef_lst ea_nil rfl) ?_)
    refine sr_for (fun i ρ' => ∃ x y, ρ' = [some (.dat (encT t)), some (.dat (.tuple (c.map .int))), some (.lst ((ss.take i).map encS)), x, y]) (fun ρ' => ∃ x y, ρ' = [some (.dat (encT t)), some (.dat (.tuple (c.map .int))), some (.lst (ss.map encS)), x, y])
      (ei_tup (ds := c.map .int) (er_v 1) (immAll_ints c)) ⟨none, none, rfl⟩ (fun i d ρ' hd iv => ?_) (fun ρ' iv => ?_) (fun ρ' iv => ?_)
    · rw [List.getElem?_map] at hd
      cases q : c[i]? with
      | none => rw [q] at hd; cases hd
      | some u =>
        rw [q] at hd
        cases hd
        obtain ⟨x, y, rfl⟩ := iv
        have hi : i < c.length := (List.getElem?_eq_some_iff.mp q).1
        have r1 := run_part hr' i (by omega)
        have r2 := run_part hr' (i + 1) (by omega)
        obtain ⟨g, l⟩ := run_good rfl r1
        rw [runS_take q, r1] at r2
        obtain ⟨s, n1, n2, n3, n4⟩ := stepS_some r2
        have l' : (ss.take i).length = i := by rw [List.length_take, (run_good rfl hr').2]; omega
        obtain ⟨a1, a2⟩ := nextS_good g n1
        have h1 := asc_len a1 a2
        have h2 := cr_le T (ss.take i).length
        refine ⟨_, _, tg_name 3, sr_set (ef_call (ea_cons (er_v 0) (ea_cons (er_vl 2) ea_nil)) ⟨t, ss.take i, rfl, by omega, by omega, good_le T g, rfl⟩) ?_⟩
        rw [n1, show sl (optS (some s)) = .dat (.tuple (s.map .int)) from rfl]
        refine sr_skip (et_is (et_or (et_test (er_isN (er_v 4) rfl)) fun _ => et_not (et_test (er_le_le er_int (er_v 3) (er_lenT (er_v 4))))) ?_) (sr_app1 (ds := (ss.take i).map encS) rfl (er_slT (er_v 4) eo_none (eo_some (er_sub (er_lenT (er_v 4)) (er_v 3)))) ?_ ?_ ⟨some (.dat (.int u)), some (.dat (.tuple (s.map .int))), ?_⟩)
        · rw [List.length_map, decide_eq_true n2, decide_eq_true n3]; rfl
        · exact imm_cut (immAll_ints s)
        · rw [List.length_map]; omega
        · rw [List.length_map, show ((s.length : Nat) : Int) - u = ((s.length - u.toNat : Nat) : Int) by omega, cut_to, n4, List.map_append]; rfl
    · obtain ⟨x, y, rfl⟩ := iv
      rw [List.length_map, List.take_of_length_le (by rw [(run_good rfl hr').2]; exact Nat.le_refl _)]
      exact ⟨x, y, rfl⟩
    · obtain ⟨x, y, rfl⟩ := iv
      exact sr_retL rfl rfl
/-! ### stacks, totals -/
abbrev s_stacks : Stmt := topS 21
abbrev N_stacks : List Str := ["trace", "completion", "reached"]
theorem sc_stacks : FnScope N_stacks ["trace", "completion"] (defScope s_stacks) := ⟨rfl, rfl, rfl, by decide +kernel, rfl, by decide +kernel, by decide +kernel⟩
def R_stacks : List PyData → PyData → Prop := R_reached_stacks
theorem ok_stacks {f : Addr} {fd : FuncData} (M : Md mg) (C_check_trace : Cal Pr w K mg base 4 "check_trace" (spD K R_check_trace)) (C_reached_stacks : Cal Pr w K mg base 4 "reached_stacks" (spD K R_reached_stacks)) (F : Fun K "stacks" "stacks" s_stacks f fd) : FnOk Pr w K mg base CX0 5 f fd ["trace", "completion"] (spD K R_stacks) := by
  refine okD (k := 4) F sc_stacks (fun ds d h => ?_) (fun ds d h cdv A outer s H E hr => ⟨_, (pss_cons (ps_expr (pe_cal C_check_trace hr (by decide) (by rfl) (pa_cons (pv 0) pa_nil))) (pss_cons (ps_set (i := 2) sc_stacks.nd rfl (Or.inl rfl) (pe_cal C_reached_stacks hr (by decide) (by rfl) (pa_cons (pv 0) (pa_cons (pv 1) pa_nil)))) (pss_cons (ps_if (pt_cmpR op_isN (pv 2) pe_non (nomark _)) (pss_one ps_never) pss_nil) (pss_one (ps_ret (pv 2)))))), ?_⟩)
  · obtain ⟨x, y, z, rfl, _⟩ := h
    rfl
  · obtain ⟨t, c, ss, rfl, T, hc, hr', rfl⟩ := h
    exact sr_drop (er_call (ea_cons (er_v 0) ea_nil) ⟨t, rfl, T, rfl⟩) (sr_set (ef_call (ea_cons (er_v 0) (ea_cons (er_v 1) ea_nil)) ⟨t, c, ss, rfl, T, hc, hr', rfl⟩) (sr_skip (et_test (er_isN (er_vl 2 (ds := ss.map encS)) rfl)) (sr_retL rfl rfl)))
abbrev s_totals : Stmt := topS 22
abbrev N_totals : List Str := ["trace", "completion", "reached", "moment", "stack"]
theorem sc_totals : FnScope N_totals ["trace", "completion"] (defScope s_totals) := ⟨rfl, rfl, rfl, by decide +kernel, rfl, by decide +kernel, by decide +kernel⟩
def R_totals : List PyData → PyData → Prop := fun ds d => ∃ (t : List Evt) (c : List Int) (ss : List (List Int)), ds = [encT t, .tuple (c.map .int)] ∧ Tr t ∧ c.length = t.length + 1 ∧ runS t c = some ss ∧ d = .list ((totS t ss).map .int)
theorem totS_take {t : List Evt} {ss : List (List Int)} {i : Nat} {s : List Int} (h : ss[i]? = some s) : totS t (ss.take (i + 1)) = totS t (ss.take i) ++ [((cr t i : Nat) : Int) - (s.length : Nat)] := by
  have hi : i < ss.length := (List.getElem?_eq_some_iff.mp h).1
  rw [take_succ_of h, totS_snoc, List.length_take, Nat.min_eq_left (by omega)]
theorem ok_totals {f : Addr} {fd : FuncData} (M : Md mg) (C_created_before : Cal Pr w K mg base 2 "created_before" (spD K R_created_before)) (C_stacks : Cal Pr w K mg base 5 "stacks" (spD K R_stacks)) (F : Fun K "totals" "totals" s_totals f fd) : FnOk Pr w K mg base CX0 6 f fd ["trace", "completion"] (spD K R_totals) := by
  refine okD (k := 5) F sc_totals (fun ds d h => ?_) (fun ds d h cdv A outer s H E hr => ⟨_, (pss_cons (ps_set (i := 2) sc_totals.nd rfl (Or.inl rfl) (pe_cal C_stacks hr (by decide) (by rfl) (pa_cons (pv 0) (pa_cons (pv 1) pa_nil)))) (pss_one (ps_ret (pe_lc (own := [("moment", 3), ("stack", 4)]) (wi := (iEnum K (tCons (tVar 2) tNil))) (g := (gTup K 2 (gCons (gName 3) (gCons (gName 4) gNil)))) (tt := tYes) (te := (tOp (rI0 fun i j => .int (i - j)) (tCall (spD K R_created_before) [] E0 (tCons (tVar 0) (tCons (tVar 3) tNil))) (tCB (fun xs H Q => ∃ x n, xs = [x] ∧ LenV K x H n ∧ Q (.int n) H) (tCons (tVar 4) tNil)))) (by rfl) sc_totals.nd (pi_enum (by rfl) M.enumerate (pa_cons (pv 2) pa_nil)) (blkOk_by (own := [("moment", 3), ("stack", 4)]) (N := N_totals) (sc := defScope s_totals) (by decide +kernel)) (fun _ _ _ _ _ => (pg_tup rfl (pgs_cons (pg_name (i := 3) sc_totals.nd rfl (Or.inl rfl)) (pgs_cons (pg_name (i := 4) sc_totals.nd rfl (Or.inl rfl)) pgs_nil)))) (fun _ _ _ _ _ => pts_nil) (fun _ _ _ _ _ => (pe_op op_sub (pe_cal C_created_before hr (by decide) (by rfl) (pa_cons (pv 0) (pa_cons (pv 3) pa_nil))) (pe_callB call_len (by rfl) M.len PySem.boot_len (pa_cons (pv 4) pa_nil)))))))), ?_⟩)
  · obtain ⟨x, y, z, rfl, _⟩ := h
    rfl
  · obtain ⟨t, c, ss, rfl, T, hc, hr', rfl⟩ := h
    have tl := T.len
    have sl' := (run_good rfl hr').2
    refine sr_set (ef_call (ea_cons (er_v 0) (ea_cons (er_v 1) ea_nil)) ⟨t, c, ss, rfl, T, hc, hr', rfl⟩) ?_
    have lc := ef_lc (K := K) (ρ := (env0 N_totals [encT t, .tuple (c.map .int)]).set 2 (some (sl (.list (ss.map encS))))) (wi := (iEnum K (tCons (tVar 2) tNil))) (g := (gTup K 2 (gCons (gName 3) (gCons (gName 4) gNil)))) (vs := [3, 4]) (tt := tYes) (te := (tOp (rI0 fun i j => .int (i - j)) (tCall (spD K R_created_before) [] E0 (tCons (tVar 0) (tCons (tVar 3) tNil))) (tCB (fun xs H Q => ∃ x n, xs = [x] ∧ LenV K x H n ∧ Q (.int n) H) (tCons (tVar 4) tNil)))) (fun i => (totS t (ss.take i)).map .int) (ec_en (er_vl 2) (immAll_encS ss)) rfl (fun i d hd => by
      obtain ⟨d', hd', rfl⟩ := enumD_of hd
      rw [List.getElem?_map] at hd'
      cases q : ss[i]? with
      | none => rw [q] at hd'; cases hd'
      | some s =>
        rw [q] at hd'
        cases hd'
        refine ⟨_, _, true, tg_tup (tgs_cons (tg_name 3) (tgs_cons (tg_name 4) tgs_nil)), by simp, fun _ _ H _ _ q => q H (Ex.refl H), fun _ => ⟨_, er_sub (er_call (ea_cons (er_v 0) (ea_cons (er_v 3) ea_nil)) ⟨t, i, rfl, by omega, rfl⟩) (er_lenT (er_v 4 (d := .tuple (s.map .int)))), rfl, ?_⟩, fun z => nomatch z⟩
        rw [totS_take q, List.map_append, List.length_map]; rfl) (by rw [enumD_len, List.length_map]; omega)
    refine sr_ret lc ?_
    show PyData.list _ = PyData.list _
    rw [enumD_len, List.length_map, List.take_length]
end
end Lx

set_option Elab.async false
set_option linter.all false
set_option maxRecDepth 100000
set_option maxHeartbeats 1000000
namespace Lx
open PySem PySem.Spec PyProof.Rows L2
open Evl (Ex)
def ft (t : List Evt) (xs : List Int) : Option (List Int) := if xs.length = t.length + 1 then (ftS t xs).map Prod.snd else none
def optI : Option Int → PyData
  | none => .none
  | some i => .int i
theorem imm_optI (o : Option Int) : imm (optI o) = true := by cases o <;> rfl
def callerOf (st : List Int) (e : Evt) : Option Int :=
  match e with
  | .tail _ => st.dropLast.getLast?
  | _ => st.getLast?
def crP (t : List Evt) : List (Evt × Nat) := t.zipIdx.filter fun p => creates p.1
theorem crP_of {t : List Evt} {p : Evt × Nat} (h : p ∈ crP t) : t[p.2]? = some p.1 ∧ creates p.1 = true := by
  obtain ⟨h1, h2⟩ := List.mem_filter.mp h
  refine ⟨?_, h2⟩
  have := List.mem_zipIdx_iff_getElem?.mp h1
  exact this
theorem crP_len (t : List Evt) : (crP t).length ≤ t.length := by
  have := List.length_filter_le (fun p : Evt × Nat => creates p.1) t.zipIdx
  rw [List.length_zipIdx] at this
  exact this
theorem frL_eq (t : List Evt) : frL t = (crP t).map fun p => .tuple [nameD p.1, .int (p.2 : Nat)] := rfl
theorem imm_frL (t : List Evt) : immAll (frL t) = true := immAll_iff.mpr fun d hd => by
  obtain ⟨p, _, rfl⟩ := List.mem_map.mp hd
  simp [imm, immAll, imm_nameD]
def callS (t : List Evt) (ss : List (List Int)) (ps : List (Evt × Nat)) : List PyData := ps.map fun p => optI (callerOf (ss.getD p.2 []) p.1)
def lat (f : Int) (ss : List (List Int)) (first : Nat) : List Nat := (List.range' first (ss.length - first)).filter fun m => decide (f ∉ ss.getD m [])
def optN (o : Option Nat) : PyData := optI (o.map fun n => (n : Int))
def endsS (ss : List (List Int)) (ps : List (Evt × Nat)) : List PyData := ps.zipIdx.map fun q => optN (lat (q.2 : Nat) ss (q.1.2 + 1)).head?
section
variable {Pr : Program} {w : World} {K : PySem.W.Frag} {mg : Str → Option Value} {base : Heap}
/-! ### from_totals -/
abbrev s_from_totals : Stmt := topS 23
abbrev N_from_totals : List Str := ["trace", "value", "reached", "completion", "moment", "total", "stack", "depth"]
theorem sc_from_totals : FnScope N_from_totals ["trace", "value"] (defScope s_from_totals) := ⟨rfl, rfl, rfl, by decide +kernel, rfl, by decide +kernel, by decide +kernel⟩
def R_from_totals : List PyData → PyData → Prop := fun ds d => ∃ (t : List Evt) (y : PyData), ds = [encT t, y] ∧ Tr t ∧ ((∃ xs : List Int, y = .list (xs.map .int) ∧ xs.length ≤ 1000 ∧ d = optS (ft t xs)) ∨
  (d = .none ∧ (y = .none ∨ (∃ xs, y = .tuple xs) ∨ ∃ xs, y = .list xs ∧ xs.all flatD = true ∧ xs.length ≤ 1000 ∧ xs.all plain = false)))
theorem ok_from_totals {f : Addr} {fd : FuncData} (M : Md mg) (C_created_before : Cal Pr w K mg base 2 "created_before" (spD K R_created_before)) (C_check_trace : Cal Pr w K mg base 4 "check_trace" (spD K R_check_trace)) (C_next_stack : Cal Pr w K mg base 3 "next_stack" (spD K R_next_stack)) (C_are_moment_numbers : Cal Pr w K mg base 2 "are_moment_numbers" (spD K R_are_moment_numbers)) (F : Fun K "from_totals" "from_totals" s_from_totals f fd) : FnOk Pr w K mg base CX0 5 f fd ["trace", "value"] (spD K R_from_totals) := by
  refine okD (k := 4) F sc_from_totals (fun ds d h => ?_) (fun ds d h cdv A outer s H E hr => ⟨_, (pss_cons (ps_expr (pe_cal C_check_trace hr (by decide) (by rfl) (pa_cons (pv 0) pa_nil))) (pss_cons (ps_if (PW.pt (pw_or (pt_not (pt_val (pe_callB call_isi (by rfl) M.isinstance (by decide +kernel) (pa_cons (pv 1) (pa_cons (pe_bltn (v := .ty "list") (by rfl) M.list (by decide +kernel) rfl) pa_nil))))) (pw_or1 (pt_not (pt_val (pe_cal C_are_moment_numbers hr (by decide) (by rfl) (pa_cons (pv 0) (pa_cons (pv 1) pa_nil)))))))) (pss_one (ps_ret pe_non)) pss_nil) (pss_cons (ps_set (i := 2) sc_from_totals.nd rfl (Or.inl rfl) (pe_lst pa_nil)) (pss_cons (ps_set (i := 3) sc_from_totals.nd rfl (Or.inl rfl) (pe_lst pa_nil)) (pss_cons (ps_for PassesOwn.never rfl (pi_enum (by rfl) M.enumerate (pa_cons (pv 1) pa_nil)) (pg_tup rfl (pgs_cons (pg_name (i := 4) sc_from_totals.nd rfl (Or.inl rfl)) (pgs_cons (pg_name (i := 5) sc_from_totals.nd rfl (Or.inl rfl)) pgs_nil))) (pss_cons (ps_set (i := 6) sc_from_totals.nd rfl (Or.inl rfl) (pe_cal C_next_stack hr (by decide) (by rfl) (pa_cons (pv 0) (pa_cons (pv 2) pa_nil)))) (pss_cons (ps_if (pt_cmpR op_isN (pv 6) pe_non (nomark _)) (pss_one (ps_ret pe_non)) pss_nil) (pss_cons (ps_set (i := 7) sc_from_totals.nd rfl (Or.inl rfl) (pe_op op_sub (pe_cal C_created_before hr (by decide) (by rfl) (pa_cons (pv 0) (pa_cons (pv 4) pa_nil))) (pv 5))) (pss_cons (ps_if (pt_not (pt_chain op_le op_le pe_int (pv 7) (pe_callB call_len (by rfl) M.len PySem.boot_len (pa_cons (pv 6) pa_nil)))) (pss_one (ps_ret pe_non)) pss_nil) (pss_cons (ps_expr (pe_bm PySem.F.plainAttrs_list PySem.F.slot_list_append PySem.F.type_list_append mt_append (pv 2) (pa_cons (pe_slice sl_tupN (pv 6) po_none (po_some (pv 7))) pa_nil))) (pss_one (ps_expr (pe_bm PySem.F.plainAttrs_list PySem.F.slot_list_append PySem.F.type_list_append mt_append (pv 3) (pa_cons (pe_op op_sub (pe_callB call_len (by rfl) M.len PySem.boot_len (pa_cons (pv 6) pa_nil)) (pv 7)) pa_nil)))))))))) (pss_one (ps_ret (pe_callTy call_tupN (by rfl) M.tuple (by decide +kernel) (pa_cons (pv 3) pa_nil))))))))), ?_⟩)
  · obtain ⟨x, y, rfl, _⟩ := h
    rfl
  · obtain ⟨t, y, rfl, T, h⟩ := h
    have tl := T.len
    refine sr_drop (er_call (ea_cons (er_v 0) ea_nil) ⟨t, rfl, T, rfl⟩) ?_
    rcases h with ⟨xs, rfl, hl, rfl⟩ | ⟨rfl, h⟩
    · have amn : EvR K _ (env0 N_from_totals [encT t, .list (xs.map .int)]) _ := er_call (ea_cons (er_v 0) (ea_cons (er_v 1) ea_nil)) (R := R_are_moment_numbers) (E := E0) ⟨t, _, xs.map .int, rfl, .inr rfl, flat_ints xs, by rw [List.length_map]; omega, rfl⟩
      have isi := et_not (et_B (er_isi (er_v 1 (ρ := env0 N_from_totals [encT t, .list (xs.map .int)]) (K := K) (d := .list (xs.map .int))) (show kitB (tyD (.list _)) "list" = some true from k_ll)))
      rw [plain_ints, List.length_map, Bool.and_true] at amn
      by_cases hx : xs.length = t.length + 1
      · rw [decide_eq_true hx] at amn
        have hft : ft t xs = (ftS t xs).map Prod.snd := if_pos hx
        refine sr_skip (et_is (et_or isi fun _ => et_not (et_B amn)) rfl) (sr_set (ef_lst ea_nil rfl) (sr_set (ef_lst ea_nil rfl) ?_))
        refine sr_for (fun i ρ' => ∃ p a b c e, ftS t (xs.take i) = some p ∧ ρ' = [some (.dat (encT t)), some (.dat (.list (xs.map .int))), some (.lst (p.1.map encS)), some (.lst (p.2.map .int)), a, b, c, e])
          (fun ρ' => ∃ p a b c e, ftS t xs = some p ∧ ρ' = [some (.dat (encT t)), some (.dat (.list (xs.map .int))), some (.lst (p.1.map encS)), some (.lst (p.2.map .int)), a, b, c, e])
          (ei_en (stab_v 1 (ds := xs.map .int) rfl (immAll_ints xs))) ⟨([], []), none, none, none, none, rfl, rfl⟩ (fun i d ρ' hd iv => ?_) (fun ρ' iv => ?_) (fun ρ' iv => ?_)
        · obtain ⟨d', hd', rfl⟩ := enumD_of hd
          rw [List.getElem?_map] at hd'
          cases q : xs[i]? with
          | none => rw [q] at hd'; cases hd'
          | some u =>
            rw [q] at hd'
            cases hd'
            obtain ⟨p, a, b, c, e, hp, rfl⟩ := iv
            have hi : i < xs.length := (List.getElem?_eq_some_iff.mp q).1
            obtain ⟨r1, r2, r3⟩ := ft_run rfl hp
            obtain ⟨g, gl⟩ := run_good rfl r1
            rw [List.length_take, Nat.min_eq_left (by omega)] at r2 r3
            have nx := ftS_take (t := t) q
            rw [hp] at nx
            refine ⟨_, _, tg_tup (tgs_cons (tg_name 4) (tgs_cons (tg_name 5) tgs_nil)), sr_set (ef_call (ea_cons (er_v 0) (ea_cons (er_vl 2) ea_nil)) ⟨t, p.1, rfl, by omega, by omega, good_le T g, rfl⟩) ?_⟩
            cases hn : nextS t p.1 with
            | none =>
              have hz : ftS t (xs.take (i + 1)) = none := by
                rw [nx]
                show stepT t p u = none
                unfold stepT
                rw [hn]
              refine sr_take (et_test (er_isN (er_v 6 (d := .none)) rfl)) (sr_ret ef_non ?_)
              rw [hft, ftS_none hz]; rfl
            | some s =>
              rw [show sl (optS (some s)) = .dat (.tuple (s.map .int)) from rfl]
              obtain ⟨a1, a2⟩ := nextS_good g hn
              have h1 := asc_len a1 a2
              have h2 := cr_le T p.1.length
              refine sr_skip (et_test (er_isN (er_v 6 (d := .tuple (s.map .int))) rfl)) (sr_set (d := .int (((cr t p.1.length : Nat) : Int) - u)) (EvR.f (er_is (er_sub (er_call (ea_cons (er_v 0) (ea_cons (er_v 4) ea_nil)) ⟨t, i, rfl, by omega, rfl⟩) (er_v 5)) (by rw [r3])) rfl) ?_)
              have tst := et_not (et_test (er_le_le (K := K) (ρ := [some (.dat (encT t)), some (.dat (.list (xs.map .int))), some (.lst (p.1.map encS)), some (.lst (p.2.map .int)), some (.dat (.int (i : Nat))), some (.dat (.int u)), some (.dat (.tuple (s.map .int))), some (.dat (.int (((cr t p.1.length : Nat) : Int) - u)))]) (er_int (i := 0)) (er_v 7) (er_lenT (er_v 6))))
              rw [List.length_map] at tst
              by_cases hb : 0 ≤ ((cr t p.1.length : Nat) : Int) - u ∧ ((cr t p.1.length : Nat) : Int) - u ≤ (s.length : Nat)
              · refine sr_skip (et_is tst (by rw [decide_eq_true hb.1, decide_eq_true hb.2]; rfl)) (sr_app (ds := p.1.map encS) rfl (er_slT (er_v 6 (d := .tuple (s.map .int))) eo_none (eo_some (er_v 7))) (imm_cut (immAll_ints s)) (by rw [List.length_map]; omega)
                  (sr_app1 (ds := p.2.map .int) rfl (er_sub (er_lenT (er_v 6 (d := .tuple (s.map .int)))) (er_v 7)) rfl (by rw [List.length_map]; omega) ?_))
                refine ⟨(p.1 ++ [s.take (((cr t p.1.length : Nat) : Int) - u).toNat], p.2 ++ [(s.length : Nat) - (((cr t p.1.length : Nat) : Int) - u)]), some (.dat (.int (i : Nat))), some (.dat (.int u)), some (.dat (.tuple (s.map .int))), some (.dat (.int (((cr t p.1.length : Nat) : Int) - u))), ?_, ?_⟩
                · rw [nx]
                  show stepT t p u = _
                  unfold stepT
                  rw [hn]
                  exact if_pos hb
                · rw [List.map_append, List.map_append, List.length_map]
                  have e1 : cutD (s.map .int) none (some (((cr t p.1.length : Nat) : Int) - u)) = (s.take (((cr t p.1.length : Nat) : Int) - u).toNat).map .int := by
                    have := cut_to s (((cr t p.1.length : Nat) : Int) - u).toNat
                    rw [Int.toNat_of_nonneg hb.1] at this
                    exact this
                  rw [e1]; rfl
              · refine sr_take (et_is tst ?_) (sr_ret ef_non ?_)
                · rw [← Bool.decide_and, decide_eq_false hb]; rfl
                · have hz : ftS t (xs.take (i + 1)) = none := by
                    rw [nx]
                    show stepT t p u = none
                    unfold stepT
                    rw [hn]
                    exact if_neg hb
                  rw [hft, ftS_none hz]; rfl
        · obtain ⟨p, a, b, c, e, hp, rfl⟩ := iv
          rw [enumD_len, List.length_map, List.take_length] at hp
          exact ⟨p, a, b, c, e, hp, rfl⟩
        · obtain ⟨p, a, b, c, e, hp, rfl⟩ := iv
          refine sr_ret (EvR.f (er_tupleL (er_vl 3 (ds := p.2.map .int))) ?_) ?_
          · exact immAll_ints p.2
          · rw [hft, hp]; rfl
      · rw [decide_eq_false hx] at amn
        refine sr_take (et_is (et_or isi fun _ => et_not (et_B amn)) rfl) (sr_ret ef_non ?_)
        rw [show ft t xs = none from if_neg hx]; rfl
    · rcases h with rfl | ⟨xs, rfl⟩ | ⟨xs, rfl, hf, hl, hp⟩
      · exact sr_take (et_or (b := true) (et_not (et_B (er_isi (er_v 1 (d := .none)) (show kitB (tyD .none) "list" = some false from k_nl)))) fun z => nomatch z) (sr_ret ef_non rfl)
      · exact sr_take (et_or (b := true) (et_not (et_B (er_isi (er_v 1 (d := .tuple xs)) (show kitB (tyD (.tuple _)) "list" = some false from k_tl)))) fun z => nomatch z) (sr_ret ef_non rfl)
      · refine sr_take (et_is (et_or (et_not (et_B (er_isi (er_v 1 (d := .list xs)) (show kitB (tyD (.list _)) "list" = some true from k_ll)))) fun _ => et_not (et_B (er_call (ea_cons (er_v 0) (ea_cons (er_v 1) ea_nil)) ⟨t, _, xs, rfl, .inr rfl, hf, hl, rfl⟩))) ?_) (sr_ret ef_non rfl)
        rw [hp, Bool.and_false]; rfl
/-! ### caller_at -/
abbrev s_caller_at : Stmt := topS 24
abbrev N_caller_at : List Str := ["stack", "event", "below"]
theorem sc_caller_at : FnScope N_caller_at ["stack", "event"] (defScope s_caller_at) := ⟨rfl, rfl, rfl, by decide +kernel, rfl, by decide +kernel, by decide +kernel⟩
def R_caller_at : List PyData → PyData → Prop := fun ds d => ∃ (st : List Int) (e : Evt), ds = [encS st, encE e] ∧ d = optI (callerOf st e)
theorem last_or {ρ : En} {te : TE} {st : List Int} (h : EvR K te ρ (.tuple (st.map .int))) :
    EvR K (tIf (fun σ H Q => te σ H fun x H' => ∃ k, TruV K x H' k ∧ Q k H') (tOp (rIxT K) te (tUn (rU fun i => .int (-i)) (tC (.int 1)))) (tC .non)) ρ (optI st.getLast?) := by
  refine er_if (et_tru h (.inl rfl)) (fun hb => ?_) (fun hb => ?_)
  · cases hl : st.getLast? with
    | none =>
      rw [List.getLast?_eq_none_iff] at hl
      subst hl
      cases hb
    | some z =>
      rw [List.getLast?_eq_some_iff] at hl
      obtain ⟨ys, rfl⟩ := hl
      refine er_ixT h (er_neg er_int) ?_
      rw [List.map_append]
      exact atI_last _ _
  · have he : st = [] := by
      cases st with
      | nil => rfl
      | cons a r => cases hb
    subst he
    exact er_non
theorem ok_caller_at {f : Addr} {fd : FuncData} (M : Md mg)  (F : Fun K "caller_at" "caller_at" s_caller_at f fd) : FnOk Pr w K mg base CX0 1 f fd ["stack", "event"] (spD K R_caller_at) := by
  refine okD (k := 0) F sc_caller_at (fun ds d h => ?_) (fun ds d h cdv A outer s H E hr => ⟨_, (pss_cons (ps_set (i := 2) sc_caller_at.nd rfl (Or.inl rfl) (pe_ifExp (pt_cmpR (op_eqD hr.units) (pe_ix ix_tup (pv 1) pe_int (fun _ _ => rfl)) pe_str (nomark _)) (pe_slice sl_tupN (pv 0) po_none (po_some (pe_un un_neg pe_int))) (pv 0))) (pss_one (ps_ret (pe_ifExp (pt_truth (pv 2) (by intro _; rfl)) (pe_ix ix_tup (pv 2) (pe_un un_neg pe_int) (fun _ _ => rfl)) pe_non)))), ?_⟩)
  · obtain ⟨x, y, rfl, _⟩ := h
    rfl
  · obtain ⟨st, e, rfl, rfl⟩ := h
    obtain ⟨s1, s2, s3, s4, s5⟩ := sh_str1
    have go : ∀ st' : List Int, callerOf st e = st'.getLast? → EvR K (tIf (tTest (tOp (rEqD K) (tOp (rIxT K) (tVar 1) (tC (.int 0))) (tC (.str "tail")))) (tSl (rSlN K) (tVar 0) tNoPart (tPart (tUn (rU fun i => .int (-i)) (tC (.int 1))))) (tVar 0)) (env0 N_caller_at [encS st, encE e]) (.tuple (st'.map .int)) →
        StR K (tSeq (tAsg (tIf (tTest (tOp (rEqD K) (tOp (rIxT K) (tVar 1) (tC (.int 0))) (tC (.str "tail")))) (tSl (rSlN K) (tVar 0) tNoPart (tPart (tUn (rU fun i => .int (-i)) (tC (.int 1))))) (tVar 0)) (gName 2)) (tRet (tIf (fun σ H Q => (tVar 2) σ H fun x H' => ∃ k, TruV K x H' k ∧ Q k H') (tOp (rIxT K) (tVar 2) (tUn (rU fun i => .int (-i)) (tC (.int 1)))) (tC .non)))) (env0 N_caller_at [encS st, encE e]) { nx := fun _ => optI (callerOf st e) = .none, rt := fun _ d => d = optI (callerOf st e) } := fun st' hc h =>
      sr_set (h.f (imm_encS st')) (sr_ret ((last_or (er_v 2 (d := .tuple (st'.map .int)))).f (imm_optI _)) (by rw [hc]))
    cases e with
    | tail n =>
      refine go st.dropLast rfl (er_if (et_test (er_is (er_eqD (er_ixT (er_v 1 (d := .tuple [.str "tail", .str n])) er_int rfl) er_str s2 s2) rfl)) (fun _ => er_is (er_slT (er_v 0 (d := .tuple (st.map .int))) eo_none (eo_some (er_neg er_int))) ?_) fun z => nomatch z)
      rw [show (-(1 : Int)) = -1 from rfl, cut_last]
    | enter n => exact go st rfl (er_if (et_test (er_is (er_eqD (er_ixT (er_v 1 (d := .tuple [.str "enter", .str n])) er_int rfl) er_str s1 s2) (congrArg PyData.bool (show _ = false by decide +kernel)))) (fun z => nomatch z) fun _ => er_v 0)
    | exit n => exact go st rfl (er_if (et_test (er_is (er_eqD (er_ixT (er_v 1 (d := .tuple [.str "exit", .int n])) er_int rfl) er_str s3 s2) (congrArg PyData.bool (show _ = false by decide +kernel)))) (fun z => nomatch z) fun _ => er_v 0)
    | caught n => exact go st rfl (er_if (et_test (er_is (er_eqD (er_ixT (er_v 1 (d := .tuple [.str "catch", .int n])) er_int rfl) er_str s4 s2) (congrArg PyData.bool (show _ = false by decide +kernel)))) (fun z => nomatch z) fun _ => er_v 0)
    | mark => exact go st rfl (er_if (et_test (er_is (er_eqD (er_ixT (er_v 1 (d := .tuple [.str "mark"])) er_int rfl) er_str s5 s2) (congrArg PyData.bool (show _ = false by decide +kernel)))) (fun z => nomatch z) fun _ => er_v 0)
/-! ### callers -/
abbrev s_callers : Stmt := topS 25
abbrev N_callers : List Str := ["trace", "completion", "reached", "name", "at"]
theorem sc_callers : FnScope N_callers ["trace", "completion"] (defScope s_callers) := ⟨rfl, rfl, rfl, by decide +kernel, rfl, by decide +kernel, by decide +kernel⟩
def R_callers : List PyData → PyData → Prop := fun ds d => ∃ (t : List Evt) (c : List Int) (ss : List (List Int)), ds = [encT t, .tuple (c.map .int)] ∧ Tr t ∧ c.length = t.length + 1 ∧ runS t c = some ss ∧ d = .list (callS t ss (crP t))
theorem fr_get {t : List Evt} {i : Nat} {d : PyData} (h : (frL t)[i]? = some d) : ∃ p, (crP t)[i]? = some p ∧ d = .tuple [nameD p.1, .int (p.2 : Nat)] := by
  rw [frL_eq, List.getElem?_map] at h
  cases q : (crP t)[i]? with
  | none => rw [q] at h; cases h
  | some p => rw [q] at h; cases h; exact ⟨p, rfl, rfl⟩
theorem ok_callers {f : Addr} {fd : FuncData} (M : Md mg) (C_frames : Cal Pr w K mg base 5 "frames" (spD K R_frames)) (C_stacks : Cal Pr w K mg base 5 "stacks" (spD K R_stacks)) (C_caller_at : Cal Pr w K mg base 1 "caller_at" (spD K R_caller_at)) (F : Fun K "callers" "callers" s_callers f fd) : FnOk Pr w K mg base CX0 6 f fd ["trace", "completion"] (spD K R_callers) := by
  refine okD (k := 5) F sc_callers (fun ds d h => ?_) (fun ds d h cdv A outer s H E hr => ⟨_, (pss_cons (ps_set (i := 2) sc_callers.nd rfl (Or.inr rfl) (pe_cal C_stacks hr (by decide) (by rfl) (pa_cons (pv 0) (pa_cons (pv 1) pa_nil)))) (pss_one (ps_ret (pe_lc (own := [("name", 3), ("at", 4)]) (wi := (iList K (tCall (spD K R_frames) [] E0 (tCons (tVar 0) tNil)))) (g := (gTup K 2 (gCons (gName 3) (gCons (gName 4) gNil)))) (tt := tYes) (te := (tCall (spD K R_caller_at) [] E0 (tCons (tOp (rIxL K) (tVar 2) (tVar 4)) (tCons (tOp (rIxT K) (tVar 0) (tVar 4)) tNil)))) (by rfl) sc_callers.nd (pi_list (pe_cal C_frames hr (by decide) (by rfl) (pa_cons (pv 0) pa_nil))) (blkOk_by (own := [("name", 3), ("at", 4)]) (N := N_callers) (sc := defScope s_callers) (by decide +kernel)) (fun _ _ _ _ _ => (pg_tup rfl (pgs_cons (pg_name (i := 3) sc_callers.nd rfl (Or.inl rfl)) (pgs_cons (pg_name (i := 4) sc_callers.nd rfl (Or.inl rfl)) pgs_nil)))) (fun _ _ _ _ _ => pts_nil) (fun _ _ _ _ _ => (pe_cal C_caller_at hr (by decide) (by rfl) (pa_cons (pe_ix ix_list (pv 2) (pv 4) (fun _ _ => rfl)) (pa_cons (pe_ix ix_tup (pv 0) (pv 4) (fun _ _ => rfl)) pa_nil)))))))), ?_⟩)
  · obtain ⟨x, y, z, rfl, _⟩ := h
    rfl
  · obtain ⟨t, c, ss, rfl, T, hc, hr', rfl⟩ := h
    have tl := T.len
    have sl' := (run_good rfl hr').2
    have cl := crP_len t
    refine sr_set (ef_call (ea_cons (er_v 0) (ea_cons (er_v 1) ea_nil)) ⟨t, c, ss, rfl, T, hc, hr', rfl⟩) ?_
    have lc := ef_lc (K := K) (ρ := (env0 N_callers [encT t, .tuple (c.map .int)]).set 2 (some (sl (.list (ss.map encS))))) (items := frL t) (bz := true) (wi := (iList K (tCall (spD K R_frames) [] E0 (tCons (tVar 0) tNil)))) (g := (gTup K 2 (gCons (gName 3) (gCons (gName 4) gNil)))) (vs := [3, 4]) (tt := tYes) (te := (tCall (spD K R_caller_at) [] E0 (tCons (tOp (rIxL K) (tVar 2) (tVar 4)) (tCons (tOp (rIxT K) (tVar 0) (tVar 4)) tNil)))) (fun i => callS t ss ((crP t).take i)) (ec_lst (er_call (ea_cons (er_v 0) ea_nil) ⟨t, rfl, T, rfl⟩) (imm_frL t)) rfl (fun i d hd => by
      obtain ⟨p, hp, rfl⟩ := fr_get hd
      obtain ⟨p1, p2⟩ := crP_of (List.mem_of_getElem? hp)
      have hi : p.2 < t.length := (List.getElem?_eq_some_iff.mp p1).1
      have hs : ss[p.2]? = some (ss.getD p.2 []) := by rw [List.getD_eq_getElem?_getD, List.getElem?_eq_getElem (by omega)]; rfl
      refine ⟨_, _, true, tg_tup (tgs_cons (tg_name 3) (tgs_cons (tg_name 4) tgs_nil)), by simp, fun _ _ H _ _ q => q H (Ex.refl H), fun _ => ⟨optI (callerOf (ss.getD p.2 []) p.1), er_call (ea_cons (er_ixL (er_vl 2 (ds := ss.map encS)) (er_v 4) (d := encS (ss.getD p.2 [])) ?_) (ea_cons (er_ixT (er_v 0 (d := .tuple (t.map encE))) (er_v 4) (d := encE p.1) ?_) ea_nil)) ⟨_, _, rfl, rfl⟩, imm_optI _, ?_⟩, fun z => nomatch z⟩
      · exact atI_nat (by rw [List.getElem?_map, hs]; rfl)
      · exact atI_nat (by rw [List.getElem?_map, p1]; rfl)
      · show callS t ss _ = callS t ss _ ++ _
        rw [take_succ_of hp]
        unfold callS
        rw [List.map_append]; rfl) (by rw [frL_eq, List.length_map]; omega)
    refine sr_ret lc ?_
    show PyData.list _ = PyData.list _
    rw [frL_eq, List.length_map, List.take_length]
/-! ### end_of, ends -/
abbrev s_end_of : Stmt := topS 26
abbrev N_end_of : List Str := ["frame", "reached", "first", "moment"]
theorem sc_end_of : FnScope N_end_of ["frame", "reached", "first"] (defScope s_end_of) := ⟨rfl, rfl, rfl, by decide +kernel, rfl, by decide +kernel, by decide +kernel⟩
def R_end_of : List PyData → PyData → Prop := fun ds d => ∃ (f : Int) (ss : List (List Int)) (m : Nat), ds = [.int f, .list (ss.map encS), .int (m : Nat)] ∧ ss.length ≤ 1000 ∧ m ≤ 1000 ∧ d = optN (lat f ss m).head?
theorem ok_end_of {f : Addr} {fd : FuncData} (M : Md mg)  (F : Fun K "end_of" "end_of" s_end_of f fd) : FnOk Pr w K mg base CX0 1 f fd ["frame", "reached", "first"] (spD K R_end_of) := by
  refine okD (k := 0) F sc_end_of (fun ds d h => ?_) (fun ds d h cdv A outer s H E hr => ⟨_, (pss_cons (ps_for PassesOwn.never rfl (pi_range2 (by rfl) M.range (pa_cons (pv 2) (pa_cons (pe_callB call_len (by rfl) M.len PySem.boot_len (pa_cons (pv 1) pa_nil)) pa_nil))) (pg_name (i := 3) sc_end_of.nd rfl (Or.inl rfl)) (pss_one (ps_if (pt_cmpR op_notIn_seq (pv 0) (pe_ix ix_list (pv 1) (pv 3) (fun _ _ => rfl)) (by rfl)) (pss_one (ps_ret (pv 3))) pss_nil))) (pss_one (ps_ret pe_non))), ?_⟩)
  · obtain ⟨x, y, z, rfl, _⟩ := h
    rfl
  · obtain ⟨g, ss, m, rfl, hl, hm, rfl⟩ := h
    have rng := ei_rng2 (K := K) (ρ := env0 N_end_of [.int g, .list (ss.map encS), .int (m : Nat)]) (m := (m : Nat)) (n := (((ss.map encS).length : Nat) : Int)) (ea_cons (er_v 2) (ea_cons (er_lenL (er_v 1)) ea_nil)) (by omega) (by rw [List.length_map]; omega)
    rw [List.length_map, show (((ss.length : Nat) : Int) - (m : Nat)).toNat = ss.length - m by omega] at rng
    refine sr_for (fun i ρ' => (∃ x, ρ' = [some (.dat (.int g)), some (.dat (.list (ss.map encS))), some (.dat (.int (m : Nat))), x]) ∧ (List.range' m i).filter (fun m => decide (g ∉ ss.getD m [])) = [])
      (fun ρ' => (lat g ss m) = []) rng ⟨⟨none, rfl⟩, rfl⟩ (fun i d ρ' hd iv => ?_) (fun ρ' iv => ?_) (fun ρ' iv => ?_)
    · obtain ⟨⟨x, rfl⟩, hv⟩ := iv
      obtain ⟨hi, rfl⟩ := rngD_of hd
      have hs : ss[m + i]? = some (ss.getD (m + i) []) := by rw [List.getD_eq_getElem?_getD, List.getElem?_eq_getElem (by omega)]; rfl
      have tst : EvT K (tTest (tOp (rIn K true) (tVar 0) (tOp (rIxL K) (tVar 1) (tVar 3)))) [some (.dat (.int g)), some (.dat (.list (ss.map encS))), some (.dat (.int (m : Nat))), some (.dat (.int ((m : Nat) + (i : Nat))))] (decide (g ∉ ss.getD (m + i) [])) := by
        refine et_test (er_is (er_inS (er_v 0) (er_ixL (er_v 1) (er_v 3) (d := encS (ss.getD (m + i) [])) ?_) (.inl rfl) rfl (flat_ints _)) ?_)
        · rw [show ((m : Nat) : Int) + (i : Nat) = ((m + i : Nat) : Int) by omega]
          exact atI_nat (by rw [List.getElem?_map, hs]; rfl)
        · show PyData.bool (!List.any _ _) = _
          rw [any_ints]
          congr 1
          simp
      refine ⟨_, _, tg_name 3, sr_if tst (fun hb => sr_ret ((er_v 3).f rfl) ?_) (fun hb => sr_next ⟨⟨_, rfl⟩, ?_⟩)⟩
      · show PyData.int _ = optN _
        obtain ⟨k, hk⟩ : ∃ k, ss.length - m = i + (1 + k) := ⟨ss.length - m - i - 1, by omega⟩
        have one : List.filter (fun m => decide (g ∉ ss.getD m [])) [m + i] = [m + i] := by rw [List.filter_cons]; simp only [hb]; rfl
        have : lat g ss m = (m + i) :: (List.range' (m + i + 1) k).filter (fun m => decide (g ∉ ss.getD m [])) := by
          unfold lat
          rw [hk, ← List.range'_append_1, List.filter_append, hv, List.nil_append, ← List.range'_append_1, List.filter_append, show List.range' (m + i) 1 = [m + i] from rfl, one]
          rfl
        rw [this]
        show PyData.int _ = PyData.int _
        congr 1
      · rw [← List.range'_append_1, List.filter_append, hv, List.nil_append, show List.range' (m + i) 1 = [m + i] from rfl, List.filter_cons]; simp only [hb]; rfl
    · rw [rngD_len] at iv
      exact iv.2
    · have iv' : lat g ss m = [] := iv
      refine sr_ret ef_non ?_
      rw [iv']; rfl
abbrev s_ends : Stmt := topS 27
abbrev N_ends : List Str := ["trace", "completion", "reached", "frame", "name", "at"]
theorem sc_ends : FnScope N_ends ["trace", "completion"] (defScope s_ends) := ⟨rfl, rfl, rfl, by decide +kernel, rfl, by decide +kernel, by decide +kernel⟩
def R_ends : List PyData → PyData → Prop := fun ds d => ∃ (t : List Evt) (c : List Int) (ss : List (List Int)), ds = [encT t, .tuple (c.map .int)] ∧ Tr t ∧ c.length = t.length + 1 ∧ runS t c = some ss ∧ d = .list (endsS ss (crP t))
theorem ok_ends {f : Addr} {fd : FuncData} (M : Md mg) (C_frames : Cal Pr w K mg base 5 "frames" (spD K R_frames)) (C_stacks : Cal Pr w K mg base 5 "stacks" (spD K R_stacks)) (C_end_of : Cal Pr w K mg base 1 "end_of" (spD K R_end_of)) (F : Fun K "ends" "ends" s_ends f fd) : FnOk Pr w K mg base CX0 6 f fd ["trace", "completion"] (spD K R_ends) := by
  refine okD (k := 5) F sc_ends (fun ds d h => ?_) (fun ds d h cdv A outer s H E hr => ⟨_, (pss_cons (ps_set (i := 2) sc_ends.nd rfl (Or.inr rfl) (pe_cal C_stacks hr (by decide) (by rfl) (pa_cons (pv 0) (pa_cons (pv 1) pa_nil)))) (pss_one (ps_ret (pe_lc (own := [("frame", 3), ("name", 4), ("at", 5)]) (wi := (iEnum K (tCons (tCall (spD K R_frames) [] E0 (tCons (tVar 0) tNil)) tNil))) (g := (gTup K 2 (gCons (gName 3) (gCons (gTup K 2 (gCons (gName 4) (gCons (gName 5) gNil))) gNil)))) (tt := tYes) (te := (tCall (spD K R_end_of) [] E0 (tCons (tVar 3) (tCons (tVar 2) (tCons (tOp (rI0 fun i j => .int (i + j)) (tVar 5) (tC (.int 1))) tNil))))) (by rfl) sc_ends.nd (pi_enum (by rfl) M.enumerate (pa_cons (pe_cal C_frames hr (by decide) (by rfl) (pa_cons (pv 0) pa_nil)) pa_nil)) (blkOk_by (own := [("frame", 3), ("name", 4), ("at", 5)]) (N := N_ends) (sc := defScope s_ends) (by decide +kernel)) (fun _ _ _ _ _ => (pg_tup rfl (pgs_cons (pg_name (i := 3) sc_ends.nd rfl (Or.inl rfl)) (pgs_cons (pg_tup rfl (pgs_cons (pg_name (i := 4) sc_ends.nd rfl (Or.inl rfl)) (pgs_cons (pg_name (i := 5) sc_ends.nd rfl (Or.inl rfl)) pgs_nil))) pgs_nil)))) (fun _ _ _ _ _ => pts_nil) (fun _ _ _ _ _ => (pe_cal C_end_of hr (by decide) (by rfl) (pa_cons (pv 3) (pa_cons (pv 2) (pa_cons (pe_op op_add (pv 5) pe_int) pa_nil))))))))), ?_⟩)
  · obtain ⟨x, y, z, rfl, _⟩ := h
    rfl
  · obtain ⟨t, c, ss, rfl, T, hc, hr', rfl⟩ := h
    have tl := T.len
    have sl' := (run_good rfl hr').2
    have cl := crP_len t
    refine sr_set (ef_call (ea_cons (er_v 0) (ea_cons (er_v 1) ea_nil)) ⟨t, c, ss, rfl, T, hc, hr', rfl⟩) ?_
    have lc := ef_lc (K := K) (ρ := (env0 N_ends [encT t, .tuple (c.map .int)]).set 2 (some (sl (.list (ss.map encS))))) (items := enumD (frL t)) (bz := false) (wi := (iEnum K (tCons (tCall (spD K R_frames) [] E0 (tCons (tVar 0) tNil)) tNil))) (g := (gTup K 2 (gCons (gName 3) (gCons (gTup K 2 (gCons (gName 4) (gCons (gName 5) gNil))) gNil)))) (vs := [3, 4, 5]) (tt := tYes) (te := (tCall (spD K R_end_of) [] E0 (tCons (tVar 3) (tCons (tVar 2) (tCons (tOp (rI0 fun i j => .int (i + j)) (tVar 5) (tC (.int 1))) tNil))))) (fun i => endsS ss ((crP t).take i)) (ec_en (er_call (ea_cons (er_v 0) ea_nil) ⟨t, rfl, T, rfl⟩) (imm_frL t)) rfl (fun i d hd => by
      obtain ⟨d', hd', rfl⟩ := enumD_of hd
      obtain ⟨p, hp, rfl⟩ := fr_get hd'
      obtain ⟨p1, p2⟩ := crP_of (List.mem_of_getElem? hp)
      have hi : p.2 < t.length := (List.getElem?_eq_some_iff.mp p1).1
      refine ⟨_, _, true, tg_tup (tgs_cons (tg_name 3) (tgs_cons (tg_tup (tgs_cons (tg_name 4) (tgs_cons (tg_name 5) tgs_nil))) tgs_nil)), by simp, fun _ _ H _ _ q => q H (Ex.refl H), fun _ => ⟨optN (lat (i : Nat) ss (p.2 + 1)).head?, er_call (ea_cons (er_v 3) (ea_cons (er_vl 2 (ds := ss.map encS)) (ea_cons (er_add (er_v 5) er_int) ea_nil))) ⟨_, ss, p.2 + 1, rfl, by omega, by omega, rfl⟩, imm_optI _, ?_⟩, fun z => nomatch z⟩
      show endsS ss _ = endsS ss _ ++ _
      unfold endsS
      rw [zipIdx_take hp, List.map_append]; rfl) (by rw [enumD_len, frL_eq, List.length_map]; omega)
    refine sr_ret lc ?_
    show PyData.list _ = PyData.list _
    rw [enumD_len, frL_eq, List.length_map, List.take_length]
end
end Lx

set_option Elab.async false
set_option linter.all false
set_option maxRecDepth 100000
set_option maxHeartbeats 1000000
namespace Lx
open PySem PySem.Spec PyProof.Rows L2
open Evl (Ex)
def optL : Option (List (List Int)) → PyData
  | none => .none
  | some ss => .list (ss.map encS)
def rowsL (t : List Evt) (c : List Int) : Option (List (List Int)) := (runS t c).bind fun ss => if c.length ≤ t.length then (nextS t ss).map (fun _ => ss) else some ss
theorem runS_none {t : List Evt} {c : List Int} {i : Nat} (h : runS t (c.take i) = none) : runS t c = none := by
  have e : runS t c = (runS t (c.take i)).bind fun ss => (c.drop i).foldlM (stepS t) ss := by
    conv => lhs; rw [← List.take_append_drop i c]
    exact runS_append t _ _
  rw [e, h]; rfl
theorem rowsL_none {t : List Evt} {c : List Int} {i : Nat} (h : runS t (c.take i) = none) : rowsL t c = none := by
  unfold rowsL
  rw [runS_none h]; rfl
/-- the event behind the i-th moment cannot be -/
theorem rowsL_stop {t : List Evt} {c : List Int} {i : Nat} {ss : List (List Int)} (hi : i ≤ c.length) (ht : i ≤ t.length) (h : runS t (c.take i) = some ss) (hn : nextS t ss = none) : rowsL t c = none := by
  by_cases q : i = c.length
  · subst q
    rw [List.take_length] at h
    unfold rowsL
    rw [h]
    show (if c.length ≤ t.length then _ else _) = none
    rw [if_pos ht, hn]; rfl
  · have hu : c[i]? = some c[i] := List.getElem?_eq_getElem (by omega)
    refine rowsL_none (i := i + 1) ?_
    rw [runS_take hu, h]
    show stepS t ss _ = none
    unfold stepS
    rw [hn]
theorem nextS_snoc {t : List Evt} {ss : List (List Int)} {s : List Int} {e : Evt} (h : t[ss.length]? = some e) : nextS t (ss ++ [s]) = after s e (cr t ss.length : Nat) := by
  unfold nextS
  rw [List.getLast?_concat]
  show (match t[(ss ++ [s]).length - 1]? with | none => none | some e => after s e (cr t ((ss ++ [s]).length - 1) : Nat)) = _
  rw [List.length_append]
  show (match t[ss.length + 1 - 1]? with | none => none | some e => after s e (cr t (ss.length + 1 - 1) : Nat)) = _
  rw [Nat.add_sub_cancel, h]
section
variable {Pr : Program} {w : World} {K : PySem.W.Frag} {mg : Str → Option Value} {base : Heap}
/-! ### _law_after -/
abbrev s__law_after : Stmt := topS 32
abbrev N__law_after : List Str := ["stack", "event", "created", "frame"]
theorem sc__law_after : FnScope N__law_after ["stack", "event", "created"] (defScope s__law_after) := ⟨rfl, rfl, rfl, by decide +kernel, rfl, by decide +kernel, by decide +kernel⟩
def R__law_after : List PyData → PyData → Prop := fun ds d => ∃ (st : List Int) (e : Evt) (c : Int), ds = [encS st, encE e, .int c] ∧ st.length ≤ 1000 ∧ d = optS (after st e c)
theorem ok__law_after {f : Addr} {fd : FuncData} (M : Md mg)  (F : Fun K "_law_after" "_law_after" s__law_after f fd) : FnOk Pr w K mg base CX0 1 f fd ["stack", "event", "created"] (spD K R__law_after) := by
  refine okD (k := 0) F sc__law_after (fun ds d h => ?_) (fun ds d h cdv A outer s H E hr => ⟨_, (pss_cons (ps_if (pt_cmpR (op_eqD hr.units) (pe_ix ix_tup (pv 1) pe_int (fun _ _ => rfl)) pe_str (nomark _)) (pss_one (ps_ret (pe_op op_catN (pv 0) (pe_tupN (pa_cons (pv 2) pa_nil))))) pss_nil) (pss_cons (ps_if (pt_cmpR (op_eqD hr.units) (pe_ix ix_tup (pv 1) pe_int (fun _ _ => rfl)) pe_str (nomark _)) (pss_one (ps_ret (pv 0))) pss_nil) (pss_cons (ps_if (pt_cmpR (op_eqD hr.units) (pv 0) (pe_tupN pa_nil) (nomark _)) (pss_one (ps_ret pe_non)) pss_nil) (pss_cons (ps_if (pt_cmpR (op_eqD hr.units) (pe_ix ix_tup (pv 1) pe_int (fun _ _ => rfl)) pe_str (nomark _)) (pss_one (ps_ret (pe_op op_catN (pe_slice sl_tupN (pv 0) po_none (po_some (pe_un un_neg pe_int))) (pe_tupN (pa_cons (pv 2) pa_nil))))) pss_nil) (pss_cons (ps_if (pt_cmpR (op_eqD hr.units) (pe_ix ix_tup (pv 1) pe_int (fun _ _ => rfl)) pe_str (nomark _)) (pss_one (ps_ret (pe_ifExp (pt_cmpR (op_eqD hr.units) (pe_ix ix_tup (pv 0) (pe_un un_neg pe_int) (fun _ _ => rfl)) (pe_ix ix_tup (pv 1) pe_int (fun _ _ => rfl)) (nomark _)) (pe_slice sl_tupN (pv 0) po_none (po_some (pe_un un_neg pe_int))) pe_non))) pss_nil) (pss_cons (ps_if (pt_cmpR op_notIn_seq (pe_ix ix_tup (pv 1) pe_int (fun _ _ => rfl)) (pv 0) (by rfl)) (pss_one (ps_ret pe_non)) pss_nil) (pss_one (ps_ret (pe_callTy call_tupN (by rfl) M.tuple (by decide +kernel) (pa_cons (pe_lc (own := [("frame", 3)]) (wi := (iTup K (tVar 0))) (g := (gName 3)) (tt := (tTest (tOp (rI0 fun i j => .bl (decide (i ≤ j))) (tVar 3) (tOp (rIxT K) (tVar 1) (tC (.int 1)))))) (te := (tVar 3)) (by rfl) sc__law_after.nd (pi_tup (pv 0)) (blkOk_by (own := [("frame", 3)]) (N := N__law_after) (sc := defScope s__law_after) (by decide +kernel)) (fun _ _ _ _ _ => (pg_name (i := 3) sc__law_after.nd rfl (Or.inl rfl))) (fun _ _ _ _ _ => (pts_one (pt_cmpR op_le (pv 3) (pe_ix ix_tup (pv 1) pe_int (fun _ _ => rfl)) (nomark _)))) (fun _ _ _ _ _ => (pv 3))) pa_nil)))))))))), ?_⟩)
  · obtain ⟨x, y, z, rfl, _⟩ := h
    rfl
  · obtain ⟨st, e, c, rfl, hl, rfl⟩ := h
    obtain ⟨s1, s2, s3, s4, s5⟩ := sh_str1
    have hl1 : (st.map PyData.int).length + [PyData.int c].length ≤ 100000 := by rw [List.length_map]; show _ + 1 ≤ _; omega
    have emp : ∀ e : Evt, EvT K (tTest (tOp (rEqD K) (tVar 0) (tTupN tNil))) (env0 N__law_after [encS st, encE e, .int c]) (decide (st = [])) := fun e =>
      et_test (er_is (er_eqD (er_v 0 (d := .tuple (st.map .int))) (er_tup ea_nil) (sh_ints st) rfl) (by
        show PyData.bool (PyData.eqvAll _ ([].map .int)) = _
        rw [eqvAll_ints]))
    cases e with
    | enter n =>
      refine sr_take (et_test (er_is (er_eqD (er_ixT (er_v 1 (d := .tuple [.str "enter", .str n])) er_int rfl) er_str s1 s1) rfl)) (sr_ret ((er_catT (er_v 0 (d := .tuple (st.map .int))) (er_tup (ea_cons (er_v 2) ea_nil)) hl1).f ?_) ?_)
      · show immAll _ = true
        exact immAll_append (immAll_ints st) rfl
      · show PyData.tuple _ = PyData.tuple _
        rw [List.map_append]; rfl
    | mark =>
      exact sr_skip (et_test (er_is (er_eqD (er_ixT (er_v 1 (d := .tuple [.str "mark"])) er_int rfl) er_str s5 s1) (congrArg PyData.bool (by decide +kernel)))) (sr_take (et_test (er_is (er_eqD (er_ixT (er_v 1 (d := .tuple [.str "mark"])) er_int rfl) er_str s5 s5) rfl)) (sr_ret ((er_v 0).f (imm_encS st)) rfl))
    | tail n =>
      have k1 : EvR K _ (env0 N__law_after [encS st, encE (.tail n), .int c]) (.str "tail") := er_ixT (er_v 1 (d := .tuple [.str "tail", .str n])) (er_int (i := 0)) rfl
      refine sr_skip (et_test (er_is (er_eqD k1 er_str s2 s1) (congrArg PyData.bool (by decide +kernel)))) (sr_skip (et_test (er_is (er_eqD k1 er_str s2 s5) (congrArg PyData.bool (by decide +kernel)))) ?_)
      by_cases he : st = []
      · subst he
        exact sr_take (et_is (emp _) rfl) (sr_ret ef_non rfl)
      · refine sr_skip (et_is (emp _) (decide_eq_false he)) (sr_take (et_test (er_is (er_eqD k1 er_str s2 s2) rfl)) (sr_ret (EvR.f (er_catT (er_slT (er_v 0 (d := .tuple (st.map .int))) eo_none (eo_some (er_neg er_int))) (er_tup (ea_cons (er_v 2) ea_nil)) ?_) ?_) ?_))
        · rw [show (-(1 : Int)) = -1 from rfl, cut_last, List.length_map, List.length_dropLast]; show _ + 1 ≤ _; omega
        · exact immAll_append (imm_cut (immAll_ints st)) rfl
        · simp only [after, if_neg he]
          show PyData.tuple _ = PyData.tuple _
          rw [show (-(1 : Int)) = -1 from rfl, cut_last, List.map_append]; rfl
    | exit g =>
      have k1 : EvR K _ (env0 N__law_after [encS st, encE (.exit g), .int c]) (.str "exit") := er_ixT (er_v 1 (d := .tuple [.str "exit", .int g])) (er_int (i := 0)) rfl
      refine sr_skip (et_test (er_is (er_eqD k1 er_str s3 s1) (congrArg PyData.bool (by decide +kernel)))) (sr_skip (et_test (er_is (er_eqD k1 er_str s3 s5) (congrArg PyData.bool (by decide +kernel)))) ?_)
      by_cases he : st = []
      · subst he
        exact sr_take (et_is (emp _) rfl) (sr_ret ef_non rfl)
      · obtain ⟨z, hz⟩ : ∃ z, st.getLast? = some z := ⟨st.getLast he, List.getLast?_eq_getLast he⟩
        refine sr_skip (et_is (emp _) (decide_eq_false he)) (sr_skip (et_test (er_is (er_eqD k1 er_str s3 s2) (congrArg PyData.bool (by decide +kernel)))) (sr_take (et_test (er_is (er_eqD k1 er_str s3 s3) rfl)) (sr_ret (EvR.f (er_if (b := z == g) (et_test (er_eqD (er_ixT (er_v 0 (d := .tuple (st.map .int))) (er_neg er_int) (d := .int z) ?_) (er_ixT (er_v 1 (d := .tuple [.str "exit", .int g])) er_int (d := .int g) rfl) rfl rfl)) (fun h => ?_) (fun h => ?_)) (imm_optS _)) rfl)))
        · obtain ⟨ys, rfl⟩ := List.getLast?_eq_some_iff.mp hz
          rw [List.map_append]
          exact atI_last _ _
        · have hg : z = g := eq_of_beq h
          simp only [after, hz, hg, if_true]
          refine er_is (er_slT (er_v 0 (d := .tuple (st.map .int))) eo_none (eo_some (er_neg er_int))) ?_
          rw [show (-(1 : Int)) = -1 from rfl, cut_last]; rfl
        · have hg : ¬ st.getLast? = some g := fun q => by
            rw [hz] at q
            cases q
            rw [beq_self_eq_true] at h; cases h
          simp only [after, if_neg hg]
          exact er_non
    | caught g =>
      have k1 : EvR K _ (env0 N__law_after [encS st, encE (.caught g), .int c]) (.str "catch") := er_ixT (er_v 1 (d := .tuple [.str "catch", .int g])) (er_int (i := 0)) rfl
      refine sr_skip (et_test (er_is (er_eqD k1 er_str s4 s1) (congrArg PyData.bool (by decide +kernel)))) (sr_skip (et_test (er_is (er_eqD k1 er_str s4 s5) (congrArg PyData.bool (by decide +kernel)))) ?_)
      by_cases he : st = []
      · subst he
        exact sr_take (et_is (emp _) rfl) (sr_ret ef_non rfl)
      · have tin := et_test (er_inS (K := K) (neg := true) (ρ := env0 N__law_after [encS st, encE (.caught g), .int c]) (er_ixT (er_v 1 (d := .tuple [.str "catch", .int g])) (er_int (i := 1)) rfl) (er_v 0 (d := .tuple (st.map .int))) (.inl rfl) rfl (flat_ints st))
        rw [if_pos rfl, any_ints] at tin
        refine sr_skip (et_is (emp _) (decide_eq_false he)) (sr_skip (et_test (er_is (er_eqD k1 er_str s4 s2) (congrArg PyData.bool (by decide +kernel)))) (sr_skip (et_test (er_is (er_eqD k1 er_str s4 s3) (congrArg PyData.bool (by decide +kernel)))) ?_))
        by_cases hg : g ∈ st
        · refine sr_skip (et_is tin (by rw [decide_eq_true hg]; rfl)) ?_
          have lc := ef_lc (K := K) (ρ := env0 N__law_after [encS st, encE (.caught g), .int c]) (items := st.map .int) (bz := true) (wi := (iTup K (tVar 0))) (g := (gName 3)) (vs := [3]) (tt := (tTest (tOp (rI0 fun i j => .bl (decide (i ≤ j))) (tVar 3) (tOp (rIxT K) (tVar 1) (tC (.int 1)))))) (te := (tVar 3)) (fun i => ((st.take i).filter (fun x => decide (x ≤ g))).map .int) (ei_tup (er_v 0) (immAll_ints st)).c rfl (fun i d hd => by
            rw [List.getElem?_map] at hd
            cases q : st[i]? with
            | none => rw [q] at hd; cases hd
            | some x =>
              rw [q] at hd
              cases hd
              refine ⟨_, _, decide (x ≤ g), tg_name 3, by simp, et_test (er_le (er_v 3) (er_ixT (er_v 1 (d := .tuple [.str "catch", .int g])) er_int rfl)), fun hc => ⟨.int x, er_v 3, rfl, ?_⟩, fun hc => ?_⟩
              · rw [take_succ_of q, List.filter_append, List.map_append, List.filter_cons]; simp only [hc]; rfl
              · rw [take_succ_of q, List.filter_append, List.map_append, List.filter_cons]; simp only [hc]; simp) (by rw [List.length_map]; omega)
          refine sr_ret (EvR.f (er_tupleL lc.r) ?_) ?_
          · rw [List.length_map, List.take_length]; exact immAll_ints _
          · rw [List.length_map, List.take_length]
            simp only [after, if_pos hg]
            rfl
        · refine sr_take (et_is tin (by rw [decide_eq_false hg]; rfl)) (sr_ret ef_non ?_)
          simp only [after, if_neg hg]; rfl
/-! ### _law_rows -/
abbrev s__law_rows : Stmt := topS 33
abbrev N__law_rows : List Str := ["trace", "completion", "stack", "created", "found", "moment", "lost"]
theorem sc__law_rows : FnScope N__law_rows ["trace", "completion"] (defScope s__law_rows) := ⟨rfl, rfl, rfl, by decide +kernel, rfl, by decide +kernel, by decide +kernel⟩
def R__law_rows : List PyData → PyData → Prop := fun ds d => ∃ (t : List Evt) (c : List Int), ds = [encT t, .tuple (c.map .int)] ∧ Tr t ∧ c.length ≤ t.length + 1 ∧ (∀ u ∈ c, 0 ≤ u) ∧ d = optL (rowsL t c)
theorem ok__law_rows {f : Addr} {fd : FuncData} (M : Md mg) (C__law_after : Cal Pr w K mg base 1 "_law_after" (spD K R__law_after)) (F : Fun K "_law_rows" "_law_rows" s__law_rows f fd) : FnOk Pr w K mg base CX0 2 f fd ["trace", "completion"] (spD K R__law_rows) := by
  refine okD (k := 1) F sc__law_rows (fun ds d h => ?_) (fun ds d h cdv A outer s H E hr => ⟨_, (pss_cons (ps_par3 (i := 2) (j := 3) (l := 4) (by rfl) sc__law_rows.nd rfl rfl rfl (by decide) (by decide) (by decide) rfl rfl rfl (pa_cons (pe_tupN pa_nil) (pa_cons pe_int (pa_cons (pe_lst pa_nil) pa_nil))) (by rfl)) (pss_cons (ps_for PassesOwn.never rfl (pi_enumT (by rfl) M.enumerate (pa_cons (pv 1) pa_nil)) (pg_tup rfl (pgs_cons (pg_name (i := 5) sc__law_rows.nd rfl (Or.inl rfl)) (pgs_cons (pg_name (i := 6) sc__law_rows.nd rfl (Or.inl rfl)) pgs_nil))) (pss_cons (ps_if (pt_cmpR op_gt (pv 6) (pe_callB call_len (by rfl) M.len PySem.boot_len (pa_cons (pv 2) pa_nil)) (nomark _)) (pss_one (ps_ret pe_non)) pss_nil) (pss_cons (ps_set (i := 2) sc__law_rows.nd rfl (Or.inl rfl) (pe_slice sl_tupN (pv 2) po_none (po_some (pe_op op_sub (pe_callB call_len (by rfl) M.len PySem.boot_len (pa_cons (pv 2) pa_nil)) (pv 6))))) (pss_cons (ps_expr (pe_bm PySem.F.plainAttrs_list PySem.F.slot_list_append PySem.F.type_list_append mt_append (pv 4) (pa_cons (pv 2) pa_nil))) (pss_one (ps_if (pt_cmpR op_lt (pv 5) (pe_callB call_len (by rfl) M.len PySem.boot_len (pa_cons (pv 0) pa_nil)) (nomark _)) (pss_cons (ps_set (i := 2) sc__law_rows.nd rfl (Or.inl rfl) (pe_cal C__law_after hr (by decide) (by rfl) (pa_cons (pv 2) (pa_cons (pe_ix ix_tup (pv 0) (pv 5) (fun _ _ => rfl)) (pa_cons (pv 3) pa_nil))))) (pss_cons (ps_set (i := 3) sc__law_rows.nd rfl (Or.inl rfl) (pe_op op_add (pv 3) (pe_callTy call_int1 (by rfl) M.int (by decide +kernel) (pa_cons (pe_cmpR op_in_seq (pe_ix ix_tup (pe_ix ix_tup (pv 0) (pv 5) (fun _ _ => rfl)) pe_int (fun _ _ => rfl)) (pe_tupN (pa_cons pe_str (pa_cons pe_str pa_nil))) (by rfl)) pa_nil)))) (pss_one (ps_if (pt_cmpR op_isN (pv 2) pe_non (nomark _)) (pss_one (ps_ret pe_non)) pss_nil)))) pss_nil)))))) (pss_one (ps_ret (pv 4))))), ?_⟩)
  · obtain ⟨x, y, rfl, _⟩ := h
    rfl
  · obtain ⟨t, c, rfl, T, hc, hpos, rfl⟩ := h
    have tl := T.len
    refine sr_par3 (EvR.f (er_tup ea_nil) rfl) ef_int (ef_lst ea_nil rfl) ?_
    refine sr_for (fun i ρ' => ∃ ss x y, runS t (c.take i) = some ss ∧ ((i ≤ t.length ∧ ∃ s, nextS t ss = some s ∧ ρ' = [some (.dat (encT t)), some (.dat (.tuple (c.map .int))), some (.dat (encS s)), some (.dat (.int (cr t i : Nat))), some (.lst (ss.map encS)), x, y]) ∨
          (t.length < i ∧ ∃ a b, ρ' = [some (.dat (encT t)), some (.dat (.tuple (c.map .int))), a, b, some (.lst (ss.map encS)), x, y])))
      (fun ρ' => ∃ ss a b x y, rowsL t c = some ss ∧ ρ' = [some (.dat (encT t)), some (.dat (.tuple (c.map .int))), a, b, some (.lst (ss.map encS)), x, y])
      (ei_enT (ds := c.map .int) (er_v 1) (immAll_ints c)) ⟨[], none, none, rfl, .inl ⟨Nat.zero_le _, [], rfl, rfl⟩⟩ (fun i d ρ' hd iv => ?_) (fun ρ' iv => ?_) (fun ρ' iv => ?_)
    · obtain ⟨d', hd', rfl⟩ := enumD_of hd
      rw [List.getElem?_map] at hd'
      cases q : c[i]? with
      | none => rw [q] at hd'; cases hd'
      | some u =>
        rw [q] at hd'
        cases hd'
        have hi : i < c.length := (List.getElem?_eq_some_iff.mp q).1
        have hu := hpos u (List.mem_of_getElem? q)
        obtain ⟨ss, x, y, hr1, iv⟩ := iv
        rcases iv with ⟨hit, s, hn, rfl⟩ | ⟨hit, _⟩
        · obtain ⟨g, l⟩ := run_good rfl hr1
          have l' : ss.length = i := by rw [l, List.length_take]; omega
          obtain ⟨a1, a2⟩ := nextS_good g hn
          have h1 := asc_len a1 a2
          have h2 := cr_le T ss.length
          refine ⟨_, _, tg_tup (tgs_cons (tg_name 5) (tgs_cons (tg_name 6) tgs_nil)), ?_⟩
          have tst := et_test (er_gt (K := K) (ρ := [some (.dat (encT t)), some (.dat (.tuple (c.map .int))), some (.dat (encS s)), some (.dat (.int (cr t i : Nat))), some (.lst (ss.map encS)), some (.dat (.int (i : Nat))), some (.dat (.int u))]) (er_v 6) (er_lenT (er_v 2 (d := .tuple (s.map .int)))))
          rw [List.length_map] at tst
          by_cases hb : ((s.length : Nat) : Int) < u
          · refine sr_take (et_is tst (decide_eq_true hb)) (sr_ret ef_non ?_)
            rw [rowsL_none (i := i + 1)]
            · rfl
            · rw [runS_take q, hr1]
              show stepS t ss u = none
              unfold stepS
              rw [hn]
              exact if_neg (by omega)
          · have hstep : runS t (c.take (i + 1)) = some (ss ++ [s.take (s.length - u.toNat)]) := by
              rw [runS_take q, hr1]
              show stepS t ss u = _
              unfold stepS
              rw [hn]
              exact if_pos ⟨hu, by omega⟩
            have ecut : cutD (s.map .int) none (some (((s.length : Nat) : Int) - u)) = (s.take (s.length - u.toNat)).map .int := by
              rw [show ((s.length : Nat) : Int) - u = ((s.length - u.toNat : Nat) : Int) by omega, cut_to]
            refine sr_skip (et_is tst (decide_eq_false hb)) (sr_set (d := encS (s.take (s.length - u.toNat))) (EvR.f (er_is (er_slT (er_v 2 (d := .tuple (s.map .int))) eo_none (eo_some (er_sub (er_lenT (er_v 2 (d := .tuple (s.map .int)))) (er_v 6)))) ?_) (imm_encS _)) (sr_app (ds := ss.map encS) rfl (er_v 2 (d := encS (s.take (s.length - u.toNat)))) (imm_encS _) ?_ ?_))
            · rw [List.length_map, ecut]; rfl
            · rw [List.length_map]; omega
            · by_cases hm : i < t.length
              · have qe : t[i]? = some t[i] := List.getElem?_eq_getElem hm
                have hsn : nextS t (ss ++ [s.take (s.length - u.toNat)]) = after (s.take (s.length - u.toNat)) t[i] (cr t i : Nat) := by
                  have := nextS_snoc (t := t) (ss := ss) (s := s.take (s.length - u.toNat)) (e := t[i]) (by rw [l']; exact qe)
                  rw [l'] at this
                  exact this
                have evt : ∀ {ρ : En}, ρ[0]? = some (some (.dat (encT t))) → ρ[5]? = some (some (.dat (.int (i : Nat)))) → EvR K (tOp (rIxT K) (tVar 0) (tVar 5)) ρ (encE t[i]) := fun h0 h5 => er_ixT (er_v 0 (d := .tuple (t.map encE)) h0) (er_v 5 h5) (atI_nat (by rw [List.getElem?_map, qe]; rfl))
                refine sr_if (b := true) (et_test (er_is (er_lt (er_v 5) (er_lenT (er_v 0 (d := .tuple (t.map encE))))) ?_)) (fun _ => sr_set (d := optS (after (s.take (s.length - u.toNat)) t[i] (cr t i : Nat))) (ef_call (ea_cons (er_v 2) (ea_cons (evt rfl rfl) (ea_cons (er_v 3) ea_nil))) ⟨s.take (s.length - u.toNat), t[i], _, rfl, by rw [List.length_take]; omega, rfl⟩) ?_) (fun z => nomatch z)
                · rw [List.length_map, decide_eq_true (by omega)]
                · refine sr_set (d := .int (cr t (i + 1) : Nat)) (EvR.f (er_is (er_add (er_v 3) (er_intB (in_kinds (evt rfl rfl)))) ?_) rfl) ?_
                  · rw [cr_succ qe]
                    congr 1
                    cases creates t[i] <;> rfl
                  · cases ha : after (s.take (s.length - u.toNat)) t[i] (cr t i : Nat) with
                    | none =>
                      refine sr_if (b := true) (et_test (er_isN (er_v 2 (d := .none)) rfl)) (fun _ => sr_ret ef_non ?_) (fun z => nomatch z)
                      rw [rowsL_stop (by omega) (by omega) hstep (by rw [hsn, ha])]; rfl
                    | some r =>
                      rw [show sl (optS (some r)) = .dat (.tuple (r.map .int)) from rfl]
                      refine sr_if (b := false) (et_test (er_isN (er_v 2 (d := .tuple (r.map .int))) rfl)) (fun z => nomatch z) (fun _ => sr_next ⟨_, some (.dat (.int (i : Nat))), some (.dat (.int u)), hstep, .inl ⟨by omega, r, by rw [hsn, ha], ?_⟩⟩)
                      rw [List.map_append]; rfl
              · refine sr_if (b := false) (et_test (er_is (er_lt (er_v 5) (er_lenT (er_v 0 (d := .tuple (t.map encE))))) ?_)) (fun z => nomatch z) (fun _ => sr_next ⟨_, some (.dat (.int (i : Nat))), some (.dat (.int u)), hstep, .inr ⟨by omega, some (.dat (encS (s.take (s.length - u.toNat)))), some (.dat (.int (cr t i : Nat))), ?_⟩⟩)
                · rw [List.length_map, decide_eq_false (by omega)]
                · rw [List.map_append]; rfl
        · exact absurd hit (by omega)
    · obtain ⟨ss, x, y, hr1, iv⟩ := iv
      rw [enumD_len, List.length_map] at iv hr1
      rw [List.take_length] at hr1
      unfold rowsL
      rw [hr1]
      rcases iv with ⟨hit, s, hn, rfl⟩ | ⟨hit, a, b, rfl⟩
      · refine ⟨ss, _, _, x, y, ?_, rfl⟩
        show (if c.length ≤ t.length then _ else _) = _
        rw [if_pos hit, hn]; rfl
      · refine ⟨ss, _, _, x, y, ?_, rfl⟩
        show (if c.length ≤ t.length then _ else _) = _
        rw [if_neg (by omega)]
    · obtain ⟨ss, a, b, x, y, hr1, rfl⟩ := iv
      refine sr_retL rfl ?_
      rw [hr1]; rfl
/-! ### _law_created, _law_events, _law_totals -/
abbrev s__law_created : Stmt := topS 34
abbrev N__law_created : List Str := ["trace", "found", "event"]
theorem sc__law_created : FnScope N__law_created ["trace"] (defScope s__law_created) := ⟨rfl, rfl, rfl, by decide +kernel, rfl, by decide +kernel, by decide +kernel⟩
def crL (t : List Evt) (n : Nat) : List Int := (List.range n).map fun i => ((cr t i : Nat) : Int)
def R__law_created : List PyData → PyData → Prop := fun ds d => ∃ (t : List Evt), ds = [encT t] ∧ t.length ≤ 1000 ∧ d = .list ((crL t (t.length + 1)).map .int)
theorem crL_succ (t : List Evt) (n : Nat) : crL t (n + 1) = crL t n ++ [((cr t n : Nat) : Int)] := by
  unfold crL
  rw [List.range_succ, List.map_append]; rfl
theorem ok__law_created {f : Addr} {fd : FuncData} (M : Md mg)  (F : Fun K "_law_created" "_law_created" s__law_created f fd) : FnOk Pr w K mg base CX0 1 f fd ["trace"] (spD K R__law_created) := by
  refine okD (k := 0) F sc__law_created (fun ds d h => ?_) (fun ds d h cdv A outer s H E hr => ⟨_, (pss_cons (ps_set (i := 1) sc__law_created.nd rfl (Or.inl rfl) (pe_lst (pa_cons pe_int pa_nil))) (pss_cons (ps_for PassesOwn.never rfl (pi_tup (pv 0)) (pg_name (i := 2) sc__law_created.nd rfl (Or.inl rfl)) (pss_one (ps_expr (pe_bm PySem.F.plainAttrs_list PySem.F.slot_list_append PySem.F.type_list_append mt_append (pv 1) (pa_cons (pe_op op_add (pe_ix ix_list (pv 1) (pe_un un_neg pe_int) (fun _ _ => rfl)) (pe_callTy call_int1 (by rfl) M.int (by decide +kernel) (pa_cons (pe_cmpR op_in_seq (pe_ix ix_tup (pv 2) pe_int (fun _ _ => rfl)) (pe_tupN (pa_cons pe_str (pa_cons pe_str pa_nil))) (by rfl)) pa_nil))) pa_nil))))) (pss_one (ps_ret (pv 1))))), ?_⟩)
  · obtain ⟨x, rfl, _⟩ := h
    rfl
  · obtain ⟨t, rfl, tl, rfl⟩ := h
    refine sr_set (ef_lst (ea_cons er_int ea_nil) rfl) ?_
    refine sr_for (fun i ρ' => ∃ x, ρ' = [some (.dat (encT t)), some (.lst ((crL t (i + 1)).map .int)), x]) (fun ρ' => ∃ x, ρ' = [some (.dat (encT t)), some (.lst ((crL t (t.length + 1)).map .int)), x])
      (ei_tup (ds := t.map encE) (er_v 0) (immAll_encE t)) ⟨none, rfl⟩ (fun i d ρ' hd iv => ?_) (fun ρ' iv => by rw [List.length_map] at iv; exact iv) (fun ρ' iv => ?_)
    · rw [List.getElem?_map] at hd
      cases q : t[i]? with
      | none => rw [q] at hd; cases hd
      | some e =>
        rw [q] at hd
        cases hd
        have hi : i < t.length := (List.getElem?_eq_some_iff.mp q).1
        obtain ⟨x, rfl⟩ := iv
        refine ⟨_, _, tg_name 2, sr_app1 (ds := (crL t (i + 1)).map .int) (d := .int (cr t (i + 1) : Nat)) rfl (er_is (er_add (er_ixL (er_vl 1) (er_neg er_int) (d := .int (cr t i : Nat)) ?_) (er_intB (in_kinds (er_v 2)))) ?_) rfl ?_ ⟨some (.dat (encE e)), ?_⟩⟩
        · rw [crL_succ, List.map_append]
          exact atI_last _ _
        · rw [cr_succ q]
          congr 1
          cases creates e <;> rfl
        · rw [List.length_map]; unfold crL; rw [List.length_map, List.length_range]; omega
        · rw [crL_succ t (i + 1), List.map_append]; rfl
    · obtain ⟨x, rfl⟩ := iv
      exact sr_retL rfl rfl
abbrev s__law_events : Stmt := topS 35
abbrev N__law_events : List Str := ["trace", "at", "event"]
theorem sc__law_events : FnScope N__law_events ["trace"] (defScope s__law_events) := ⟨rfl, rfl, rfl, by decide +kernel, rfl, by decide +kernel, by decide +kernel⟩
def R__law_events : List PyData → PyData → Prop := fun ds d => ∃ (t : List Evt), ds = [encT t] ∧ t.length ≤ 1000 ∧ d = .list ((crP t).map fun p => .int (p.2 : Nat))
theorem ok__law_events {f : Addr} {fd : FuncData} (M : Md mg)  (F : Fun K "_law_events" "_law_events" s__law_events f fd) : FnOk Pr w K mg base CX0 1 f fd ["trace"] (spD K R__law_events) := by
  refine okD (k := 0) F sc__law_events (fun ds d h => ?_) (fun ds d h cdv A outer s H E hr => ⟨_, (pss_one (ps_ret (pe_lc (own := [("at", 1), ("event", 2)]) (wi := (iEnumT K (tCons (tVar 0) tNil))) (g := (gTup K 2 (gCons (gName 1) (gCons (gName 2) gNil)))) (tt := (tTest (tOp (rIn K false) (tOp (rIxT K) (tVar 2) (tC (.int 0))) (tTupN (tCons (tC (.str "enter")) (tCons (tC (.str "tail")) tNil)))))) (te := (tVar 1)) (by rfl) sc__law_events.nd (pi_enumT (by rfl) M.enumerate (pa_cons (pv 0) pa_nil)) (blkOk_by (own := [("at", 1), ("event", 2)]) (N := N__law_events) (sc := defScope s__law_events) (by decide +kernel)) (fun _ _ _ _ _ => (pg_tup rfl (pgs_cons (pg_name (i := 1) sc__law_events.nd rfl (Or.inl rfl)) (pgs_cons (pg_name (i := 2) sc__law_events.nd rfl (Or.inl rfl)) pgs_nil)))) (fun _ _ _ _ _ => (pts_one (pt_cmpR op_in_seq (pe_ix ix_tup (pv 2) pe_int (fun _ _ => rfl)) (pe_tupN (pa_cons pe_str (pa_cons pe_str pa_nil))) (by rfl)))) (fun _ _ _ _ _ => (pv 1))))), ?_⟩)
  · obtain ⟨x, rfl, _⟩ := h
    rfl
  · obtain ⟨t, rfl, tl, rfl⟩ := h
    have lc := ef_lc (K := K) (ρ := env0 N__law_events [encT t]) (wi := (iEnumT K (tCons (tVar 0) tNil))) (g := (gTup K 2 (gCons (gName 1) (gCons (gName 2) gNil)))) (vs := [1, 2]) (tt := (tTest (tOp (rIn K false) (tOp (rIxT K) (tVar 2) (tC (.int 0))) (tTupN (tCons (tC (.str "enter")) (tCons (tC (.str "tail")) tNil)))))) (te := (tVar 1)) (fun i => (crP (t.take i)).map fun p => .int (p.2 : Nat)) (ei_enT (ds := t.map encE) (er_v 0) (immAll_encE t)).c rfl (fun i d hd => by
      obtain ⟨d', hd', rfl⟩ := enumD_of hd
      rw [List.getElem?_map] at hd'
      cases q : t[i]? with
      | none => rw [q] at hd'; cases hd'
      | some e =>
        rw [q] at hd'
        cases hd'
        refine ⟨_, _, creates e, tg_tup (tgs_cons (tg_name 1) (tgs_cons (tg_name 2) tgs_nil)), by simp, et_test (in_kinds (er_v 2)), fun hc => ⟨.int (i : Nat), er_v 1, rfl, ?_⟩, fun hc => ?_⟩
        · unfold crP
          rw [zipIdx_take q, List.filter_append, List.map_append]; simp [List.filter_cons, hc]
        · unfold crP
          rw [zipIdx_take q, List.filter_append, List.map_append]; simp [List.filter_cons, hc]) (by rw [enumD_len, List.length_map]; omega)
    refine sr_ret lc ?_
    show PyData.list _ = PyData.list _
    rw [enumD_len, List.length_map, List.take_length]
abbrev s__law_totals : Stmt := topS 36
abbrev N__law_totals : List Str := ["trace", "rows", "many", "stack"]
theorem sc__law_totals : FnScope N__law_totals ["trace", "rows"] (defScope s__law_totals) := ⟨rfl, rfl, rfl, by decide +kernel, rfl, by decide +kernel, by decide +kernel⟩
def R__law_totals : List PyData → PyData → Prop := fun ds d => ∃ (t : List Evt) (ss : List (List Int)), ds = [encT t, .list (ss.map encS)] ∧ t.length ≤ 1000 ∧ ss.length = t.length + 1 ∧ d = .list ((totS t ss).map .int)
theorem ok__law_totals {f : Addr} {fd : FuncData} (M : Md mg) (C__law_created : Cal Pr w K mg base 1 "_law_created" (spD K R__law_created)) (F : Fun K "_law_totals" "_law_totals" s__law_totals f fd) : FnOk Pr w K mg base CX0 2 f fd ["trace", "rows"] (spD K R__law_totals) := by
  refine okD (k := 1) F sc__law_totals (fun ds d h => ?_) (fun ds d h cdv A outer s H E hr => ⟨_, (pss_one (ps_ret (pe_lc (own := [("many", 2), ("stack", 3)]) (wi := (iZip K (tCons (tCall (spD K R__law_created) [] E0 (tCons (tVar 0) tNil)) (tCons (tVar 1) tNil)))) (g := (gTup K 2 (gCons (gName 2) (gCons (gName 3) gNil)))) (tt := tYes) (te := (tOp (rI0 fun i j => .int (i - j)) (tVar 2) (tCB (fun xs H Q => ∃ x n, xs = [x] ∧ LenV K x H n ∧ Q (.int n) H) (tCons (tVar 3) tNil)))) (by rfl) sc__law_totals.nd (pi_zip (by rfl) M.zip (pa_cons (pe_cal C__law_created hr (by decide) (by rfl) (pa_cons (pv 0) pa_nil)) (pa_cons (pv 1) pa_nil))) (blkOk_by (own := [("many", 2), ("stack", 3)]) (N := N__law_totals) (sc := defScope s__law_totals) (by decide +kernel)) (fun _ _ _ _ _ => (pg_tup rfl (pgs_cons (pg_name (i := 2) sc__law_totals.nd rfl (Or.inl rfl)) (pgs_cons (pg_name (i := 3) sc__law_totals.nd rfl (Or.inl rfl)) pgs_nil)))) (fun _ _ _ _ _ => pts_nil) (fun _ _ _ _ _ => (pe_op op_sub (pv 2) (pe_callB call_len (by rfl) M.len PySem.boot_len (pa_cons (pv 3) pa_nil))))))), ?_⟩)
  · obtain ⟨x, y, rfl, _⟩ := h
    rfl
  · obtain ⟨t, ss, rfl, tl, sl', rfl⟩ := h
    have cl : ((crL t (t.length + 1)).map PyData.int).length = (ss.map encS).length := by rw [List.length_map, List.length_map]; unfold crL; rw [List.length_map, List.length_range, sl']
    have lc := ef_lc (K := K) (ρ := env0 N__law_totals [encT t, .list (ss.map encS)]) (wi := (iZip K (tCons (tCall (spD K R__law_created) [] E0 (tCons (tVar 0) tNil)) (tCons (tVar 1) tNil)))) (g := (gTup K 2 (gCons (gName 2) (gCons (gName 3) gNil)))) (vs := [2, 3]) (tt := tYes) (te := (tOp (rI0 fun i j => .int (i - j)) (tVar 2) (tCB (fun xs H Q => ∃ x n, xs = [x] ∧ LenV K x H n ∧ Q (.int n) H) (tCons (tVar 3) tNil)))) (fun i => (totS t (ss.take i)).map .int) (ec_zip (er_call (ea_cons (er_v 0) ea_nil) ⟨t, rfl, tl, rfl⟩) (er_v 1) cl (immAll_ints _) (immAll_encS ss)) rfl (fun i d hd => by
      unfold zipD at hd
      rw [List.getElem?_map] at hd
      cases q : (((crL t (t.length + 1)).map PyData.int).zip (ss.map encS))[i]? with
      | none => rw [q] at hd; cases hd
      | some p =>
        rw [q] at hd
        cases hd
        obtain ⟨q1, q2⟩ := List.getElem?_zip_eq_some.mp q
        rw [List.getElem?_map] at q1 q2
        cases q3 : ss[i]? with
        | none => rw [q3] at q2; cases q2
        | some s =>
          rw [q3] at q2
          have hi : i < ss.length := (List.getElem?_eq_some_iff.mp q3).1
          have hci : (crL t (t.length + 1))[i]? = some ((cr t i : Nat) : Int) := by
            unfold crL
            rw [List.getElem?_map, List.getElem?_range (by omega)]; rfl
          rw [hci] at q1
          have p1 : p.1 = .int (cr t i : Nat) := (Option.some.inj q1).symm
          have p2 : p.2 = encS s := (Option.some.inj q2).symm
          dsimp only
          rw [p1, p2]
          refine ⟨_, _, true, tg_tup (tgs_cons (tg_name 2) (tgs_cons (tg_name 3) tgs_nil)), by simp, fun _ _ H _ _ q => q H (Ex.refl H), fun _ => ⟨_, er_sub (er_v 2) (er_lenT (er_v 3 (d := .tuple (s.map .int)))), rfl, ?_⟩, fun z => nomatch z⟩
          rw [totS_take q3, List.map_append, List.length_map]; rfl) (by unfold zipD; rw [List.length_map, List.length_zip, cl, List.length_map]; omega)
    refine sr_ret lc ?_
    show PyData.list _ = PyData.list _
    rw [show (zipD ((crL t (t.length + 1)).map PyData.int) (ss.map encS)).length = ss.length by unfold zipD; rw [List.length_map, List.length_zip, cl, Nat.min_self, List.length_map], List.take_length]
end
end Lx

set_option Elab.async false
set_option linter.all false
set_option maxRecDepth 100000
set_option maxHeartbeats 1000000
namespace Lx
open PySem PySem.Spec PyProof.Rows L2
open Evl (Ex)
theorem valid_after {t : List Evt} {c : List Int} {ss : List (List Int)} (hc : c.length = t.length + 1) (h : runS t c = some ss) {i : Nat} {e : Evt} (q : t[i]? = some e) : ∃ r, after (ss.getD i []) e (cr t i : Nat) = some r := by
  have hi : i < t.length := (List.getElem?_eq_some_iff.mp q).1
  have sl := (run_good rfl h).2
  have hu : c[i + 1]? = some c[i + 1] := List.getElem?_eq_getElem (by omega)
  have r1 := run_part h (i + 1) (by omega)
  have r2 := run_part h (i + 1 + 1) (by omega)
  rw [runS_take hu, r1] at r2
  obtain ⟨s, n1, _⟩ := stepS_some r2
  have hs : ss[i]? = some (ss.getD i []) := by rw [List.getD_eq_getElem?_getD, List.getElem?_eq_getElem (by omega)]; rfl
  have lt : (ss.take i).length = i := by rw [List.length_take]; omega
  rw [take_succ_of hs, nextS_snoc (e := e) (by rw [lt]; exact q), lt] at n1
  exact ⟨s, n1⟩
theorem atI_last2 {α : Type} (xs : List α) (u v : α) : atI (xs ++ [u] ++ [v]) (-2) = some u := by
  unfold atI ixN
  rw [if_neg (by omega), if_pos (by rw [List.length_append, List.length_append]; show -(((xs.length + 1 + 1 : Nat)) : Int) ≤ -2; omega)]
  show (xs ++ [u] ++ [v])[(-2 + (((xs ++ [u] ++ [v]).length : Nat) : Int)).toNat]? = some u
  rw [show (-2 + (((xs ++ [u] ++ [v]).length : Nat) : Int)).toNat = xs.length by rw [List.length_append, List.length_append]; show (-2 + ((xs.length + 1 + 1 : Nat) : Int)).toNat = _; omega]
  rw [List.append_assoc, List.getElem?_append_right (Nat.le_refl _), Nat.sub_self]; rfl
/-- the frame that is made, on what lies below it -/
theorem after_makes {st : List Int} {e : Evt} {c : Int} (hc : creates e = true) (h : ∃ c' r, after st e c' = some r) : ∃ b, after st e c = some (b ++ [c]) ∧ callerOf st e = b.getLast? ∧ b.length ≤ st.length := by
  cases e with
  | enter n => exact ⟨st, rfl, rfl, Nat.le_refl _⟩
  | tail n =>
    obtain ⟨c', r, h⟩ := h
    have hne : st ≠ [] := fun z => by subst z; cases h
    refine ⟨st.dropLast, ?_, rfl, by rw [List.length_dropLast]; omega⟩
    simp only [after, if_neg hne]
  | exit n => cases hc
  | caught n => cases hc
  | mark => cases hc
theorem sh_intsL (ns : List Int) : SeqAt.shaped (.list (ns.map .int)) = true := by
  show (PyData.canLayAll0 (ns.map .int) && decide (PyData.depthAll (ns.map .int) + 1 ≤ 64)) = true
  rw [canLay_ints, depth_ints]; rfl
theorem cr_take {t : List Evt} {m i : Nat} (h : i ≤ m) : cr (t.take m) i = cr t i := by
  unfold cr
  rw [List.take_take, Nat.min_eq_left h]
theorem Tr.take {t : List Evt} (T : Tr t) (m : Nat) : Tr (t.take m) := by
  have tl := T.len
  refine ⟨by rw [List.length_take]; omega, ?_, fun i e h => ?_⟩
  · rw [cr_take (by rw [List.length_take]; omega)]
    exact cr_le T _
  · have hi : i < (t.take m).length := (List.getElem?_eq_some_iff.mp h).1
    rw [List.length_take] at hi
    rw [List.getElem?_take, if_pos (by omega)] at h
    rw [cr_take (by omega)]
    exact T.ok i e h
theorem nextS_take {t : List Evt} {m : Nat} {ss : List (List Int)} (h : ss.length ≤ m) : nextS (t.take m) ss = nextS t ss := by
  unfold nextS
  cases hz : ss.getLast? with
  | none => rfl
  | some s =>
    have hn : ss ≠ [] := fun e => by rw [e] at hz; cases hz
    have hpos : 0 < ss.length := List.length_pos_iff.mpr hn
    show (match (t.take m)[ss.length - 1]? with | none => none | some e => after s e (cr (t.take m) (ss.length - 1) : Nat)) = (match t[ss.length - 1]? with | none => none | some e => after s e (cr t (ss.length - 1) : Nat))
    rw [List.getElem?_take, if_pos (by omega), cr_take (by omega)]
theorem runS_prefix {t : List Evt} {m : Nat} : ∀ {n : Nat} {c : List Int}, c.length = n → n ≤ m + 1 → runS (t.take m) c = runS t c := by
  intro n
  induction n with
  | zero =>
    intro c hl _
    rw [List.eq_nil_of_length_eq_zero hl]; rfl
  | succ n ih =>
    intro c hl hm
    obtain ⟨d, u, rfl⟩ : ∃ d u, c = d ++ [u] := ⟨c.dropLast, c.getLast (fun e => by rw [e] at hl; cases hl), (List.dropLast_concat_getLast _).symm⟩
    rw [List.length_append] at hl
    have hd : d.length = n := by simpa using hl
    rw [runS_snoc, runS_snoc, ih hd (by omega)]
    cases q : runS t d with
    | none => rfl
    | some ss =>
      show stepS (t.take m) ss u = stepS t ss u
      unfold stepS
      rw [nextS_take (by rw [(run_good rfl q).2]; omega)]
theorem rowsL_prefix {t : List Evt} {m : Nat} {c : List Int} (hm : m ≤ t.length) (hc : c.length = m + 1) : rowsL (t.take m) c = runS t c := by
  unfold rowsL
  rw [runS_prefix rfl (by omega)]
  cases runS t c with
  | none => rfl
  | some ss =>
    show (if c.length ≤ (t.take m).length then _ else some ss) = some ss
    rw [if_neg (by rw [List.length_take]; omega)]
theorem rowsL_len {t : List Evt} {c : List Int} {rs : List (List Int)} (h : rowsL t c = some rs) : rs.length = c.length := by
  unfold rowsL at h
  cases q : runS t c with
  | none => rw [q] at h; cases h
  | some ss =>
    rw [q] at h
    have l := (run_good rfl q).2
    have e : rs = ss := by
      have h' : (if c.length ≤ t.length then (nextS t ss).map (fun _ => ss) else some ss) = some rs := h
      split at h'
      · cases hn : nextS t ss with
        | none => rw [hn] at h'; cases h'
        | some s => rw [hn] at h'; exact (Option.some.inj h').symm
      · exact (Option.some.inj h').symm
    rw [e, l]
section
variable {Pr : Program} {w : World} {K : PySem.W.Frag} {mg : Str → Option Value} {base : Heap}
theorem ef_catL {ρ : En} {tb : TE} {i : Nat} {ds es : List PyData} (hl : ρ[i]? = some (some (.lst ds))) (hb : EvF K tb ρ (.list es)) (hz : ds.length + es.length ≤ 100000) : EvF K (tOp rCat (tVar i) tb) ρ (.list (ds ++ es)) := fun H0 σ H o Q q => by
  obtain ⟨p, vs, a, h0, hp, al, im⟩ := o.lst i ds hl
  refine ⟨.ref p, a, hb H0 σ H o _ fun w H1 e1 r => ?_⟩
  rcases r with ⟨z, _⟩ | ⟨es', p2, ws, e2, rfl, hn, hp2, al2, im2⟩
  · simp [imm] at z
  · cases e2
    refine ⟨p, p2, vs, ws, rfl, rfl, e1 _ _ hp, hp2, Evl.sz_of (by rw [dpAll_len al, dpAll_len al2]; exact hz), fun p3 h3 => ?_⟩
    exact q _ _ (e1.trans (Evl.Ex.new h3)) (.inr ⟨_, p3, _, rfl, rfl, Evl.fresh_back e1 h3, upd_same, dpAll_ex (Evl.Ex.new h3) (dpAll_append (dpAll_ex e1 al) al2), immAll_append im im2⟩)
/-! ### _law_callers -/
abbrev s__law_callers : Stmt := topS 39
abbrev N__law_callers : List Str := ["trace", "rows", "found", "frame", "at", "stack"]
theorem sc__law_callers : FnScope N__law_callers ["trace", "rows"] (defScope s__law_callers) := ⟨rfl, rfl, rfl, by decide +kernel, rfl, by decide +kernel, by decide +kernel⟩
def R__law_callers : List PyData → PyData → Prop := fun ds d => ∃ (t : List Evt) (c : List Int) (ss : List (List Int)), ds = [encT t, .list (ss.map encS)] ∧ Tr t ∧ c.length = t.length + 1 ∧ runS t c = some ss ∧ d = .list (callS t ss (crP t))
theorem imm_evs (ps : List (Evt × Nat)) : immAll (ps.map fun p => PyData.int (p.2 : Nat)) = true := immAll_iff.mpr fun d hd => by
  obtain ⟨p, _, rfl⟩ := List.mem_map.mp hd
  rfl
theorem ok__law_callers {f : Addr} {fd : FuncData} (M : Md mg) (C__law_after : Cal Pr w K mg base 1 "_law_after" (spD K R__law_after)) (C__law_events : Cal Pr w K mg base 1 "_law_events" (spD K R__law_events)) (F : Fun K "_law_callers" "_law_callers" s__law_callers f fd) : FnOk Pr w K mg base CX0 2 f fd ["trace", "rows"] (spD K R__law_callers) := by
  refine okD (k := 1) F sc__law_callers (fun ds d h => ?_) (fun ds d h cdv A outer s H E hr => ⟨_, (pss_cons (ps_set (i := 2) sc__law_callers.nd rfl (Or.inl rfl) (pe_lst pa_nil)) (pss_cons (ps_for PassesOwn.never rfl (pi_enum (by rfl) M.enumerate (pa_cons (pe_cal C__law_events hr (by decide) (by rfl) (pa_cons (pv 0) pa_nil)) pa_nil)) (pg_tup rfl (pgs_cons (pg_name (i := 3) sc__law_callers.nd rfl (Or.inl rfl)) (pgs_cons (pg_name (i := 4) sc__law_callers.nd rfl (Or.inl rfl)) pgs_nil))) (pss_cons (ps_set (i := 5) sc__law_callers.nd rfl (Or.inl rfl) (pe_cal C__law_after hr (by decide) (by rfl) (pa_cons (pe_ix ix_list (pv 1) (pv 4) (fun _ _ => rfl)) (pa_cons (pe_ix ix_tup (pv 0) (pv 4) (fun _ _ => rfl)) (pa_cons (pv 3) pa_nil))))) (pss_one (ps_expr (pe_bm PySem.F.plainAttrs_list PySem.F.slot_list_append PySem.F.type_list_append mt_append (pv 2) (pa_cons (pe_ifExp (pt_cmpR op_gt (pe_callB call_len (by rfl) M.len PySem.boot_len (pa_cons (pv 5) pa_nil)) pe_int (nomark _)) (pe_ix ix_tup (pv 5) (pe_un un_neg pe_int) (fun _ _ => rfl)) pe_non) pa_nil)))))) (pss_one (ps_ret (pv 2))))), ?_⟩)
  · obtain ⟨x, y, z, rfl, _⟩ := h
    rfl
  · obtain ⟨t, c, ss, rfl, T, hc, hr', rfl⟩ := h
    have tl := T.len
    obtain ⟨g, sl'⟩ := run_good rfl hr'
    have cl := crP_len t
    refine sr_set (ef_lst ea_nil rfl) ?_
    refine sr_for (fun i ρ' => ∃ a b x, ρ' = [some (.dat (encT t)), some (.dat (.list (ss.map encS))), some (.lst (callS t ss ((crP t).take i))), a, b, x]) (fun ρ' => ∃ a b x, ρ' = [some (.dat (encT t)), some (.dat (.list (ss.map encS))), some (.lst (callS t ss (crP t))), a, b, x])
      (ei_en (stab_f (ef_call (ea_cons (er_v 0) ea_nil) ⟨t, rfl, by omega, rfl⟩) (imm_evs _))) ⟨none, none, none, rfl⟩ (fun i d ρ' hd iv => ?_) (fun ρ' iv => ?_) (fun ρ' iv => ?_)
    · obtain ⟨d', hd', rfl⟩ := enumD_of hd
      rw [List.getElem?_map] at hd'
      cases q : (crP t)[i]? with
      | none => rw [q] at hd'; cases hd'
      | some p =>
        rw [q] at hd'
        cases hd'
        obtain ⟨a, b, x, rfl⟩ := iv
        obtain ⟨p1, p2⟩ := crP_of (List.mem_of_getElem? q)
        have hi : p.2 < t.length := (List.getElem?_eq_some_iff.mp p1).1
        have hii : i < (crP t).length := (List.getElem?_eq_some_iff.mp q).1
        have hs : ss[p.2]? = some (ss.getD p.2 []) := by rw [List.getD_eq_getElem?_getD, List.getElem?_eq_getElem (by omega)]; rfl
        obtain ⟨r, hr2⟩ := valid_after hc hr' p1
        obtain ⟨bb, b1, b2, b3⟩ := after_makes (c := (i : Nat)) p2 ⟨_, r, hr2⟩
        have hg := (good_le T g _ (List.mem_of_getElem? hs)).2
        refine ⟨_, _, tg_tup (tgs_cons (tg_name 3) (tgs_cons (tg_name 4) tgs_nil)), sr_set (d := .tuple ((bb ++ [((i : Nat) : Int)]).map .int)) (ef_call (ea_cons (er_ixL (er_v 1 (d := .list (ss.map encS))) (er_v 4) (d := encS (ss.getD p.2 [])) ?_) (ea_cons (er_ixT (er_v 0 (d := .tuple (t.map encE))) (er_v 4) (d := encE p.1) ?_) (ea_cons (er_v 3) ea_nil))) ⟨_, _, _, rfl, hg, by rw [b1]; rfl⟩) (sr_app1 (ds := callS t ss ((crP t).take i)) (d := optI (callerOf (ss.getD p.2 []) p.1)) rfl (er_if (et_test (er_gt (er_lenT (er_v 5 (d := .tuple ((bb ++ [((i : Nat) : Int)]).map .int)))) er_int)) (fun h => ?_) (fun h => ?_)) (imm_optI _) ?_ ⟨some (.dat (.int (i : Nat))), some (.dat (.int (p.2 : Nat))), some (.dat (.tuple ((bb ++ [((i : Nat) : Int)]).map .int))), ?_⟩)⟩
        · exact atI_nat (by rw [List.getElem?_map, hs]; rfl)
        · exact atI_nat (by rw [List.getElem?_map, p1]; rfl)
        · have h' := of_decide_eq_true h
          rw [List.length_map, List.length_append] at h'
          have h'' : (1 : Int) < ((bb.length + 1 : Nat) : Int) := h'
          have hb : bb ≠ [] := fun z => by subst z; exact absurd h'' (by decide)
          obtain ⟨ys, z, rfl⟩ : ∃ ys z, bb = ys ++ [z] := ⟨bb.dropLast, bb.getLast hb, (List.dropLast_concat_getLast hb).symm⟩
          rw [b2, List.getLast?_concat]
          refine er_ixT (er_v 5 (d := .tuple ((ys ++ [z] ++ [((i : Nat) : Int)]).map .int))) (er_neg er_int) ?_
          rw [List.map_append, List.map_append]
          exact atI_last2 _ _ _
        · have h' := of_decide_eq_false h
          rw [List.length_map, List.length_append] at h'
          have hb : bb = [] := List.eq_nil_of_length_eq_zero (by
            have : ¬ (1 : Int) < ((bb.length + 1 : Nat) : Int) := h'
            omega)
          rw [b2, hb]
          exact er_non
        · unfold callS; rw [List.length_map, List.length_take]; omega
        · have e : callS t ss ((crP t).take (i + 1)) = callS t ss ((crP t).take i) ++ [optI (callerOf (ss.getD p.2 []) p.1)] := by
            rw [take_succ_of q]
            unfold callS
            rw [List.map_append]; rfl
          rw [e]; rfl
    · obtain ⟨a, b, x, rfl⟩ := iv
      rw [enumD_len, List.length_map, List.take_length]
      exact ⟨a, b, x, rfl⟩
    · obtain ⟨a, b, x, rfl⟩ := iv
      exact sr_retL rfl rfl
/-! ### _law_ends -/
abbrev s__law_ends : Stmt := topS 40
abbrev N__law_ends : List Str := ["trace", "rows", "found", "frame", "at", "later", "moment"]
theorem sc__law_ends : FnScope N__law_ends ["trace", "rows"] (defScope s__law_ends) := ⟨rfl, rfl, rfl, by decide +kernel, rfl, by decide +kernel, by decide +kernel⟩
def R__law_ends : List PyData → PyData → Prop := fun ds d => ∃ (t : List Evt) (ss : List (List Int)), ds = [encT t, .list (ss.map encS)] ∧ t.length ≤ 100 ∧ ss.length ≤ 1000 ∧ d = .list (endsS ss (crP t))
theorem lat_len (f : Int) (ss : List (List Int)) (m : Nat) : (lat f ss m).length ≤ ss.length := by
  unfold lat
  have := List.length_filter_le (fun m => decide (f ∉ ss.getD m [])) (List.range' m (ss.length - m))
  rw [List.length_range'] at this
  omega
theorem ok__law_ends {f : Addr} {fd : FuncData} (M : Md mg) (C__law_events : Cal Pr w K mg base 1 "_law_events" (spD K R__law_events)) (F : Fun K "_law_ends" "_law_ends" s__law_ends f fd) : FnOk Pr w K mg base CX0 2 f fd ["trace", "rows"] (spD K R__law_ends) := by
  refine okD (k := 1) F sc__law_ends (fun ds d h => ?_) (fun ds d h cdv A outer s H E hr => ⟨_, (pss_cons (ps_set (i := 2) sc__law_ends.nd rfl (Or.inl rfl) (pe_lst pa_nil)) (pss_cons (ps_for PassesOwn.never rfl (pi_enum (by rfl) M.enumerate (pa_cons (pe_cal C__law_events hr (by decide) (by rfl) (pa_cons (pv 0) pa_nil)) pa_nil)) (pg_tup rfl (pgs_cons (pg_name (i := 3) sc__law_ends.nd rfl (Or.inr rfl)) (pgs_cons (pg_name (i := 4) sc__law_ends.nd rfl (Or.inl rfl)) pgs_nil))) (pss_cons (ps_setLc (i := 5) (own := [("moment", 6)]) (wi := (iRng2 (tCons (tOp (rI0 fun i j => .int (i + j)) (tVar 4) (tC (.int 1))) (tCons (tCB (fun xs H Q => ∃ x n, xs = [x] ∧ LenV K x H n ∧ Q (.int n) H) (tCons (tVar 1) tNil)) tNil)))) (g := (gName 6)) (tt := (tTest (tOp (rIn K true) (tVar 3) (tOp (rIxL K) (tVar 1) (tVar 6))))) (te := (tVar 6)) (by rfl) sc__law_ends.nd rfl rfl (sw_true rfl rfl rfl (by decide +kernel)) (pi_range2 (by rfl) M.range (pa_cons (pe_op op_add (pv 4) pe_int) (pa_cons (pe_callB call_len (by rfl) M.len PySem.boot_len (pa_cons (pv 1) pa_nil)) pa_nil))) (blkOk_by (own := [("moment", 6)]) (N := N__law_ends) (sc := defScope s__law_ends) (by decide +kernel)) (fun _ _ _ _ _ => (pg_name (i := 6) sc__law_ends.nd rfl (Or.inl rfl))) (fun _ _ _ _ _ => (pts_one (pt_cmpR op_notIn_seq (pv 3) (pe_ix ix_list (pv 1) (pv 6) (fun _ _ => rfl)) (by rfl)))) (fun _ _ _ _ _ => (pv 6))) (pss_one (ps_expr (pe_bm PySem.F.plainAttrs_list PySem.F.slot_list_append PySem.F.type_list_append mt_append (pv 2) (pa_cons (pe_ifExp (pt_cmpR (op_neD hr.units) (pv 5) (pe_lst pa_nil) (nomark _)) (pe_ix ix_list (pv 5) pe_int (fun _ _ => rfl)) pe_non) pa_nil)))))) (pss_one (ps_ret (pv 2))))), ?_⟩)
  · obtain ⟨x, y, rfl, _⟩ := h
    rfl
  · obtain ⟨t, ss, rfl, tl, sl', rfl⟩ := h
    have cl := crP_len t
    refine sr_set (ef_lst ea_nil rfl) ?_
    refine sr_for (fun i ρ' => ∃ a b x y, ρ' = [some (.dat (encT t)), some (.dat (.list (ss.map encS))), some (.lst (endsS ss ((crP t).take i))), a, b, x, y]) (fun ρ' => ∃ a b x y, ρ' = [some (.dat (encT t)), some (.dat (.list (ss.map encS))), some (.lst (endsS ss (crP t))), a, b, x, y])
      (ei_en (stab_f (ef_call (ea_cons (er_v 0) ea_nil) ⟨t, rfl, by omega, rfl⟩) (imm_evs _))) ⟨none, none, none, none, rfl⟩ (fun i d ρ' hd iv => ?_) (fun ρ' iv => ?_) (fun ρ' iv => ?_)
    · obtain ⟨d', hd', rfl⟩ := enumD_of hd
      rw [List.getElem?_map] at hd'
      cases q : (crP t)[i]? with
      | none => rw [q] at hd'; cases hd'
      | some p =>
        rw [q] at hd'
        cases hd'
        obtain ⟨a, b, x, y, rfl⟩ := iv
        obtain ⟨p1, p2⟩ := crP_of (List.mem_of_getElem? q)
        have hi : p.2 < t.length := (List.getElem?_eq_some_iff.mp p1).1
        have hii : i < (crP t).length := (List.getElem?_eq_some_iff.mp q).1
        refine ⟨_, _, tg_tup (tgs_cons (tg_name 3) (tgs_cons (tg_name 4) tgs_nil)), ?_⟩
        have rng := (ei_rng2 (K := K) (ρ := [some (.dat (encT t)), some (.dat (.list (ss.map encS))), some (.lst (endsS ss ((crP t).take i))), some (.dat (.int (i : Nat))), some (.dat (.int (p.2 : Nat))), x, y]) (m := ((p.2 : Nat) : Int) + 1) (n := (((ss.map encS).length : Nat) : Int)) (ea_cons (er_add (er_v 4) er_int) (ea_cons (er_lenL (er_v 1 (d := .list (ss.map encS)))) ea_nil)) (by omega) (by rw [List.length_map]; omega)).c
        rw [List.length_map, show (((ss.length : Nat) : Int) - (((p.2 : Nat) : Int) + 1)).toNat = ss.length - (p.2 + 1) by omega] at rng
        have lc := ef_lc (wi := (iRng2 (tCons (tOp (rI0 fun i j => .int (i + j)) (tVar 4) (tC (.int 1))) (tCons (tCB (fun xs H Q => ∃ x n, xs = [x] ∧ LenV K x H n ∧ Q (.int n) H) (tCons (tVar 1) tNil)) tNil)))) (g := (gName 6)) (vs := [6]) (tt := (tTest (tOp (rIn K true) (tVar 3) (tOp (rIxL K) (tVar 1) (tVar 6))))) (te := (tVar 6)) (fun j => ((List.range' (p.2 + 1) j).filter (fun m => decide (((i : Nat) : Int) ∉ ss.getD m []))).map fun (n : Nat) => .int (n : Int)) rng rfl (fun j d hd => by
          obtain ⟨hj, rfl⟩ := rngD_of hd
          have hs : ss[p.2 + 1 + j]? = some (ss.getD (p.2 + 1 + j) []) := by rw [List.getD_eq_getElem?_getD, List.getElem?_eq_getElem (by omega)]; rfl
          refine ⟨_, _, decide (((i : Nat) : Int) ∉ ss.getD (p.2 + 1 + j) []), tg_name 6, by simp, et_test (er_is (er_inS (er_v 3) (er_ixL (er_v 1 (d := .list (ss.map encS))) (er_v 6) (d := encS (ss.getD (p.2 + 1 + j) [])) ?_) (.inl rfl) rfl (flat_ints _)) ?_), fun hc => ⟨_, er_v 6, rfl, ?_⟩, fun hc => ?_⟩
          · rw [show ((p.2 : Nat) : Int) + 1 + (j : Nat) = ((p.2 + 1 + j : Nat) : Int) by omega]
            exact atI_nat (by rw [List.getElem?_map, hs]; rfl)
          · show PyData.bool (!List.any _ _) = _
            rw [any_ints]
            congr 1
            simp
          · rw [← List.range'_append_1, List.filter_append, List.map_append, show List.range' (p.2 + 1 + j) 1 = [p.2 + 1 + j] from rfl, List.filter_cons]
            simp only [hc, if_true]
            congr 1
          · rw [← List.range'_append_1, List.filter_append, List.map_append, show List.range' (p.2 + 1 + j) 1 = [p.2 + 1 + j] from rfl, List.filter_cons]
            simp only [hc]
            simp) (by rw [rngD_len]; omega)
        rw [rngD_len] at lc
        refine sr_set (d := .list (((lat (i : Nat) ss (p.2 + 1)).map fun (n : Nat) => (n : Int)).map .int)) (ef_is lc (by rw [List.map_map]; rfl)) ?_
        refine sr_app1 (ds := endsS ss ((crP t).take i)) (d := optN (lat (i : Nat) ss (p.2 + 1)).head?) rfl (er_if (b := !decide (((lat (i : Nat) ss (p.2 + 1)).map fun (n : Nat) => (n : Int)) = [])) (et_test (er_is (er_neD (er_vl 5 (ds := ((lat (i : Nat) ss (p.2 + 1)).map fun (n : Nat) => (n : Int)).map .int)) (ef_lst ea_nil rfl).r (sh_intsL _) rfl) ?_)) (fun h => ?_) (fun h => ?_)) (imm_optI _) ?_ ⟨some (.dat (.int (i : Nat))), some (.dat (.int (p.2 : Nat))), some (.lst (((lat (i : Nat) ss (p.2 + 1)).map fun (n : Nat) => (n : Int)).map .int)), y, ?_⟩
        · show PyData.bool (!PyData.eqvAll _ ([].map .int)) = _
          rw [eqvAll_ints]
        · cases hl : lat (i : Nat) ss (p.2 + 1) with
          | nil => rw [hl] at h; cases h
          | cons m r => exact er_ixL (er_vl 5 (ds := (((m :: r)).map fun (n : Nat) => (n : Int)).map .int)) er_int (atI_nat (j := 0) rfl)
        · cases hl : lat (i : Nat) ss (p.2 + 1) with
          | nil => exact er_non
          | cons m r => rw [hl] at h; cases h
        · unfold endsS; rw [List.length_map, List.length_zipIdx, List.length_take]; omega
        · unfold endsS
          rw [zipIdx_take q, List.map_append]; rfl
    · obtain ⟨a, b, x, y, rfl⟩ := iv
      rw [enumD_len, List.length_map, List.take_length]
      exact ⟨a, b, x, y, rfl⟩
    · obtain ⟨a, b, x, y, rfl⟩ := iv
      exact sr_retL rfl rfl
end
end Lx

set_option Elab.async false
set_option linter.all false
set_option maxRecDepth 100000
set_option maxHeartbeats 1000000
namespace Lx
open PySem PySem.Spec PyProof.Rows L2
open Evl (Ex)
/-- where the search of the law stands behind i moments -/
def Sf (t : List Evt) (xs : List Int) (i : Nat) (cs : List Int) : Prop :=
  (∃ p s, ftS t (xs.take i) = some p ∧ p.2 = cs ∧ (i ≤ t.length → nextS t p.1 = some s)) ∨ (cs.length < i ∧ (∀ u ∈ cs, 0 ≤ u) ∧ ft t xs = none)
theorem ft_nn {t : List Evt} : ∀ {n : Nat} {xs : List Int} {p : List (List Int) × List Int}, xs.length = n → ftS t xs = some p → ∀ u ∈ p.2, 0 ≤ u := by
  intro n
  induction n with
  | zero =>
    intro c p hl h
    have e := List.eq_nil_of_length_eq_zero hl
    subst e
    cases h
    intro u hu
    cases hu
  | succ n ih =>
    intro c p hl h
    obtain ⟨d, u, rfl⟩ : ∃ d u, c = d ++ [u] := ⟨c.dropLast, c.getLast (fun e => by rw [e] at hl; cases hl), (List.dropLast_concat_getLast _).symm⟩
    rw [List.length_append] at hl
    have hd : d.length = n := by simpa using hl
    rw [ftS_snoc] at h
    cases q : ftS t d with
    | none => rw [q] at h; cases h
    | some p1 =>
      rw [q] at h
      obtain ⟨s, h1, h2, h3, rfl⟩ := stepT_some h
      intro v hv
      rcases List.mem_append.mp hv with z | z
      · exact ih hd q v z
      · rw [List.mem_singleton] at z
        omega
theorem Sf.le {t : List Evt} {xs : List Int} {i : Nat} {cs : List Int} (hi : i ≤ xs.length) (h : Sf t xs i cs) : cs.length ≤ i ∧ ∀ u ∈ cs, 0 ≤ u := by
  rcases h with ⟨p, s, h1, rfl, _⟩ | ⟨h1, h2, _⟩
  · have r := (ft_run rfl h1).2.1
    rw [List.length_take] at r
    exact ⟨by omega, ft_nn rfl h1⟩
  · exact ⟨by omega, h2⟩
/-- what makes a number of lost frames the right one -/
def Hit (t : List Evt) (p : List (List Int) × List Int) (s : List Int) (i : Nat) (x : Int) (l : Nat) : Prop :=
  l ≤ s.length ∧ ((cr t i : Nat) : Int) - ((s.length - l : Nat) : Int) = x ∧ (i = t.length ∨ (nextS t (p.1 ++ [s.take (s.length - l)])).isSome = true)
theorem hit_step {t : List Evt} {p : List (List Int) × List Int} {s : List Int} {x : Int} {l : Nat} (hn : nextS t p.1 = some s) (h1 : l ≤ s.length) (h2 : ((cr t p.1.length : Nat) : Int) - ((s.length - l : Nat) : Int) = x) :
    stepT t p x = some (p.1 ++ [s.take (s.length - l)], p.2 ++ [(l : Int)]) := by
  unfold stepT
  rw [hn]
  show (if _ then _ else _) = _
  have e : ((cr t p.1.length : Nat) : Int) - x = ((s.length - l : Nat) : Int) := by omega
  rw [e, if_pos ⟨by omega, by omega⟩, Int.toNat_natCast, show ((s.length : Nat) : Int) - ((s.length - l : Nat) : Int) = (l : Int) by omega]
/-- none was right: no completion has these totals -/
theorem no_hit {t : List Evt} (T : Tr t) {xs : List Int} (hx : xs.length = t.length + 1) {i : Nat} {x : Int} (q : xs[i]? = some x) {p : List (List Int) × List Int} {s : List Int} (hp : ftS t (xs.take i) = some p) (hn : nextS t p.1 = some s) (hl : s.length ≤ 10)
    (h : ∀ l, l < 11 → ¬ Hit t p s i x l) : ft t xs = none := by
  have hi : i < xs.length := (List.getElem?_eq_some_iff.mp q).1
  have pl : p.1.length = i := by
    have := (ft_run rfl hp).2.2
    rw [List.length_take] at this
    omega
  have nx := ftS_take (t := t) q
  rw [hp] at nx
  have none_of : ∀ j, ftS t (xs.take j) = none → ft t xs = none := fun j hj => by
    unfold ft
    rw [if_pos hx, ftS_none hj]; rfl
  by_cases hb : 0 ≤ ((cr t i : Nat) : Int) - x ∧ ((cr t i : Nat) : Int) - x ≤ (s.length : Nat)
  · have hh := h (s.length - (((cr t i : Nat) : Int) - x).toNat) (by omega)
    have st := hit_step (x := x) (l := s.length - (((cr t i : Nat) : Int) - x).toNat) hn (by omega) (by rw [pl]; omega)
    have e1 : ftS t (xs.take (i + 1)) = some (p.1 ++ [s.take (s.length - (s.length - (((cr t i : Nat) : Int) - x).toNat))], p.2 ++ [((s.length - (((cr t i : Nat) : Int) - x).toNat : Nat) : Int)]) := nx.trans st
    have hlt : i ≠ t.length := fun z => hh ⟨by omega, by omega, .inl z⟩
    cases hs : nextS t (p.1 ++ [s.take (s.length - (s.length - (((cr t i : Nat) : Int) - x).toNat))]) with
    | some z => exact absurd ⟨by omega, by omega, .inr (by rw [hs]; rfl)⟩ hh
    | none =>
      have hu : xs[i + 1]? = some xs[i + 1] := List.getElem?_eq_getElem (by omega)
      refine none_of (i + 1 + 1) ?_
      rw [ftS_take hu, e1]
      show stepT t _ _ = none
      unfold stepT
      show (match nextS t (p.1 ++ [_]) with | none => none | some s => _) = none
      rw [hs]
  · refine none_of (i + 1) (nx.trans ?_)
    show stepT t p x = none
    unfold stepT
    rw [hn]
    exact if_neg (by rw [pl]; exact hb)
section
variable {Pr : Program} {w : World} {K : PySem.W.Frag} {mg : Str → Option Value} {base : Heap}
abbrev s__law_from : Stmt := topS 41
abbrev N__law_from : List Str := ["trace", "numbers", "completion", "created", "moment", "lost", "rows", "later"]
theorem sc__law_from : FnScope N__law_from ["trace", "numbers"] (defScope s__law_from) := ⟨rfl, rfl, rfl, by decide +kernel, rfl, by decide +kernel, by decide +kernel⟩
def R__law_from : List PyData → PyData → Prop := fun ds d => ∃ (t : List Evt) (xs : List Int), ds = [encT t, .list (xs.map .int)] ∧ Tr t ∧ xs.length = t.length + 1 ∧ d = optS (ft t xs)
theorem sl_optL (o : Option (List (List Int))) : sl (optL o) = (match o with | none => .dat .none | some ss => .lst (ss.map encS)) := by cases o <;> rfl
theorem ok__law_from {f : Addr} {fd : FuncData} (M : Md mg) (C__law_rows : Cal Pr w K mg base 2 "_law_rows" (spD K R__law_rows)) (C__law_created : Cal Pr w K mg base 1 "_law_created" (spD K R__law_created)) (F : Fun K "_law_from" "_law_from" s__law_from f fd) : FnOk Pr w K mg base CX0 3 f fd ["trace", "numbers"] (spD K R__law_from) := by
  refine okD (k := 2) F sc__law_from (fun ds d h => ?_) (fun ds d h cdv A outer s H E hr => ⟨_, (pss_cons (ps_par (i := 2) (j := 3) (by rfl) sc__law_from.nd rfl rfl (by decide) rfl rfl (pa_cons (pe_lst pa_nil) (pa_cons (pe_cal C__law_created hr (by decide) (by rfl) (pa_cons (pv 0) pa_nil)) pa_nil)) (by rfl)) (pss_cons (ps_for PassesOwn.never rfl (pi_range1 (by rfl) M.range (pa_cons (pe_op op_add (pe_callB call_len (by rfl) M.len PySem.boot_len (pa_cons (pv 0) pa_nil)) pe_int) pa_nil)) (pg_name (i := 4) sc__law_from.nd rfl (Or.inl rfl)) (pss_one (ps_for PassesOwn.never rfl (pi_range1 (by rfl) M.range (pa_cons pe_int pa_nil)) (pg_name (i := 5) sc__law_from.nd rfl (Or.inl rfl)) (pss_cons (ps_set (i := 6) sc__law_from.nd rfl (Or.inl rfl) (pe_cal C__law_rows hr (by decide) (by rfl) (pa_cons (pe_slice sl_tupN (pv 0) po_none (po_some (pv 4))) (pa_cons (pe_callTy call_tupN (by rfl) M.tuple (by decide +kernel) (pa_cons (pe_op op_cat (pv 2) (pe_lst (pa_cons (pv 5) pa_nil))) pa_nil)) pa_nil)))) (pss_one (ps_if (PW.pt (pw_and (pt_cmpR op_notN (pv 6) pe_non (nomark _)) (pw_and1 (pt_cmpR (op_eqD hr.units) (pe_op op_sub (pe_ix ix_list (pv 3) (pv 4) (fun _ _ => rfl)) (pe_callB call_len (by rfl) M.len PySem.boot_len (pa_cons (pe_ix ix_list (pv 6) (pe_un un_neg pe_int) (fun _ _ => rfl)) pa_nil))) (pe_ix ix_list (pv 1) (pv 4) (fun _ _ => rfl)) (nomark _))))) (pss_cons (ps_set (i := 7) sc__law_from.nd rfl (Or.inl rfl) (pe_callTy call_tupN (by rfl) M.tuple (by decide +kernel) (pa_cons (pe_op op_cat (pv 2) (pe_lst (pa_cons (pv 5) (pa_cons pe_int pa_nil)))) pa_nil))) (pss_one (ps_if (PW.pt (pw_or (pt_cmpR (op_eqD hr.units) (pv 4) (pe_callB call_len (by rfl) M.len PySem.boot_len (pa_cons (pv 0) pa_nil)) (nomark _)) (pw_or1 (pt_cmpR op_notN (pe_cal C__law_rows hr (by decide) (by rfl) (pa_cons (pe_slice sl_tupN (pv 0) po_none (po_some (pe_op op_add (pv 4) pe_int))) (pa_cons (pv 7) pa_nil))) pe_non (nomark _))))) (pss_cons (ps_expr (pe_bm PySem.F.plainAttrs_list PySem.F.slot_list_append PySem.F.type_list_append mt_append (pv 2) (pa_cons (pv 5) pa_nil))) (pss_one ps_break)) pss_nil))) pss_nil)))))) (pss_one (ps_ret (pe_ifExp (pt_cmpR (op_eqD hr.units) (pe_callB call_len (by rfl) M.len PySem.boot_len (pa_cons (pv 2) pa_nil)) (pe_op op_add (pe_callB call_len (by rfl) M.len PySem.boot_len (pa_cons (pv 0) pa_nil)) pe_int) (nomark _)) (pe_callTy call_tupN (by rfl) M.tuple (by decide +kernel) (pa_cons (pv 2) pa_nil)) pe_non))))), ?_⟩)
  · obtain ⟨x, y, rfl, _⟩ := h
    rfl
  · obtain ⟨t, xs, rfl, T, hx, rfl⟩ := h
    have tl := T.len
    refine sr_par (ef_lst ea_nil rfl) (ef_call (ea_cons (er_v 0) ea_nil) ⟨t, rfl, by omega, rfl⟩) ?_
    have rng := ei_rng1 (K := K) (ρ := ((env0 N__law_from [encT t, .list (xs.map .int)]).set 2 (some (sl (.list [])))).set 3 (some (sl (.list ((crL t (t.length + 1)).map .int))))) (n := (((t.map encE).length : Nat) : Int) + 1) (ea_cons (er_add (er_lenT (er_v 0 (d := .tuple (t.map encE)))) er_int) ea_nil) (by rw [List.length_map]; omega)
    rw [List.length_map, show (((t.length : Nat) : Int) + 1).toNat = t.length + 1 by omega] at rng
    refine sr_for (fun i ρ' => ∃ cs a b c e, ρ' = [some (.dat (encT t)), some (.dat (.list (xs.map .int))), some (.lst (cs.map .int)), some (.lst ((crL t (t.length + 1)).map .int)), a, b, c, e] ∧ Sf t xs i cs)
      (fun ρ' => ∃ cs a b c e, ρ' = [some (.dat (encT t)), some (.dat (.list (xs.map .int))), some (.lst (cs.map .int)), some (.lst ((crL t (t.length + 1)).map .int)), a, b, c, e] ∧ Sf t xs (t.length + 1) cs)
      rng ⟨[], none, none, none, none, rfl, .inl ⟨([], []), [], rfl, rfl, fun _ => rfl⟩⟩ (fun i d ρ' hd iv => ?_) (fun ρ' iv => by rw [rngD_len] at iv; exact iv) (fun ρ' iv => ?_)
    · obtain ⟨hi, rfl⟩ := rngD_of hd
      rw [Int.zero_add]
      obtain ⟨cs, a, b, c, e, rfl, sf⟩ := iv
      obtain ⟨cl, cn⟩ := sf.le (by omega)
      have qx : xs[i]? = some xs[i] := List.getElem?_eq_getElem (by omega)
      have hci : (crL t (t.length + 1))[i]? = some ((cr t i : Nat) : Int) := by
        unfold crL
        rw [List.getElem?_map, List.getElem?_range (by omega)]; rfl
      refine ⟨_, _, tg_name 4, sr_for1 (fun j ρ' => ∃ b c e, ρ' = [some (.dat (encT t)), some (.dat (.list (xs.map .int))), some (.lst (cs.map .int)), some (.lst ((crL t (t.length + 1)).map .int)), some (.dat (.int (i : Nat))), b, c, e] ∧ ∀ p s, ftS t (xs.take i) = some p → p.2 = cs → nextS t p.1 = some s → ∀ l, l < j → ¬ Hit t p s i xs[i] l)
        (ei_rng1 (n := 11) (ea_cons er_int ea_nil) (by omega)) ⟨b, c, e, rfl, fun _ _ _ _ _ l hl => absurd hl (by omega)⟩ (fun j d ρ'' hd2 iv2 => ?_) (fun ρ'' iv2 => ?_)⟩
      · obtain ⟨hj, rfl⟩ := rngD_of hd2
        rw [Int.zero_add]
        have hj' : j < 11 := hj
        have emap : (cs ++ [((j : Nat) : Int)]).map PyData.int = cs.map PyData.int ++ [PyData.int (j : Nat)] := by rw [List.map_append]; rfl
        obtain ⟨b, c, e, rfl, ng⟩ := iv2
        have emom : ∀ {ρ : En}, ρ[0]? = some (some (.dat (encT t))) → ρ[4]? = some (some (.dat (.int (i : Nat)))) → EvR K (tSl (rSlN K) (tVar 0) tNoPart (tPart (tVar 4))) ρ (encT (t.take i)) := fun h0 h4 => er_is (er_slT (er_v 0 (d := .tuple (t.map encE)) h0) eo_none (eo_some (er_v 4 h4))) (by rw [cutD_take, ← List.map_take]; rfl)
        have eon : ∀ {ρ : En}, ρ[2]? = some (some (.lst (cs.map .int))) → ρ[5]? = some (some (.dat (.int (j : Nat)))) → EvR K (tCB (fun xs H Q => ∃ p ys, xs = [.ref p] ∧ SqL K H p ys ∧ ∀ l o, H l = none → o.dict = none → Q (.ref l) (upd H l (.frz o (.tup ys)))) (tCons (tOp rCat (tVar 2) (tLst (tCons (tVar 5) tNil))) tNil)) ρ (.tuple ((cs ++ [((j : Nat) : Int)]).map .int)) := fun h2 h5 => er_is (er_tupleL (ef_catL h2 (ef_lst (ea_cons (er_v 5 h5) ea_nil) rfl) (by rw [List.length_map]; show _ + 1 ≤ _; omega)).r) (by rw [List.map_append]; rfl)
        refine ⟨_, _, tg_name 5, sr_set (d := optL (rowsL (t.take i) (cs ++ [((j : Nat) : Int)]))) (ef_call (ea_cons (emom rfl rfl) (ea_cons (eon rfl rfl) ea_nil)) ⟨t.take i, cs ++ [((j : Nat) : Int)], rfl, T.take i, by rw [List.length_append, List.length_take]; show _ + 1 ≤ _; omega, fun u hu => ?_, rfl⟩) ?_⟩
        · rcases List.mem_append.mp hu with z | z
          · exact cn u z
          · rw [List.mem_singleton] at z; omega
        · rw [sl_optL]
          -- how a miss goes on
          have miss : ∀ b c e : Option Sl, (∀ p s, ftS t (xs.take i) = some p → p.2 = cs → nextS t p.1 = some s → ¬ Hit t p s i xs[i] j) → ∃ b' c' e', [some (.dat (encT t)), some (.dat (.list (xs.map .int))), some (.lst (cs.map .int)), some (.lst ((crL t (t.length + 1)).map .int)), some (.dat (.int (i : Nat))), b, c, e] = [some (.dat (encT t)), some (.dat (.list (xs.map .int))), some (.lst (cs.map .int)), some (.lst ((crL t (t.length + 1)).map .int)), some (.dat (.int (i : Nat))), b', c', e'] ∧ ∀ p s, ftS t (xs.take i) = some p → p.2 = cs → nextS t p.1 = some s → ∀ l, l < j + 1 → ¬ Hit t p s i xs[i] l := fun b c e h => by
            refine ⟨b, c, e, rfl, fun p s h1 h2 h3 l hl => ?_⟩
            by_cases z : l = j
            · rw [z]; exact h p s h1 h2 h3
            · exact ng p s h1 h2 h3 l (by omega)
          -- the rows by the search's state
          have rws : ∀ p s, ftS t (xs.take i) = some p → p.2 = cs → nextS t p.1 = some s → p.1.length = i ∧ cs.length = i ∧ rowsL (t.take i) (cs ++ [((j : Nat) : Int)]) = if j ≤ s.length then some (p.1 ++ [s.take (s.length - j)]) else none := fun p s h1 h2 h3 => by
            obtain ⟨r1, r2, r3⟩ := ft_run rfl h1
            rw [List.length_take, Nat.min_eq_left (by omega)] at r2 r3
            rw [h2] at r1 r2
            refine ⟨r3, r2, ?_⟩
            rw [rowsL_prefix (by omega) (by rw [List.length_append, r2]; rfl), runS_snoc, r1]
            show stepS t p.1 _ = _
            unfold stepS
            rw [h3]
            show (if _ then _ else _) = _
            by_cases hjs : j ≤ s.length
            · rw [if_pos hjs, if_pos ⟨by omega, by omega⟩, Int.toNat_natCast]
            · rw [if_neg hjs, if_neg (by omega)]
          cases hro : rowsL (t.take i) (cs ++ [((j : Nat) : Int)]) with
          | none =>
            refine sr_if (b := false) (et_and (b := false) (et_test (er_notN (er_v 6 (d := .none)) rfl)) fun z => nomatch z) (fun z => nomatch z) fun _ => sr_next (miss _ _ _ fun p s h1 h2 h3 hh => ?_)
            have r := (rws p s h1 h2 h3).2.2
            rw [hro, if_pos hh.1] at r
            cases r
          | some rs =>
            have rl := rowsL_len hro
            rw [List.length_append] at rl
            have hne : rs ≠ [] := fun z => by rw [z] at rl; exact absurd rl (by simp)
            obtain ⟨ys, z, rfl⟩ : ∃ ys z, rs = ys ++ [z] := ⟨rs.dropLast, rs.getLast hne, (List.dropLast_concat_getLast hne).symm⟩
            show StR K _ [some (.dat (encT t)), some (.dat (.list (xs.map .int))), some (.lst (cs.map .int)), some (.lst ((crL t (t.length + 1)).map .int)), some (.dat (.int (i : Nat))), some (.dat (.int (j : Nat))), some (.lst ((ys ++ [z]).map encS)), e] _
            have tst : EvT K (tAnd (tTest (tOp (fun x y H Q => y = V.non ∧ Q (.bl (!decide (x = V.non))) H) (tVar 6) (tC .non))) (tTest (tOp (rEqD K) (tOp (rI0 fun i j => .int (i - j)) (tOp (rIxL K) (tVar 3) (tVar 4)) (tCB (fun xs H Q => ∃ x n, xs = [x] ∧ LenV K x H n ∧ Q (.int n) H) (tCons (tOp (rIxL K) (tVar 6) (tUn (rU fun i => .int (-i)) (tC (.int 1)))) tNil))) (tOp (rIxL K) (tVar 1) (tVar 4))))) [some (.dat (encT t)), some (.dat (.list (xs.map .int))), some (.lst (cs.map .int)), some (.lst ((crL t (t.length + 1)).map .int)), some (.dat (.int (i : Nat))), some (.dat (.int (j : Nat))), some (.lst ((ys ++ [z]).map encS)), e] (decide (((cr t i : Nat) : Int) - (z.length : Nat) = xs[i])) := by
              have e1 : EvR K (tOp (rIxL K) (tVar 3) (tVar 4)) [some (.dat (encT t)), some (.dat (.list (xs.map .int))), some (.lst (cs.map .int)), some (.lst ((crL t (t.length + 1)).map .int)), some (.dat (.int (i : Nat))), some (.dat (.int (j : Nat))), some (.lst ((ys ++ [z]).map encS)), e] (.int (cr t i : Nat)) := er_ixL (er_vl 3) (er_v 4) (atI_nat (by rw [List.getElem?_map, hci]; rfl))
              have e2 : EvR K (tOp (rIxL K) (tVar 1) (tVar 4)) [some (.dat (encT t)), some (.dat (.list (xs.map .int))), some (.lst (cs.map .int)), some (.lst ((crL t (t.length + 1)).map .int)), some (.dat (.int (i : Nat))), some (.dat (.int (j : Nat))), some (.lst ((ys ++ [z]).map encS)), e] (.int xs[i]) := er_ixL (er_v 1 (d := .list (xs.map .int))) (er_v 4) (atI_nat (by rw [List.getElem?_map, qx]; rfl))
              have e3 : EvR K (tOp (rIxL K) (tVar 6) (tUn (rU fun i => .int (-i)) (tC (.int 1)))) [some (.dat (encT t)), some (.dat (.list (xs.map .int))), some (.lst (cs.map .int)), some (.lst ((crL t (t.length + 1)).map .int)), some (.dat (.int (i : Nat))), some (.dat (.int (j : Nat))), some (.lst ((ys ++ [z]).map encS)), e] (.tuple (z.map .int)) := er_ixL (er_vl 6 (ds := (ys ++ [z]).map encS)) (er_neg er_int) (by rw [List.map_append]; exact atI_last _ _)
              have e4 : EvR K (tOp (fun x y H Q => y = V.non ∧ Q (.bl (!decide (x = V.non))) H) (tVar 6) (tC .non)) [some (.dat (encT t)), some (.dat (.list (xs.map .int))), some (.lst (cs.map .int)), some (.lst ((crL t (t.length + 1)).map .int)), some (.dat (.int (i : Nat))), some (.dat (.int (j : Nat))), some (.lst ((ys ++ [z]).map encS)), e] (.bool true) := er_notN (er_vl 6 (ds := (ys ++ [z]).map encS)) rfl
              refine et_is (et_and (et_test e4) fun _ => et_test (er_eqD (er_sub e1 (er_lenT e3)) e2 rfl rfl)) ?_
              rw [List.length_map]
              show (true && (_ == _)) = _
              rw [Bool.true_and]
              by_cases hq : ((cr t i : Nat) : Int) - (z.length : Nat) = xs[i]
              · rw [decide_eq_true hq]; exact beq_iff_eq.mpr hq
              · rw [decide_eq_false hq]; exact beq_eq_false_iff_ne.mpr hq
            by_cases hq : ((cr t i : Nat) : Int) - (z.length : Nat) = xs[i]
            · -- the totals fit
              have ltr : EvR K (tCB (fun xs H Q => ∃ p ys, xs = [.ref p] ∧ SqL K H p ys ∧ ∀ l o, H l = none → o.dict = none → Q (.ref l) (upd H l (.frz o (.tup ys)))) (tCons (tOp rCat (tVar 2) (tLst (tCons (tVar 5) (tCons (tC (.int 0)) tNil)))) tNil)) [some (.dat (encT t)), some (.dat (.list (xs.map .int))), some (.lst (cs.map .int)), some (.lst ((crL t (t.length + 1)).map .int)), some (.dat (.int (i : Nat))), some (.dat (.int (j : Nat))), some (.lst ((ys ++ [z]).map encS)), e] (.tuple ((cs ++ [((j : Nat) : Int), 0]).map .int)) :=
                er_is (er_tupleL (ef_catL rfl (ef_lst (ea_cons (er_v 5) (ea_cons er_int ea_nil)) rfl) (by rw [List.length_map]; show _ + 2 ≤ _; omega)).r) (by rw [List.map_append]; rfl)
              refine sr_if (b := true) (et_is tst (decide_eq_true hq)) (fun _ => sr_set (ltr.f (immAll_ints _)) ?_) (fun z => nomatch z)
              -- taken: the search goes on with one number more
              have take : (∀ p s, ftS t (xs.take i) = some p → p.2 = cs → nextS t p.1 = some s → Hit t p s i xs[i] j) → Sf t xs (i + 1) (cs ++ [((j : Nat) : Int)]) := fun h => by
                rcases sf with ⟨p, s, h1, h2, h3⟩ | ⟨h1, h2, h3⟩
                · have h3 := h3 (by omega)
                  obtain ⟨k1, k2, k3⟩ := h p s h1 h2 h3
                  have pl := (rws p s h1 h2 h3).1
                  have nx := ftS_take (t := t) qx
                  rw [h1] at nx
                  have st := nx.trans (hit_step (x := xs[i]) (l := j) h3 k1 (by rw [pl]; exact k2))
                  rcases k3 with k3 | k3
                  · exact .inl ⟨_, [], st, by rw [h2], fun q => absurd q (by omega)⟩
                  · obtain ⟨s', hs'⟩ := Option.isSome_iff_exists.mp k3
                    exact .inl ⟨_, s', st, by rw [h2], fun _ => hs'⟩
                · refine .inr ⟨by rw [List.length_append]; show _ + 1 < _; omega, fun u hu => ?_, h3⟩
                  rcases List.mem_append.mp hu with z | z
                  · exact h2 u z
                  · rw [List.mem_singleton] at z; omega
              -- what is known of z in the search's state
              have zk : ∀ p s, ftS t (xs.take i) = some p → p.2 = cs → nextS t p.1 = some s → j ≤ s.length ∧ ys = p.1 ∧ z = s.take (s.length - j) := fun p s h1 h2 h3 => by
                have r := (rws p s h1 h2 h3).2.2
                rw [hro] at r
                by_cases hjs : j ≤ s.length
                · rw [if_pos hjs] at r
                  have r' := List.append_inj' (Option.some.inj r) rfl
                  exact ⟨hjs, r'.1, by simpa using r'.2⟩
                · rw [if_neg hjs] at r; cases r
              have hit_of : ∀ p s, ftS t (xs.take i) = some p → p.2 = cs → nextS t p.1 = some s → (i = t.length ∨ (nextS t (p.1 ++ [s.take (s.length - j)])).isSome = true) → Hit t p s i xs[i] j := fun p s h1 h2 h3 h4 => by
                obtain ⟨z1, z2, z3⟩ := zk p s h1 h2 h3
                refine ⟨z1, ?_, h4⟩
                rw [z3, List.length_take] at hq
                rw [← hq]
                omega
              by_cases hm : i = t.length
              · refine sr_if (b := true) (et_or (a := true) (b := true) (et_test (er_is (er_eqD (er_v 4) (er_lenT (er_v 0 (d := .tuple (t.map encE)))) rfl rfl) ?_)) fun z => nomatch z) (fun _ => sr_app (ds := cs.map .int) rfl (er_v 5) rfl (by rw [List.length_map]; omega) (sr_break ⟨cs ++ [((j : Nat) : Int)], some (.dat (.int (i : Nat))), some (.dat (.int (j : Nat))), some (.lst ((ys ++ [z]).map encS)), some (.dat (.tuple ((cs ++ [((j : Nat) : Int), 0]).map .int))), ?_, ?_⟩)) (fun z => nomatch z)
                · show PyData.bool (_ == _) = _
                  rw [List.length_map, hm, beq_self_eq_true]
                · rw [emap]; rfl
                · exact take fun p s h1 h2 h3 => hit_of p s h1 h2 h3 (.inl hm)
              · have ne : ((((i : Nat) : Int)) == (((t.map encE).length : Nat) : Int)) = false := beq_eq_false_iff_ne.mpr (by rw [List.length_map]; omega)
                have er2 : EvR K (tCall (spD K R__law_rows) [] E0 (tCons (tSl (rSlN K) (tVar 0) tNoPart (tPart (tOp (rI0 fun i j => .int (i + j)) (tVar 4) (tC (.int 1))))) (tCons (tVar 7) tNil))) [some (.dat (encT t)), some (.dat (.list (xs.map .int))), some (.lst (cs.map .int)), some (.lst ((crL t (t.length + 1)).map .int)), some (.dat (.int (i : Nat))), some (.dat (.int (j : Nat))), some (.lst ((ys ++ [z]).map encS)), some (.dat (.tuple ((cs ++ [((j : Nat) : Int), 0]).map .int)))] (optL (rowsL (t.take (i + 1)) (cs ++ [((j : Nat) : Int), 0]))) := by
                  refine er_call (ea_cons (er_is (er_slT (er_v 0 (d := .tuple (t.map encE))) eo_none (eo_some (er_add (er_v 4) er_int))) (show _ = encT (t.take (i + 1)) from ?_)) (ea_cons (er_v 7) ea_nil)) ⟨t.take (i + 1), cs ++ [((j : Nat) : Int), 0], rfl, T.take (i + 1), by rw [List.length_append, List.length_take]; show _ + 2 ≤ _; omega, fun u hu => ?_, rfl⟩
                  · rw [show ((i : Nat) : Int) + 1 = ((i + 1 : Nat) : Int) by omega, cutD_take, ← List.map_take]; rfl
                  · rcases List.mem_append.mp hu with z | z
                    · exact cn u z
                    · rcases List.mem_cons.mp z with z | z
                      · omega
                      · rw [List.mem_singleton] at z; omega
                have nxt : ∀ p s, ftS t (xs.take i) = some p → p.2 = cs → nextS t p.1 = some s → (rowsL (t.take (i + 1)) (cs ++ [((j : Nat) : Int), 0])).isSome = (nextS t (p.1 ++ [s.take (s.length - j)])).isSome := fun p s h1 h2 h3 => by
                  obtain ⟨z1, z2, z3⟩ := zk p s h1 h2 h3
                  obtain ⟨r1, r2, r3⟩ := rws p s h1 h2 h3
                  have r4 : runS t (cs ++ [((j : Nat) : Int)]) = some (p.1 ++ [s.take (s.length - j)]) := by
                    rw [← rowsL_prefix (m := i) (by omega) (by rw [List.length_append, r2]; rfl), r3, if_pos z1]
                  rw [rowsL_prefix (by omega) (by rw [List.length_append, r2]; rfl), show cs ++ [((j : Nat) : Int), 0] = (cs ++ [((j : Nat) : Int)]) ++ [0] by simp, runS_snoc, r4]
                  show (stepS t _ 0).isSome = _
                  unfold stepS
                  cases nextS t (p.1 ++ [s.take (s.length - j)]) with
                  | none => rfl
                  | some s' =>
                    show (if _ then _ else _ : Option _).isSome = _
                    rw [if_pos ⟨by omega, by omega⟩]; rfl
                cases ho : rowsL (t.take (i + 1)) (cs ++ [((j : Nat) : Int), 0]) with
                | none =>
                  rw [ho] at er2 nxt
                  refine sr_if (b := false) (et_is (et_or (et_test (er_eqD (er_v 4) (er_lenT (er_v 0 (d := .tuple (t.map encE)))) rfl rfl)) fun _ => et_test (er_notN er2 rfl)) ?_) (fun z => nomatch z) fun _ => sr_next (miss _ _ _ fun p s h1 h2 h3 hh => ?_)
                  · show ((_ == _) || false) = false
                    rw [ne]; rfl
                  · rcases hh.2.2 with z | z
                    · exact hm z
                    · rw [← nxt p s h1 h2 h3] at z; cases z
                | some rs2 =>
                  rw [ho] at er2 nxt
                  refine sr_if (b := true) (et_is (et_or (et_test (er_eqD (er_v 4) (er_lenT (er_v 0 (d := .tuple (t.map encE)))) rfl rfl)) fun _ => et_test (er_notN er2 rfl)) ?_) (fun _ => sr_app (ds := cs.map .int) rfl (er_v 5) rfl (by rw [List.length_map]; omega) (sr_break ⟨cs ++ [((j : Nat) : Int)], some (.dat (.int (i : Nat))), some (.dat (.int (j : Nat))), some (.lst ((ys ++ [z]).map encS)), some (.dat (.tuple ((cs ++ [((j : Nat) : Int), 0]).map .int))), ?_, ?_⟩)) (fun z => nomatch z)
                  · show ((_ == _) || true) = true
                    rw [Bool.or_true]
                  · rw [emap]; rfl
                  · exact take fun p s h1 h2 h3 => hit_of p s h1 h2 h3 (.inr (by rw [← nxt p s h1 h2 h3]; rfl))
            · refine sr_if (b := false) (et_is tst (decide_eq_false hq)) (fun z => nomatch z) fun _ => sr_next (miss _ _ _ fun p s h1 h2 h3 hh => hq ?_)
              have r := (rws p s h1 h2 h3).2.2
              rw [hro, if_pos hh.1] at r
              have r' := List.append_inj' (Option.some.inj r) rfl
              have hz : z = s.take (s.length - j) := by simpa using r'.2
              rw [hz, List.length_take, ← hh.2.1]
              omega
      · obtain ⟨b, c, e, rfl, ng⟩ := iv2
        refine ⟨cs, some (.dat (.int (i : Nat))), b, c, e, rfl, ?_⟩
        rcases sf with ⟨p, s, h1, h2, h3⟩ | ⟨h1, h2, h3⟩
        · have h3 := h3 (by omega)
          obtain ⟨r1, r2, r3⟩ := ft_run rfl h1
          rw [List.length_take, Nat.min_eq_left (by omega)] at r2 r3
          obtain ⟨a1, a2⟩ := nextS_good (run_good rfl r1).1 h3
          have l1 := asc_len a1 a2
          have l2 := cr_le T p.1.length
          refine .inr ⟨by rw [← h2, r2]; omega, cn, no_hit T hx qx h1 h3 (by omega) (ng p s h1 h2 h3)⟩
        · exact .inr ⟨by omega, h2, h3⟩
    · obtain ⟨cs, a, b, c, e, rfl, sf⟩ := iv
      have tst : EvT K (tTest (tOp (rEqD K) (tCB (fun xs H Q => ∃ x n, xs = [x] ∧ LenV K x H n ∧ Q (.int n) H) (tCons (tVar 2) tNil)) (tOp (rI0 fun i j => .int (i + j)) (tCB (fun xs H Q => ∃ x n, xs = [x] ∧ LenV K x H n ∧ Q (.int n) H) (tCons (tVar 0) tNil)) (tC (.int 1))))) [some (.dat (encT t)), some (.dat (.list (xs.map .int))), some (.lst (cs.map .int)), some (.lst ((crL t (t.length + 1)).map .int)), a, b, c, e] (decide (cs.length = t.length + 1)) := by
        refine et_test (er_is (er_eqD (er_lenL (er_vl 2)) (er_add (er_lenT (er_v 0 (d := .tuple (t.map encE)))) er_int) rfl rfl) ?_)
        rw [List.length_map, List.length_map]
        show PyData.bool (_ == _) = _
        congr 1
        by_cases h : cs.length = t.length + 1
        · rw [decide_eq_true h]; exact beq_iff_eq.mpr (by omega)
        · rw [decide_eq_false h]; exact beq_eq_false_iff_ne.mpr (by omega)
      refine sr_ret (EvR.f (er_if tst (fun h => ?_) (fun h => ?_)) (imm_optS (ft t xs))) rfl
      · have h := of_decide_eq_true h
        rcases sf with ⟨p, s, h1, h2, h3⟩ | ⟨h1, h2, h3⟩
        · rw [List.take_of_length_le (by omega)] at h1
          refine er_is (er_tupleL (er_vl 2 (ds := cs.map .int))) ?_
          unfold ft
          rw [if_pos hx, h1, ← h2]; rfl
        · exact absurd h (by omega)
      · have h := of_decide_eq_false h
        rcases sf with ⟨p, s, h1, h2, h3⟩ | ⟨h1, h2, h3⟩
        · rw [List.take_of_length_le (by omega)] at h1
          have := (ft_run rfl h1).2.1
          exact absurd (by rw [← h2, this, hx]) h
        · rw [h3]
          exact er_non
end
end Lx

set_option Elab.async false
set_option linter.all false
set_option maxRecDepth 100000
set_option maxHeartbeats 1000000
/-! a list of the caller's in the first slot that is changed (the law's bag) -/
namespace Lx
open PySem PySem.Spec PyProof.Rows L2
open Evl (Ex)
def del (H : Hp) (b : Addr) : Hp := fun a => if a = b then none else H a
theorem del_ne {H : Hp} {a b : Addr} (h : a ≠ b) : del H b a = H a := if_neg h
theorem del_same {H : Hp} {b : Addr} : del H b b = none := if_pos rfl
theorem del_ex {H : Hp} {b : Addr} : Ex (del H b) H := fun a o h => by
  by_cases e : a = b
  · rw [e, del_same] at h; cases h
  · rw [del_ne e] at h; exact h
theorem del_mono {H H' : Hp} {b : Addr} (e : Ex H H') : Ex (del H b) (del H' b) := fun a o h => by
  by_cases q : a = b
  · rw [q, del_same] at h; cases h
  · rw [del_ne q] at h ⊢; exact e _ _ h
theorem tx_del {H : Hp} {b : Addr} {vs : List V} (h : H b = some (.lst vs)) : Tx H (del H b) := fun a o xs q => by
  have n : a ≠ b := ne_of q h (fun z => nomatch z)
  rw [del_ne n]; exact q
abbrev bagL (x y : Int) : List PyData := [.int x, .int y]
section
variable (K : PySem.W.Frag)
/-- the promise of a def whose first argument is the bag -/
def spB (Pre : List PyData → Prop) (Post : List PyData → PyData → Prop) : Sp := fun vs H Q _ => ∃ (b : Addr) (x y : Int) (ws : List V) (ds : List PyData), vs = .ref b :: ws ∧ H b = some (.lst [.int x, .int y]) ∧ DqAll K (del H b) ws ds ∧ Pre ds ∧
  ∀ d v H' x' y', Post ds d → (∀ a o, a ≠ b → H a = some o → H' a = some o) → H' b = some (.lst [.int x', .int y']) → imm d = true → Dq K H' v d → Q v H'
/-- an expression that may change the bag in slot 0 -/
def EvB (te : TE) (ρ : En) (Post : En → PyData → Prop) : Prop := ∀ H0 σ H, Ok K H0 H σ ρ → ∀ Q : VK, (∀ v H2 ρ2 d, Post ρ2 d → Ok K H0 H2 σ ρ2 → Fr σ ρ H σ ρ2 H2 → imm d = true → Dq K H2 v d → Q v H2) → te σ H Q
/-- an argument that does not lean on the bag -/
def EvX (bi : Nat) (te : TE) (ρ : En) (d : PyData) : Prop := ∀ H0 σ H b, Ok K H0 H σ ρ → σ[bi]? = some (some (.ref b)) → (∃ ds, ρ[bi]? = some (some (.lst ds))) → ∀ Q : VK, (∀ v H2, Ex H H2 → Dq K (del H2 b) v d → Q v H2) → te σ H Q
def EvXA (bi : Nat) (ta : TA) (ρ : En) (ds : List PyData) : Prop := ∀ H0 σ H b, Ok K H0 H σ ρ → σ[bi]? = some (some (.ref b)) → (∃ ds, ρ[bi]? = some (some (.lst ds))) → ∀ Q : List V → Hp → Prop, (∀ vs H2, Ex H H2 → DqAll K (del H2 b) vs ds → Q vs H2) → ta σ H Q
end
section
variable {K : PySem.W.Frag} {ρ : En} {te ta tb : TE} {d : PyData} {P : Po} {t u tz : TS} {Post : En → PyData → Prop} {bi : Nat}
theorem Ok.at0 {H0 H : Hp} {σ : L2.St} {b : Addr} (o : Ok K H0 H σ ρ) (hs : σ[bi]? = some (some (.ref b))) (h : ∃ ds, ρ[bi]? = some (some (.lst ds))) : H0 b = none ∧ ∃ vs, H b = some (.lst vs) := by
  obtain ⟨ds, h⟩ := h
  obtain ⟨p, vs, a, b', c, _⟩ := o.lst bi ds h
  rw [hs] at a; cases a
  exact ⟨b', vs, c⟩
theorem ex_imm (h : EvR K te ρ d) (hi : imm d = true) : EvX K bi te ρ d := fun H0 σ H b o hs h0 Q q => h H0 σ H o Q fun v H2 e r => by
  obtain ⟨_, vs, c⟩ := o.at0 hs h0
  exact q v H2 e (dp_tx (tx_del (e _ _ c)) hi r)
theorem ex_f {ds : List PyData} (h : EvF K te ρ (.list ds)) : EvX K bi te ρ (.list ds) := fun H0 σ H b o hs h0 Q q => h H0 σ H o Q fun v H2 e r => by
  obtain ⟨_, vs, c⟩ := o.at0 hs h0
  rcases r with ⟨z, _⟩ | ⟨ds', p, ws, e2, rfl, hn, hp, al, im⟩
  · simp [imm] at z
  · cases e2
    have ne : p ≠ b := fun z => by rw [z, c] at hn; cases hn
    exact q _ H2 e (.lst (SqL.of (by rw [del_ne ne]; exact hp)) (dpAll_tx (tx_del (e _ _ c)) im al))
theorem ex_slot {ds : List PyData} (i : Nat) (hi : ρ[i]? = some (some (.lst ds))) (h0 : i ≠ bi) : EvX K bi (tVar i) ρ (.list ds) := fun H0 σ H b o hs hz Q q => by
  obtain ⟨_, vs, c⟩ := o.at0 hs hz
  obtain ⟨es, hz⟩ := hz
  obtain ⟨p, ws, a, _, hp, al, im⟩ := o.lst i ds hi
  have ne : p ≠ b := fun z => h0 (o.sep i bi ds es b hi hz (by rw [a, z]) hs)
  exact ⟨.ref p, a, q _ H (Ex.refl H) (.lst (SqL.of (by rw [del_ne ne]; exact hp)) (dpAll_tx (tx_del c) im al))⟩
theorem exa_nil : EvXA K bi tNil ρ [] := fun _ _ H _ _ _ _ _ q => q [] H (Ex.refl H) .nil
theorem exa_cons {tr : TA} {ds : List PyData} (h : EvX K bi ta ρ d) (hr : EvXA K bi tr ρ ds) : EvXA K bi (tCons ta tr) ρ (d :: ds) := fun H0 σ H b o hs h0 Q q =>
  h H0 σ H b o hs h0 _ fun v H1 e1 d1 => hr H0 σ H1 b (o.mono e1) hs h0 _ fun vs H2 e2 d2 => q _ H2 (e1.trans e2) (.cons (dp_ex (del_mono e2) d1) d2)
theorem fr_tx {H0 H H2 : Hp} {σ σ2 : L2.St} {ρ2 : En} (o : Ok K H0 H σ ρ) (f : Fr σ ρ H σ2 ρ2 H2) : Tx H H2 := tup_stays o (Ex.refl H) f.keep
/-- the bag is changed, all else stays -/
theorem Ok.chg {H0 H H' : Hp} {σ : L2.St} {b : Addr} {ds es : List PyData} {vs : List V} (o : Ok K H0 H σ ρ) (hi : ρ[bi]? = some (some (.lst ds))) (hs : σ[bi]? = some (some (.ref b))) (k : ∀ a u, a ≠ b → H a = some u → H' a = some u) (hb : H' b = some (.lst vs))
    (hd : DqAll K H' vs es) (hm : immAll es = true) : Ok K H0 H' σ (ρ.set bi (some (.lst es))) ∧ Fr σ ρ H σ (ρ.set bi (some (.lst es))) H' := by
  obtain ⟨p, ws, a, h0, hp, _⟩ := o.lst bi ds hi
  rw [hs] at a; cases a
  have o1 := o.mut (vs := ws) hi hs (by obtain ⟨p', ws', a', _, hp', al', _⟩ := o.lst bi ds hi; rw [hs] at a'; cases a'; rw [hp] at hp'; cases hp'; exact al') (by obtain ⟨_, _, _, _, _, _, im⟩ := o.lst bi ds hi; exact im)
  have ex' : Ex H0 H' := fun x u hx => k x u (ne_of_none hx h0) (o.ex _ _ hx)
  have tx : Tx H H' := tx_but hp k
  have hl : bi < ρ.length := (List.getElem?_eq_some_iff.mp hi).1
  refine ⟨⟨ex', by rw [List.length_set]; exact o.len, fun j e h => ?_, fun j fs h => ?_, fun j l fs gs q h1 h2 h3 h4 => ?_⟩, fun x u hx hn => k x u (fun z => hn ⟨bi, ds, hi, by rw [z]; exact hs⟩) hx, fun x hx => .inl (own_mut hi hx), rfl⟩
  · by_cases hj : bi = j
    · subst hj
      rw [List.getElem?_set_self hl] at h; cases h
    · rw [List.getElem?_set_ne hj] at h
      obtain ⟨v, v1, v2, v3⟩ := o.dat j e h
      refine ⟨v, v1, ?_, v3⟩
      rcases v3 with z | z
      · exact dp_tx tx z v2
      · exact dp_ex ex' z
  · by_cases hj : bi = j
    · subst hj
      rw [List.getElem?_set_self hl] at h
      cases h
      exact ⟨b, vs, hs, h0, hb, hd, hm⟩
    · rw [List.getElem?_set_ne hj] at h
      obtain ⟨q, ws', w1, w2, w3, w4, w5⟩ := o.lst j fs h
      have hq : q ≠ b := fun z => hj (o.sep bi j ds fs b hi h hs (by rw [w1, z]))
      exact ⟨q, ws', w1, w2, k _ _ hq w3, dpAll_tx tx w5 w4, w5⟩
  · have at_ : ∀ (m : Nat) (xs : List PyData), (ρ.set bi (some (.lst es)))[m]? = some (some (.lst xs)) → ∃ ys, ρ[m]? = some (some (.lst ys)) := fun m xs h => by
      by_cases hm : bi = m
      · exact ⟨ds, by rw [← hm]; exact hi⟩
      · rw [List.getElem?_set_ne hm] at h
        exact ⟨xs, h⟩
    obtain ⟨ys, y1⟩ := at_ j fs h1
    obtain ⟨zs, z1⟩ := at_ l gs h2
    exact o.sep j l ys zs q y1 z1 h3 h4
theorem eb_call {Pre : List PyData → Prop} {Po : List PyData → PyData → Prop} {tr : TA} {ds : List PyData} {x y : Int} {E : XK} (h0 : ρ[bi]? = some (some (.lst (bagL x y)))) (ha : EvXA K bi tr ρ ds) (hp : Pre ds) :
    EvB K (tCall (spB K Pre Po) [] E (tCons (tVar bi) tr)) ρ (fun ρ2 d => Po ds d ∧ ∃ x' y', ρ2 = ρ.set bi (some (.lst (bagL x' y')))) := fun H0 σ H o Q q => by
  obtain ⟨b, vs, a, hb0, hb, al, im⟩ := o.lst bi _ h0
  have e0 : vs = [.int x, .int y] := dpAll_ints (ns := [x, y]) al
  subst e0
  refine ⟨.ref b, a, ha H0 σ H b o a ⟨_, h0⟩ _ fun ws H1 e1 d1 => ?_⟩
  show spB K Pre Po ((.ref b :: ws) ++ []) H1 Q E
  rw [List.append_nil]
  refine ⟨b, x, y, ws, ds, rfl, e1 _ _ hb, d1, hp, fun d v H' x' y' pd k hb' hi hd => ?_⟩
  have c := (o.mono e1).chg (es := bagL x' y') h0 a k hb' (ofInts [x', y']) rfl
  exact q v H' _ d ⟨pd, x', y', rfl⟩ c.1 ((Fr.of_ex e1).trans c.2) hi hd
theorem eb_pure (h : EvR K te ρ d) (hi : imm d = true) : EvB K te ρ (fun ρ2 e => ρ2 = ρ ∧ e = d) := fun H0 σ H o Q q => h H0 σ H o Q fun v H2 e r => q v H2 ρ d ⟨rfl, rfl⟩ (o.mono e) (Fr.of_ex e) hi r
theorem EvB.imp {Post' : En → PyData → Prop} (h : EvB K te ρ Post) (k : ∀ r e, Post r e → Post' r e) : EvB K te ρ Post' := fun H0 σ H o Q q => h H0 σ H o Q fun v H2 ρ2 d p => q v H2 ρ2 d (k _ _ p)
/-- an operation on a value that cannot change and one that the bag gives -/
theorem eb_bin {r : R2} {x : PyData} {f : PyData → PyData} (ha : EvR K ta ρ x) (hx : imm x = true) (hb : EvB K tb ρ Post)
    (hr : ∀ ρ2 e, Post ρ2 e → imm (f e) = true ∧ ∀ H v w (Q : VK), Dq K H v x → Dq K H w e → (∀ u H2, Ex H H2 → Dq K H2 u (f e) → Q u H2) → r v w H Q) : EvB K (tOp r ta tb) ρ (fun ρ2 d => ∃ e, Post ρ2 e ∧ d = f e) := fun H0 σ H o Q q =>
  ha H0 σ H o _ fun v H1 e1 d1 => hb H0 σ H1 (o.mono e1) _ fun w H2 ρ2 e p o2 f2 hi d2 => (hr ρ2 e p).2 H2 v w Q (dp_tx (fr_tx (o.mono e1) f2) hx d1) d2 fun u H3 e3 d3 =>
    q u H3 ρ2 _ ⟨e, p, rfl⟩ (o2.mono e3) (((Fr.of_ex e1).trans f2).ex e3) (hr ρ2 e p).1 d3
theorem eb_catT {xs : List PyData} (ha : EvR K ta ρ (.tuple xs)) (hx : immAll xs = true) (hb : EvB K tb ρ Post) (hy : ∀ ρ2 e, Post ρ2 e → ∃ z, e = .tuple [z] ∧ imm z = true) (hl : xs.length < 100000) :
    EvB K (tOp (rCatN K) ta tb) ρ (fun ρ2 d => ∃ z, Post ρ2 (.tuple [z]) ∧ d = .tuple (xs ++ [z])) := by
  refine (eb_bin (f := fun e => match e with | .tuple [z] => .tuple (xs ++ [z]) | _ => .none) ha hx hb fun ρ2 e p => ?_).imp fun ρ2 d h => ?_
  · obtain ⟨z, rfl, hz⟩ := hy ρ2 e p
    refine ⟨immAll_append hx (immAll_one hz), fun H v w Q h1 h2 q => ?_⟩
    obtain ⟨a, vs, rfl, s, al⟩ := dp_tup h1
    obtain ⟨b, ws, rfl, s', al'⟩ := dp_tup h2
    refine ⟨a, b, vs, ws, rfl, rfl, s.s, s'.s, Evl.sz_of (by rw [dpAll_len al, dpAll_len al']; show _ + 1 ≤ _; omega), fun z => ?_, fun _ z => ?_, fun _ _ p ob hp hd => ?_⟩
    · subst z; cases al
      exact q _ H (Ex.refl H) (.tup s' al')
    · subst z; cases al'
    · exact q _ _ (Evl.Ex.new hp) (.tup (NT.new hd) (dpAll_ex (Evl.Ex.new hp) (dpAll_append al al')))
  · obtain ⟨e, p, rfl⟩ := h
    obtain ⟨z, rfl, hz⟩ := hy ρ2 e p
    exact ⟨z, p, rfl⟩
theorem eb_tup1 (hb : EvB K tb ρ Post) : EvB K (tTupN (tCons tb tNil)) ρ (fun ρ2 d => ∃ e, Post ρ2 e ∧ imm e = true ∧ d = .tuple [e]) := fun H0 σ H o Q q =>
  hb H0 σ H o _ fun w H2 ρ2 e p o2 f2 hi d2 => ⟨by show 1 ≤ sizeLine; decide, fun a ob ha hd =>
    q _ _ ρ2 _ ⟨e, p, hi, rfl⟩ (o2.mono (Evl.Ex.new ha)) (f2.ex (Evl.Ex.new ha)) (by simp [imm, immAll, hi]) (.tup (NT.new hd) (.cons (dp_ex (Evl.Ex.new ha) d2) .nil))⟩
theorem eb_tup2 {x : PyData} (ha : EvR K ta ρ x) (hx : imm x = true) (hb : EvB K tb ρ Post) : EvB K (tTupN (tCons ta (tCons tb tNil))) ρ (fun ρ2 d => ∃ e, Post ρ2 e ∧ d = .tuple [x, e]) := fun H0 σ H o Q q =>
  ha H0 σ H o _ fun v H1 e1 d1 => hb H0 σ H1 (o.mono e1) _ fun w H2 ρ2 e p o2 f2 hi d2 => ⟨by show 2 ≤ sizeLine; decide, fun a ob ha hd =>
    q _ _ ρ2 _ ⟨e, p, rfl⟩ (o2.mono (Evl.Ex.new ha)) (((Fr.of_ex e1).trans f2).ex (Evl.Ex.new ha)) (by simp [imm, immAll, hx, hi]) (.tup (NT.new hd) (.cons (dp_ex (Evl.Ex.new ha) (dp_tx (fr_tx (o.mono e1) f2) hx d1)) (.cons (dp_ex (Evl.Ex.new ha) d2) .nil)))⟩
theorem eb_min {i : Int} (ha : EvR K ta ρ (.int i)) (hb : EvB K tb ρ Post) (hy : ∀ ρ2 e, Post ρ2 e → ∃ j, e = .int j) :
    EvB K (tCB (fun xs H Q => ∃ i j, xs = [.int i, .int j] ∧ Q (.int (if j < i then j else i)) H) (tCons ta (tCons tb tNil))) ρ (fun ρ2 d => ∃ j, Post ρ2 (.int j) ∧ d = .int (if j < i then j else i)) := fun H0 σ H o Q q =>
  ha H0 σ H o _ fun v H1 e1 d1 => hb H0 σ H1 (o.mono e1) _ fun w H2 ρ2 e p o2 f2 hi d2 => by
    obtain ⟨j, rfl⟩ := hy ρ2 e p
    cases d1; cases d2
    exact ⟨i, j, rfl, q _ H2 ρ2 _ ⟨j, p, rfl⟩ o2 ((Fr.of_ex e1).trans f2) rfl (.int _)⟩
/-! statements -/
theorem sb_tgt {g : TG} (h : EvB K te ρ Post) (k : ∀ ρ2 d, imm d = true → Post ρ2 d → ∃ js ρ3, TgR K true g d ρ2 js ρ3 ∧ StR K tz ρ3 P) : StR K (tSeq (tAsg te g) tz) ρ P := fun H0 σ H D o n b c r =>
  h H0 σ H o _ fun v H2 ρ2 d p o2 f2 im dq => by
    obtain ⟨js, ρ3, tg, st⟩ := k ρ2 d im p
    exact tg H0 σ H2 v o2 dq im _ fun σ' o' w _ z0 _ => st.go o' (f2.trans ⟨fun _ _ h _ => h, fun a z => .inl (w a z), z0⟩) n b c r
/-- xs[j] = e of a list of one's own, e by the bag -/
theorem sb_seti {l : Nat} {ti : TE} {j : Nat} (h : EvB K te ρ Post) (k : ∀ ρ2 d, imm d = true → Post ρ2 d → ∃ ds, ρ2[l]? = some (some (.lst ds)) ∧ EvR K ti ρ2 (.int (j : Nat)) ∧ j < ds.length ∧ StR K tz (ρ2.set l (some (.lst (ds.set j d)))) P) : StR K (tSeq (tAsg te (gSub (tVar l) ti rSetL)) tz) ρ P := fun H0 σ H D o n b c r =>
  h H0 σ H o _ fun v H1 ρ2 d p o1 f1 hi d1 => by
    obtain ⟨ds, hl, ht, hj, st⟩ := k ρ2 d hi p
    obtain ⟨pa, vs, a, h0, hp, al, im⟩ := o1.lst l ds hl
    refine ⟨.ref pa, a, ht H0 σ H1 o1 _ fun w H2 e2 d2 => ?_⟩
    cases d2
    have hlen := dpAll_len al
    refine ⟨pa, vs, _, j, rfl, rfl, e2 _ _ hp, ?_, ?_⟩
    · unfold ixN
      rw [if_pos (by omega), if_pos (by omega), Int.toNat_natCast]
    · have o2 := o1.mono e2
      have im2 : immAll (ds.set j d) = true := immAll_iff.mpr fun x hx => by
        rcases List.mem_or_eq_of_mem_set hx with z | z
        · exact immAll_iff.mp im x z
        · rw [z]; exact hi
      have m := o2.mut hl a (dpAll_set j (dpAll_ex e2 al) (dp_ex e2 d1)) im2
      refine st.go m (f1.trans ⟨fun x u hx hn => ?_, fun x hx => .inl (own_mut hl hx), rfl⟩) n b c r
      have nx : x ≠ pa := fun z => hn ⟨l, ds, hl, by rw [z]; exact a⟩
      rw [upd_ne nx]
      exact e2 _ _ hx
theorem sb_set {i : Nat} (h : EvB K te ρ Post) (k : ∀ ρ2 d, imm d = true → Post ρ2 d → StR K tz (ρ2.set i (some (.dat d))) P) (hi : i ≠ 0 := by decide) : StR K (tSeq (tAsg te (gName i)) tz) ρ P := fun H0 σ H D o n b c r =>
  h H0 σ H o _ fun v H2 ρ2 d p o2 f2 im dq => by
    have q := o2.put1 (i := i) (Ex.refl H2) (.inl ⟨im, dq⟩) hi
    rw [sl_imm im] at q
    exact (k ρ2 d im p).go q.1 (f2.trans q.2) n b c r
theorem sb_ret (h : EvB K te ρ Post) (k : ∀ ρ2 d, imm d = true → Post ρ2 d → P.rt ρ2 d) : StR K (tRet te) ρ P := fun H0 σ H D o n b c r =>
  h H0 σ H o _ fun v H2 ρ2 d p o2 f2 im dq => r ρ2 σ d v H2 (k ρ2 d im p) o2 f2 (.inl ⟨im, dq⟩)
theorem sb_for1 {g : TG} (h : EvB K te ρ Post) (hy : ∀ ρ2 e, Post ρ2 e → ∃ j, e = .int j) (k : ∀ ρ2 j, Post ρ2 (.int j) → StR K (tFor (iRng1 (tCons (tC (.int j)) tNil)) g t) ρ2 P) : StR K (tFor (iRng1 (tCons te tNil)) g t) ρ P := fun H0 σ H D o n b c r =>
  h H0 σ H o _ fun v H2 ρ2 d p o2 f2 im dq => by
    obtain ⟨j, rfl⟩ := hy ρ2 d p
    cases dq
    exact (k ρ2 j p).go o2 f2 n b c r
theorem sb_for {g : TG} (h : EvB K te ρ Post) (hy : ∀ ρ2 e, Post ρ2 e → ∃ j, e = .int j) (M : En → Prop) (k : ∀ ρ2 j, Post ρ2 (.int j) → StR K (tFor (iRng1 (tCons (tC (.int j)) tNil)) g t) ρ2 { P with nx := M }) (hk : ∀ ρ', M ρ' → StR K tz ρ' P) : StR K (tSeq (tFor (iRng1 (tCons te tNil)) g t) tz) ρ P :=
  sr_seq M (sb_for1 h hy k) hk
/-- some = left + [e] -/
theorem sb_cat {i : Nat} {tl : TE} {ds : List PyData} (hl : EvF K tl ρ (.list ds)) (hb : EvB K tb ρ Post) (hz : ds.length < 100000) (k : ∀ ρ2 e, imm e = true → Post ρ2 e → P.nx (ρ2.set i (some (.lst (ds ++ [e]))))) (hi : i ≠ 0 := by decide) :
    StR K (tAsg (tOp rCat tl (tLst (tCons tb tNil))) (gName i)) ρ P := fun H0 σ H D o n b c r =>
  hl H0 σ H o _ fun v H1 e1 q1 => by
    rcases q1 with ⟨z, _⟩ | ⟨ds', p, vs, e2, rfl, hn, hp, al, im⟩
    · simp [imm] at z
    · cases e2
      have o1 := o.mono e1
      have nown : ¬ own σ ρ p := fun z => by
        obtain ⟨ws, c⟩ := o.there z
        rw [c] at hn; cases hn
      refine hb H0 σ H1 o1 _ fun w H2 ρ2 e pe o2 f2 hie d2 => ⟨by show 1 ≤ sizeLine; decide, fun p2 hp2 => ?_⟩
      have hpH2 : H2 p = some (.lst vs) := f2.keep p _ hp nown
      have ne2 : p ≠ p2 := ne_of_none hpH2 hp2
      refine ⟨p, p2, vs, [w], rfl, rfl, by rw [upd_ne ne2]; exact hpH2, upd_same, Evl.sz_of (by rw [dpAll_len al]; show _ + 1 ≤ _; omega), fun p3 hp3 => ?_⟩
      have ex2 : Ex H2 (upd (upd H2 p2 (.lst [w])) p3 (.lst (vs ++ [w]))) := (Evl.Ex.new hp2).trans (Evl.Ex.new hp3)
      have res : Res K H2 (upd (upd H2 p2 (.lst [w])) p3 (.lst (vs ++ [w]))) (.ref p3) (.list (ds ++ [e])) :=
        .inr ⟨_, p3, _, rfl, rfl, Evl.fresh_back (Evl.Ex.new hp2) hp3, upd_same, dpAll_append (dpAll_ex ex2 (dpAll_tx (fr_tx o1 f2) im al)) (.cons (dp_ex ex2 d2) .nil), immAll_append im (immAll_one hie)⟩
      have q := o2.put1 (i := i) ex2 res hi
      exact n _ _ _ (k ρ2 e hie pe) q.1 (((Fr.of_ex e1).trans f2).trans q.2)
/-- xs[j] = e, of a list of one's own -/
theorem sr_seti1 {l : Nat} {ti : TE} {ds : List PyData} {j : Nat} (hl : ρ[l]? = some (some (.lst ds))) (h : EvR K te ρ d) (hi : imm d = true) (ht : EvR K ti ρ (.int (j : Nat))) (hj : j < ds.length) (k : P.nx (ρ.set l (some (.lst (ds.set j d))))) : StR K (tAsg te (gSub (tVar l) ti rSetL)) ρ P := fun H0 σ H D o n b c r =>
  h H0 σ H o _ fun v H1 e1 d1 => by
    obtain ⟨p, vs, a, h0, hp, al, im⟩ := o.lst l ds hl
    refine ⟨.ref p, a, ht H0 σ H1 (o.mono e1) _ fun w H2 e2 d2 => ?_⟩
    cases d2
    have hlen := dpAll_len al
    refine ⟨p, vs, _, j, rfl, rfl, e2 _ _ (e1 _ _ hp), ?_, ?_⟩
    · unfold ixN
      rw [if_pos (by omega), if_pos (by omega), Int.toNat_natCast]
    · have o2 := o.mono (e1.trans e2)
      have im2 : immAll (ds.set j d) = true := immAll_iff.mpr fun x hx => by
        rcases List.mem_or_eq_of_mem_set hx with z | z
        · exact immAll_iff.mp im x z
        · rw [z]; exact hi
      have m := o2.mut hl a (dpAll_set j (dpAll_ex (e1.trans e2) al) (dp_ex e2 d1)) im2
      refine n _ _ _ k m ⟨fun x u hx hn => ?_, fun x hx => .inl (own_mut hl hx), rfl⟩
      have nx : x ≠ p := fun z => hn ⟨l, ds, hl, by rw [z]; exact a⟩
      rw [upd_ne nx]
      exact e2 _ _ (e1 _ _ hx)
theorem sr_seti {l : Nat} {ti : TE} {ds : List PyData} {j : Nat} (hl : ρ[l]? = some (some (.lst ds))) (h : EvR K te ρ d) (hi : imm d = true) (ht : EvR K ti ρ (.int (j : Nat))) (hj : j < ds.length) (k : StR K tz (ρ.set l (some (.lst (ds.set j d)))) P) : StR K (tSeq (tAsg te (gSub (tVar l) ti rSetL)) tz) ρ P :=
  sr_seq (· = ρ.set l (some (.lst (ds.set j d)))) (sr_seti1 hl h hi ht hj rfl) fun ρ' e => by rw [e]; exact k
theorem ef_rep {tl : TE} {ds : List PyData} {k : Int} (hl : EvF K tl ρ (.list ds)) (hk : 0 ≤ k ∧ k ≤ 100) (hz : ds.length ≤ 100) (tk : EvR K tb ρ (.int k)) : EvF K (tOp rRep tl tb) ρ (.list (List.replicate k.toNat ds).flatten) := fun H0 σ H o Q q =>
  hl H0 σ H o _ fun v H1 e1 q1 => tk H0 σ H1 (o.mono e1) _ fun w H2 e2 d2 => by
    cases d2
    rcases q1 with ⟨z, _⟩ | ⟨ds', p, vs, e3, rfl, hn, hp, al, im⟩
    · simp [imm] at z
    · cases e3
      have big : ds.length * k.toNat ≤ 100 * 100 := Nat.mul_le_mul hz (by omega)
      refine ⟨p, k, vs, rfl, rfl, e2 _ _ hp, by omega, by omega, Evl.sz_of (by rw [dpAll_len al]; omega), fun p2 hp2 => ?_⟩
      have im2 : immAll (List.replicate k.toNat ds).flatten = true := immAll_iff.mpr fun x hx => by
        obtain ⟨l, hl, hx⟩ := List.mem_flatten.mp hx
        rw [(List.mem_replicate.mp hl).2] at hx
        exact immAll_iff.mp im x hx
      exact q _ _ ((e1.trans e2).trans (Evl.Ex.new hp2)) (.inr ⟨_, p2, _, rfl, rfl, Evl.fresh_back (e1.trans e2) hp2, upd_same, dpAll_ex (Evl.Ex.new hp2) (dpAll_rep (dpAll_ex e2 al) _), im2⟩)
theorem ef_catLL {tl tr : TE} {ds es : List PyData} (hl : EvF K tl ρ (.list ds)) (hb : EvF K tr ρ (.list es)) (hz : ds.length + es.length ≤ 100000) : EvF K (tOp rCat tl tr) ρ (.list (ds ++ es)) := fun H0 σ H o Q q =>
  hl H0 σ H o _ fun v H1 e1 q1 => hb H0 σ H1 (o.mono e1) _ fun w H2 e2 q2 => by
    rcases q1 with ⟨z, _⟩ | ⟨ds', p, vs, e3, rfl, hn, hp, al, im⟩
    · simp [imm] at z
    · cases e3
      rcases q2 with ⟨z, _⟩ | ⟨es', p2, ws, e4, rfl, hn2, hp2, al2, im2⟩
      · simp [imm] at z
      · cases e4
        refine ⟨p, p2, vs, ws, rfl, rfl, e2 _ _ hp, hp2, Evl.sz_of (by rw [dpAll_len al, dpAll_len al2]; exact hz), fun p3 h3 => ?_⟩
        exact q _ _ ((e1.trans e2).trans (Evl.Ex.new h3)) (.inr ⟨_, p3, _, rfl, rfl, Evl.fresh_back (e1.trans e2) h3, upd_same, dpAll_ex (Evl.Ex.new h3) (dpAll_append (dpAll_ex e2 al) al2), immAll_append im im2⟩)
end
/-! ### a def over the bag -/
section
variable {Pr : Program} {w : World} {K : PySem.W.Frag} {mg : Str → Option Value} {base : Heap}
theorem okB {x qual : Str} {st : Stmt} {f : Addr} {fd : FuncData} {N ps : List Str} {k : Nat} {Pre : List PyData → Prop} {Po : List PyData → PyData → Prop} (F : Fun K x qual st f fd) (S : FnScope N ps (defScope st)) (len : ∀ ds, Pre ds → ds.length + 1 = ps.length)
    (body : ∀ (ds : List PyData) (x y : Int), Pre ds → ∀ (cdv : Value) (A : Around) (outer : List Env) (s : Shared) (H : Hp) (E : XK), Room k (A.deeper (envOfC qual (defScope st) s.heap.objs.size f cdv)) →
      ∃ t, PSs (cxOf CX0 Pr w K mg base N qual (defScope st) f cdv A outer s H E).nox (defBody st) t ∧ StR K t (some (.lst (bagL x y)) :: ds.map (fun d => some (.dat d)) ++ List.replicate (N.length - (ds.length + 1)) none) { rt := fun ρ' d => Po ds d ∧ imm d = true ∧ ∃ x' y', ρ'[0]? = some (some (.lst (bagL x' y'))) }) :
    FnOk Pr w K mg base CX0 (k + 1) f fd ps (spB K Pre Po) := by
  refine F.ok S (fun vs H Q E h => ?_) (fun cdv A outer s H vs Q E hr h => ?_)
  · obtain ⟨b, x, y, ws, ds, rfl, _, al, hp, _⟩ := h
    rw [List.length_cons, dpAll_len al]
    exact len ds hp
  · obtain ⟨b, x, y, ws, ds, rfl, hb, al, hp, q⟩ := h
    obtain ⟨t, ht, hs⟩ := body ds x y hp cdv A outer s H E hr
    have hl := dpAll_len al
    have al' : DqAll K H ws ds := dpAll_ex del_ex al
    have o : Ok K (del H b) H (L2.start N (.ref b :: ws)) (some (.lst (bagL x y)) :: ds.map (fun d => some (.dat d)) ++ List.replicate (N.length - (ds.length + 1)) none) := by
      have split : ∀ (i : Nat) (s : Sl), (some (Sl.lst (bagL x y)) :: ds.map (fun d => some (Sl.dat d)) ++ List.replicate (N.length - (ds.length + 1)) none)[i]? = some (some s) → (i = 0 ∧ s = .lst (bagL x y)) ∨ ∃ j d, i = j + 1 ∧ ds[j]? = some d ∧ s = .dat d := fun i s h => by
        cases i with
        | zero => cases h; exact .inl ⟨rfl, rfl⟩
        | succ j =>
          rw [List.cons_append, List.getElem?_cons_succ] at h
          by_cases hj : j < ds.length
          · rw [List.getElem?_append_left (by simpa using hj), List.getElem?_map, List.getElem?_eq_getElem hj] at h
            cases h
            exact .inr ⟨j, _, rfl, List.getElem?_eq_getElem hj, rfl⟩
          · rw [List.getElem?_append_right (by simpa using hj), List.getElem?_replicate] at h
            split at h <;> cases h
      refine ⟨del_ex, ?_, fun i d h => ?_, fun i es h => ?_, fun i j es fs p h1 h2 _ _ => ?_⟩
      · unfold L2.start
        simp [hl]
      · rcases split i _ h with ⟨_, z⟩ | ⟨j, d', rfl, h1, h2⟩
        · cases z
        · cases h2
          obtain ⟨v, hv, dv⟩ := dpAll_get al h1
          refine ⟨v, ?_, dp_ex del_ex dv, .inr dv⟩
          unfold L2.start
          rw [List.getElem?_append_left (by rw [List.length_map, List.length_cons]; have := (List.getElem?_eq_some_iff.mp hv).1; omega), List.getElem?_map, List.getElem?_cons_succ, hv]
          rfl
      · rcases split i _ h with ⟨rfl, z⟩ | ⟨j, d', rfl, h1, h2⟩
        · cases z
          exact ⟨b, [.int x, .int y], rfl, del_same, hb, ofInts [x, y], rfl⟩
        · cases h2
      · rcases split i _ h1 with ⟨rfl, _⟩ | ⟨_, _, _, _, z⟩
        · rcases split j _ h2 with ⟨rfl, _⟩ | ⟨_, _, _, _, z⟩
          · rfl
          · cases z
        · cases z
    refine ⟨t, ht, hs (del H b) _ H _ o (fun _ _ _ z => z.elim) (fun _ _ _ z => z.elim) (fun _ _ _ z => z.elim) (fun ρ' σ' d v H' p o' f' r => ?_)⟩
    obtain ⟨p1, p2, x', y', p3⟩ := p
    obtain ⟨b', vs, a, _, hb', al2, _⟩ := o'.lst 0 _ p3
    rw [f'.s0] at a
    have e1 : b = b' := by
      have a' : (some (some (V.ref b)) : Option (Option V)) = some (some (.ref b')) := a
      cases a'; rfl
    subst e1
    have e2 : vs = [.int x', .int y'] := dpAll_ints (ns := [x', y']) al2
    subst e2
    have dq : Dq K H' v d := by
      rcases r with ⟨_, z⟩ | ⟨_, _, _, z, _⟩
      · exact z
      · rw [z] at p2; simp [imm] at p2
    exact q d v H' x' y' p1 (fun a o na h => o'.ex a o (by rw [del_ne na]; exact h)) hb' p2 dq
end
end Lx

set_option Elab.async false
set_option linter.all false
set_option maxRecDepth 100000
set_option maxHeartbeats 1000000
namespace Lx
open PySem PySem.Spec PyProof.Rows L2
open Evl (Ex)
theorem okn : okName "f" ∧ okName "g" ∧ okName "main" ∧ okName "abcdefgh" ∧ okName "h" := by
  unfold okName
  decide +kernel
theorem sh_encS (s : List Int) : SeqAt.shaped (encS s) = true := sh_ints s
section
variable {Pr : Program} {w : World} {K : PySem.W.Frag} {mg : Str → Option Value} {base : Heap}
/-! ### _law_bag -/
abbrev s__law_bag : Stmt := topS 29
abbrev N__law_bag : List Str := ["script", "k", "cell", "seed"]
theorem sc__law_bag : FnScope N__law_bag ["script", "k"] (defScope s__law_bag) := ⟨rfl, rfl, rfl, by decide +kernel, rfl, by decide +kernel, by decide +kernel⟩
def cellF (ns : List Int) (k : Nat) : Int := if k < ns.length then ns.getD k 0 % 10 ^ 60 else 0
def seedF (ns : List Int) (k : Nat) : Int := 1 + (cellF ns k % 2147483629 * 16807 + 40009 * (k : Int) * (k : Int) + 7919 * (k : Int) + 1009) % 2147483645
def R__law_bag : List PyData → PyData → Prop := fun ds d => ∃ (ns : List Int) (k : Nat), ds = [.list (ns.map .int), .int (k : Nat)] ∧ k ≤ 1000 ∧ d = .list [.int (if cellF ns k < 10 ^ 18 then 0 else cellF ns k), .int (seedF ns k)]
theorem ok__law_bag {f : Addr} {fd : FuncData} (M : Md mg)  (F : Fun K "_law_bag" "_law_bag" s__law_bag f fd) : FnOk Pr w K mg base CX0 1 f fd ["script", "k"] (spD K R__law_bag) := by
  refine okD (k := 0) F sc__law_bag (fun ds d h => ?_) (fun ds d h cdv A outer s H E hr => ⟨_, (pss_cons (ps_set (i := 2) sc__law_bag.nd rfl (Or.inl rfl) pe_int) (pss_cons (ps_if (pt_cmpR op_lt (pv 1) (pe_callB call_len (by rfl) M.len PySem.boot_len (pa_cons (pv 0) pa_nil)) (nomark _)) (pss_one (ps_set (i := 2) sc__law_bag.nd rfl (Or.inl rfl) (pe_op op_mod (pe_ix ix_list (pv 0) (pv 1) (fun _ _ => rfl)) (pe_op op_pow pe_int pe_int)))) pss_nil) (pss_cons (ps_set (i := 3) sc__law_bag.nd rfl (Or.inl rfl) (pe_op op_add pe_int (pe_op op_mod (pe_op op_add (pe_op op_add (pe_op op_add (pe_op op_mul (pe_op op_mod (pv 2) pe_int) pe_int) (pe_op op_mul (pe_op op_mul pe_int (pv 1)) (pv 1))) (pe_op op_mul pe_int (pv 1))) pe_int) pe_int))) (pss_cons (ps_if (pt_cmpR op_lt (pv 2) (pe_op op_pow pe_int pe_int) (nomark _)) (pss_one (ps_ret (pe_lst (pa_cons pe_int (pa_cons (pv 3) pa_nil))))) pss_nil) (pss_one (ps_ret (pe_lst (pa_cons (pv 2) (pa_cons (pv 3) pa_nil))))))))), ?_⟩)
  · obtain ⟨x, y, rfl, _⟩ := h
    rfl
  · obtain ⟨ns, k, rfl, hk, rfl⟩ := h
    refine sr_set ef_int ?_
    have rest : ∀ P : Po, (∀ ρ, P.rt ρ (.list [.int (if cellF ns k < 10 ^ 18 then 0 else cellF ns k), .int (seedF ns k)])) → StR K (tSeq (tAsg (tOp (rI0 fun i j => .int (i + j)) (tC (.int 1)) (tOp (rI (fun _ j => 0 < j) fun i j => .int (i % j)) (tOp (rI0 fun i j => .int (i + j)) (tOp (rI0 fun i j => .int (i + j)) (tOp (rI0 fun i j => .int (i + j)) (tOp (rI CMul fun i j => .int (i * j)) (tOp (rI (fun _ j => 0 < j) fun i j => .int (i % j)) (tVar 2) (tC (.int 2147483629))) (tC (.int 16807))) (tOp (rI CMul fun i j => .int (i * j)) (tOp (rI CMul fun i j => .int (i * j)) (tC (.int 40009)) (tVar 1)) (tVar 1))) (tOp (rI CMul fun i j => .int (i * j)) (tC (.int 7919)) (tVar 1))) (tC (.int 1009))) (tC (.int 2147483645)))) (gName 3)) (tSeq (tIfS (tTest (tOp (rI0 fun i j => .bl (decide (i < j))) (tVar 2) (tOp (rI CPow fun i j => .int (i ^ j.toNat)) (tC (.int 10)) (tC (.int 18))))) (tRet (tLst (tCons (tC (.int 0)) (tCons (tVar 3) tNil)))) tNext) (tRet (tLst (tCons (tVar 2) (tCons (tVar 3) tNil)))))) [some (.dat (.list (ns.map .int))), some (.dat (.int (k : Nat))), some (.dat (.int (cellF ns k))), none] P := fun P hP => by
      refine sr_set (d := .int (seedF ns k)) (EvR.f (er_add er_int (er_mod (er_add (er_add (er_add (er_mul (er_mod (er_v 2) er_int (by decide)) er_int (.inr ⟨by decide, by decide⟩)) (er_mul (er_mul er_int (er_v 1) (.inl ⟨by decide, by decide⟩)) (er_v 1) (.inr ⟨by omega, by omega⟩))) (er_mul er_int (er_v 1) (.inl ⟨by decide, by decide⟩))) er_int) er_int (by decide))) rfl) ?_
      have tst : EvT K (tTest (tOp (rI0 fun i j => .bl (decide (i < j))) (tVar 2) (tOp (rI CPow fun i j => .int (i ^ j.toNat)) (tC (.int 10)) (tC (.int 18))))) [some (.dat (.list (ns.map .int))), some (.dat (.int (k : Nat))), some (.dat (.int (cellF ns k))), some (.dat (.int (seedF ns k)))] (decide (cellF ns k < 10 ^ 18)) := et_test (er_lt (er_v 2) (er_pow er_int er_int ⟨by decide, by decide, by decide⟩))
      by_cases h : cellF ns k < 10 ^ 18
      · refine sr_take (et_is tst (decide_eq_true h)) (sr_ret (ef_lst (ea_cons er_int (ea_cons (er_v 3) ea_nil)) rfl) ?_)
        have := hP [some (.dat (.list (ns.map .int))), some (.dat (.int (k : Nat))), some (.dat (.int (cellF ns k))), some (.dat (.int (seedF ns k)))]
        rw [if_pos h] at this
        exact this
      · refine sr_skip (et_is tst (decide_eq_false h)) (sr_ret (ef_lst (ea_cons (er_v 2) (ea_cons (er_v 3) ea_nil)) rfl) ?_)
        have := hP [some (.dat (.list (ns.map .int))), some (.dat (.int (k : Nat))), some (.dat (.int (cellF ns k))), some (.dat (.int (seedF ns k)))]
        rw [if_neg h] at this
        exact this
    have tst : EvT K (tTest (tOp (rI0 fun i j => .bl (decide (i < j))) (tVar 1) (tCB (fun xs H Q => ∃ x n, xs = [x] ∧ LenV K x H n ∧ Q (.int n) H) (tCons (tVar 0) tNil)))) [some (.dat (.list (ns.map .int))), some (.dat (.int (k : Nat))), some (.dat (.int 0)), none] (decide (k < ns.length)) := et_test (er_is (er_lt (er_v 1) (er_lenL (er_v 0 (d := .list (ns.map .int))))) (by
      rw [List.length_map]
      congr 1
      by_cases h : k < ns.length
      · rw [decide_eq_true h, decide_eq_true (by omega)]
      · rw [decide_eq_false h, decide_eq_false (by omega)]))
    by_cases h : k < ns.length
    · have ec : cellF ns k = ns.getD k 0 % 10 ^ 60 := if_pos h
      refine sr_seq (· = [some (.dat (.list (ns.map .int))), some (.dat (.int (k : Nat))), some (.dat (.int (cellF ns k))), none]) (sr_if (b := true) (et_is tst (decide_eq_true h)) (fun _ => sr_set1 (d := .int (cellF ns k)) (EvR.f (er_is (er_mod (er_ixL (er_v 0 (d := .list (ns.map .int))) (er_v 1) (d := .int (ns.getD k 0)) ?_) (er_pow er_int er_int ⟨by decide, by decide, by decide⟩) (by decide)) (by rw [ec]; rfl)) rfl) rfl) (fun z => nomatch z)) (fun ρ' e => by rw [e]; exact rest _ fun _ => rfl)
      exact atI_nat (by rw [List.getElem?_map, List.getElem?_eq_getElem h, List.getD_eq_getElem?_getD, List.getElem?_eq_getElem h]; rfl)
    · have ec : cellF ns k = 0 := if_neg h
      refine sr_skip (et_is tst (decide_eq_false h)) ?_
      have e : [some (Sl.dat (.list (ns.map .int))), some (Sl.dat (.int (k : Nat))), some (Sl.dat (.int 0)), none] = [some (Sl.dat (.list (ns.map .int))), some (Sl.dat (.int (k : Nat))), some (Sl.dat (.int (cellF ns k))), none] := by rw [ec]
      show StR K _ [some (Sl.dat (.list (ns.map .int))), some (Sl.dat (.int (k : Nat))), some (Sl.dat (.int 0)), none] _
      rw [e]
      exact rest _ fun _ => rfl
/-! ### _law_take -/
abbrev s__law_take : Stmt := topS 30
abbrev N__law_take : List Str := ["bag", "many", "found"]
theorem sc__law_take : FnScope N__law_take ["bag", "many"] (defScope s__law_take) := ⟨rfl, rfl, rfl, by decide +kernel, rfl, by decide +kernel, by decide +kernel⟩
def A__law_take : List PyData → Prop := fun ds => ∃ m : Int, ds = [.int m] ∧ 0 < m ∧ m < 1073741824
def B__law_take : List PyData → PyData → Prop := fun ds d => ∃ m r : Int, ds = [.int m] ∧ 0 ≤ r ∧ r < m ∧ d = .int r
theorem ok__law_take {f : Addr} {fd : FuncData} (M : Md mg)  (F : Fun K "_law_take" "_law_take" s__law_take f fd) : FnOk Pr w K mg base CX0 1 f fd ["bag", "many"] (spB K A__law_take B__law_take) := by
  refine okB (k := 0) F sc__law_take (fun ds h => ?_) (fun ds x y h cdv A outer s H E hr => ⟨_, (pss_cons (ps_if (pt_cmpR op_gt (pe_ix ix_list (pv 0) pe_int (fun _ _ => rfl)) pe_int (nomark _)) (pss_cons (ps_set (i := 2) sc__law_take.nd rfl (Or.inl rfl) (pe_op op_mod (pe_ix ix_list (pv 0) pe_int (fun _ _ => rfl)) (pv 1))) (pss_cons (ps_asg (pe_op op_fdiv (pe_ix ix_list (pv 0) pe_int (fun _ _ => rfl)) (pv 1)) (pg_sub (pv 0) pe_int set_list)) (pss_one (ps_ret (pv 2))))) pss_nil) (pss_cons (ps_asg (pe_op op_mod (pe_op op_mul (pe_ix ix_list (pv 0) pe_int (fun _ _ => rfl)) pe_int) pe_int) (pg_sub (pv 0) pe_int set_list)) (pss_one (ps_ret (pe_op op_mod (pe_op op_fdiv (pe_op op_mod (pe_op op_mul (pe_op op_fdiv (pe_ix ix_list (pv 0) pe_int (fun _ _ => rfl)) pe_int) (pe_op op_add (pe_op op_mod (pe_ix ix_list (pv 0) pe_int (fun _ _ => rfl)) pe_int) pe_int)) pe_int) pe_int) (pv 1)))))), ?_⟩)
  · obtain ⟨m, rfl, _⟩ := h
    rfl
  · obtain ⟨m, rfl, m1, m2⟩ := h
    show StR K _ [some (.lst (bagL x y)), some (.dat (.int m)), none] _
    have b0 : ∀ {x y : Int} {z : Option Sl}, EvR K (tOp (rIxL K) (tVar 0) (tC (.int 0))) [some (.lst (bagL x y)), some (.dat (.int m)), z] (.int x) := er_ixL (er_vl 0) er_int (atI_nat (j := 0) rfl)
    have b1 : ∀ {x y : Int} {z : Option Sl}, EvR K (tOp (rIxL K) (tVar 0) (tC (.int 1))) [some (.lst (bagL x y)), some (.dat (.int m)), z] (.int y) := er_ixL (er_vl 0) er_int (atI_nat (j := 1) rfl)
    by_cases hx : 0 < x
    · refine sr_take (et_test (er_is (er_gt b0 er_int) (by rw [decide_eq_true hx]))) (sr_set (d := .int (x % m)) (EvR.f (er_mod b0 (er_v 1) m1) rfl) (sr_seti (j := 0) (ds := bagL x y) rfl (er_fdiv (b0 (z := some (.dat (.int (x % m))))) (er_v 1) ⟨m1, m2⟩) rfl er_int (by show 0 < 2; decide) (sr_ret (EvR.f (er_v 2) rfl) ?_)))
      exact ⟨⟨m, x % m, rfl, Int.emod_nonneg _ (by omega), Int.emod_lt_of_pos _ m1, rfl⟩, rfl, x / m, y, rfl⟩
    · refine sr_skip (et_test (er_is (er_gt b0 er_int) (by rw [decide_eq_false hx]))) (sr_seti (j := 1) (ds := bagL x y) rfl (er_mod (er_mul b1 er_int (.inr ⟨by decide, by decide⟩)) er_int (by decide)) rfl er_int (by show 1 < 2; decide) ?_)
      show StR K _ [some (.lst (bagL x (y * 48271 % 2147483647))), some (.dat (.int m)), none] _
      have hb : ∀ z : Int, CMul (z / 13) (z % 32749 + 17) := fun z => .inr ⟨by have := Int.emod_nonneg z (show (32749 : Int) ≠ 0 by decide); omega, by have := Int.emod_lt_of_pos z (show (0 : Int) < 32749 by decide); omega⟩
      refine sr_ret (EvR.f (er_mod (er_fdiv (er_mod (er_mul (er_fdiv b1 er_int ⟨by decide, by decide⟩) (er_add (er_mod b1 er_int (by decide)) er_int) (hb _)) er_int (by decide)) er_int ⟨by decide, by decide⟩) (er_v 1) m1) rfl) ?_
      exact ⟨⟨m, _, rfl, Int.emod_nonneg _ (by omega), Int.emod_lt_of_pos _ m1, rfl⟩, rfl, x, y * 48271 % 2147483647, rfl⟩
/-! ### _law_of -/
abbrev s__law_of : Stmt := topS 31
abbrev N__law_of : List Str := ["bag", "some"]
theorem sc__law_of : FnScope N__law_of ["bag", "some"] (defScope s__law_of) := ⟨rfl, rfl, rfl, by decide +kernel, rfl, by decide +kernel, by decide +kernel⟩
def A__law_of : List PyData → Prop := fun ds => ∃ es, ds = [.list es] ∧ 0 < es.length ∧ es.length ≤ 1000 ∧ immAll es = true
def B__law_of : List PyData → PyData → Prop := fun ds d => ∃ es, ds = [.list es] ∧ d ∈ es
theorem eb_ixV {ρ : En} {tb : TE} {es : List PyData} {Post : En → PyData → Prop} (h1 : ρ[1]? = some (some (.dat (.list es)))) (him : immAll es = true) (hb : EvB K tb ρ Post) (hy : ∀ ρ2 e, Post ρ2 e → ρ2[1]? = some (some (.dat (.list es))) ∧ ∃ j : Nat, e = .int (j : Nat) ∧ j < es.length) :
    EvB K (tOp (rIxL K) (tVar 1) tb) ρ (fun ρ2 d => d ∈ es ∧ ∃ e, Post ρ2 e) := fun H0 σ H o Q q => by
  obtain ⟨v, a, _, _⟩ := o.dat 1 _ h1
  refine ⟨v, a, hb H0 σ H o _ fun w H2 ρ2 e p o2 f2 hi d2 => ?_⟩
  obtain ⟨h2, j, rfl, hj⟩ := hy ρ2 e p
  obtain ⟨v', a', dv, _⟩ := o2.dat 1 _ h2
  rw [a] at a'
  cases a'
  cases d2
  obtain ⟨l, vs, rfl, s, al⟩ := dp_lst dv
  have hg : es[j]? = some es[j] := List.getElem?_eq_getElem hj
  obtain ⟨u, e1, e2⟩ := at_of_dp al (atI_nat hg)
  exact ⟨l, vs, _, u, rfl, rfl, s, e1, q u H2 ρ2 es[j] ⟨List.getElem_mem hj, _, p⟩ o2 f2 (immAll_get him hg) e2⟩
theorem ok__law_of {f : Addr} {fd : FuncData} (M : Md mg) (C__law_take : Cal Pr w K mg base 1 "_law_take" (spB K A__law_take B__law_take)) (F : Fun K "_law_of" "_law_of" s__law_of f fd) : FnOk Pr w K mg base CX0 2 f fd ["bag", "some"] (spB K A__law_of B__law_of) := by
  refine okB (k := 1) F sc__law_of (fun ds h => ?_) (fun ds x y h cdv A outer s H E hr => ⟨_, (pss_one (ps_ret (pe_ix ix_list (pv 1) (pe_cal C__law_take hr (by decide) (by rfl) (pa_cons (pv 0) (pa_cons (pe_callB call_len (by rfl) M.len PySem.boot_len (pa_cons (pv 1) pa_nil)) pa_nil))) (fun _ _ => rfl)))), ?_⟩)
  · obtain ⟨m, rfl, _⟩ := h
    rfl
  · obtain ⟨es, rfl, e1, e2, e3⟩ := h
    show StR K _ [some (.lst (bagL x y)), some (.dat (.list es))] _
    refine sb_ret (eb_ixV rfl e3 (eb_call (Pre := A__law_take) (Po := B__law_take) (x := x) (y := y) rfl (exa_cons (ex_imm (er_lenL (er_v 1 (d := .list es))) rfl) exa_nil) ⟨_, rfl, by omega, by omega⟩) fun ρ2 e p => ?_) fun ρ2 d im p => ?_
    · obtain ⟨⟨m, r, em, r1, r2, rfl⟩, x', y', rfl⟩ := p
      cases em
      refine ⟨rfl, r.toNat, by rw [Int.toNat_of_nonneg r1], by omega⟩
    · obtain ⟨p1, e, _, x', y', rfl⟩ := p
      exact ⟨⟨es, rfl, p1⟩, im, x', y', rfl⟩
/-! ### _law_event -/
abbrev s__law_event : Stmt := topS 37
abbrev N__law_event : List Str := ["bag", "stack", "created", "most", "name", "some"]
theorem sc__law_event : FnScope N__law_event ["bag", "stack", "created", "most"] (defScope s__law_event) := ⟨rfl, rfl, rfl, by decide +kernel, rfl, by decide +kernel, by decide +kernel⟩
def Gd (st : List Int) (c m : Int) : Evt → Prop
  | .enter s => okName s ∧ c < m
  | .tail s => okName s ∧ c < m ∧ st ≠ []
  | .exit f => st.getLast? = some f
  | .caught f => f ∈ st
  | .mark => True
def A__law_event : List PyData → Prop := fun ds => ∃ (st : List Int) (c m : Int), ds = [encS st, .int c, .int m] ∧ st.length ≤ 100
def B__law_event : List PyData → PyData → Prop := fun ds d => ∃ (st : List Int) (c m : Int) (e : Evt), ds = [encS st, .int c, .int m] ∧ Gd st c m e ∧ d = encE e
theorem ok__law_event {f : Addr} {fd : FuncData} (M : Md mg) (C__law_of : Cal Pr w K mg base 2 "_law_of" (spB K A__law_of B__law_of)) (F : Fun K "_law_event" "_law_event" s__law_event f fd) : FnOk Pr w K mg base CX0 3 f fd ["bag", "stack", "created", "most"] (spB K A__law_event B__law_event) := by
  refine okB (k := 2) F sc__law_event (fun ds h => ?_) (fun ds x y h cdv A outer s H E hr => ⟨_, (pss_cons (ps_set (i := 4) sc__law_event.nd rfl (Or.inl rfl) (pe_cal C__law_of hr (by decide) (by rfl) (pa_cons (pv 0) (pa_cons (pe_lst (pa_cons pe_str (pa_cons pe_str (pa_cons pe_str (pa_cons pe_str pa_nil))))) pa_nil)))) (pss_cons (ps_set (i := 5) sc__law_event.nd rfl (Or.inl rfl) (pe_lst (pa_cons (pe_tupN (pa_cons pe_str pa_nil)) pa_nil))) (pss_cons (ps_if (pt_cmpR op_lt (pv 2) (pv 3) (nomark _)) (pss_one (ps_set (i := 5) sc__law_event.nd rfl (Or.inl rfl) (pe_op op_cat (pv 5) (pe_op op_rep (pe_lst (pa_cons (pe_tupN (pa_cons pe_str (pa_cons (pv 4) pa_nil))) pa_nil)) pe_int)))) pss_nil) (pss_cons (ps_if (PW.pt (pw_and (pt_cmpR (op_neD hr.units) (pv 1) (pe_tupN pa_nil) (nomark _)) (pw_and1 (pt_cmpR op_lt (pv 2) (pv 3) (nomark _))))) (pss_one (ps_expr (pe_bm PySem.F.plainAttrs_list PySem.F.slot_list_append PySem.F.type_list_append mt_append (pv 5) (pa_cons (pe_tupN (pa_cons pe_str (pa_cons (pv 4) pa_nil))) pa_nil)))) pss_nil) (pss_cons (ps_if (pt_cmpR (op_neD hr.units) (pv 1) (pe_tupN pa_nil) (nomark _)) (pss_one (ps_set (i := 5) sc__law_event.nd rfl (Or.inl rfl) (pe_op op_cat (pe_op op_cat (pv 5) (pe_op op_rep (pe_lst (pa_cons (pe_tupN (pa_cons pe_str (pa_cons (pe_ix ix_tup (pv 1) (pe_un un_neg pe_int) (fun _ _ => rfl)) pa_nil))) pa_nil)) pe_int)) (pe_lst (pa_cons (pe_tupN (pa_cons pe_str (pa_cons (pe_cal C__law_of hr (by decide) (by rfl) (pa_cons (pv 0) (pa_cons (pe_callTy call_list_of (by rfl) M.list (by decide +kernel) (pa_cons (pv 1) pa_nil)) pa_nil))) pa_nil))) pa_nil))))) pss_nil) (pss_one (ps_ret (pe_cal C__law_of hr (by decide) (by rfl) (pa_cons (pv 0) (pa_cons (pv 5) pa_nil)))))))))), ?_⟩)
  · obtain ⟨a, b, c, rfl, _⟩ := h
    rfl
  · obtain ⟨st, c, m, rfl, hl⟩ := h
    show StR K _ [some (.lst (bagL x y)), some (.dat (encS st)), some (.dat (.int c)), some (.dat (.int m)), none, none] _
    refine sb_set (eb_call (Pre := A__law_of) (Po := B__law_of) (x := x) (y := y) rfl (exa_cons (ex_f (ef_lst (ea_cons er_str (ea_cons er_str (ea_cons er_str (ea_cons er_str ea_nil)))) rfl)) exa_nil) ⟨_, rfl, by decide, by decide, rfl⟩) fun ρ2 d im p => ?_
    obtain ⟨⟨es, ee, hd⟩, x, y, rfl⟩ := p
    cases ee
    obtain ⟨nm, rfl, hnm⟩ : ∃ nm, d = .str nm ∧ okName nm := by
      obtain ⟨n1, n2, n3, n4, _⟩ := okn
      simp only [List.mem_cons, List.not_mem_nil, or_false] at hd
      rcases hd with rfl | rfl | rfl | rfl
      · exact ⟨_, rfl, n1⟩
      · exact ⟨_, rfl, n2⟩
      · exact ⟨_, rfl, n3⟩
      · exact ⟨_, rfl, n4⟩
    show StR K _ [some (.lst (bagL x y)), some (.dat (encS st)), some (.dat (.int c)), some (.dat (.int m)), some (.dat (.str nm)), none] _
    refine sr_set (d := .list [encE .mark]) (ef_lst (ea_cons (er_tup (ea_cons er_str ea_nil)) ea_nil) rfl) ?_
    -- the list of what may happen
    let Mv : En → Prop := fun ρ' => ∃ (x y : Int) (es : List Evt), ρ' = [some (.lst (bagL x y)), some (.dat (encS st)), some (.dat (.int c)), some (.dat (.int m)), some (.dat (.str nm)), some (.lst (es.map encE))] ∧ 0 < es.length ∧ es.length ≤ 10 ∧ ∀ e ∈ es, Gd st c m e
    let Mv2 : En → Prop := fun ρ' => ∃ (x y : Int) (es : List Evt), ρ' = [some (.lst (bagL x y)), some (.dat (encS st)), some (.dat (.int c)), some (.dat (.int m)), some (.dat (.str nm)), some (.lst (es.map encE))] ∧ 0 < es.length ∧ es.length ≤ 20 ∧ ∀ e ∈ es, Gd st c m e
    have emp : ∀ {x y : Int} {a b : Option Sl}, EvT K (tTest (tOp (rNeD K) (tVar 1) (tTupN tNil))) [some (.lst (bagL x y)), some (.dat (encS st)), some (.dat (.int c)), some (.dat (.int m)), a, b] (!decide (st = [])) := fun {x y a b} =>
      et_test (er_is (er_neD (er_v 1 (d := .tuple (st.map .int))) (er_tup ea_nil) (sh_ints st) rfl) (by
        show PyData.bool (!PyData.eqvAll _ ([].map .int)) = _
        rw [eqvAll_ints]))
    refine sr_seq Mv ?_ fun ρ' h => ?_
    · refine sr_if (et_test (er_lt (er_v 2) (er_v 3))) (fun hc => ?_) (fun _ => sr_next ⟨x, y, [.mark], rfl, by decide, by decide, fun e he => ?_⟩)
      · refine sr_set1 (d := .list (([Evt.mark] ++ List.replicate 5 (Evt.enter nm)).map encE)) (ef_is (ef_catL (ds := [encE .mark]) rfl (ef_rep (ds := [encE (.enter nm)]) (k := 5) (ef_lst (ea_cons (er_tup (ea_cons er_str (ea_cons (er_v 4) ea_nil))) ea_nil) rfl) (by omega) (by show 1 ≤ 100; decide) er_int) (by show 1 + 5 ≤ 100000; decide)) rfl) ⟨x, y, [Evt.mark] ++ List.replicate 5 (Evt.enter nm), rfl, by show 0 < 6; decide, by show 6 ≤ 10; decide, fun e he => ?_⟩
        have hc' := of_decide_eq_true hc
        rcases List.mem_append.mp he with z | z
        · rw [List.mem_singleton] at z; rw [z]; trivial
        · rw [(List.mem_replicate.mp z).2]; exact ⟨hnm, hc'⟩
      · rw [List.mem_singleton] at he; rw [he]; trivial
    · obtain ⟨x, y, es, rfl, l0, l1, g1⟩ := h
      refine sr_seq Mv2 ?_ fun ρ' h => ?_
      · refine sr_if (b := !decide (st = []) && decide (c < m)) (et_and emp fun _ => et_test (er_lt (er_v 2) (er_v 3))) (fun hb => ?_) (fun _ => sr_next ⟨x, y, es, rfl, l0, by omega, g1⟩)
        rw [Bool.and_eq_true] at hb
        have hne : st ≠ [] := by simpa using hb.1
        refine sr_app1 (ds := es.map encE) (d := encE (.tail nm)) rfl (er_tup (ea_cons er_str (ea_cons (er_v 4) ea_nil))) rfl (by rw [List.length_map]; omega) ⟨x, y, es ++ [.tail nm], by rw [List.map_append]; rfl, by rw [List.length_append]; omega, by rw [List.length_append]; show _ + 1 ≤ _; omega, fun e he => ?_⟩
        rcases List.mem_append.mp he with z | z
        · exact g1 e z
        · rw [List.mem_singleton] at z; rw [z]; exact ⟨hnm, of_decide_eq_true hb.2, hne⟩
      · obtain ⟨x, y, es, rfl, l0, l1, g1⟩ := h
        refine sr_seq (fun ρ' => ∃ (x y : Int) (es : List Evt), ρ' = [some (.lst (bagL x y)), some (.dat (encS st)), some (.dat (.int c)), some (.dat (.int m)), some (.dat (.str nm)), some (.lst (es.map encE))] ∧ 0 < es.length ∧ es.length ≤ 30 ∧ ∀ e ∈ es, Gd st c m e) ?_ fun ρ' h => ?_
        · refine sr_if emp (fun hb => ?_) (fun _ => sr_next ⟨x, y, es, rfl, l0, by omega, g1⟩)
          have hne : st ≠ [] := by simpa using hb
          obtain ⟨ys, z, rfl⟩ : ∃ ys z, st = ys ++ [z] := ⟨st.dropLast, st.getLast hne, (List.dropLast_concat_getLast hne).symm⟩
          have lastE : EvR K (tOp (rIxT K) (tVar 1) (tUn (rU fun i => .int (-i)) (tC (.int 1)))) [some (.lst (bagL x y)), some (.dat (encS (ys ++ [z]))), some (.dat (.int c)), some (.dat (.int m)), some (.dat (.str nm)), some (.lst (es.map encE))] (.int z) := er_ixT (er_v 1 (d := .tuple ((ys ++ [z]).map .int))) (er_neg er_int) (by rw [List.map_append]; exact atI_last _ _)
          refine sb_cat (ds := es.map encE ++ [encE (.exit z), encE (.exit z)]) (ef_is (ef_catL (ds := es.map encE) rfl (ef_rep (ds := [encE (.exit z)]) (k := 2) (ef_lst (ea_cons (er_tup (ea_cons er_str (ea_cons lastE ea_nil))) ea_nil) rfl) (by omega) (by show 1 ≤ 100; decide) er_int) (by rw [List.length_map]; show _ + 2 ≤ _; omega)) rfl) (eb_tup2 er_str rfl (eb_call (Pre := A__law_of) (Po := B__law_of) (x := x) (y := y) rfl (exa_cons (ex_f (ef_listS (er_v 1 (d := .tuple ((ys ++ [z]).map .int))) (.inl rfl) (immAll_ints _))) exa_nil) ⟨_, rfl, by rw [List.length_map, List.length_append]; show 0 < _ + 1; omega, by rw [List.length_map]; omega, immAll_ints _⟩)) (by rw [List.length_append, List.length_map]; show _ + 2 < _; omega) fun ρ2 e im p => ?_
          obtain ⟨d, ⟨⟨fs, ef, hd⟩, x', y', rfl⟩, rfl⟩ := p
          cases ef
          obtain ⟨g, hg, rfl⟩ := List.mem_map.mp hd
          refine ⟨x', y', es ++ [.exit z, .exit z, .caught g], ?_, by rw [List.length_append]; omega, by rw [List.length_append]; show _ + 3 ≤ _; omega, fun e he => ?_⟩
          · rw [List.map_append]
            show [_, _, _, _, _, some (Sl.lst ((es.map encE ++ [encE (.exit z), encE (.exit z)]) ++ [encE (.caught g)]))] = _
            rw [List.append_assoc]; rfl
          · rcases List.mem_append.mp he with q | q
            · exact g1 e q
            · simp only [List.mem_cons, List.not_mem_nil, or_false] at q
              rcases q with rfl | rfl | rfl
              · exact List.getLast?_concat
              · exact List.getLast?_concat
              · exact hg
        · obtain ⟨x, y, es, rfl, l0, l1, g1⟩ := h
          refine sb_ret (eb_call (Pre := A__law_of) (Po := B__law_of) (x := x) (y := y) rfl (exa_cons (ex_slot 5 (ds := es.map encE) rfl (by decide)) exa_nil) ⟨_, rfl, by rw [List.length_map]; exact l0, by rw [List.length_map]; omega, immAll_encE es⟩) fun ρ2 d im p => ?_
          obtain ⟨⟨fs, ef, hd⟩, x', y', rfl⟩ := p
          cases ef
          obtain ⟨e, he, rfl⟩ := List.mem_map.mp hd
          exact ⟨⟨st, c, m, e, rfl, g1 e he, rfl⟩, im, x', y', rfl⟩
end
end Lx

set_option Elab.async false
set_option linter.all false
set_option maxRecDepth 100000
set_option maxHeartbeats 1000000
namespace Lx
open PySem PySem.Spec PyProof.Rows L2
open Evl (Ex)
structure Jv (k : Nat) (t : List Evt) (c : List Int) (st : List Int) : Prop where
  lt : t.length = k
  lc : c.length = k
  few : cr t k ≤ 10
  ok : ∀ (i : Nat) (e : Evt), t[i]? = some e → EvOk e (cr t i)
  nn : ∀ u ∈ c, 0 ≤ u
  run : ∃ ss, runS t c = some ss ∧ nextS t ss = some st
theorem cr_snoc {t : List Evt} {e : Evt} {i : Nat} (h : i ≤ t.length) : cr (t ++ [e]) i = cr t i := by
  unfold cr
  rw [List.take_append_of_le_length h]
theorem Jv.good {k : Nat} {t : List Evt} {c st : List Int} (j : Jv k t c st) : Asc st ∧ (∀ x ∈ st, 0 ≤ x ∧ x < (cr t k : Nat)) ∧ st.length ≤ 10 := by
  obtain ⟨ss, h1, h2⟩ := j.run
  obtain ⟨g, l⟩ := run_good rfl h1
  obtain ⟨a1, a2⟩ := nextS_good g h2
  rw [l, j.lc] at a2
  have := asc_len a1 a2
  have := j.few
  exact ⟨a1, a2, by omega⟩
theorem Jv.step {k : Nat} {t : List Evt} {c st : List Int} (j : Jv k t c st) {u : Int} (u0 : 0 ≤ u) (u1 : u ≤ (st.length : Nat)) {e : Evt} (g : Gd (st.take (st.length - u.toNat)) (cr t k : Nat) 10 e) :
    ∃ r, after (st.take (st.length - u.toNat)) e (cr t k : Nat) = some r ∧ Jv (k + 1) (t ++ [e]) (c ++ [u]) r := by
  obtain ⟨a1, a2, a3⟩ := j.good
  have sub : ∀ x ∈ st.take (st.length - u.toNat), 0 ≤ x ∧ x < (cr t k : Nat) := fun x hx => a2 x (List.mem_of_mem_take hx)
  have some_r : ∃ r, after (st.take (st.length - u.toNat)) e (cr t k : Nat) = some r := by
    cases e with
    | enter s => exact ⟨_, rfl⟩
    | tail s =>
      refine ⟨(st.take (st.length - u.toNat)).dropLast ++ [((cr t k : Nat) : Int)], ?_⟩
      simp only [after, if_neg g.2.2]
    | exit f =>
      refine ⟨(st.take (st.length - u.toNat)).dropLast, ?_⟩
      have g' : (st.take (st.length - u.toNat)).getLast? = some f := g
      simp only [after, if_pos g']
    | caught f =>
      refine ⟨(st.take (st.length - u.toNat)).filter (fun x => decide (x ≤ f)), ?_⟩
      have g' : f ∈ st.take (st.length - u.toNat) := g
      simp only [after, if_pos g']
    | mark => exact ⟨_, rfl⟩
  have evok : EvOk e (cr t k) := by
    cases e with
    | enter s => exact g.1
    | tail s =>
      refine ⟨g.1, ?_⟩
      cases h : st.take (st.length - u.toNat) with
      | nil => exact absurd h g.2.2
      | cons a r =>
        have := sub a (by rw [h]; simp)
        omega
    | exit f =>
      have g' : (st.take (st.length - u.toNat)).getLast? = some f := g
      exact sub f (List.mem_of_getLast? g')
    | caught f => exact sub f g
    | mark => trivial
  obtain ⟨r, hr⟩ := some_r
  obtain ⟨ss, h1, h2⟩ := j.run
  have lt := j.lt
  have lc := j.lc
  have ssl : ss.length = k := by rw [(run_good rfl h1).2, lc]
  have last : (t ++ [e])[k]? = some e := by rw [← lt, List.getElem?_append_right (Nat.le_refl _), Nat.sub_self]; rfl
  have tk : (t ++ [e]).take k = t := by rw [← lt, List.take_left]
  have run1 : runS (t ++ [e]) c = some ss := by
    rw [← h1]
    have := runS_prefix (t := t ++ [e]) (m := k) (c := c) rfl (by omega)
    rw [tk] at this
    exact this.symm
  have nx1 : nextS (t ++ [e]) ss = some st := by
    rw [← h2]
    have := nextS_take (t := t ++ [e]) (m := k) (ss := ss) (by omega)
    rw [tk] at this
    exact this.symm
  refine ⟨r, hr, ⟨by rw [List.length_append, lt]; rfl, by rw [List.length_append, lc]; rfl, ?_, fun i e' h => ?_, fun x hx => ?_, ss ++ [st.take (st.length - u.toNat)], ?_, ?_⟩⟩
  · rw [cr_succ last, cr_snoc (by omega)]
    have := j.few
    cases hc : creates e with
    | false => simp; omega
    | true =>
      have : (cr t k : Nat) < (10 : Int) := by
        cases e with
        | enter s => exact g.2
        | tail s => exact g.2.1
        | exit f => cases hc
        | caught f => cases hc
        | mark => cases hc
      simp; omega
  · have hi : i < (t ++ [e]).length := (List.getElem?_eq_some_iff.mp h).1
    rw [List.length_append] at hi
    have hi' : i < t.length + 1 := hi
    rw [cr_snoc (by omega)]
    by_cases q : i < t.length
    · rw [List.getElem?_append_left q] at h
      exact j.ok i e' h
    · have ei : i = k := by omega
      subst ei
      rw [last] at h
      cases h
      exact evok
  · rcases List.mem_append.mp hx with z | z
    · exact j.nn x z
    · rw [List.mem_singleton] at z; omega
  · rw [runS_snoc, run1]
    show stepS (t ++ [e]) ss u = _
    unfold stepS
    rw [nx1]
    exact if_pos ⟨u0, u1⟩
  · rw [nextS_snoc (e := e) (by rw [ssl]; exact last), ssl, cr_snoc (by omega), hr]
theorem Jv.last {k : Nat} {t : List Evt} {c st : List Int} (j : Jv k t c st) (hk : k ≤ 24) {u : Int} (u0 : 0 ≤ u) (u1 : u ≤ (st.length : Nat)) : Tr t ∧ (c ++ [u]).length = t.length + 1 ∧ (∀ x ∈ c ++ [u], 0 ≤ x) ∧ ∃ ss, runS t (c ++ [u]) = some ss := by
  obtain ⟨ss, h1, h2⟩ := j.run
  refine ⟨⟨by rw [j.lt]; exact hk, by rw [j.lt]; exact j.few, j.ok⟩, by rw [List.length_append, j.lc, j.lt]; rfl, fun x hx => ?_, ss ++ [st.take (st.length - u.toNat)], ?_⟩
  · rcases List.mem_append.mp hx with z | z
    · exact j.nn x z
    · rw [List.mem_singleton] at z; omega
  · rw [runS_snoc, h1]
    show stepS t ss u = _
    unfold stepS
    rw [h2]
    exact if_pos ⟨u0, u1⟩
section
variable {Pr : Program} {w : World} {K : PySem.W.Frag} {mg : Str → Option Value} {base : Heap}
abbrev s__law_run : Stmt := topS 38
abbrev N__law_run : List Str := ["bag", "events", "most", "trace", "completion", "stack", "created", "turn", "lost", "event"]
theorem sc__law_run : FnScope N__law_run ["bag", "events", "most"] (defScope s__law_run) := ⟨rfl, rfl, rfl, by decide +kernel, rfl, by decide +kernel, by decide +kernel⟩
def A__law_run : List PyData → Prop := fun ds => ds = [.int 24, .int 10]
def B__law_run : List PyData → PyData → Prop := fun ds d => ∃ (t : List Evt) (c : List Int), d = .tuple [encT t, .tuple (c.map .int)] ∧ Tr t ∧ c.length = t.length + 1 ∧ (∀ u ∈ c, 0 ≤ u) ∧ ∃ ss, runS t c = some ss
theorem ok__law_run {f : Addr} {fd : FuncData} (M : Md mg) (C__law_take : Cal Pr w K mg base 1 "_law_take" (spB K A__law_take B__law_take)) (C__law_of : Cal Pr w K mg base 2 "_law_of" (spB K A__law_of B__law_of)) (C__law_after : Cal Pr w K mg base 1 "_law_after" (spD K R__law_after)) (C__law_event : Cal Pr w K mg base 3 "_law_event" (spB K A__law_event B__law_event)) (F : Fun K "_law_run" "_law_run" s__law_run f fd) : FnOk Pr w K mg base CX0 4 f fd ["bag", "events", "most"] (spB K A__law_run B__law_run) := by
  refine okB (k := 3) F sc__law_run (fun ds h => ?_) (fun ds x y h cdv A outer s H E hr => ⟨_, (pss_cons (ps_asg (pe_tupN (pa_cons (pe_tupN pa_nil) (pa_cons (pe_tupN pa_nil) (pa_cons (pe_tupN pa_nil) (pa_cons pe_int pa_nil))))) (pg_tup rfl (pgs_cons (pg_name (i := 3) sc__law_run.nd rfl (Or.inl rfl)) (pgs_cons (pg_name (i := 4) sc__law_run.nd rfl (Or.inl rfl)) (pgs_cons (pg_name (i := 5) sc__law_run.nd rfl (Or.inl rfl)) (pgs_cons (pg_name (i := 6) sc__law_run.nd rfl (Or.inl rfl)) pgs_nil)))))) (pss_cons (ps_for PassesOwn.never rfl (pi_range1 (by rfl) M.range (pa_cons (pe_cal C__law_take hr (by decide) (by rfl) (pa_cons (pv 0) (pa_cons (pe_op op_add (pv 1) pe_int) pa_nil))) pa_nil)) (pg_name (i := 7) sc__law_run.nd rfl (Or.inl rfl)) (pss_cons (ps_set (i := 8) sc__law_run.nd rfl (Or.inl rfl) (pe_callB (call_min2 rfl) (by rfl) M.min (by decide +kernel) (pa_cons (pe_callB call_len (by rfl) M.len PySem.boot_len (pa_cons (pv 5) pa_nil)) (pa_cons (pe_cal C__law_of hr (by decide) (by rfl) (pa_cons (pv 0) (pa_cons (pe_lst (pa_cons pe_int (pa_cons pe_int (pa_cons pe_int (pa_cons pe_int (pa_cons pe_int (pa_cons pe_int (pa_cons pe_int pa_nil)))))))) pa_nil))) pa_nil)))) (pss_cons (ps_set (i := 5) sc__law_run.nd rfl (Or.inl rfl) (pe_slice sl_tupN (pv 5) po_none (po_some (pe_op op_sub (pe_callB call_len (by rfl) M.len PySem.boot_len (pa_cons (pv 5) pa_nil)) (pv 8))))) (pss_cons (ps_set (i := 9) sc__law_run.nd rfl (Or.inl rfl) (pe_cal C__law_event hr (by decide) (by rfl) (pa_cons (pv 0) (pa_cons (pv 5) (pa_cons (pv 6) (pa_cons (pv 2) pa_nil)))))) (pss_cons (ps_set (i := 5) sc__law_run.nd rfl (Or.inl rfl) (pe_cal C__law_after hr (by decide) (by rfl) (pa_cons (pv 5) (pa_cons (pv 9) (pa_cons (pv 6) pa_nil))))) (pss_cons (ps_set (i := 6) sc__law_run.nd rfl (Or.inl rfl) (pe_op op_add (pv 6) (pe_callTy call_int1 (by rfl) M.int (by decide +kernel) (pa_cons (pe_cmpR op_in_seq (pe_ix ix_tup (pv 9) pe_int (fun _ _ => rfl)) (pe_tupN (pa_cons pe_str (pa_cons pe_str pa_nil))) (by rfl)) pa_nil)))) (pss_one (ps_par (i := 3) (j := 4) (by rfl) sc__law_run.nd rfl rfl (by decide) rfl rfl (pa_cons (pe_op op_catN (pv 3) (pe_tupN (pa_cons (pv 9) pa_nil))) (pa_cons (pe_op op_catN (pv 4) (pe_tupN (pa_cons (pv 8) pa_nil))) pa_nil)) (by rfl))))))))) (pss_one (ps_ret (pe_tupN (pa_cons (pv 3) (pa_cons (pe_op op_catN (pv 4) (pe_tupN (pa_cons (pe_cal C__law_take hr (by decide) (by rfl) (pa_cons (pv 0) (pa_cons (pe_op op_add (pe_callB call_len (by rfl) M.len PySem.boot_len (pa_cons (pv 5) pa_nil)) pe_int) pa_nil))) pa_nil))) pa_nil))))))), ?_⟩)
  · have h' : ds = [.int 24, .int 10] := h
    rw [h']; rfl
  · have h' : ds = [.int 24, .int 10] := h
    subst h'
    show StR K _ [some (.lst (bagL x y)), some (.dat (.int 24)), some (.dat (.int 10)), none, none, none, none, none, none, none] _
    refine sr_tgt (er_tup (ea_cons (er_tup ea_nil) (ea_cons (er_tup ea_nil) (ea_cons (er_tup ea_nil) (ea_cons er_int ea_nil))))) rfl (tg_tup (tgs_cons (tg_name 3) (tgs_cons (tg_name 4) (tgs_cons (tg_name 5) (tgs_cons (tg_name 6) tgs_nil))))) ?_
    show StR K _ [some (.lst (bagL x y)), some (.dat (.int 24)), some (.dat (.int 10)), some (.dat (.tuple [])), some (.dat (.tuple [])), some (.dat (.tuple [])), some (.dat (.int 0)), none, none, none] _
    let Iv : Nat → En → Prop := fun k ρ' => ∃ (x y : Int) (t : List Evt) (c st : List Int) (a b e : Option Sl), ρ' = [some (.lst (bagL x y)), some (.dat (.int 24)), some (.dat (.int 10)), some (.dat (encT t)), some (.dat (.tuple (c.map .int))), some (.dat (encS st)), some (.dat (.int (cr t k : Nat))), a, b, e] ∧ Jv k t c st
    refine sb_for (eb_call (Pre := A__law_take) (Po := B__law_take) (x := x) (y := y) rfl (exa_cons (ex_imm (er_add (er_v 1) er_int) rfl) exa_nil) ⟨_, rfl, by decide, by decide⟩) (fun ρ2 e p => by obtain ⟨⟨m, r, _, _, _, rfl⟩, _⟩ := p; exact ⟨r, rfl⟩) (fun ρ' => ∃ k, k ≤ 24 ∧ Iv k ρ') (fun ρ2 n p => ?_) (fun ρ' iv => ?_)
    · obtain ⟨⟨m, r, em, r1, r2, er⟩, x, y, rfl⟩ := p
      cases em
      cases er
      have hn : n.toNat ≤ 24 := by omega
      refine sr_for1 Iv (ei_rng1 (n := n) (ea_cons er_int ea_nil) (by omega)) ⟨x, y, [], [], [], none, none, none, rfl, ⟨rfl, rfl, by decide, fun i e h => by simp at h, fun u hu => by simp at hu, [], rfl, rfl⟩⟩ (fun k d ρ' hd iv => ?_) (fun ρ' iv => ?_)
      · obtain ⟨hk, rfl⟩ := rngD_of hd
        rw [Int.zero_add]
        obtain ⟨x, y, t, c, st, a, b, e, rfl, j⟩ := iv
        obtain ⟨a1, a2, a3⟩ := j.good
        have few := j.few
        have lt := j.lt
        have lc := j.lc
        refine ⟨_, _, tg_name 7, sb_set (eb_min (er_lenT (er_v 5 (d := .tuple (st.map .int)))) (eb_call (Pre := A__law_of) (Po := B__law_of) (x := x) (y := y) rfl (exa_cons (ex_f (ef_lst (ea_cons er_int (ea_cons er_int (ea_cons er_int (ea_cons er_int (ea_cons er_int (ea_cons er_int (ea_cons er_int ea_nil))))))) rfl)) exa_nil) ⟨_, rfl, by decide, by decide, rfl⟩) fun ρ2 e p => ?_) fun ρ2 d im p => ?_⟩
        · obtain ⟨⟨es, ee, hd⟩, _⟩ := p
          cases ee
          simp only [List.mem_cons, List.not_mem_nil, or_false] at hd
          rcases hd with rfl | rfl | rfl | rfl | rfl | rfl | rfl <;> exact ⟨_, rfl⟩
        · obtain ⟨i, ⟨⟨es, ee, hd⟩, x, y, rfl⟩, rfl⟩ := p
          cases ee
          have hi0 : 0 ≤ i := by
            simp only [List.mem_cons, List.not_mem_nil, or_false, PyData.int.injEq] at hd
            omega
          rw [List.length_map]
          obtain ⟨u, hu⟩ : ∃ u, u = (if i < ((st.length : Nat) : Int) then i else ((st.length : Nat) : Int)) := ⟨_, rfl⟩
          rw [← hu]
          have u0 : 0 ≤ u := by rw [hu]; split <;> omega
          have u1 : u ≤ (st.length : Nat) := by rw [hu]; split <;> omega
          show StR K _ [some (.lst (bagL x y)), some (.dat (.int 24)), some (.dat (.int 10)), some (.dat (encT t)), some (.dat (.tuple (c.map .int))), some (.dat (encS st)), some (.dat (.int (cr t k : Nat))), some (.dat (.int (k : Nat))), some (.dat (.int u)), e] _
          refine sr_set (d := encS (st.take (st.length - u.toNat))) (EvR.f (er_is (er_slT (er_v 5 (d := .tuple (st.map .int))) eo_none (eo_some (er_sub (er_lenT (er_v 5 (d := .tuple (st.map .int)))) (er_v 8)))) ?_) (imm_encS _)) ?_
          · rw [List.length_map, show ((st.length : Nat) : Int) - u = ((st.length - u.toNat : Nat) : Int) by omega, cut_to]; rfl
          · rw [show sl (encS (st.take (st.length - u.toNat))) = .dat (encS (st.take (st.length - u.toNat))) from rfl]
            refine sb_set (eb_call (Pre := A__law_event) (Po := B__law_event) (x := x) (y := y) rfl (exa_cons (ex_imm (er_v 5 (d := encS (st.take (st.length - u.toNat)))) (imm_encS _)) (exa_cons (ex_imm (er_v 6 (d := .int (cr t k : Nat))) rfl) (exa_cons (ex_imm (er_v 2 (d := .int 10)) rfl) exa_nil))) ⟨_, _, _, rfl, by rw [List.length_take]; omega⟩) fun ρ2 d im p => ?_
            obtain ⟨⟨st2, c2, m2, ev, ee, gd, rfl⟩, x, y, rfl⟩ := p
            have e1 : st2 = st.take (st.length - u.toNat) ∧ c2 = (cr t k : Nat) ∧ m2 = 10 := by
              injection ee with q1 q2
              injection q2 with q2 q3
              injection q3 with q3 q4
              refine ⟨?_, ?_, ?_⟩
              · have q1' : (st.take (st.length - u.toNat)).map PyData.int = st2.map PyData.int := by
                  have := q1
                  unfold encS at this
                  exact PyData.tuple.inj this
                exact ((List.map_inj_right (fun a b h => PyData.int.inj h)).mp q1').symm
              · exact (PyData.int.inj q2).symm
              · exact (PyData.int.inj q3).symm
            obtain ⟨rfl, rfl, rfl⟩ := e1
            obtain ⟨r, hr1, j2⟩ := j.step u0 u1 gd
            show StR K _ [some (.lst (bagL x y)), some (.dat (.int 24)), some (.dat (.int 10)), some (.dat (encT t)), some (.dat (.tuple (c.map .int))), some (.dat (encS (st.take (st.length - u.toNat)))), some (.dat (.int (cr t k : Nat))), some (.dat (.int (k : Nat))), some (.dat (.int u)), some (.dat (encE ev))] _
            refine sr_set (d := encS r) (ef_call (ea_cons (er_v 5) (ea_cons (er_v 9) (ea_cons (er_v 6) ea_nil))) ⟨_, _, _, rfl, by rw [List.length_take]; omega, by rw [hr1]; rfl⟩) ?_
            rw [show sl (encS r) = .dat (encS r) from rfl]
            have last : (t ++ [ev])[k]? = some ev := by rw [← lt, List.getElem?_append_right (Nat.le_refl _), Nat.sub_self]; rfl
            refine sr_set (d := .int (cr (t ++ [ev]) (k + 1) : Nat)) (EvR.f (er_is (er_add (er_v 6) (er_intB (in_kinds (er_v 9)))) ?_) rfl) ?_
            · rw [cr_succ last, cr_snoc (by omega)]
              congr 1
              cases creates ev <;> rfl
            · refine sr_par1 (x := encT (t ++ [ev])) (y := .tuple ((c ++ [u]).map .int)) (EvR.f (er_is (er_catT (er_v 3 (d := .tuple (t.map encE))) (er_tup (ea_cons (er_v 9) ea_nil)) ?_) ?_) (imm_encT _)) (EvR.f (er_is (er_catT (er_v 4 (d := .tuple (c.map .int))) (er_tup (ea_cons (er_v 8) ea_nil)) ?_) ?_) (immAll_ints _)) ?_
              · rw [List.length_map]; show _ + 1 ≤ _; omega
              · show PyData.tuple _ = PyData.tuple _
                rw [List.map_append]; rfl
              · rw [List.length_map]; show _ + 1 ≤ _; omega
              · rw [List.map_append]; rfl
              · exact ⟨x, y, t ++ [ev], c ++ [u], r, some (.dat (.int (k : Nat))), some (.dat (.int u)), some (.dat (encE ev)), rfl, j2⟩
      · rw [rngD_len] at iv
        exact ⟨_, hn, iv⟩
    · obtain ⟨k, hk, x, y, t, c, st, a, b, e, rfl, j⟩ := iv
      obtain ⟨a1, a2, a3⟩ := j.good
      have lc := j.lc
      refine sb_ret (eb_tup2 (er_v 3) (imm_encT t) (eb_catT (er_v 4 (d := .tuple (c.map .int))) (immAll_ints c) (eb_tup1 (eb_call (Pre := A__law_take) (Po := B__law_take) (x := x) (y := y) rfl (exa_cons (ex_imm (er_add (er_lenT (er_v 5 (d := .tuple (st.map .int)))) er_int) rfl) exa_nil) ⟨_, rfl, by omega, by rw [List.length_map]; omega⟩)) (fun ρ2 e p => ?_) (by rw [List.length_map]; omega))) fun ρ2 d im p => ?_
      · obtain ⟨z, _, hz, rfl⟩ := p
        exact ⟨z, rfl, hz⟩
      · obtain ⟨d1, ⟨z, ⟨z2, ⟨⟨m, r, em, r1, r2, rfl⟩, x', y', rfl⟩, _, ez⟩, rfl⟩, rfl⟩ := p
        have ez' : z = .int r := by
          injection ez with ez
          injection ez
        subst ez'
        have em' : ((((st.map PyData.int).length : Nat) : Int) + 1) = m := by
          injection em with em
          exact PyData.int.inj em
        rw [List.length_map] at em'
        obtain ⟨t1, t2, t3, t4⟩ := j.last hk r1 (by omega)
        refine ⟨⟨t, c ++ [r], ?_, t1, t2, t3, t4⟩, im, x', y', rfl⟩
        rw [List.map_append]; rfl
end
end Lx

set_option Elab.async false
set_option linter.all false
set_option maxRecDepth 100000
set_option maxHeartbeats 1000000
namespace Lx
open PySem PySem.Spec PyProof.Rows L2
open Evl (Ex)
/-! ### list + list, whatever holds them -/
section
variable {X : Cx}
def rCatS (K : PySem.W.Frag) : R2 := fun x y H Q => ∃ l b xs zs, x = .ref l ∧ y = .ref b ∧ SqL K H l xs ∧ SqL K H b zs ∧ xs.length + zs.length ≤ sizeLine ∧ ∀ p, H p = none → Q (.ref p) (upd H p (.lst (xs ++ zs)))
theorem op_catS : OpR X (binaryOp .Add) (rCatS X.K) := by
  intro pins s σ H x y v u Q I rx ry h
  obtain ⟨l, b, xs, zs, rfl, rfl, hH, hB, hz, q⟩ := h
  cases rx
  cases ry
  obtain ⟨its, r, p1, _⟩ := I.list hH
  obtain ⟨its2, r2, p2, _⟩ := I.list hB
  obtain ⟨⟨cls, dd, data, sl⟩, ho, hc, n, hd⟩ := p1.isList
  obtain ⟨⟨cls2, dd2, data2, sl2⟩, ho2, hc2, n2, hd2⟩ := p2.isList
  simp only at hc hd hc2 hd2
  subst hc hd hc2 hd2
  have l1 := r.length
  have l2 := r2.length
  refine concat_meets ⟨_, ho, rfl⟩ ⟨_, ho2, rfl⟩ noFill_list_add seq_list_add PySem.F.slot_list_add PySem.F.entry_list_add (PySem.F.args_list_add_2 _ _) (list_addW l b its.toArray its2.toArray n n2 dd dd2 sl sl2 (by rw [List.size_toArray, List.size_toArray]; omega)) ⟨ho, ho2, ?_⟩
  rw [show its.toArray ++ its2.toArray = (its ++ its2).toArray by simp]
  exact ⟨.ref _, _, I.lnew (t' := s.toks) (r.append r2) (by rw [List.length_append]; omega), rfl, q _ I.fresh⟩
/-! ### a call of a local name that holds one of several defs -/
def tCallR (i : Nat) (S : Addr → Sp → Prop) (t : TA) : TE := fun σ H Q => ∃ f sp, σ[i]? = some (some (.ref f)) ∧ S f sp ∧ t σ H fun vs H1 => sp vs H1 Q (fun _ _ _ => False)
theorem pe_callR {S : Addr → Sp → Prop} {k j i : Nat} {x : Str} {p pos : Pos} {e : Expr} {es : List Expr} {t : TA} (A : ∀ f sp, S f sp → Held X.prog X.w X.K X.mg X.base k f sp) (hr : Room j X.A) (hk : k ≤ j) (hN : X.N[i]? = some x) (hv : Vis X.env.scope x) (ha : PA X (e :: es) t)
    (hdb : (x == ("__debug__" : Str)) = false := by decide) (hcd : (x == ("__classdict__" : Str)) = false := by decide)
    (he : starEach (e :: es) X.env = (false, eval e X.env) :: starEach es X.env := by rfl) (hpl : (backTo pos (starEach es X.env)).any (·.1) = false := by rfl) : PE X (.Call (.Name x p) (e :: es) [] pos) (tCallR i S t) := by
  refine ⟨fun pins s σ H Q I h => ?_⟩
  obtain ⟨f, sp, hs, hS, ht⟩ := h
  refine (pe_callA (S := fun a => if a = f then some sp else none) (k := k) (i := i) (fun g sq hg => ?_) (hr.mono hk) hN hv ha hdb hcd he hpl).run pins s σ H Q I ⟨f, sp, hs, if_pos rfl, ht⟩
  by_cases q : g = f
  · subst q
    rw [if_pos rfl] at hg
    cases hg
    exact A _ _ hS
  · rw [if_neg q] at hg; cases hg
end
section
variable {K : PySem.W.Frag} {ρ : En}
theorem er_catS {ta tb : TE} {ds es : List PyData} (ha : EvR K ta ρ (.list ds)) (hb : EvR K tb ρ (.list es)) (hz : ds.length + es.length ≤ 100000) : EvR K (tOp (rCatS K) ta tb) ρ (.list (ds ++ es)) :=
  er_bin ha hb fun H v w Q h1 h2 q => by
    obtain ⟨a, vs, rfl, s, al⟩ := dp_lst h1
    obtain ⟨b, ws, rfl, s', al'⟩ := dp_lst h2
    exact ⟨a, b, vs, ws, rfl, rfl, s, s', Evl.sz_of (by rw [dpAll_len al, dpAll_len al']; exact hz), fun p hp => q _ _ (Evl.Ex.new hp) (.lst (SqL.of upd_same) (dpAll_ex (Evl.Ex.new hp) (dpAll_append al al')))⟩
theorem er_repN {ta tb : TE} {xs : List PyData} {k : Int} (ha : EvR K ta ρ (.tuple xs)) (hb : EvR K tb ρ (.int k)) (hx : xs ≠ []) (hk : 2 ≤ k ∧ k ≤ 1000) (hl : xs.length ≤ 1000) : EvR K (tOp (rRepN K) ta tb) ρ (.tuple (List.replicate k.toNat xs).flatten) :=
  er_bin ha hb fun H v w Q h1 h2 q => by
    obtain ⟨a, vs, rfl, s, al⟩ := dp_tup h1
    cases h2
    refine ⟨a, k, vs, rfl, rfl, s.s, fun z => hx ?_, hk.1, hk.2, by rw [dpAll_len al]; exact hl, fun p ob hp hd => q _ _ (Evl.Ex.new hp) (.tup (NT.new hd) (dpAll_ex (Evl.Ex.new hp) (dpAll_rep al _)))⟩
    subst z; cases al; rfl
/-! slots that nobody speaks of -/
theorem Ok.junk {H0 H : Hp} {σ : L2.St} {i : Nat} {x : Option V} (o : Ok K H0 H σ ρ) (h : ρ[i]? = some none) : Ok K H0 H (σ.set i x) ρ := by
  have ne : ∀ (j : Nat) (s : Sl), ρ[j]? = some (some s) → i ≠ j := fun j s hj z => by subst z; rw [h] at hj; cases hj
  refine ⟨o.ex, by rw [List.length_set]; exact o.len, fun j d hj => ?_, fun j ds hj => ?_, fun j k ds es p h1 h2 h3 h4 => ?_⟩
  · rw [List.getElem?_set_ne (ne j _ hj)]; exact o.dat j d hj
  · rw [List.getElem?_set_ne (ne j _ hj)]; exact o.lst j ds hj
  · rw [List.getElem?_set_ne (ne j _ h1)] at h3
    rw [List.getElem?_set_ne (ne k _ h2)] at h4
    exact o.sep j k ds es p h1 h2 h3 h4
theorem own_junk {σ : L2.St} {i : Nat} {x : Option V} {a : Addr} (h : ρ[i]? = some none) (w : own (σ.set i x) ρ a) : own σ ρ a := by
  obtain ⟨j, ds, h1, h2⟩ := w
  have n : i ≠ j := fun z => by subst z; rw [h] at h1; cases h1
  rw [List.getElem?_set_ne n] at h2
  exact ⟨j, ds, h1, h2⟩
theorem set_none_get {i j : Nat} {s : Sl} (h : (ρ.set i none)[j]? = some (some s)) : i ≠ j ∧ ρ[j]? = some (some s) := by
  by_cases q : i = j
  · subst q
    by_cases hl : i < ρ.length
    · rw [List.getElem?_set_self hl] at h; cases h
    · rw [List.getElem?_eq_none (by simpa using hl)] at h; cases h
  · rw [List.getElem?_set_ne q] at h; exact ⟨q, h⟩
theorem Ok.forget {H0 H : Hp} {σ : L2.St} (o : Ok K H0 H σ ρ) (i : Nat) : Ok K H0 H σ (ρ.set i none) :=
  ⟨o.ex, by rw [List.length_set]; exact o.len, fun j d hj => o.dat j d (set_none_get hj).2, fun j ds hj => o.lst j ds (set_none_get hj).2, fun j k ds es p h1 h2 h3 h4 => o.sep j k ds es p (set_none_get h1).2 (set_none_get h2).2 h3 h4⟩
theorem own_forget {σ : L2.St} {i : Nat} {a : Addr} (w : own σ (ρ.set i none) a) : own σ ρ a := by
  obtain ⟨j, ds, h1, h2⟩ := w
  exact ⟨j, ds, (set_none_get h1).2, h2⟩
/-- another base -/
theorem Ok.base {H0 H H' : Hp} {σ : L2.St} (o : Ok K H0 H σ ρ) (h1 : Ex H0 H') (h2 : Ex H' H) (h3 : ∀ a, own σ ρ a → H' a = none) : Ok K H' H σ ρ :=
  ⟨h2, o.len, fun i d h => by
    obtain ⟨v, a, b, c⟩ := o.dat i d h
    exact ⟨v, a, b, c.imp id fun z => dp_ex h1 z⟩, fun i ds h => by
    obtain ⟨p, vs, a, _, c, f, g⟩ := o.lst i ds h
    exact ⟨p, vs, a, h3 p ⟨i, ds, h, a⟩, c, f, g⟩, o.sep⟩
end
/-! ### what the four functions give -/
def RW : Nat → List PyData → PyData → Prop
  | 0 => R_stacks
  | 1 => R_totals
  | 2 => R_callers
  | _ => R_ends
def wantF (t : List Evt) (ss : List (List Int)) : Nat → List PyData
  | 0 => ss.map encS
  | 1 => (totS t ss).map .int
  | 2 => callS t ss (crP t)
  | _ => endsS ss (crP t)
def S4 (K : PySem.W.Frag) (fs : List Addr) : Addr → Sp → Prop := fun f sp => ∃ j, fs[j]? = some f ∧ sp = spD K (RW j)
theorem rw_ok {t : List Evt} {c : List Int} {ss : List (List Int)} (T : Tr t) (hc : c.length = t.length + 1) (h : runS t c = some ss) : ∀ j, RW j [encT t, .tuple (c.map .int)] (.list (wantF t ss j))
  | 0 => ⟨t, c, ss, rfl, T, hc, h, rfl⟩
  | 1 => ⟨t, c, ss, rfl, T, hc, h, rfl⟩
  | 2 => ⟨t, c, ss, rfl, T, hc, h, rfl⟩
  | _ + 3 => ⟨t, c, ss, rfl, T, hc, h, rfl⟩
theorem imm_opts {α : Type} (xs : List α) (f : α → Option Int) : immAll (xs.map fun a => optI (f a)) = true := immAll_iff.mpr fun d hd => by
  obtain ⟨a, _, rfl⟩ := List.mem_map.mp hd
  exact imm_optI _
theorem want_imm (t : List Evt) (ss : List (List Int)) : ∀ j, immAll (wantF t ss j) = true
  | 0 => immAll_encS ss
  | 1 => immAll_ints _
  | 2 => imm_opts _ _
  | _ + 3 => imm_opts (α := (Evt × Nat) × Nat) _ fun q => ((lat (q.2 : Nat) ss (q.1.2 + 1)).head?).map fun n => (n : Int)
def dueD (t : List Evt) (ss : List (List Int)) : PyData := .list [.list (wantF t ss 0), .list (wantF t ss 1), .list (wantF t ss 2), .list (wantF t ss 3)]
/-! shaped -/
theorem lay_opts {α : Type} (f : α → Option Int) : ∀ xs : List α, PyData.canLayAll0 (xs.map fun a => optI (f a)) = true ∧ PyData.depthAll (xs.map fun a => optI (f a)) = 0
  | [] => ⟨rfl, rfl⟩
  | a :: r => by
    obtain ⟨h1, h2⟩ := lay_opts f r
    have e : PyData.canLay0 (optI (f a)) = true ∧ PyData.depth (optI (f a)) = 0 := by cases f a <;> exact ⟨rfl, rfl⟩
    constructor
    · show (PyData.canLay0 (optI (f a)) && PyData.canLayAll0 (r.map fun a => optI (f a))) = true
      rw [e.1, h1]; rfl
    · show max (PyData.depth (optI (f a))) (PyData.depthAll (r.map fun a => optI (f a))) = 0
      rw [e.2, h2]; rfl
theorem lay_encS : ∀ ss : List (List Int), PyData.canLayAll0 (ss.map encS) = true ∧ PyData.depthAll (ss.map encS) ≤ 1
  | [] => ⟨rfl, by decide⟩
  | a :: r => by
    obtain ⟨h1, h2⟩ := lay_encS r
    constructor
    · show (PyData.canLayAll0 (a.map .int) && PyData.canLayAll0 (r.map encS)) = true
      rw [canLay_ints, h1]; rfl
    · show max (PyData.depthAll (a.map .int) + 1) (PyData.depthAll (r.map encS)) ≤ 1
      rw [depth_ints]; omega
theorem lay_want (t : List Evt) (ss : List (List Int)) : ∀ j, PyData.canLayAll0 (wantF t ss j) = true ∧ PyData.depthAll (wantF t ss j) ≤ 1
  | 0 => lay_encS ss
  | 1 => ⟨canLay_ints _, by show PyData.depthAll ((totS t ss).map .int) ≤ 1; rw [depth_ints]; omega⟩
  | 2 => ⟨(lay_opts _ _).1, by show PyData.depthAll (callS t ss (crP t)) ≤ 1; unfold callS; rw [(lay_opts _ _).2]; omega⟩
  | _ + 3 => by
    have h := lay_opts (fun q : (Evt × Nat) × Nat => ((lat (q.2 : Nat) ss (q.1.2 + 1)).head?).map fun n => (n : Int)) (crP t).zipIdx
    exact ⟨h.1, Nat.le_trans (Nat.le_of_eq h.2) (by decide)⟩
theorem sh_due (t : List Evt) (ss : List (List Int)) : SeqAt.shaped (dueD t ss) = true := by
  have h0 := lay_want t ss 0
  have h1 := lay_want t ss 1
  have h2 := lay_want t ss 2
  have h3 := lay_want t ss 3
  show ((PyData.canLayAll0 (wantF t ss 0) && (PyData.canLayAll0 (wantF t ss 1) && (PyData.canLayAll0 (wantF t ss 2) && (PyData.canLayAll0 (wantF t ss 3) && true)))) && decide (max (PyData.depthAll (wantF t ss 0) + 1) (max (PyData.depthAll (wantF t ss 1) + 1) (max (PyData.depthAll (wantF t ss 2) + 1) (max (PyData.depthAll (wantF t ss 3) + 1) 0))) + 1 ≤ 64)) = true
  rw [h0.1, h1.1, h2.1, h3.1, decide_eq_true (by omega)]; rfl
theorem eqv_due (t : List Evt) (ss : List (List Int)) : PyData.eqv (dueD t ss) (dueD t ss) = true := SeqAt.eqv_refl _ (SeqAt.canLay_of_shaped (sh_due t ss))
/-- four new lists in a new list -/
structure Told (K : PySem.W.Frag) (t : List Evt) (ss : List (List Int)) (n : Nat) (H H2 : Hp) (D : Addr) (qs : List Addr) : Prop where
  ex : Ex H H2
  nD : H D = none
  hD : H2 D = some (.lst (qs.map .ref))
  len : qs.length = n
  each : ∀ (j : Nat) (q : Addr), qs[j]? = some q → H q = none ∧ q ≠ D ∧ ∃ vs, H2 q = some (.lst vs) ∧ DqAll K H2 vs (wantF t ss j)
  nd : qs.Nodup
theorem Told.dp {K : PySem.W.Frag} {t : List Evt} {ss : List (List Int)} {H H2 : Hp} {D : Addr} {qs : List Addr} (h : Told K t ss 4 H H2 D qs) : Dq K H2 (.ref D) (dueD t ss) := by
  have hl := h.len
  match qs, hl, h with
  | [a, b, c, d], _, h =>
    obtain ⟨_, _, v0, k0, d0⟩ := h.each 0 a rfl
    obtain ⟨_, _, v1, k1, d1⟩ := h.each 1 b rfl
    obtain ⟨_, _, v2, k2, d2⟩ := h.each 2 c rfl
    obtain ⟨_, _, v3, k3, d3⟩ := h.each 3 d rfl
    exact .lst (SqL.of h.hD) (.cons (.lst (SqL.of k0) d0) (.cons (.lst (SqL.of k1) d1) (.cons (.lst (SqL.of k2) d2) (.cons (.lst (SqL.of k3) d3) .nil))))
section
variable {K : PySem.W.Frag} {f_stacks f_totals f_callers f_ends : Addr}
theorem told_ev {ρ : En} {t : List Evt} {c : List Int} {ss : List (List Int)} (hl : ρ.length = 16) (h3 : ρ[3]? = some (some (.dat (encT t)))) (h4 : ρ[4]? = some (some (.dat (.tuple (c.map .int))))) (T : Tr t) (hc : c.length = t.length + 1) (hr : runS t c = some ss) {H0 H : Hp} {σ : L2.St} (o : Ok K H0 H σ ρ) {Q : VK}
    (q : ∀ D H2 qs, Told K t ss 4 H H2 D qs → Q (.ref D) H2) : (tLc (iTup K (tTupN (tCons (tC (.ref f_stacks)) (tCons (tC (.ref f_totals)) (tCons (tC (.ref f_callers)) (tCons (tC (.ref f_ends)) tNil)))))) (gName 14) tYes (tCallR 14 (S4 K [f_stacks, f_totals, f_callers, f_ends]) (tCons (tVar 3) (tCons (tVar 4) tNil))) [14]) σ H Q := by
  refine ⟨by show 4 ≤ sizeLine; decide, fun p ob hp hob => ⟨p, rfl, ⟨_, (NT.new hob).s⟩, fun D hD => ?_⟩⟩
  have e1 : Ex H (upd H p (.frz ob (.tup [.ref f_stacks, .ref f_totals, .ref f_callers, .ref f_ends]))) := Evl.Ex.new hp
  have sl : σ.length = 16 := o.len.trans hl
  refine lc_tup (K := K) (a := p) (xs := [.ref f_stacks, .ref f_totals, .ref f_callers, .ref f_ends]) (Qd := fun H' => Q (.ref D) H') (fun i H' => ∃ qs, Told K t ss i (upd H p (.frz ob (.tup [.ref f_stacks, .ref f_totals, .ref f_callers, .ref f_ends]))) H' D qs)
    ⟨[], Evl.Ex.new hD, hD, upd_same, rfl, fun j q h => by simp at h, List.nodup_nil⟩ (fun i H' _ pv => ?_) (fun i x H' hx pv => ?_) (fun H' pv => ?_)
  · obtain ⟨qs, td⟩ := pv
    exact ((NT.new hob).ex td.ex).s
  · obtain ⟨qs, td⟩ := pv
    have e2 : Ex H H' := e1.trans td.ex
    have o2 := o.mono e2
    obtain ⟨v3, a3, d3, _⟩ := o2.dat 3 _ h3
    obtain ⟨v4, a4, d4, _⟩ := o2.dat 4 _ h4
    obtain ⟨f, hf, rfl⟩ : ∃ f, [f_stacks, f_totals, f_callers, f_ends][i]? = some f ∧ x = .ref f := by
      match i, hx with
      | 0, hx => exact ⟨_, rfl, (Option.some.inj hx).symm⟩
      | 1, hx => exact ⟨_, rfl, (Option.some.inj hx).symm⟩
      | 2, hx => exact ⟨_, rfl, (Option.some.inj hx).symm⟩
      | 3, hx => exact ⟨_, rfl, (Option.some.inj hx).symm⟩
      | n + 4, hx => simp at hx
    show _ ∧ _
    refine ⟨?_, ⟨f, spD K (RW i), ?_, ⟨i, hf, rfl⟩, ?_⟩⟩
    · show List.set (List.set (List.set σ 14 none) 14 _) 14 none = List.set σ 14 none
      rw [List.set_set, List.set_set]
    · show (List.set (List.set σ 14 none) 14 _)[14]? = _
      rw [List.getElem?_set_self (by rw [List.length_set]; omega)]
    · refine ⟨v3, ?_, v4, ?_, [encT t, .tuple (c.map .int)], .list (wantF t ss i), .cons d3 (.cons d4 .nil), rw_ok T hc hr i, fun v H4 e4 res => ?_⟩
      · show (List.set (List.set σ 14 none) 14 _)[3]? = _
        rw [List.getElem?_set_ne (by decide), List.getElem?_set_ne (by decide)]; exact a3
      · show (List.set (List.set σ 14 none) 14 _)[4]? = _
        rw [List.getElem?_set_ne (by decide), List.getElem?_set_ne (by decide)]; exact a4
      · rcases res with ⟨z, _⟩ | ⟨ds, qn, vs, eq, rfl, hn, hq, al, im⟩
        · simp [imm] at z
        · cases eq
          have hD4 := e4 _ _ td.hD
          have hqD : qn ≠ D := fun z => by rw [z, td.hD] at hn; cases hn
          refine ⟨qs.map .ref, hD4, Evl.sz_lt (by rw [List.length_map, td.len]; have : i < 4 := (List.getElem?_eq_some_iff.mp hf).1; omega), qs ++ [qn], ?_⟩
          have tx := tx_upd (o := .lst (qs.map V.ref ++ [.ref qn])) hD4
          refine ⟨Evl.Ex.mut (td.ex.trans e4) td.nD, td.nD, by rw [List.map_append]; exact upd_same, by rw [List.length_append, td.len]; rfl, fun j r hj => ?_, ?_⟩
          · by_cases hji : j < qs.length
            · rw [List.getElem?_append_left hji] at hj
              obtain ⟨k1, k2, ws, k3, k4⟩ := td.each j r hj
              exact ⟨k1, k2, ws, by rw [upd_ne k2]; exact e4 _ _ k3, dpAll_tx tx (want_imm t ss j) (dpAll_ex e4 k4)⟩
            · rw [List.getElem?_append_right (by omega)] at hj
              have hj0 : j - qs.length = 0 := by
                by_cases z : j - qs.length = 0
                · exact z
                · rw [List.getElem?_eq_none (by simp; omega)] at hj; cases hj
              rw [hj0] at hj
              cases hj
              have ji : j = i := by have := td.len; omega
              rw [ji]
              exact ⟨Evl.fresh_back td.ex hn, hqD, vs, by rw [upd_ne hqD]; exact hq, dpAll_tx tx im al⟩
          · refine List.nodup_append.mpr ⟨td.nd, by simp, fun a ha b hb z => ?_⟩
            rw [List.mem_singleton] at hb
            subst hb
            subst z
            obtain ⟨j, hj⟩ := List.getElem?_of_mem ha
            obtain ⟨_, _, ws, k3, _⟩ := td.each j _ hj
            rw [k3] at hn; cases hn
  · obtain ⟨qs, td⟩ := pv
    refine q D H' qs ⟨e1.trans td.ex, Evl.fresh_back e1 td.nD, td.hD, td.len, fun j r hj => ?_, td.nd⟩
    obtain ⟨k1, k2, k3⟩ := td.each j r hj
    exact ⟨Evl.fresh_back e1 k1, k2, k3⟩
theorem seqAsg {te : TE} {i : Nat} {tz : TS} {D : Ends} {σ : L2.St} {H : Hp} : tSeq (tAsg te (gName i)) tz D σ H = te σ H (fun x H1 => tz D (σ.set i (some x)) H1) := rfl
theorem seqIf {c : TT} {t u tz : TS} {D : Ends} {σ : L2.St} {H : Hp} : tSeq (tIfS c t u) tz D σ H = c σ H (fun b H1 => if b = true then t { D with nx := tz D } σ H1 else u { D with nx := tz D } σ H1) := rfl
theorem seqFor {wi : TI} {g : TG} {t tz : TS} {D : Ends} {σ : L2.St} {H : Hp} : tSeq (tFor wi g t) tz D σ H = tFor wi g t { D with nx := tz D } σ H := rfl
/-- told = [..]; if told != due: return False; for one in told: one.append(None) -/
theorem phC {ρ : En} {P : Po} {tz : TS} {t : List Evt} {c : List Int} {ss : List (List Int)} (hl : ρ.length = 16) (h3 : ρ[3]? = some (some (.dat (encT t)))) (h4 : ρ[4]? = some (some (.dat (.tuple (c.map .int))))) (h6 : ρ[6]? = some (some (.dat (dueD t ss)))) (h7 : ρ[7]? = some none) (h8 : ρ[8]? = some none)
    (T : Tr t) (hc : c.length = t.length + 1) (hr : runS t c = some ss) (k : StR K tz ρ P) : StR K (tSeq (tAsg (tLc (iTup K (tTupN (tCons (tC (.ref f_stacks)) (tCons (tC (.ref f_totals)) (tCons (tC (.ref f_callers)) (tCons (tC (.ref f_ends)) tNil)))))) (gName 14) tYes (tCallR 14 (S4 K [f_stacks, f_totals, f_callers, f_ends]) (tCons (tVar 3) (tCons (tVar 4) tNil))) [14]) (gName 7)) (tSeq (tIfS (tTest (tOp (rNeD K) (tVar 7) (tVar 6))) (tRet (tC (.bl false))) tNext) (tSeq (tFor (iList K (tVar 7)) (gName 8) (tDrop (tBM K "list" rAppend (tVar 8) (tCons (tC .non) tNil)))) tz))) ρ P := fun H0 σ H D o n b c r => by
  have sl : σ.length = 16 := o.len.trans hl
  rw [seqAsg]
  refine told_ev hl h3 h4 T hc hr o fun Dl H2 qs td => ?_
  have o2 := o.mono td.ex
  obtain ⟨v6, a6, d6, _⟩ := o2.dat 6 _ h6
  have s7 : (σ.set 7 (some (V.ref Dl)))[7]? = some (some (.ref Dl)) := List.getElem?_set_self (by omega)
  show ∃ v, (σ.set 7 (some (V.ref Dl)))[7]? = some (some v) ∧ _
  refine ⟨.ref Dl, s7, v6, by rw [List.getElem?_set_ne (by decide)]; exact a6, _, _, dq_dp td.dp, dq_dp d6, sh_due t ss, sh_due t ss, !PyData.eqv (dueD t ss) (dueD t ss), rfl, ?_⟩
  rw [eqv_due]
  refine iteF ?_
  -- the loop
  show ∃ v, (σ.set 7 (some (V.ref Dl)))[7]? = some (some v) ∧ _
  refine ⟨.ref Dl, s7, Dl, rfl, ⟨_, SqL.of td.hD⟩, ?_⟩
  refine for_list (K := K) (a := Dl) (xs := qs.map .ref) (fun i σ' H' => (∃ y, σ' = (σ.set 7 (some (V.ref Dl))).set 8 y) ∧ Ex H H' ∧ H' Dl = some (.lst (qs.map .ref)) ∧ ∀ (j : Nat) (q : Addr), qs[j]? = some q → ∃ vs, H' q = some (.lst vs) ∧ vs.length ≤ 1000 + i) ?_ (fun i σ' H' _ pv => SqL.of pv.2.2.1) (fun i x σ' H' hx pv => ?_) (fun σ' H' pv => ?_)
  · refine ⟨⟨(σ.set 7 (some (V.ref Dl)))[8]'(by rw [List.length_set]; omega), ?_⟩, td.ex, td.hD, fun j q hj => ?_⟩
    · rw [List.set_getElem_self]
    · obtain ⟨_, _, vs, k3, k4⟩ := td.each j q hj
      refine ⟨vs, k3, ?_⟩
      rw [dpAll_len k4]
      have tl := T.len
      have cl := crP_len t
      have s1 := (run_good rfl hr).2
      match j with
      | 0 => show (ss.map encS).length ≤ _; rw [List.length_map]; omega
      | 1 => show ((totS t ss).map PyData.int).length ≤ _; rw [List.length_map, totS_len]; omega
      | 2 => show (callS t ss (crP t)).length ≤ _; unfold callS; rw [List.length_map]; omega
      | _ + 3 => show (endsS ss (crP t)).length ≤ _; unfold endsS; rw [List.length_map, List.length_zipIdx]; omega
  · obtain ⟨⟨y, rfl⟩, p2, p3, p4⟩ := pv
    rw [List.getElem?_map] at hx
    cases hq : qs[i]? with
    | none => rw [hq] at hx; cases hx
    | some q =>
      rw [hq] at hx
      cases hx
      obtain ⟨vs, k3, k4⟩ := p4 i q hq
      have hi4 : i < 4 := by have := (List.getElem?_eq_some_iff.mp hq).1; rw [td.len] at this; exact this
      obtain ⟨nq, nqD, _⟩ := td.each i q hq
      show ∃ v, (((σ.set 7 (some (V.ref Dl))).set 8 y).set 8 (some (V.ref q)))[8]? = some (some v) ∧ _
      refine ⟨.ref q, List.getElem?_set_self (by rw [List.length_set, List.length_set]; omega), .inl ⟨rfl, vs, SqL.of k3⟩, q, vs, .non, rfl, rfl, k3, Evl.sz_lt (by omega), ⟨some (.ref q), by rw [List.set_set]⟩, Evl.Ex.mut p2 nq, by rw [upd_ne (Ne.symm nqD)]; exact p3, fun j q' hj => ?_⟩
      by_cases z : q' = q
      · exact ⟨vs ++ [.non], by rw [z]; exact upd_same, by rw [List.length_append]; show _ + 1 ≤ _; omega⟩
      · obtain ⟨ws, w1, w2⟩ := p4 j q' hj
        exact ⟨ws, by rw [upd_ne z]; exact w1, by omega⟩
  · obtain ⟨⟨y, rfl⟩, p2, p3, p4⟩ := pv
    have o3 : Ok K H0 H' ((σ.set 7 (some (V.ref Dl))).set 8 y) ρ := ((o.mono p2).junk h7).junk h8
    exact k.go o3 ⟨fun a u h _ => p2 a u h, fun a w => .inl (own_junk h7 (own_junk h8 w)), by rw [List.getElem?_set_ne (by decide), List.getElem?_set_ne (by decide)]⟩ n b c r
end
end Lx

set_option Elab.async false
set_option linter.all false
set_option maxRecDepth 100000
set_option maxHeartbeats 1000000
namespace Lx
open PySem PySem.Spec PyProof.Rows L2
open Evl (Ex)
theorem sh_optS (o : Option (List Int)) : SeqAt.shaped (optS o) = true := by
  cases o with
  | none => rfl
  | some s => exact sh_ints s
theorem eqv_self {d : PyData} (h : SeqAt.shaped d = true) : PyData.eqv d d = true := SeqAt.eqv_refl d (SeqAt.canLay_of_shaped h)
def oddsF (xs : List Int) : List PyData := [.tuple (xs.map .int), .list ((xs ++ [0]).map .int), .list (xs.dropLast.map .int), .none, .list (List.replicate xs.length .none), .list (List.replicate xs.length (.bool true))]
theorem odds_none {t : List Evt} (T : Tr t) {xs : List Int} (hx : xs.length = t.length + 1) {i : Nat} {d : PyData} (h : (oddsF xs)[i]? = some d) : R_from_totals [encT t, d] .none := by
  have tl := T.len
  have rep : ∀ z : PyData, flatD z = true → plain z = false → R_from_totals [encT t, .list (List.replicate xs.length z)] .none := fun z f p => by
    refine ⟨t, _, rfl, T, .inr ⟨rfl, .inr (.inr ⟨_, rfl, ?_, by rw [List.length_replicate]; omega, ?_⟩)⟩⟩
    · exact List.all_eq_true.mpr fun y hy => by rw [(List.mem_replicate.mp hy).2]; exact f
    · rw [hx, List.replicate_succ, List.all_cons, p]; rfl
  match i, h with
  | 0, h => cases h; exact ⟨t, _, rfl, T, .inr ⟨rfl, .inr (.inl ⟨_, rfl⟩)⟩⟩
  | 1, h =>
    cases h
    refine ⟨t, _, rfl, T, .inl ⟨xs ++ [0], rfl, by rw [List.length_append]; show _ + 1 ≤ _; omega, ?_⟩⟩
    rw [show ft t (xs ++ [0]) = none from if_neg (by rw [List.length_append]; show ¬ _ + 1 = _; omega)]; rfl
  | 2, h =>
    cases h
    refine ⟨t, _, rfl, T, .inl ⟨xs.dropLast, rfl, by rw [List.length_dropLast]; omega, ?_⟩⟩
    rw [show ft t xs.dropLast = none from if_neg (by rw [List.length_dropLast]; omega)]; rfl
  | 3, h => cases h; exact ⟨t, _, rfl, T, .inr ⟨rfl, .inl rfl⟩⟩
  | 4, h => cases h; exact rep _ rfl rfl
  | 5, h => cases h; exact rep _ rfl rfl
  | n + 6, h => simp [oddsF] at h
section
variable {K : PySem.W.Frag} {f_stacks f_totals f_callers f_ends : Addr}
theorem testOp {r : R2} {ta tb : TE} {σ : L2.St} {H : Hp} {Q : Bool → Hp → Prop} : tTest (tOp r ta tb) σ H Q = ta σ H (fun x H1 => tb σ H1 fun y H2 => r x y H2 fun z H3 => ∃ k, z = .bl k ∧ Q k H3) := rfl
theorem phD {ρ : En} {t : List Evt} {c : List Int} {ss : List (List Int)} (hl : ρ.length = 16) (h3 : ρ[3]? = some (some (.dat (encT t)))) (h4 : ρ[4]? = some (some (.dat (.tuple (c.map .int))))) (h6 : ρ[6]? = some (some (.dat (dueD t ss))))
    (T : Tr t) (hc : c.length = t.length + 1) (hr : runS t c = some ss) : EvT K (tTest (tOp (rNeD K) (tLc (iTup K (tTupN (tCons (tC (.ref f_stacks)) (tCons (tC (.ref f_totals)) (tCons (tC (.ref f_callers)) (tCons (tC (.ref f_ends)) tNil)))))) (gName 14) tYes (tCallR 14 (S4 K [f_stacks, f_totals, f_callers, f_ends]) (tCons (tVar 3) (tCons (tVar 4) tNil))) [14]) (tVar 6))) ρ false := fun H0 σ H o Q q => by
  rw [testOp]
  refine told_ev hl h3 h4 T hc hr o fun D H2 qs td => ?_
  obtain ⟨v6, a6, d6, _⟩ := (o.mono td.ex).dat 6 _ h6
  refine ⟨v6, a6, _, _, dq_dp td.dp, dq_dp d6, sh_due t ss, sh_due t ss, false, ?_, q H2 td.ex⟩
  rw [eqv_due]; rfl
theorem due1 {ρ : En} {t : List Evt} {ss : List (List Int)} (h6 : ρ[6]? = some (some (.dat (dueD t ss)))) : EvR K (tOp (rIxL K) (tVar 6) (tC (.int 1))) ρ (.list ((totS t ss).map .int)) := er_ixL (er_v 6 h6) er_int (atI_nat (j := 1) rfl)
/-- the other values -/
theorem phG {ρ : En} {P : Po} {t : List Evt} {ss : List (List Int)} (hl : ρ.length = 16) (h3 : ρ[3]? = some (some (.dat (encT t)))) (h6 : ρ[6]? = some (some (.dat (dueD t ss)))) (h12 : ρ[12]? = some none)
    (T : Tr t) (hs : ss.length = t.length + 1) (k : P.nx ρ) : StR K (tSeq (tAsg (tLst (tCons (tCB (fun xs H Q => ∃ p ys, xs = [.ref p] ∧ SqL K H p ys ∧ ∀ l o, H l = none → o.dict = none → Q (.ref l) (upd H l (.frz o (.tup ys)))) (tCons (tOp (rIxL K) (tVar 6) (tC (.int 1))) tNil)) (tCons (tOp (rCatS K) (tOp (rIxL K) (tVar 6) (tC (.int 1))) (tLst (tCons (tC (.int 0)) tNil))) (tCons (tSl (rSlL K) (tOp (rIxL K) (tVar 6) (tC (.int 1))) tNoPart (tPart (tUn (rU fun i => .int (-i)) (tC (.int 1))))) (tCons (tC .non) (tCons (tOp rRep (tLst (tCons (tC .non) tNil)) (tCB (fun xs H Q => ∃ x n, xs = [x] ∧ LenV K x H n ∧ Q (.int n) H) (tCons (tOp (rIxL K) (tVar 6) (tC (.int 1))) tNil))) (tCons (tOp rRep (tLst (tCons (tC (.bl true)) tNil)) (tCB (fun xs H Q => ∃ x n, xs = [x] ∧ LenV K x H n ∧ Q (.int n) H) (tCons (tOp (rIxL K) (tVar 6) (tC (.int 1))) tNil))) tNil))))))) (gName 12)) (tIfS (tTest (tOp (rNeD K) (tLc (iList K (tVar 12)) (gName 15) (tTest (tOp (fun x y H Q => y = V.non ∧ Q (.bl (!decide (x = V.non))) H) (tCall (spD K R_from_totals) [] E0 (tCons (tVar 3) (tCons (tVar 15) tNil))) (tC .non))) (tVar 15) [15]) (tLst tNil))) (tRet (tC (.bl false))) tNext)) ρ P := fun H0 σ H D o n b c r => by
  have tl := T.len
  have xl : (totS t ss).length = t.length + 1 := by rw [totS_len, hs]
  have sl : σ.length = 16 := o.len.trans hl
  have e1 := due1 (K := K) h6
  have im := immAll_ints (totS t ss)
  have rep : ∀ {z : PyData} {te : TE}, imm z = true → EvR K te ρ z → EvR K (tOp rRep (tLst (tCons te tNil)) (tCB (fun xs H Q => ∃ x n, xs = [x] ∧ LenV K x H n ∧ Q (.int n) H) (tCons (tOp (rIxL K) (tVar 6) (tC (.int 1))) tNil))) ρ (.list (List.replicate (totS t ss).length z)) := fun {z te} hz he => by
    have := (ef_rep (ef_lst (ea_cons he ea_nil) (immAll_one hz)) (k := (((totS t ss).map PyData.int).length : Nat)) (by rw [List.length_map]; omega) (by show 1 ≤ 100; decide) (er_lenL e1)).r
    rw [List.length_map, Int.toNat_natCast] at this
    refine er_is this ?_
    rw [show (List.replicate (totS t ss).length [z]).flatten = List.replicate (totS t ss).length z from List.flatten_replicate_singleton]
  have args : EvA K (tCons (tCB (fun xs H Q => ∃ p ys, xs = [.ref p] ∧ SqL K H p ys ∧ ∀ l o, H l = none → o.dict = none → Q (.ref l) (upd H l (.frz o (.tup ys)))) (tCons (tOp (rIxL K) (tVar 6) (tC (.int 1))) tNil)) (tCons (tOp (rCatS K) (tOp (rIxL K) (tVar 6) (tC (.int 1))) (tLst (tCons (tC (.int 0)) tNil))) (tCons (tSl (rSlL K) (tOp (rIxL K) (tVar 6) (tC (.int 1))) tNoPart (tPart (tUn (rU fun i => .int (-i)) (tC (.int 1))))) (tCons (tC .non) (tCons (tOp rRep (tLst (tCons (tC .non) tNil)) (tCB (fun xs H Q => ∃ x n, xs = [x] ∧ LenV K x H n ∧ Q (.int n) H) (tCons (tOp (rIxL K) (tVar 6) (tC (.int 1))) tNil))) (tCons (tOp rRep (tLst (tCons (tC (.bl true)) tNil)) (tCB (fun xs H Q => ∃ x n, xs = [x] ∧ LenV K x H n ∧ Q (.int n) H) (tCons (tOp (rIxL K) (tVar 6) (tC (.int 1))) tNil))) tNil)))))) ρ (oddsF (totS t ss)) := by
    refine ea_cons (er_tupleL e1) (ea_cons (er_is (er_catS e1 (ef_lst (ea_cons er_int ea_nil) rfl).r ?_) ?_) (ea_cons (er_is (ef_slL e1 eo_none (eo_some (er_neg er_int)) im).r ?_) (ea_cons er_non (ea_cons (rep rfl er_non) (ea_cons (rep rfl er_bl) ea_nil)))))
    · rw [List.length_map]; show _ + 1 ≤ _; omega
    · rw [List.map_append]; rfl
    · rw [show (-(1 : Int)) = -1 from rfl, cut_last]
  rw [seqAsg]
  refine args H0 σ H o _ fun vs H1 x1 al => ⟨Evl.sz_of (by rw [dpAll_len al]; show 6 ≤ _; decide), fun p hp => ?_⟩
  have x2 : Ex H (upd H1 p (.lst vs)) := x1.trans (Evl.Ex.new hp)
  have al2 : DqAll K (upd H1 p (.lst vs)) vs (oddsF (totS t ss)) := dpAll_ex (Evl.Ex.new hp) al
  have o2 : Ok K H0 (upd H1 p (.lst vs)) (σ.set 12 (some (.ref p))) ρ := (o.mono x2).junk h12
  have s12 : (σ.set 12 (some (V.ref p)))[12]? = some (some (.ref p)) := List.getElem?_set_self (by omega)
  show ∃ v, (σ.set 12 (some (V.ref p)))[12]? = some (some v) ∧ _
  refine ⟨.ref p, s12, p, rfl, ⟨vs, SqL.of upd_same⟩, fun Dl hDl => ?_⟩
  refine lc_list (K := K) (a := p) (xs := vs) (fun i H' => Ex (upd H1 p (.lst vs)) H' ∧ H' Dl = some (.lst [])) ⟨Evl.Ex.new hDl, upd_same⟩ (fun i H' _ pv => SqL.of (pv.1 _ _ upd_same)) (fun i x H' hx pv => ?_) (fun H' pv => ?_)
  · obtain ⟨p1, p2⟩ := pv
    obtain ⟨d, hd, dx⟩ := dpAll_getV al2 hx
    obtain ⟨v3, a3, d3, _⟩ := o2.dat 3 _ h3
    refine ⟨?_, ?_⟩
    · show List.set (List.set (List.set (σ.set 12 (some (V.ref p))) 15 none) 15 _) 15 none = List.set (σ.set 12 (some (V.ref p))) 15 none
      rw [List.set_set, List.set_set]
    · refine ⟨v3, ?_, x, ?_, [encT t, d], .none, .cons (dp_ex p1 d3) (.cons (dp_ex p1 dx) .nil), odds_none T xl hd, fun v H4 e4 res => ?_⟩
      · show (List.set (List.set (σ.set 12 (some (V.ref p))) 15 none) 15 _)[3]? = _
        rw [List.getElem?_set_ne (by decide), List.getElem?_set_ne (by decide)]; exact a3
      · show (List.set (List.set (σ.set 12 (some (V.ref p))) 15 none) 15 _)[15]? = _
        rw [List.getElem?_set_self (by rw [List.length_set, List.length_set]; omega)]
      · have hv : v = .non := by
          rcases res with ⟨_, z⟩ | ⟨_, _, _, z, _⟩
          · cases z; rfl
          · cases z
        subst hv
        exact ⟨rfl, false, rfl, iteF ⟨p1.trans e4, e4 _ _ p2⟩⟩
  · obtain ⟨p1, p2⟩ := pv
    refine ⟨by show 0 ≤ sizeLine; exact Nat.zero_le _, fun p3 hp3 => ?_⟩
    have x3 : Ex (upd H1 p (.lst vs)) (upd H' p3 (.lst [])) := p1.trans (Evl.Ex.new hp3)
    refine ⟨.list [], .list [], .lst (SqL.of (Evl.Ex.new hp3 _ _ p2)) .nil, .lst (SqL.of upd_same) .nil, rfl, rfl, false, rfl, iteF ?_⟩
    exact n ρ _ _ k (o2.mono x3) ⟨fun a u h _ => x3 a u (x2 a u h), fun a w => .inl (own_junk h12 w), by rw [List.getElem?_set_ne (by decide)]⟩
/-- the loop over changed totals -/
theorem phF {P : Po} {tz : TS} {t : List Evt} {c : List Int} {ss : List (List Int)} {s0 s1 s5 : Option Sl} (T : Tr t) (hs : ss.length = t.length + 1) {x y : Int}
    (k : ∀ (x y : Int) (a b e : Option Sl), StR K tz [s0, s1, some (.lst (bagL x y)), some (.dat (encT t)), some (.dat (.tuple (c.map .int))), s5, some (.dat (dueD t ss)), none, none, a, b, e, none, none, none, none] P) :
    StR K (tSeq (tFor (iRng1 (tCons (tC (.int 8)) tNil)) (gName 9) (tSeq (tAsg (tCall (spB K A__law_take B__law_take) [] E0 (tCons (tVar 2) (tCons (tCB (fun xs H Q => ∃ x n, xs = [x] ∧ LenV K x H n ∧ Q (.int n) H) (tCons (tOp (rIxL K) (tVar 6) (tC (.int 1))) tNil)) tNil))) (gName 10)) (tSeq (tAsg (tCB (fun xs H Q => ∃ p ys, xs = [.ref p] ∧ (SqL K H p ys ∨ SqT K H p ys) ∧ ∀ l, H l = none → Q (.ref l) (upd H l (.lst ys))) (tCons (tOp (rIxL K) (tVar 6) (tC (.int 1))) tNil)) (gName 11)) (tSeq (tAsg (tOp (rI0 fun i j => .int (i + j)) (tOp (rIxL K) (tVar 11) (tVar 10)) (tCall (spB K A__law_of B__law_of) [] E0 (tCons (tVar 2) (tCons (tLst (tCons (tC (.int 1)) (tCons (tUn (rU fun i => .int (-i)) (tC (.int 1))) (tCons (tC (.int 2)) tNil)))) tNil)))) (gSub (tVar 11) (tVar 10) rSetL)) (tIfS (tTest (tOp (rNeD K) (tCall (spD K R_from_totals) [] E0 (tCons (tVar 3) (tCons (tVar 11) tNil))) (tCall (spD K R__law_from) [] E0 (tCons (tVar 3) (tCons (tVar 11) tNil))))) (tRet (tC (.bl false))) tNext))))) tz) [s0, s1, some (.lst (bagL x y)), some (.dat (encT t)), some (.dat (.tuple (c.map .int))), s5, some (.dat (dueD t ss)), none, none, none, none, none, none, none, none, none] P := by
  have tl := T.len
  have xl : (totS t ss).length = t.length + 1 := by rw [totS_len, hs]
  let Iv : Nat → En → Prop := fun _ ρ' => ∃ (x y : Int) (a b e : Option Sl), ρ' = [s0, s1, some (.lst (bagL x y)), some (.dat (encT t)), some (.dat (.tuple (c.map .int))), s5, some (.dat (dueD t ss)), none, none, a, b, e, none, none, none, none]
  refine sr_for Iv (Iv 0) (ei_rng1 (n := 8) (ea_cons er_int ea_nil) (by omega)) ⟨x, y, none, none, none, rfl⟩ (fun i d ρ' hd iv => ?_) (fun ρ' iv => iv) (fun ρ' iv => ?_)
  · obtain ⟨hi, rfl⟩ := rngD_of hd
    obtain ⟨x, y, a, b, e, rfl⟩ := iv
    refine ⟨_, _, tg_name 9, sb_set (eb_call (bi := 2) (Pre := A__law_take) (Po := B__law_take) (x := x) (y := y) rfl (exa_cons (ex_imm (er_lenL (due1 rfl)) rfl) exa_nil) ⟨_, rfl, by rw [List.length_map]; omega, by rw [List.length_map]; omega⟩) fun ρ2 d im p => ?_⟩
    obtain ⟨⟨m, r, em, r1, r2, rfl⟩, x, y, rfl⟩ := p
    have em' : (((totS t ss).map PyData.int).length : Int) = m := by
      injection em with em
      exact PyData.int.inj em
    rw [List.length_map] at em'
    obtain ⟨j, rfl⟩ : ∃ j : Nat, r = (j : Int) := ⟨r.toNat, by omega⟩
    have hj : j < (totS t ss).length := by omega
    have hg : (totS t ss)[j]? = some (totS t ss)[j] := List.getElem?_eq_getElem hj
    show StR K _ [s0, s1, some (.lst (bagL x y)), some (.dat (encT t)), some (.dat (.tuple (c.map .int))), s5, some (.dat (dueD t ss)), none, none, some (.dat (.int (0 + (i : Nat)))), some (.dat (.int (j : Nat))), e, none, none, none, none] _
    refine sr_set (ef_listS (due1 rfl) (.inr rfl) (immAll_ints _)) ?_
    show StR K _ [s0, s1, some (.lst (bagL x y)), some (.dat (encT t)), some (.dat (.tuple (c.map .int))), s5, some (.dat (dueD t ss)), none, none, some (.dat (.int (0 + (i : Nat)))), some (.dat (.int (j : Nat))), some (.lst ((totS t ss).map .int)), none, none, none, none] _
    refine sb_seti (j := j) (eb_bin (f := fun e => match e with | .int z => .int ((totS t ss)[j] + z) | _ => .none) (er_ixL (er_vl 11) (er_v 10) (d := .int (totS t ss)[j]) (atI_nat (by rw [List.getElem?_map, hg]; rfl))) rfl (eb_call (bi := 2) (Pre := A__law_of) (Po := B__law_of) (x := x) (y := y) rfl (exa_cons (ex_f (ef_lst (ea_cons er_int (ea_cons (er_neg er_int) (ea_cons er_int ea_nil))) rfl)) exa_nil) ⟨_, rfl, by decide, by decide, rfl⟩) fun ρ2 e p => ?_) fun ρ2 d im p => ?_
    · obtain ⟨⟨es, ee, he⟩, _⟩ := p
      cases ee
      obtain ⟨z, rfl⟩ : ∃ z, e = .int z := by
        simp only [List.mem_cons, List.not_mem_nil, or_false] at he
        rcases he with rfl | rfl | rfl <;> exact ⟨_, rfl⟩
      refine ⟨rfl, fun H v w Q h1 h2 q => ?_⟩
      cases h1; cases h2
      exact ⟨_, _, rfl, rfl, q _ H (Ex.refl H) (.int _)⟩
    · obtain ⟨e, ⟨⟨es, ee, he⟩, x, y, rfl⟩, rfl⟩ := p
      cases ee
      obtain ⟨z, rfl⟩ : ∃ z, e = .int z := by
        simp only [List.mem_cons, List.not_mem_nil, or_false] at he
        rcases he with rfl | rfl | rfl <;> exact ⟨_, rfl⟩
      refine ⟨(totS t ss).map .int, rfl, er_v 10, by rw [List.length_map]; exact hj, ?_⟩
      have em2 : ((totS t ss).map PyData.int).set j (.int ((totS t ss)[j] + z)) = ((totS t ss).set j ((totS t ss)[j] + z)).map .int := by rw [List.map_set]
      show StR K _ [s0, s1, some (.lst (bagL x y)), some (.dat (encT t)), some (.dat (.tuple (c.map .int))), s5, some (.dat (dueD t ss)), none, none, some (.dat (.int (0 + (i : Nat)))), some (.dat (.int (j : Nat))), some (.lst (((totS t ss).map PyData.int).set j (.int ((totS t ss)[j] + z)))), none, none, none, none] _
      rw [em2]
      obtain ⟨xs, hxs⟩ : ∃ xs, xs = (totS t ss).set j ((totS t ss)[j] + z) := ⟨_, rfl⟩
      rw [← hxs]
      have xsl : xs.length = t.length + 1 := by rw [hxs, List.length_set, xl]
      refine sr_if (b := false) (et_test (er_is (er_neD (er_call (ea_cons (er_v 3) (ea_cons (er_vl 11) ea_nil)) ⟨t, _, rfl, T, .inl ⟨xs, rfl, by omega, rfl⟩⟩) (er_call (ea_cons (er_v 3) (ea_cons (er_vl 11) ea_nil)) ⟨t, xs, rfl, T, xsl, rfl⟩) (sh_optS _) (sh_optS _)) (by rw [eqv_self (sh_optS _)]; rfl))) (fun z => nomatch z) fun _ => sr_next ⟨x, y, some (.dat (.int (0 + (i : Nat)))), some (.dat (.int (j : Nat))), some (.lst (xs.map .int)), rfl⟩
  · obtain ⟨x, y, a, b, e, rfl⟩ := iv
    exact k x y a b e
/-- due = [..], and what follows over a base of its own -/
theorem phB {tz : TS} {ns : List Int} {kk : PyData} {t : List Evt} {c : List Int} {ss : List (List Int)} {x y : Int} (T : Tr t) (hc : c.length = t.length + 1) (hr : runS t c = some ss)
    (k : StR K tz [some (.dat (.list (ns.map .int))), some (.dat kk), some (.lst (bagL x y)), some (.dat (encT t)), some (.dat (.tuple (c.map .int))), none, some (.dat (dueD t ss)), none, none, none, none, none, none, none, none, none] { nx := fun ρ' => ρ'.length = 16 }) :
    StR K (tSeq (tAsg (tLst (tCons (tVar 5) (tCons (tCall (spD K R__law_totals) [] E0 (tCons (tVar 3) (tCons (tVar 5) tNil))) (tCons (tCall (spD K R__law_callers) [] E0 (tCons (tVar 3) (tCons (tVar 5) tNil))) (tCons (tCall (spD K R__law_ends) [] E0 (tCons (tVar 3) (tCons (tVar 5) tNil))) tNil))))) (gName 6)) tz) [some (.dat (.list (ns.map .int))), some (.dat kk), some (.lst (bagL x y)), some (.dat (encT t)), some (.dat (.tuple (c.map .int))), some (.lst (ss.map encS)), none, none, none, none, none, none, none, none, none, none]
      { nx := fun ρ' => ρ' = some (.dat (.list (ns.map .int))) :: List.replicate 15 none } := fun H0 σ H D o n b' c' r => by
  have tl := T.len
  obtain ⟨g, sl'⟩ := run_good rfl hr
  have lenσ : σ.length = 16 := o.len
  obtain ⟨p0, vs0, a0, h00, hp0, al0, im0⟩ := o.lst 5 (ss.map encS) rfl
  obtain ⟨b, vb, ab, hb0, hbH, alb, imb⟩ := o.lst 2 (bagL x y) rfl
  have nb0 : p0 ≠ b := fun z => absurd (o.sep 5 2 _ _ p0 rfl rfl a0 (by rw [ab, z])) (by decide)
  obtain ⟨v0, s0, d0, e0⟩ := o.dat 0 (.list (ns.map .int)) rfl
  have d00 : Dq K H0 v0 (.list (ns.map .int)) := by
    rcases e0 with z | z
    · simp [imm] at z
    · exact z
  rw [seqAsg]
  refine ⟨.ref p0, a0, ?_⟩
  refine ef_call (R := R__law_totals) (d := .list (wantF t ss 1)) (ea_cons (er_v 3) (ea_cons (er_vl 5 (ds := ss.map encS)) ea_nil)) ⟨t, ss, rfl, by omega, by omega, rfl⟩ H0 σ H o _ fun v1 H1 x1 q1 => ?_
  rcases q1 with ⟨z, _⟩ | ⟨w1, p1, vs1, ew1, rfl, n1, hp1, al1, im1⟩
  · simp [imm] at z
  cases ew1
  refine ef_call (R := R__law_callers) (d := .list (wantF t ss 2)) (ea_cons (er_v 3) (ea_cons (er_vl 5 (ds := ss.map encS)) ea_nil)) ⟨t, c, ss, rfl, T, hc, hr, rfl⟩ H0 σ H1 (o.mono x1) _ fun v2 H2 x2 q2 => ?_
  rcases q2 with ⟨z, _⟩ | ⟨w2, p2, vs2, ew2, rfl, n2, hp2, al2, im2⟩
  · simp [imm] at z
  cases ew2
  refine ef_call (R := R__law_ends) (d := .list (wantF t ss 3)) (ea_cons (er_v 3) (ea_cons (er_vl 5 (ds := ss.map encS)) ea_nil)) ⟨t, ss, rfl, by omega, by omega, rfl⟩ H0 σ H2 (o.mono (x1.trans x2)) _ fun v3 H3 x3 q3 => ?_
  rcases q3 with ⟨z, _⟩ | ⟨w3, p3, vs3, ew3, rfl, n3, hp3, al3, im3⟩
  · simp [imm] at z
  cases ew3
  refine ⟨by show 4 ≤ sizeLine; decide, fun Dl hDl => ?_⟩
  have x13 : Ex H H3 := (x1.trans x2).trans x3
  have x4 : Ex H3 (upd H3 Dl (.lst [.ref p0, .ref p1, .ref p2, .ref p3])) := Evl.Ex.new hDl
  have xA : Ex H (upd H3 Dl (.lst [.ref p0, .ref p1, .ref p2, .ref p3])) := x13.trans x4
  have hbA := xA _ _ hbH
  have nb1 : p1 ≠ b := fun z => by rw [z, hbH] at n1; cases n1
  have nb2 : p2 ≠ b := fun z => by rw [z, x1 _ _ hbH] at n2; cases n2
  have nb3 : p3 ≠ b := fun z => by rw [z, (x1.trans x2) _ _ hbH] at n3; cases n3
  have nbD : Dl ≠ b := fun z => by rw [z, x13 _ _ hbH] at hDl; cases hDl
  generalize hHA : upd H3 Dl (.lst [.ref p0, .ref p1, .ref p2, .ref p3]) = HA at x4 xA hbA
  have hDA : HA Dl = some (.lst [.ref p0, .ref p1, .ref p2, .ref p3]) := by rw [← hHA]; exact upd_same
  have tx : Tx HA (del HA b) := tx_del hbA
  have lift : ∀ {p : Addr} {vs : List V} {ds : List PyData}, p ≠ b → HA p = some (.lst vs) → DqAll K HA vs ds → immAll ds = true → Dq K (del HA b) (.ref p) (.list ds) := fun np hp al im => .lst (SqL.of (by rw [del_ne np]; exact hp)) (dpAll_tx tx im al)
  have dqD : Dq K (del HA b) (.ref Dl) (dueD t ss) := .lst (SqL.of (by rw [del_ne nbD]; exact hDA))
    (.cons (lift nb0 (xA _ _ hp0) (dpAll_ex xA al0) im0) (.cons (lift nb1 (x4 _ _ ((x2.trans x3) _ _ hp1)) (dpAll_ex ((x2.trans x3).trans x4) al1) im1) (.cons (lift nb2 (x4 _ _ (x3 _ _ hp2)) (dpAll_ex (x3.trans x4) al2) im2) (.cons (lift nb3 (x4 _ _ hp3) (dpAll_ex x4 al3) im3) .nil))))
  -- the slots over the new base
  have oF : Ok K H0 HA σ ([some (.dat (.list (ns.map .int))), some (.dat kk), some (.lst (bagL x y)), some (.dat (encT t)), some (.dat (.tuple (c.map .int))), none, none, none, none, none, none, none, none, none, none, none] : En) := (o.mono xA).forget 5
  have ownB : ∀ a, own σ ([some (.dat (.list (ns.map .int))), some (.dat kk), some (.lst (bagL x y)), some (.dat (encT t)), some (.dat (.tuple (c.map .int))), none, none, none, none, none, none, none, none, none, none, none] : En) a → a = b := fun a w => by
    obtain ⟨i, ds, w1, w2⟩ := w
    match i, w1, w2 with
    | 0, w1, _ => cases w1
    | 1, w1, _ => cases w1
    | 2, _, w2 => rw [ab] at w2; cases w2; rfl
    | 3, w1, _ => cases w1
    | 4, w1, _ => cases w1
    | 5, w1, _ => cases w1
    | 6, w1, _ => cases w1
    | 7, w1, _ => cases w1
    | 8, w1, _ => cases w1
    | 9, w1, _ => cases w1
    | 10, w1, _ => cases w1
    | 11, w1, _ => cases w1
    | 12, w1, _ => cases w1
    | 13, w1, _ => cases w1
    | 14, w1, _ => cases w1
    | 15, w1, _ => cases w1
    | m + 16, w1, _ => simp at w1
  have ex0 : Ex H0 (del HA b) := fun a u h => by
    rw [del_ne (ne_of_none h hb0)]; exact xA _ _ (o.ex _ _ h)
  have oB := (oF.base ex0 del_ex fun a w => by rw [ownB a w]; exact del_same).put (i := 6) (v := .ref Dl) (dp_ex del_ex dqD) (.inr dqD)
  have ownB2 : ∀ a, own (σ.set 6 (some (.ref Dl))) ([some (.dat (.list (ns.map .int))), some (.dat kk), some (.lst (bagL x y)), some (.dat (encT t)), some (.dat (.tuple (c.map .int))), none, some (.dat (dueD t ss)), none, none, none, none, none, none, none, none, none] : En) a → a = b := fun a w => ownB a (own_put (i := 6) (v := .ref Dl) (d := dueD t ss) oF w)
  refine k (del HA b) _ HA _ oB (fun ρ' σ' H' hρ o' f' => ?_) (fun _ _ _ z => z.elim) (fun _ _ _ z => z.elim) (fun _ _ _ _ _ z => z.elim)
  have keep : ∀ a u, a ≠ b → HA a = some u → H' a = some u := fun a u na h => f'.keep a u h fun w => na (ownB2 a w)
  have exE : Ex H0 H' := fun a u h => keep a u (ne_of_none h hb0) (xA _ _ (o.ex _ _ h))
  have s0' : σ'[0]? = some (some v0) := by rw [f'.s0, List.getElem?_set_ne (by decide)]; exact s0
  have lone : ∀ (i : Nat) (s : Sl), (some (Sl.dat (.list (ns.map .int))) :: List.replicate 15 none)[i]? = some (some s) → i = 0 ∧ s = .dat (.list (ns.map .int)) := fun i s h => by
    cases i with
    | zero => cases h; exact ⟨rfl, rfl⟩
    | succ m =>
      rw [List.getElem?_cons_succ, List.getElem?_replicate] at h
      split at h <;> cases h
  refine n _ σ' H' rfl ⟨exE, ?_, fun i d h => ?_, fun i ds h => ?_, fun i j ds es p h _ _ _ => ?_⟩ ⟨fun a u h w => ?_, fun a w => ?_, by rw [f'.s0, List.getElem?_set_ne (by decide)]⟩
  · rw [o'.len, hρ]; rfl
  · obtain ⟨rfl, e⟩ := lone i _ h
    cases e
    exact ⟨v0, s0', dp_ex exE d00, .inr d00⟩
  · obtain ⟨_, e⟩ := lone i _ h
    cases e
  · obtain ⟨_, e⟩ := lone i _ h
    cases e
  · exact keep a u (fun z => w ⟨2, _, rfl, by rw [z]; exact ab⟩) (xA _ _ h)
  · obtain ⟨i, ds, w1, _⟩ := w
    obtain ⟨_, e⟩ := lone i _ w1
    cases e
end
end Lx

set_option Elab.async false
set_option linter.all false
set_option maxRecDepth 100000
set_option maxHeartbeats 1000000
namespace Lx
open PySem PySem.Spec PyProof.Rows L2
open Evl (Ex)
def tailsT : List Evt := [.enter "f", .enter "g", .tail "h", .caught 0]
def threeT : List Evt := [.enter "f", .enter "g", .enter "h", .caught 0]
theorem tr_tails : Tr tailsT := by
  obtain ⟨n1, n2, _, _, n5⟩ := okn
  refine ⟨by decide, by decide, fun i e h => ?_⟩
  match i, h with
  | 0, h => cases h; exact n1
  | 1, h => cases h; exact n2
  | 2, h => cases h; exact ⟨n5, by decide⟩
  | 3, h => cases h; exact ⟨by decide, by decide⟩
  | n + 4, h => simp [tailsT] at h
theorem tr_three : Tr threeT := by
  obtain ⟨n1, n2, _, _, n5⟩ := okn
  refine ⟨by decide, by decide, fun i e h => ?_⟩
  match i, h with
  | 0, h => cases h; exact n1
  | 1, h => cases h; exact n2
  | 2, h => cases h; exact n5
  | 3, h => cases h; exact ⟨by decide, by decide⟩
  | n + 4, h => simp [threeT] at h
def z5 : List Int := [0, 0, 0, 0, 0]
theorem run_tails : runS tailsT z5 = some [[], [0], [0, 1], [0, 2], [0]] := by decide +kernel
theorem run_three : runS threeT z5 = some [[], [0], [0, 1], [0, 1, 2], [0]] := by decide +kernel
section
variable {Pr : Program} {w : World} {K : PySem.W.Frag} {mg : Str → Option Value} {base : Heap}
abbrev s_law : Stmt := topS 42
abbrev N_law : List Str := ["script", "k", "bag", "trace", "completion", "rows", "due", "told", "one", "turn", "at", "numbers", "odd", "tails", "way", "value"]
theorem sc_law : FnScope N_law ["script"] (defScope s_law) := ⟨rfl, rfl, rfl, by decide +kernel, rfl, by decide +kernel, by decide +kernel⟩
def R_law : List PyData → PyData → Prop := fun ds d => ∃ ns : List Int, ds = [.list (ns.map .int)] ∧ ns.length ≤ 63 ∧ d = .bool true
theorem zeros {ρ : En} : EvR K (tOp (rRepN K) (tTupN (tCons (tC (.int 0)) tNil)) (tC (.int 5))) ρ (.tuple (z5.map .int)) := er_is (er_repN (er_tup (ea_cons er_int ea_nil)) er_int (by simp) (by decide) (by show 1 ≤ 1000; decide)) rfl
theorem ne_false {ρ : En} {ta tb : TE} {d : PyData} (ha : EvR K ta ρ d) (hb : EvR K tb ρ d) (hs : SeqAt.shaped d = true) : EvT K (tTest (tOp (rNeD K) ta tb)) ρ false := et_test (er_is (er_neD ha hb hs hs) (by rw [eqv_self hs]; rfl))
theorem eq_true {ρ : En} {ta tb : TE} {d : PyData} (ha : EvR K ta ρ d) (hb : EvR K tb ρ d) (hs : SeqAt.shaped d = true) : EvR K (tOp (rEqD K) ta tb) ρ (.bool true) := er_is (er_eqD ha hb hs hs) (by rw [eqv_self hs])
theorem ok_law {f : Addr} {fd : FuncData} (M : Md mg) (C_stacks : Cal Pr w K mg base 5 "stacks" (spD K R_stacks)) (C_totals : Cal Pr w K mg base 6 "totals" (spD K R_totals)) (C_from_totals : Cal Pr w K mg base 5 "from_totals" (spD K R_from_totals)) (C_callers : Cal Pr w K mg base 6 "callers" (spD K R_callers)) (C_ends : Cal Pr w K mg base 6 "ends" (spD K R_ends)) (C__law_bag : Cal Pr w K mg base 1 "_law_bag" (spD K R__law_bag)) (C__law_take : Cal Pr w K mg base 1 "_law_take" (spB K A__law_take B__law_take)) (C__law_of : Cal Pr w K mg base 2 "_law_of" (spB K A__law_of B__law_of)) (C__law_rows : Cal Pr w K mg base 2 "_law_rows" (spD K R__law_rows)) (C__law_totals : Cal Pr w K mg base 2 "_law_totals" (spD K R__law_totals)) (C__law_run : Cal Pr w K mg base 4 "_law_run" (spB K A__law_run B__law_run)) (C__law_callers : Cal Pr w K mg base 2 "_law_callers" (spD K R__law_callers)) (C__law_ends : Cal Pr w K mg base 2 "_law_ends" (spD K R__law_ends)) (C__law_from : Cal Pr w K mg base 3 "_law_from" (spD K R__law_from)) (F : Fun K "law" "law" s_law f fd) : FnOk Pr w K mg base CX0 7 f fd ["script"] (spD K R_law) := by
  obtain ⟨f_stacks, fd1, ps1, F1, g_stacks, k1, b1⟩ := C_stacks.ex
  obtain ⟨f_totals, fd2, ps2, F2, g_totals, k2, b2⟩ := C_totals.ex
  obtain ⟨f_callers, fd3, ps3, F3, g_callers, k3, b3⟩ := C_callers.ex
  obtain ⟨f_ends, fd4, ps4, F4, g_ends, k4, b4⟩ := C_ends.ex
  have HA : ∀ f sp, S4 K [f_stacks, f_totals, f_callers, f_ends] f sp → Held Pr w K mg base 6 f sp := fun f sp h => by
    obtain ⟨j, hj, rfl⟩ := h
    match j, hj with
    | 0, hj => cases hj; exact ⟨fd1, ps1, F1.mono (by decide), k1, b1⟩
    | 1, hj => cases hj; exact ⟨fd2, ps2, F2.mono (by decide), k2, b2⟩
    | 2, hj => cases hj; exact ⟨fd3, ps3, F3.mono (by decide), k3, b3⟩
    | 3, hj => cases hj; exact ⟨fd4, ps4, F4.mono (by decide), k4, b4⟩
    | n + 4, hj => simp at hj
  refine okD (k := 6) F sc_law (fun ds d h => ?_) (fun ds d h cdv A outer s H E hr => ⟨_, (pss_cons (ps_for PassesOwn.never rfl (pi_range1 (by rfl) M.range (pa_cons (pe_op op_add (pe_callB (call_min2 rfl) (by rfl) M.min (by decide +kernel) (pa_cons (pe_callB call_len (by rfl) M.len PySem.boot_len (pa_cons (pv 0) pa_nil)) (pa_cons pe_int pa_nil))) pe_int) pa_nil)) (pg_name (i := 1) sc_law.nd rfl (Or.inl rfl)) (pss_cons (ps_set (i := 2) sc_law.nd rfl (Or.inl rfl) (pe_cal C__law_bag hr (by decide) (by rfl) (pa_cons (pv 0) (pa_cons (pv 1) pa_nil)))) (pss_cons (ps_asg (pe_cal C__law_run hr (by decide) (by rfl) (pa_cons (pv 2) (pa_cons pe_int (pa_cons pe_int pa_nil)))) (pg_tup rfl (pgs_cons (pg_name (i := 3) sc_law.nd rfl (Or.inr rfl)) (pgs_cons (pg_name (i := 4) sc_law.nd rfl (Or.inr rfl)) pgs_nil)))) (pss_cons (ps_set (i := 5) sc_law.nd rfl (Or.inl rfl) (pe_cal C__law_rows hr (by decide) (by rfl) (pa_cons (pv 3) (pa_cons (pv 4) pa_nil)))) (pss_cons (ps_set (i := 6) sc_law.nd rfl (Or.inl rfl) (pe_lst (pa_cons (pv 5) (pa_cons (pe_cal C__law_totals hr (by decide) (by rfl) (pa_cons (pv 3) (pa_cons (pv 5) pa_nil))) (pa_cons (pe_cal C__law_callers hr (by decide) (by rfl) (pa_cons (pv 3) (pa_cons (pv 5) pa_nil))) (pa_cons (pe_cal C__law_ends hr (by decide) (by rfl) (pa_cons (pv 3) (pa_cons (pv 5) pa_nil))) pa_nil)))))) (pss_cons (ps_setLc (i := 7) (own := [("way", 14)]) (wi := (iTup K (tTupN (tCons (tC (.ref f_stacks)) (tCons (tC (.ref f_totals)) (tCons (tC (.ref f_callers)) (tCons (tC (.ref f_ends)) tNil))))))) (g := (gName 14)) (tt := tYes) (te := (tCallR 14 (S4 K [f_stacks, f_totals, f_callers, f_ends]) (tCons (tVar 3) (tCons (tVar 4) tNil)))) (by rfl) sc_law.nd rfl rfl (sw_true rfl rfl rfl (by decide +kernel)) (pi_tup (pe_tupN (pa_cons (pe_glob (v := .ref f_stacks) (by rfl) g_stacks rfl) (pa_cons (pe_glob (v := .ref f_totals) (by rfl) g_totals rfl) (pa_cons (pe_glob (v := .ref f_callers) (by rfl) g_callers rfl) (pa_cons (pe_glob (v := .ref f_ends) (by rfl) g_ends rfl) pa_nil)))))) (blkOk_by (own := [("way", 14)]) (N := N_law) (sc := defScope s_law) (by decide +kernel)) (fun _ _ _ _ _ => (pg_name (i := 14) sc_law.nd rfl (Or.inl rfl))) (fun _ _ _ _ _ => pts_nil) (fun _ _ _ _ _ => (pe_callR (i := 14) HA hr (by decide) rfl (Or.inl rfl) (pa_cons (pv 3) (pa_cons (pv 4) pa_nil))))) (pss_cons (ps_if (pt_cmpR (op_neD hr.units) (pv 7) (pv 6) (nomark _)) (pss_one (ps_ret pe_bl)) pss_nil) (pss_cons (ps_for PassesOwn.never rfl (pi_list (pv 7)) (pg_name (i := 8) sc_law.nd rfl (Or.inl rfl)) (pss_one (ps_expr (pe_bm PySem.F.plainAttrs_list PySem.F.slot_list_append PySem.F.type_list_append mt_append (pv 8) (pa_cons pe_non pa_nil))))) (pss_cons (ps_if (pt_cmpR (op_neD hr.units) (pe_lc (own := [("way", 14)]) (wi := (iTup K (tTupN (tCons (tC (.ref f_stacks)) (tCons (tC (.ref f_totals)) (tCons (tC (.ref f_callers)) (tCons (tC (.ref f_ends)) tNil))))))) (g := (gName 14)) (tt := tYes) (te := (tCallR 14 (S4 K [f_stacks, f_totals, f_callers, f_ends]) (tCons (tVar 3) (tCons (tVar 4) tNil)))) (by rfl) sc_law.nd (pi_tup (pe_tupN (pa_cons (pe_glob (v := .ref f_stacks) (by rfl) g_stacks rfl) (pa_cons (pe_glob (v := .ref f_totals) (by rfl) g_totals rfl) (pa_cons (pe_glob (v := .ref f_callers) (by rfl) g_callers rfl) (pa_cons (pe_glob (v := .ref f_ends) (by rfl) g_ends rfl) pa_nil)))))) (blkOk_by (own := [("way", 14)]) (N := N_law) (sc := defScope s_law) (by decide +kernel)) (fun _ _ _ _ _ => (pg_name (i := 14) sc_law.nd rfl (Or.inl rfl))) (fun _ _ _ _ _ => pts_nil) (fun _ _ _ _ _ => (pe_callR (i := 14) HA hr (by decide) rfl (Or.inl rfl) (pa_cons (pv 3) (pa_cons (pv 4) pa_nil))))) (pv 6) (nomark _)) (pss_one (ps_ret pe_bl)) pss_nil) (pss_cons (ps_if (pt_cmpR (op_neD hr.units) (pe_cal C_from_totals hr (by decide) (by rfl) (pa_cons (pv 3) (pa_cons (pe_ix ix_list (pv 6) pe_int (fun _ _ => rfl)) pa_nil))) (pv 4) (nomark _)) (pss_one (ps_ret pe_bl)) pss_nil) (pss_cons (ps_for PassesOwn.never rfl (pi_range1 (by rfl) M.range (pa_cons pe_int pa_nil)) (pg_name (i := 9) sc_law.nd rfl (Or.inl rfl)) (pss_cons (ps_set (i := 10) sc_law.nd rfl (Or.inl rfl) (pe_cal C__law_take hr (by decide) (by rfl) (pa_cons (pv 2) (pa_cons (pe_callB call_len (by rfl) M.len PySem.boot_len (pa_cons (pe_ix ix_list (pv 6) pe_int (fun _ _ => rfl)) pa_nil)) pa_nil)))) (pss_cons (ps_set (i := 11) sc_law.nd rfl (Or.inl rfl) (pe_callTy call_list_of (by rfl) M.list (by decide +kernel) (pa_cons (pe_ix ix_list (pv 6) pe_int (fun _ _ => rfl)) pa_nil))) (pss_cons (ps_asg (pe_op op_add (pe_ix ix_list (pv 11) (pv 10) (fun _ _ => rfl)) (pe_cal C__law_of hr (by decide) (by rfl) (pa_cons (pv 2) (pa_cons (pe_lst (pa_cons pe_int (pa_cons (pe_un un_neg pe_int) (pa_cons pe_int pa_nil)))) pa_nil)))) (pg_sub (pv 11) (pv 10) set_list)) (pss_one (ps_if (pt_cmpR (op_neD hr.units) (pe_cal C_from_totals hr (by decide) (by rfl) (pa_cons (pv 3) (pa_cons (pv 11) pa_nil))) (pe_cal C__law_from hr (by decide) (by rfl) (pa_cons (pv 3) (pa_cons (pv 11) pa_nil))) (nomark _)) (pss_one (ps_ret pe_bl)) pss_nil)))))) (pss_cons (ps_set (i := 12) sc_law.nd rfl (Or.inl rfl) (pe_lst (pa_cons (pe_callTy call_tupN (by rfl) M.tuple (by decide +kernel) (pa_cons (pe_ix ix_list (pv 6) pe_int (fun _ _ => rfl)) pa_nil)) (pa_cons (pe_op op_catS (pe_ix ix_list (pv 6) pe_int (fun _ _ => rfl)) (pe_lst (pa_cons pe_int pa_nil))) (pa_cons (pe_slice sl_list (pe_ix ix_list (pv 6) pe_int (fun _ _ => rfl)) po_none (po_some (pe_un un_neg pe_int))) (pa_cons pe_non (pa_cons (pe_op op_rep (pe_lst (pa_cons pe_non pa_nil)) (pe_callB call_len (by rfl) M.len PySem.boot_len (pa_cons (pe_ix ix_list (pv 6) pe_int (fun _ _ => rfl)) pa_nil))) (pa_cons (pe_op op_rep (pe_lst (pa_cons pe_bl pa_nil)) (pe_callB call_len (by rfl) M.len PySem.boot_len (pa_cons (pe_ix ix_list (pv 6) pe_int (fun _ _ => rfl)) pa_nil))) pa_nil)))))))) (pss_one (ps_if (pt_cmpR (op_neD hr.units) (pe_lc (own := [("value", 15)]) (wi := (iList K (tVar 12))) (g := (gName 15)) (tt := (tTest (tOp (fun x y H Q => y = V.non ∧ Q (.bl (!decide (x = V.non))) H) (tCall (spD K R_from_totals) [] E0 (tCons (tVar 3) (tCons (tVar 15) tNil))) (tC .non)))) (te := (tVar 15)) (by rfl) sc_law.nd (pi_list (pv 12)) (blkOk_by (own := [("value", 15)]) (N := N_law) (sc := defScope s_law) (by decide +kernel)) (fun _ _ _ _ _ => (pg_name (i := 15) sc_law.nd rfl (Or.inl rfl))) (fun _ _ _ _ _ => (pts_one (pt_cmpR op_notN (pe_cal C_from_totals hr (by decide) (by rfl) (pa_cons (pv 3) (pa_cons (pv 15) pa_nil))) pe_non (nomark _)))) (fun _ _ _ _ _ => (pv 15))) (pe_lst pa_nil) (nomark _)) (pss_one (ps_ret pe_bl)) pss_nil)))))))))))))) (pss_cons (ps_set (i := 13) sc_law.nd rfl (Or.inl rfl) (pe_tupN (pa_cons (pe_tupN (pa_cons pe_str (pa_cons pe_str pa_nil))) (pa_cons (pe_tupN (pa_cons pe_str (pa_cons pe_str pa_nil))) (pa_cons (pe_tupN (pa_cons pe_str (pa_cons pe_str pa_nil))) (pa_cons (pe_tupN (pa_cons pe_str (pa_cons pe_int pa_nil))) pa_nil)))))) (pss_cons (ps_if (PW.pt (pw_or (pt_cmpR (op_neD hr.units) (pe_cal C_stacks hr (by decide) (by rfl) (pa_cons (pv 13) (pa_cons (pe_tupN (pa_cons pe_int (pa_cons pe_int (pa_cons pe_int (pa_cons pe_int (pa_cons pe_int pa_nil)))))) pa_nil))) (pe_lst (pa_cons (pe_tupN pa_nil) (pa_cons (pe_tupN (pa_cons pe_int pa_nil)) (pa_cons (pe_tupN (pa_cons pe_int (pa_cons pe_int pa_nil))) (pa_cons (pe_tupN (pa_cons pe_int (pa_cons pe_int pa_nil))) (pa_cons (pe_tupN (pa_cons pe_int pa_nil)) pa_nil)))))) (nomark _)) (pw_or1 (pt_cmpR (op_neD hr.units) (pe_cal C_callers hr (by decide) (by rfl) (pa_cons (pv 13) (pa_cons (pe_op op_repN (pe_tupN (pa_cons pe_int pa_nil)) pe_int) pa_nil))) (pe_lst (pa_cons pe_non (pa_cons pe_int (pa_cons pe_int pa_nil)))) (nomark _))))) (pss_one (ps_ret pe_bl)) pss_nil) (pss_cons (ps_if (pt_cmpR (op_neD hr.units) (pe_cal C_totals hr (by decide) (by rfl) (pa_cons (pe_tupN (pa_cons (pe_tupN (pa_cons pe_str (pa_cons pe_str pa_nil))) (pa_cons (pe_tupN (pa_cons pe_str (pa_cons pe_str pa_nil))) (pa_cons (pe_tupN (pa_cons pe_str (pa_cons pe_str pa_nil))) (pa_cons (pe_tupN (pa_cons pe_str (pa_cons pe_int pa_nil))) pa_nil))))) (pa_cons (pe_op op_repN (pe_tupN (pa_cons pe_int pa_nil)) pe_int) pa_nil))) (pe_lst (pa_cons pe_int (pa_cons pe_int (pa_cons pe_int (pa_cons pe_int (pa_cons pe_int pa_nil)))))) (nomark _)) (pss_one (ps_ret pe_bl)) pss_nil) (pss_one (ps_ret (pe_and (pe_cmpR (op_eqD hr.units) (pe_cal C_totals hr (by decide) (by rfl) (pa_cons (pv 13) (pa_cons (pe_op op_repN (pe_tupN (pa_cons pe_int pa_nil)) pe_int) pa_nil))) (pe_lst (pa_cons pe_int (pa_cons pe_int (pa_cons pe_int (pa_cons pe_int (pa_cons pe_int pa_nil)))))) (nomark _)) (pe_one (pe_cmpR (op_eqD hr.units) (pe_cal C_ends hr (by decide) (by rfl) (pa_cons (pv 13) (pa_cons (pe_op op_repN (pe_tupN (pa_cons pe_int pa_nil)) pe_int) pa_nil))) (pe_lst (pa_cons pe_non (pa_cons pe_int (pa_cons pe_int pa_nil)))) (nomark _)))))))))), ?_⟩)
  · obtain ⟨x, rfl, _⟩ := h
    rfl
  · obtain ⟨ns, rfl, hns, rfl⟩ := h
    show StR K _ (some (.dat (.list (ns.map .int))) :: List.replicate 15 none) _
    have rng := ei_rng1 (K := K) (ρ := some (.dat (.list (ns.map .int))) :: List.replicate 15 none) (n := (if (8 : Int) < (((ns.map PyData.int).length : Nat) : Int) then 8 else (((ns.map PyData.int).length : Nat) : Int)) + 2) (ea_cons (er_add (er_min (er_lenL (er_v 0)) er_int) er_int) ea_nil) (by rw [List.length_map]; split <;> omega)
    refine sr_for (fun _ ρ' => ρ' = some (.dat (.list (ns.map .int))) :: List.replicate 15 none) (fun ρ' => ρ' = some (.dat (.list (ns.map .int))) :: List.replicate 15 none) rng rfl (fun i d ρ' hd iv => ?_) (fun ρ' iv => iv) (fun ρ' iv => ?_)
    · obtain ⟨hi, rfl⟩ := rngD_of hd
      have hi' : i ≤ 100 := by
        rw [List.length_map] at hi
        split at hi <;> omega
      subst iv
      rw [Int.zero_add]
      refine ⟨_, _, tg_name 1, ?_⟩
      show StR K _ [some (.dat (.list (ns.map .int))), some (.dat (.int (i : Nat))), none, none, none, none, none, none, none, none, none, none, none, none, none, none] _
      refine sr_set (ef_call (ea_cons (er_v 0) (ea_cons (er_v 1) ea_nil)) ⟨ns, i, rfl, by omega, rfl⟩) ?_
      generalize (if cellF ns i < 10 ^ 18 then 0 else cellF ns i) = bx
      generalize seedF ns i = bs
      show StR K _ [some (.dat (.list (ns.map .int))), some (.dat (.int (i : Nat))), some (.lst (bagL bx bs)), none, none, none, none, none, none, none, none, none, none, none, none, none] _
      refine sb_tgt (eb_call (bi := 2) (Pre := A__law_run) (Po := B__law_run) (x := bx) (y := bs) rfl (exa_cons (ex_imm er_int rfl) (exa_cons (ex_imm er_int rfl) exa_nil)) rfl) fun ρ2 d im p => ?_
      obtain ⟨⟨t, c, rfl, T, hc, hn, ss, hrun⟩, x, y, rfl⟩ := p
      have hs := (run_good rfl hrun).2
      refine ⟨_, _, tg_tup (tgs_cons (tg_name 3) (tgs_cons (tg_name 4) tgs_nil)), ?_⟩
      show StR K _ [some (.dat (.list (ns.map .int))), some (.dat (.int (i : Nat))), some (.lst (bagL x y)), some (.dat (encT t)), some (.dat (.tuple (c.map .int))), none, none, none, none, none, none, none, none, none, none, none] _
      have hrows : rowsL t c = some ss := by
        unfold rowsL
        rw [hrun]
        show (if c.length ≤ t.length then _ else some ss) = some ss
        rw [if_neg (by omega)]
      refine sr_set (d := .list (ss.map encS)) (ef_call (ea_cons (er_v 3) (ea_cons (er_v 4) ea_nil)) ⟨t, c, rfl, T, by omega, hn, by rw [hrows]; rfl⟩) ?_
      refine sr_nxt (P := { nx := fun ρ' => ρ' = some (.dat (.list (ns.map .int))) :: List.replicate 15 none }) ?_ (fun _ z => z) (fun _ z => z.elim) (fun _ z => z.elim) (fun _ _ z => z.elim)
      refine phB T hc hrun ?_
      refine phC rfl rfl rfl rfl rfl rfl T hc hrun ?_
      refine sr_skip (phD rfl rfl rfl rfl T hc hrun) ?_
      have hft : ft t (totS t ss) = some c := by
        unfold ft
        rw [if_pos (by rw [totS_len]; omega), ft_tot rfl hrun]; rfl
      refine sr_skip (ne_false (d := .tuple (c.map .int)) (er_call (ea_cons (er_v 3) (ea_cons (due1 rfl) ea_nil)) ⟨t, _, rfl, T, .inl ⟨totS t ss, rfl, by rw [totS_len]; have := T.len; omega, by rw [hft]; rfl⟩⟩) (er_v 4) (sh_ints c)) ?_
      refine phF T (by omega) fun x y a b e => ?_
      exact phG rfl rfl rfl rfl T (by omega) rfl
    · subst iv
      show StR K _ [some (.dat (.list (ns.map .int))), none, none, none, none, none, none, none, none, none, none, none, none, none, none, none] _
      refine sr_set (d := encT tailsT) (EvR.f (er_tup (ea_cons (er_tup (ea_cons er_str (ea_cons er_str ea_nil))) (ea_cons (er_tup (ea_cons er_str (ea_cons er_str ea_nil))) (ea_cons (er_tup (ea_cons er_str (ea_cons er_str ea_nil))) (ea_cons (er_tup (ea_cons er_str (ea_cons er_int ea_nil))) ea_nil)))) (by decide)) (imm_encT tailsT)) ?_
      rw [show sl (encT tailsT) = .dat (encT tailsT) from rfl]
      have u1 : EvR K (tCall (spD K R_stacks) [] E0 (tCons (tVar 13) (tCons (tTupN (tCons (tC (.int 0)) (tCons (tC (.int 0)) (tCons (tC (.int 0)) (tCons (tC (.int 0)) (tCons (tC (.int 0)) tNil)))))) tNil))) [some (.dat (.list (ns.map .int))), none, none, none, none, none, none, none, none, none, none, none, none, some (.dat (encT tailsT)), none, none] (.list (([[], [0], [0, 1], [0, 2], [0]] : List (List Int)).map encS)) :=
        er_call (ea_cons (er_v 13) (ea_cons (er_tup (ea_cons er_int (ea_cons er_int (ea_cons er_int (ea_cons er_int (ea_cons er_int ea_nil)))))) ea_nil)) ⟨tailsT, z5, _, rfl, tr_tails, rfl, run_tails, rfl⟩
      have u2 : EvR K (tCall (spD K R_callers) [] E0 (tCons (tVar 13) (tCons (tOp (rRepN K) (tTupN (tCons (tC (.int 0)) tNil)) (tC (.int 5))) tNil))) [some (.dat (.list (ns.map .int))), none, none, none, none, none, none, none, none, none, none, none, none, some (.dat (encT tailsT)), none, none] (.list [.none, .int 0, .int 0]) :=
        er_call (ea_cons (er_v 13) (ea_cons zeros ea_nil)) ⟨tailsT, z5, _, rfl, tr_tails, rfl, run_tails, rfl⟩
      have u3 : EvR K (tCall (spD K R_totals) [] E0 (tCons (tTupN (tCons (tTupN (tCons (tC (.str "enter")) (tCons (tC (.str "f")) tNil))) (tCons (tTupN (tCons (tC (.str "enter")) (tCons (tC (.str "g")) tNil))) (tCons (tTupN (tCons (tC (.str "enter")) (tCons (tC (.str "h")) tNil))) (tCons (tTupN (tCons (tC (.str "catch")) (tCons (tC (.int 0)) tNil))) tNil))))) (tCons (tOp (rRepN K) (tTupN (tCons (tC (.int 0)) tNil)) (tC (.int 5))) tNil))) [some (.dat (.list (ns.map .int))), none, none, none, none, none, none, none, none, none, none, none, none, some (.dat (encT tailsT)), none, none] (.list (([0, 0, 0, 0, 2] : List Int).map .int)) :=
        er_call (ea_cons (er_tup (ea_cons (er_tup (ea_cons er_str (ea_cons er_str ea_nil))) (ea_cons (er_tup (ea_cons er_str (ea_cons er_str ea_nil))) (ea_cons (er_tup (ea_cons er_str (ea_cons er_str ea_nil))) (ea_cons (er_tup (ea_cons er_str (ea_cons er_int ea_nil))) ea_nil))))) (ea_cons zeros ea_nil)) ⟨threeT, z5, _, rfl, tr_three, rfl, run_three, rfl⟩
      have u4 : EvR K (tCall (spD K R_totals) [] E0 (tCons (tVar 13) (tCons (tOp (rRepN K) (tTupN (tCons (tC (.int 0)) tNil)) (tC (.int 5))) tNil))) [some (.dat (.list (ns.map .int))), none, none, none, none, none, none, none, none, none, none, none, none, some (.dat (encT tailsT)), none, none] (.list (([0, 0, 0, 1, 2] : List Int).map .int)) :=
        er_call (ea_cons (er_v 13) (ea_cons zeros ea_nil)) ⟨tailsT, z5, _, rfl, tr_tails, rfl, run_tails, rfl⟩
      have u5 : EvR K (tCall (spD K R_ends) [] E0 (tCons (tVar 13) (tCons (tOp (rRepN K) (tTupN (tCons (tC (.int 0)) tNil)) (tC (.int 5))) tNil))) [some (.dat (.list (ns.map .int))), none, none, none, none, none, none, none, none, none, none, none, none, some (.dat (encT tailsT)), none, none] (.list [.none, .int 3, .int 4]) :=
        er_call (ea_cons (er_v 13) (ea_cons zeros ea_nil)) ⟨tailsT, z5, _, rfl, tr_tails, rfl, run_tails, rfl⟩
      refine sr_skip (et_is (et_or (ne_false u1 (ef_lst (ea_cons (er_tup ea_nil) (ea_cons (er_tup (ea_cons er_int ea_nil)) (ea_cons (er_tup (ea_cons er_int (ea_cons er_int ea_nil))) (ea_cons (er_tup (ea_cons er_int (ea_cons er_int ea_nil))) (ea_cons (er_tup (ea_cons er_int ea_nil)) ea_nil))))) rfl).r (by decide +kernel)) fun _ => ne_false u2 (ef_lst (ea_cons er_non (ea_cons er_int (ea_cons er_int ea_nil))) rfl).r (by decide +kernel)) rfl) ?_
      refine sr_skip (ne_false u3 (ef_lst (ea_cons er_int (ea_cons er_int (ea_cons er_int (ea_cons er_int (ea_cons er_int ea_nil))))) rfl).r (by decide +kernel)) ?_
      exact sr_ret (EvR.f (er_andV (eq_true u4 (ef_lst (ea_cons er_int (ea_cons er_int (ea_cons er_int (ea_cons er_int (ea_cons er_int ea_nil))))) rfl).r (by decide +kernel)) fun _ => eq_true u5 (ef_lst (ea_cons er_non (ea_cons er_int (ea_cons er_int ea_nil))) rfl).r (by decide +kernel)) rfl) rfl
def spLaw (K : PySem.W.Frag) : Sp := fun vs H Q _ => ∃ (a : Addr) (ns : List Int), vs = [.ref a] ∧ SqL K H a (ns.map V.int) ∧ ns.length ≤ 63 ∧ ∀ H', Q (.bl true) H'
theorem law_sp {f : Addr} {fd : FuncData} (h : FnOk Pr w K mg base CX0 7 f fd ["script"] (spD K R_law)) : FnOk Pr w K mg base CX0 7 f fd ["script"] (spLaw K) := h.imp fun vs H Q E q => by
  obtain ⟨a, ns, rfl, hS, hl, q⟩ := q
  refine ⟨[.list (ns.map .int)], .bool true, .cons (.lst hS (ofInts ns)) .nil, ⟨ns, rfl, hl, rfl⟩, fun v H' _ r => ?_⟩
  have hv : v = .bl true := by
    rcases r with ⟨_, z⟩ | ⟨_, _, _, z, _⟩
    · cases z; rfl
    · cases z
  subst hv
  exact q H'
end
end Lx

set_option Elab.async false
set_option linter.all false
set_option maxRecDepth 100000
set_option maxHeartbeats 1000000
namespace Lx
open PySem PySem.Spec PyProof.Rows L2
open Evl (Ex)
theorem cal_mk {Pr : Program} {w : World} {K : PySem.W.Frag} {mg : Str → Option Value} {base : Heap} {k : Nat} {x : Str} {sp : Sp} {f : Addr} {fd : FuncData} {ps : List Str}
    (F : FnOk Pr w K mg base CX0 k f fd ps sp) (m : mg x = some (.ref f)) (kp : PySem.W.keepIn K (.ref f) = true) (b : Binds K fd ps []) : Cal Pr w K mg base k x sp := ⟨⟨f, fd, ps, F, m, kp, b⟩⟩
abbrev FnOf (x : Str) (st : Stmt) (kV dc pm : Value) (an : Option Addr) (cd ct : Value) : FuncData := PySem.W.fnOf x x (defArgs st) (defBody st) (defScope st) .none kV dc pm an cd ct
theorem all_mk {l : PySem.W.OpenLaw} {w : World} {K : PySem.W.Frag} {h : Heap} {mg : Str → Option Value} {fa : Addr} (X : K.In h) (G : h.Ns mainGlobals mg) (hfa : mg "law" = some (.ref fa))
    {f1 f2 f3 f4 f5 f6 f7 f8 f9 f10 f11 f12 f13 f14 f15 f16 f17 f18 f19 f20 f21 f22 f23 f24 f25 f26 f27 f28 f29 f30 f31 f32 f33 : Addr} {od1 an1 od2 an2 od3 an3 od4 an4 od5 an5 od6 an6 od7 an7 od8 an8 od9 an9 od10 an10 od11 an11 od12 an12 od13 an13 od14 an14 od15 an15 od16 an16 od17 an17 od18 an18 od19 an19 od20 an20 od21 an21 od22 an22 od23 an23 od24 an24 od25 an25 od26 an26 od27 an27 od28 an28 od29 an29 od30 an30 od31 an31 od32 an32 od33 an33 : Option Addr} {sl1 sl2 sl3 sl4 sl5 sl6 sl7 sl8 sl9 sl10 sl11 sl12 sl13 sl14 sl15 sl16 sl17 sl18 sl19 sl20 sl21 sl22 sl23 sl24 sl25 sl26 sl27 sl28 sl29 sl30 sl31 sl32 sl33 : Array (Option Value)} {oc1 kV1 dc1 pm1 cd1 ct1 oc2 kV2 dc2 pm2 cd2 ct2 oc3 kV3 dc3 pm3 cd3 ct3 oc4 kV4 dc4 pm4 cd4 ct4 oc5 kV5 dc5 pm5 cd5 ct5 oc6 kV6 dc6 pm6 cd6 ct6 oc7 kV7 dc7 pm7 cd7 ct7 oc8 kV8 dc8 pm8 cd8 ct8 oc9 kV9 dc9 pm9 cd9 ct9 oc10 kV10 dc10 pm10 cd10 ct10 oc11 kV11 dc11 pm11 cd11 ct11 oc12 kV12 dc12 pm12 cd12 ct12 oc13 kV13 dc13 pm13 cd13 ct13 oc14 kV14 dc14 pm14 cd14 ct14 oc15 kV15 dc15 pm15 cd15 ct15 oc16 kV16 dc16 pm16 cd16 ct16 oc17 kV17 dc17 pm17 cd17 ct17 oc18 kV18 dc18 pm18 cd18 ct18 oc19 kV19 dc19 pm19 cd19 ct19 oc20 kV20 dc20 pm20 cd20 ct20 oc21 kV21 dc21 pm21 cd21 ct21 oc22 kV22 dc22 pm22 cd22 ct22 oc23 kV23 dc23 pm23 cd23 ct23 oc24 kV24 dc24 pm24 cd24 ct24 oc25 kV25 dc25 pm25 cd25 ct25 oc26 kV26 dc26 pm26 cd26 ct26 oc27 kV27 dc27 pm27 cd27 ct27 oc28 kV28 dc28 pm28 cd28 ct28 oc29 kV29 dc29 pm29 cd29 ct29 oc30 kV30 dc30 pm30 cd30 ct30 oc31 kV31 dc31 pm31 cd31 ct31 oc32 kV32 dc32 pm32 cd32 ct32 oc33 kV33 dc33 pm33 cd33 ct33 : Value} {t1 t2 t3 : Tok}
    (a1 : PySem.W.nsIn K mainGlobals "is_plain_int" = some (some (.ref f1))) (l1 : K.lookup f1 = some ⟨oc1, od1, .func (PySem.W.fnOf "is_plain_int" "is_plain_int" (defArgs s_is_plain_int) (defBody s_is_plain_int) (defScope s_is_plain_int) .none kV1 dc1 pm1 an1 cd1 ct1), sl1⟩) (c1 : PySem.W.codeIn K cd1 "is_plain_int" = true) (k1 : PySem.W.keepIn K (.ref f1) = true)
    (a2 : PySem.W.nsIn K mainGlobals "is_name" = some (some (.ref f2))) (l2 : K.lookup f2 = some ⟨oc2, od2, .func (PySem.W.fnOf "is_name" "is_name" (defArgs s_is_name) (defBody s_is_name) (defScope s_is_name) .none kV2 dc2 pm2 an2 cd2 ct2), sl2⟩) (c2 : PySem.W.codeIn K cd2 "is_name" = true) (k2 : PySem.W.keepIn K (.ref f2) = true)
    (a3 : PySem.W.nsIn K mainGlobals "creates_frame" = some (some (.ref f3))) (l3 : K.lookup f3 = some ⟨oc3, od3, .func (PySem.W.fnOf "creates_frame" "creates_frame" (defArgs s_creates_frame) (defBody s_creates_frame) (defScope s_creates_frame) .none kV3 dc3 pm3 an3 cd3 ct3), sl3⟩) (c3 : PySem.W.codeIn K cd3 "creates_frame" = true) (k3 : PySem.W.keepIn K (.ref f3) = true)
    (a4 : PySem.W.nsIn K mainGlobals "stack_after" = some (some (.ref f4))) (l4 : K.lookup f4 = some ⟨oc4, od4, .func (PySem.W.fnOf "stack_after" "stack_after" (defArgs s_stack_after) (defBody s_stack_after) (defScope s_stack_after) .none kV4 dc4 pm4 an4 cd4 ct4), sl4⟩) (c4 : PySem.W.codeIn K cd4 "stack_after" = true) (k4 : PySem.W.keepIn K (.ref f4) = true)
    (a5 : PySem.W.nsIn K mainGlobals "caller_at" = some (some (.ref f5))) (l5 : K.lookup f5 = some ⟨oc5, od5, .func (PySem.W.fnOf "caller_at" "caller_at" (defArgs s_caller_at) (defBody s_caller_at) (defScope s_caller_at) .none kV5 dc5 pm5 an5 cd5 ct5), sl5⟩) (c5 : PySem.W.codeIn K cd5 "caller_at" = true) (k5 : PySem.W.keepIn K (.ref f5) = true)
    (a6 : PySem.W.nsIn K mainGlobals "end_of" = some (some (.ref f6))) (l6 : K.lookup f6 = some ⟨oc6, od6, .func (PySem.W.fnOf "end_of" "end_of" (defArgs s_end_of) (defBody s_end_of) (defScope s_end_of) .none kV6 dc6 pm6 an6 cd6 ct6), sl6⟩) (c6 : PySem.W.codeIn K cd6 "end_of" = true) (k6 : PySem.W.keepIn K (.ref f6) = true)
    (a7 : PySem.W.nsIn K mainGlobals "_law_bag" = some (some (.ref f7))) (l7 : K.lookup f7 = some ⟨oc7, od7, .func (PySem.W.fnOf "_law_bag" "_law_bag" (defArgs s__law_bag) (defBody s__law_bag) (defScope s__law_bag) .none kV7 dc7 pm7 an7 cd7 ct7), sl7⟩) (c7 : PySem.W.codeIn K cd7 "_law_bag" = true) (k7 : PySem.W.keepIn K (.ref f7) = true)
    (a8 : PySem.W.nsIn K mainGlobals "_law_take" = some (some (.ref f8))) (l8 : K.lookup f8 = some ⟨oc8, od8, .func (PySem.W.fnOf "_law_take" "_law_take" (defArgs s__law_take) (defBody s__law_take) (defScope s__law_take) .none kV8 dc8 pm8 an8 cd8 ct8), sl8⟩) (c8 : PySem.W.codeIn K cd8 "_law_take" = true) (k8 : PySem.W.keepIn K (.ref f8) = true)
    (a9 : PySem.W.nsIn K mainGlobals "_law_after" = some (some (.ref f9))) (l9 : K.lookup f9 = some ⟨oc9, od9, .func (PySem.W.fnOf "_law_after" "_law_after" (defArgs s__law_after) (defBody s__law_after) (defScope s__law_after) .none kV9 dc9 pm9 an9 cd9 ct9), sl9⟩) (c9 : PySem.W.codeIn K cd9 "_law_after" = true) (k9 : PySem.W.keepIn K (.ref f9) = true)
    (a10 : PySem.W.nsIn K mainGlobals "_law_created" = some (some (.ref f10))) (l10 : K.lookup f10 = some ⟨oc10, od10, .func (PySem.W.fnOf "_law_created" "_law_created" (defArgs s__law_created) (defBody s__law_created) (defScope s__law_created) .none kV10 dc10 pm10 an10 cd10 ct10), sl10⟩) (c10 : PySem.W.codeIn K cd10 "_law_created" = true) (k10 : PySem.W.keepIn K (.ref f10) = true)
    (a11 : PySem.W.nsIn K mainGlobals "_law_events" = some (some (.ref f11))) (l11 : K.lookup f11 = some ⟨oc11, od11, .func (PySem.W.fnOf "_law_events" "_law_events" (defArgs s__law_events) (defBody s__law_events) (defScope s__law_events) .none kV11 dc11 pm11 an11 cd11 ct11), sl11⟩) (c11 : PySem.W.codeIn K cd11 "_law_events" = true) (k11 : PySem.W.keepIn K (.ref f11) = true)
    (a12 : PySem.W.nsIn K mainGlobals "created_before" = some (some (.ref f12))) (l12 : K.lookup f12 = some ⟨oc12, od12, .func (PySem.W.fnOf "created_before" "created_before" (defArgs s_created_before) (defBody s_created_before) (defScope s_created_before) .none kV12 dc12 pm12 an12 cd12 ct12), sl12⟩) (c12 : PySem.W.codeIn K cd12 "created_before" = true) (k12 : PySem.W.keepIn K (.ref f12) = true)
    (a13 : PySem.W.nsIn K mainGlobals "is_event" = some (some (.ref f13))) (l13 : K.lookup f13 = some ⟨oc13, od13, .func (PySem.W.fnOf "is_event" "is_event" (defArgs s_is_event) (defBody s_is_event) (defScope s_is_event) .none kV13 dc13 pm13 an13 cd13 ct13), sl13⟩) (c13 : PySem.W.codeIn K cd13 "is_event" = true) (k13 : PySem.W.keepIn K (.ref f13) = true)
    (a14 : PySem.W.nsIn K mainGlobals "are_moment_numbers" = some (some (.ref f14))) (l14 : K.lookup f14 = some ⟨oc14, od14, .func (PySem.W.fnOf "are_moment_numbers" "are_moment_numbers" (defArgs s_are_moment_numbers) (defBody s_are_moment_numbers) (defScope s_are_moment_numbers) .none kV14 dc14 pm14 an14 cd14 ct14), sl14⟩) (c14 : PySem.W.codeIn K cd14 "are_moment_numbers" = true) (k14 : PySem.W.keepIn K (.ref f14) = true)
    (a15 : PySem.W.nsIn K mainGlobals "_law_of" = some (some (.ref f15))) (l15 : K.lookup f15 = some ⟨oc15, od15, .func (PySem.W.fnOf "_law_of" "_law_of" (defArgs s__law_of) (defBody s__law_of) (defScope s__law_of) .none kV15 dc15 pm15 an15 cd15 ct15), sl15⟩) (c15 : PySem.W.codeIn K cd15 "_law_of" = true) (k15 : PySem.W.keepIn K (.ref f15) = true)
    (a16 : PySem.W.nsIn K mainGlobals "_law_rows" = some (some (.ref f16))) (l16 : K.lookup f16 = some ⟨oc16, od16, .func (PySem.W.fnOf "_law_rows" "_law_rows" (defArgs s__law_rows) (defBody s__law_rows) (defScope s__law_rows) .none kV16 dc16 pm16 an16 cd16 ct16), sl16⟩) (c16 : PySem.W.codeIn K cd16 "_law_rows" = true) (k16 : PySem.W.keepIn K (.ref f16) = true)
    (a17 : PySem.W.nsIn K mainGlobals "_law_totals" = some (some (.ref f17))) (l17 : K.lookup f17 = some ⟨oc17, od17, .func (PySem.W.fnOf "_law_totals" "_law_totals" (defArgs s__law_totals) (defBody s__law_totals) (defScope s__law_totals) .none kV17 dc17 pm17 an17 cd17 ct17), sl17⟩) (c17 : PySem.W.codeIn K cd17 "_law_totals" = true) (k17 : PySem.W.keepIn K (.ref f17) = true)
    (a18 : PySem.W.nsIn K mainGlobals "_law_callers" = some (some (.ref f18))) (l18 : K.lookup f18 = some ⟨oc18, od18, .func (PySem.W.fnOf "_law_callers" "_law_callers" (defArgs s__law_callers) (defBody s__law_callers) (defScope s__law_callers) .none kV18 dc18 pm18 an18 cd18 ct18), sl18⟩) (c18 : PySem.W.codeIn K cd18 "_law_callers" = true) (k18 : PySem.W.keepIn K (.ref f18) = true)
    (a19 : PySem.W.nsIn K mainGlobals "_law_ends" = some (some (.ref f19))) (l19 : K.lookup f19 = some ⟨oc19, od19, .func (PySem.W.fnOf "_law_ends" "_law_ends" (defArgs s__law_ends) (defBody s__law_ends) (defScope s__law_ends) .none kV19 dc19 pm19 an19 cd19 ct19), sl19⟩) (c19 : PySem.W.codeIn K cd19 "_law_ends" = true) (k19 : PySem.W.keepIn K (.ref f19) = true)
    (a20 : PySem.W.nsIn K mainGlobals "is_trace" = some (some (.ref f20))) (l20 : K.lookup f20 = some ⟨oc20, od20, .func (PySem.W.fnOf "is_trace" "is_trace" (defArgs s_is_trace) (defBody s_is_trace) (defScope s_is_trace) .none kV20 dc20 pm20 an20 cd20 ct20), sl20⟩) (c20 : PySem.W.codeIn K cd20 "is_trace" = true) (k20 : PySem.W.keepIn K (.ref f20) = true)
    (a21 : PySem.W.nsIn K mainGlobals "next_stack" = some (some (.ref f21))) (l21 : K.lookup f21 = some ⟨oc21, od21, .func (PySem.W.fnOf "next_stack" "next_stack" (defArgs s_next_stack) (defBody s_next_stack) (defScope s_next_stack) .none kV21 dc21 pm21 an21 cd21 ct21), sl21⟩) (c21 : PySem.W.codeIn K cd21 "next_stack" = true) (k21 : PySem.W.keepIn K (.ref f21) = true)
    (a22 : PySem.W.nsIn K mainGlobals "_law_event" = some (some (.ref f22))) (l22 : K.lookup f22 = some ⟨oc22, od22, .func (PySem.W.fnOf "_law_event" "_law_event" (defArgs s__law_event) (defBody s__law_event) (defScope s__law_event) .none kV22 dc22 pm22 an22 cd22 ct22), sl22⟩) (c22 : PySem.W.codeIn K cd22 "_law_event" = true) (k22 : PySem.W.keepIn K (.ref f22) = true)
    (a23 : PySem.W.nsIn K mainGlobals "_law_from" = some (some (.ref f23))) (l23 : K.lookup f23 = some ⟨oc23, od23, .func (PySem.W.fnOf "_law_from" "_law_from" (defArgs s__law_from) (defBody s__law_from) (defScope s__law_from) .none kV23 dc23 pm23 an23 cd23 ct23), sl23⟩) (c23 : PySem.W.codeIn K cd23 "_law_from" = true) (k23 : PySem.W.keepIn K (.ref f23) = true)
    (a24 : PySem.W.nsIn K mainGlobals "check_trace" = some (some (.ref f24))) (l24 : K.lookup f24 = some ⟨oc24, od24, .func (PySem.W.fnOf "check_trace" "check_trace" (defArgs s_check_trace) (defBody s_check_trace) (defScope s_check_trace) .none kV24 dc24 pm24 an24 cd24 ct24), sl24⟩) (c24 : PySem.W.codeIn K cd24 "check_trace" = true) (k24 : PySem.W.keepIn K (.ref f24) = true)
    (a25 : PySem.W.nsIn K mainGlobals "reached_stacks" = some (some (.ref f25))) (l25 : K.lookup f25 = some ⟨oc25, od25, .func (PySem.W.fnOf "reached_stacks" "reached_stacks" (defArgs s_reached_stacks) (defBody s_reached_stacks) (defScope s_reached_stacks) .none kV25 dc25 pm25 an25 cd25 ct25), sl25⟩) (c25 : PySem.W.codeIn K cd25 "reached_stacks" = true) (k25 : PySem.W.keepIn K (.ref f25) = true)
    (a26 : PySem.W.nsIn K mainGlobals "_law_run" = some (some (.ref f26))) (l26 : K.lookup f26 = some ⟨oc26, od26, .func (PySem.W.fnOf "_law_run" "_law_run" (defArgs s__law_run) (defBody s__law_run) (defScope s__law_run) .none kV26 dc26 pm26 an26 cd26 ct26), sl26⟩) (c26 : PySem.W.codeIn K cd26 "_law_run" = true) (k26 : PySem.W.keepIn K (.ref f26) = true)
    (a27 : PySem.W.nsIn K mainGlobals "frames" = some (some (.ref f27))) (l27 : K.lookup f27 = some ⟨oc27, od27, .func (PySem.W.fnOf "frames" "frames" (defArgs s_frames) (defBody s_frames) (defScope s_frames) .none kV27 dc27 pm27 an27 cd27 ct27), sl27⟩) (c27 : PySem.W.codeIn K cd27 "frames" = true) (k27 : PySem.W.keepIn K (.ref f27) = true)
    (a28 : PySem.W.nsIn K mainGlobals "stacks" = some (some (.ref f28))) (l28 : K.lookup f28 = some ⟨oc28, od28, .func (PySem.W.fnOf "stacks" "stacks" (defArgs s_stacks) (defBody s_stacks) (defScope s_stacks) .none kV28 dc28 pm28 an28 cd28 ct28), sl28⟩) (c28 : PySem.W.codeIn K cd28 "stacks" = true) (k28 : PySem.W.keepIn K (.ref f28) = true)
    (a29 : PySem.W.nsIn K mainGlobals "from_totals" = some (some (.ref f29))) (l29 : K.lookup f29 = some ⟨oc29, od29, .func (PySem.W.fnOf "from_totals" "from_totals" (defArgs s_from_totals) (defBody s_from_totals) (defScope s_from_totals) .none kV29 dc29 pm29 an29 cd29 ct29), sl29⟩) (c29 : PySem.W.codeIn K cd29 "from_totals" = true) (k29 : PySem.W.keepIn K (.ref f29) = true)
    (a30 : PySem.W.nsIn K mainGlobals "totals" = some (some (.ref f30))) (l30 : K.lookup f30 = some ⟨oc30, od30, .func (PySem.W.fnOf "totals" "totals" (defArgs s_totals) (defBody s_totals) (defScope s_totals) .none kV30 dc30 pm30 an30 cd30 ct30), sl30⟩) (c30 : PySem.W.codeIn K cd30 "totals" = true) (k30 : PySem.W.keepIn K (.ref f30) = true)
    (a31 : PySem.W.nsIn K mainGlobals "callers" = some (some (.ref f31))) (l31 : K.lookup f31 = some ⟨oc31, od31, .func (PySem.W.fnOf "callers" "callers" (defArgs s_callers) (defBody s_callers) (defScope s_callers) .none kV31 dc31 pm31 an31 cd31 ct31), sl31⟩) (c31 : PySem.W.codeIn K cd31 "callers" = true) (k31 : PySem.W.keepIn K (.ref f31) = true)
    (a32 : PySem.W.nsIn K mainGlobals "ends" = some (some (.ref f32))) (l32 : K.lookup f32 = some ⟨oc32, od32, .func (PySem.W.fnOf "ends" "ends" (defArgs s_ends) (defBody s_ends) (defScope s_ends) .none kV32 dc32 pm32 an32 cd32 ct32), sl32⟩) (c32 : PySem.W.codeIn K cd32 "ends" = true) (k32 : PySem.W.keepIn K (.ref f32) = true)
    (a33 : PySem.W.nsIn K mainGlobals "law" = some (some (.ref f33))) (l33 : K.lookup f33 = some ⟨oc33, od33, .func (PySem.W.fnOf "law" "law" (defArgs s_law) (defBody s_law) (defScope s_law) .none kV33 dc33 pm33 an33 cd33 ct33), sl33⟩) (c33 : PySem.W.codeIn K cd33 "law" = true) (k33 : PySem.W.keepIn K (.ref f33) = true)
    (z1 : PySem.W.nsIn K mainGlobals "len" = some none) (z2 : PySem.W.nsIn K mainGlobals "range" = some none) (z3 : PySem.W.nsIn K mainGlobals "enumerate" = some none) (z4 : PySem.W.nsIn K mainGlobals "zip" = some none) (z5 : PySem.W.nsIn K mainGlobals "min" = some none) (z6 : PySem.W.nsIn K mainGlobals "all" = some none) (z7 : PySem.W.nsIn K mainGlobals "int" = some none) (z8 : PySem.W.nsIn K mainGlobals "str" = some none) (z9 : PySem.W.nsIn K mainGlobals "bool" = some none) (z10 : PySem.W.nsIn K mainGlobals "list" = some none) (z11 : PySem.W.nsIn K mainGlobals "tuple" = some none) (z12 : PySem.W.nsIn K mainGlobals "isinstance" = some none)
    (v1 : PySem.W.nsIn K mainGlobals "MOST_EVENTS" = some (some (.int 24 t1))) (v2 : PySem.W.nsIn K mainGlobals "MOST_FRAMES" = some (some (.int 10 t2))) (v3 : PySem.W.nsIn K mainGlobals "LONGEST_NAME" = some (some (.int 8 t3))) :
    ∃ fd : FuncData, (∀ (s : Shared) (v : Value), BindsTo s fd ⟨[v], []⟩ [("script", v)]) ∧ ∀ base : Heap, K.In base → base.Ns mainGlobals mg → FnOk l.prog w K mg base CX0 7 fa fd ["script"] (spLaw K) := by
  have e := hfa.symm.trans (PySem.W.mg_of X G a33)
  cases e
  have M : Md mg := ⟨PySem.W.mg_none_of X G z1, PySem.W.mg_none_of X G z2, PySem.W.mg_none_of X G z3, PySem.W.mg_none_of X G z4, PySem.W.mg_none_of X G z5, PySem.W.mg_none_of X G z6, PySem.W.mg_none_of X G z7, PySem.W.mg_none_of X G z8, PySem.W.mg_none_of X G z9, PySem.W.mg_none_of X G z10, PySem.W.mg_none_of X G z11, PySem.W.mg_none_of X G z12, ⟨_, PySem.W.mg_of X G v1⟩, ⟨_, PySem.W.mg_of X G v2⟩, ⟨_, PySem.W.mg_of X G v3⟩⟩
  have F1 := fun_mk (x := "is_plain_int") (st := s_is_plain_int) l1 c1 k1
  have b1 := F1.binds (ps := ["value"]) fun _ _ _ _ _ _ us hl => match us, hl with | [_], _ => rfl
  have F2 := fun_mk (x := "is_name") (st := s_is_name) l2 c2 k2
  have b2 := F2.binds (ps := ["value"]) fun _ _ _ _ _ _ us hl => match us, hl with | [_], _ => rfl
  have F3 := fun_mk (x := "creates_frame") (st := s_creates_frame) l3 c3 k3
  have b3 := F3.binds (ps := ["event"]) fun _ _ _ _ _ _ us hl => match us, hl with | [_], _ => rfl
  have F4 := fun_mk (x := "stack_after") (st := s_stack_after) l4 c4 k4
  have b4 := F4.binds (ps := ["stack", "event", "created"]) fun _ _ _ _ _ _ us hl => match us, hl with | [_, _, _], _ => rfl
  have F5 := fun_mk (x := "caller_at") (st := s_caller_at) l5 c5 k5
  have b5 := F5.binds (ps := ["stack", "event"]) fun _ _ _ _ _ _ us hl => match us, hl with | [_, _], _ => rfl
  have F6 := fun_mk (x := "end_of") (st := s_end_of) l6 c6 k6
  have b6 := F6.binds (ps := ["frame", "reached", "first"]) fun _ _ _ _ _ _ us hl => match us, hl with | [_, _, _], _ => rfl
  have F7 := fun_mk (x := "_law_bag") (st := s__law_bag) l7 c7 k7
  have b7 := F7.binds (ps := ["script", "k"]) fun _ _ _ _ _ _ us hl => match us, hl with | [_, _], _ => rfl
  have F8 := fun_mk (x := "_law_take") (st := s__law_take) l8 c8 k8
  have b8 := F8.binds (ps := ["bag", "many"]) fun _ _ _ _ _ _ us hl => match us, hl with | [_, _], _ => rfl
  have F9 := fun_mk (x := "_law_after") (st := s__law_after) l9 c9 k9
  have b9 := F9.binds (ps := ["stack", "event", "created"]) fun _ _ _ _ _ _ us hl => match us, hl with | [_, _, _], _ => rfl
  have F10 := fun_mk (x := "_law_created") (st := s__law_created) l10 c10 k10
  have b10 := F10.binds (ps := ["trace"]) fun _ _ _ _ _ _ us hl => match us, hl with | [_], _ => rfl
  have F11 := fun_mk (x := "_law_events") (st := s__law_events) l11 c11 k11
  have b11 := F11.binds (ps := ["trace"]) fun _ _ _ _ _ _ us hl => match us, hl with | [_], _ => rfl
  have F12 := fun_mk (x := "created_before") (st := s_created_before) l12 c12 k12
  have b12 := F12.binds (ps := ["trace", "moment"]) fun _ _ _ _ _ _ us hl => match us, hl with | [_, _], _ => rfl
  have F13 := fun_mk (x := "is_event") (st := s_is_event) l13 c13 k13
  have b13 := F13.binds (ps := ["value", "created"]) fun _ _ _ _ _ _ us hl => match us, hl with | [_, _], _ => rfl
  have F14 := fun_mk (x := "are_moment_numbers") (st := s_are_moment_numbers) l14 c14 k14
  have b14 := F14.binds (ps := ["trace", "numbers"]) fun _ _ _ _ _ _ us hl => match us, hl with | [_, _], _ => rfl
  have F15 := fun_mk (x := "_law_of") (st := s__law_of) l15 c15 k15
  have b15 := F15.binds (ps := ["bag", "some"]) fun _ _ _ _ _ _ us hl => match us, hl with | [_, _], _ => rfl
  have F16 := fun_mk (x := "_law_rows") (st := s__law_rows) l16 c16 k16
  have b16 := F16.binds (ps := ["trace", "completion"]) fun _ _ _ _ _ _ us hl => match us, hl with | [_, _], _ => rfl
  have F17 := fun_mk (x := "_law_totals") (st := s__law_totals) l17 c17 k17
  have b17 := F17.binds (ps := ["trace", "rows"]) fun _ _ _ _ _ _ us hl => match us, hl with | [_, _], _ => rfl
  have F18 := fun_mk (x := "_law_callers") (st := s__law_callers) l18 c18 k18
  have b18 := F18.binds (ps := ["trace", "rows"]) fun _ _ _ _ _ _ us hl => match us, hl with | [_, _], _ => rfl
  have F19 := fun_mk (x := "_law_ends") (st := s__law_ends) l19 c19 k19
  have b19 := F19.binds (ps := ["trace", "rows"]) fun _ _ _ _ _ _ us hl => match us, hl with | [_, _], _ => rfl
  have F20 := fun_mk (x := "is_trace") (st := s_is_trace) l20 c20 k20
  have b20 := F20.binds (ps := ["value"]) fun _ _ _ _ _ _ us hl => match us, hl with | [_], _ => rfl
  have F21 := fun_mk (x := "next_stack") (st := s_next_stack) l21 c21 k21
  have b21 := F21.binds (ps := ["trace", "reached"]) fun _ _ _ _ _ _ us hl => match us, hl with | [_, _], _ => rfl
  have F22 := fun_mk (x := "_law_event") (st := s__law_event) l22 c22 k22
  have b22 := F22.binds (ps := ["bag", "stack", "created", "most"]) fun _ _ _ _ _ _ us hl => match us, hl with | [_, _, _, _], _ => rfl
  have F23 := fun_mk (x := "_law_from") (st := s__law_from) l23 c23 k23
  have b23 := F23.binds (ps := ["trace", "numbers"]) fun _ _ _ _ _ _ us hl => match us, hl with | [_, _], _ => rfl
  have F24 := fun_mk (x := "check_trace") (st := s_check_trace) l24 c24 k24
  have b24 := F24.binds (ps := ["value"]) fun _ _ _ _ _ _ us hl => match us, hl with | [_], _ => rfl
  have F25 := fun_mk (x := "reached_stacks") (st := s_reached_stacks) l25 c25 k25
  have b25 := F25.binds (ps := ["trace", "value"]) fun _ _ _ _ _ _ us hl => match us, hl with | [_, _], _ => rfl
  have F26 := fun_mk (x := "_law_run") (st := s__law_run) l26 c26 k26
  have b26 := F26.binds (ps := ["bag", "events", "most"]) fun _ _ _ _ _ _ us hl => match us, hl with | [_, _, _], _ => rfl
  have F27 := fun_mk (x := "frames") (st := s_frames) l27 c27 k27
  have b27 := F27.binds (ps := ["trace"]) fun _ _ _ _ _ _ us hl => match us, hl with | [_], _ => rfl
  have F28 := fun_mk (x := "stacks") (st := s_stacks) l28 c28 k28
  have b28 := F28.binds (ps := ["trace", "completion"]) fun _ _ _ _ _ _ us hl => match us, hl with | [_, _], _ => rfl
  have F29 := fun_mk (x := "from_totals") (st := s_from_totals) l29 c29 k29
  have b29 := F29.binds (ps := ["trace", "value"]) fun _ _ _ _ _ _ us hl => match us, hl with | [_, _], _ => rfl
  have F30 := fun_mk (x := "totals") (st := s_totals) l30 c30 k30
  have b30 := F30.binds (ps := ["trace", "completion"]) fun _ _ _ _ _ _ us hl => match us, hl with | [_, _], _ => rfl
  have F31 := fun_mk (x := "callers") (st := s_callers) l31 c31 k31
  have b31 := F31.binds (ps := ["trace", "completion"]) fun _ _ _ _ _ _ us hl => match us, hl with | [_, _], _ => rfl
  have F32 := fun_mk (x := "ends") (st := s_ends) l32 c32 k32
  have b32 := F32.binds (ps := ["trace", "completion"]) fun _ _ _ _ _ _ us hl => match us, hl with | [_, _], _ => rfl
  have F33 := fun_mk (x := "law") (st := s_law) l33 c33 k33
  refine ⟨PySem.W.fnOf "law" "law" (defArgs s_law) (defBody s_law) (defScope s_law) .none kV33 dc33 pm33 an33 cd33 ct33, fun s v => .of_eq rfl, fun base _ _ => ?_⟩
  have C_is_plain_int : Cal l.prog w K mg base 1 "is_plain_int" (spD K R_is_plain_int) := cal_mk (ok_is_plain_int M  F1) (PySem.W.mg_of X G a1) k1 b1
  have C_is_name : Cal l.prog w K mg base 1 "is_name" (spD K R_is_name) := cal_mk (ok_is_name M  F2) (PySem.W.mg_of X G a2) k2 b2
  have C_creates_frame : Cal l.prog w K mg base 1 "creates_frame" (spD K R_creates_frame) := cal_mk (ok_creates_frame M  F3) (PySem.W.mg_of X G a3) k3 b3
  have C_stack_after : Cal l.prog w K mg base 1 "stack_after" (spD K R_stack_after) := cal_mk (ok_stack_after M  F4) (PySem.W.mg_of X G a4) k4 b4
  have C_caller_at : Cal l.prog w K mg base 1 "caller_at" (spD K R_caller_at) := cal_mk (ok_caller_at M  F5) (PySem.W.mg_of X G a5) k5 b5
  have C_end_of : Cal l.prog w K mg base 1 "end_of" (spD K R_end_of) := cal_mk (ok_end_of M  F6) (PySem.W.mg_of X G a6) k6 b6
  have C__law_bag : Cal l.prog w K mg base 1 "_law_bag" (spD K R__law_bag) := cal_mk (ok__law_bag M  F7) (PySem.W.mg_of X G a7) k7 b7
  have C__law_take : Cal l.prog w K mg base 1 "_law_take" (spB K A__law_take B__law_take) := cal_mk (ok__law_take M  F8) (PySem.W.mg_of X G a8) k8 b8
  have C__law_after : Cal l.prog w K mg base 1 "_law_after" (spD K R__law_after) := cal_mk (ok__law_after M  F9) (PySem.W.mg_of X G a9) k9 b9
  have C__law_created : Cal l.prog w K mg base 1 "_law_created" (spD K R__law_created) := cal_mk (ok__law_created M  F10) (PySem.W.mg_of X G a10) k10 b10
  have C__law_events : Cal l.prog w K mg base 1 "_law_events" (spD K R__law_events) := cal_mk (ok__law_events M  F11) (PySem.W.mg_of X G a11) k11 b11
  have C_created_before : Cal l.prog w K mg base 2 "created_before" (spD K R_created_before) := cal_mk (ok_created_before M C_creates_frame F12) (PySem.W.mg_of X G a12) k12 b12
  have C_is_event : Cal l.prog w K mg base 2 "is_event" (spD K R_is_event) := cal_mk (ok_is_event M C_is_plain_int C_is_name F13) (PySem.W.mg_of X G a13) k13 b13
  have C_are_moment_numbers : Cal l.prog w K mg base 2 "are_moment_numbers" (spD K R_are_moment_numbers) := cal_mk (ok_are_moment_numbers M C_is_plain_int F14) (PySem.W.mg_of X G a14) k14 b14
  have C__law_of : Cal l.prog w K mg base 2 "_law_of" (spB K A__law_of B__law_of) := cal_mk (ok__law_of M C__law_take F15) (PySem.W.mg_of X G a15) k15 b15
  have C__law_rows : Cal l.prog w K mg base 2 "_law_rows" (spD K R__law_rows) := cal_mk (ok__law_rows M C__law_after F16) (PySem.W.mg_of X G a16) k16 b16
  have C__law_totals : Cal l.prog w K mg base 2 "_law_totals" (spD K R__law_totals) := cal_mk (ok__law_totals M C__law_created F17) (PySem.W.mg_of X G a17) k17 b17
  have C__law_callers : Cal l.prog w K mg base 2 "_law_callers" (spD K R__law_callers) := cal_mk (ok__law_callers M C__law_after C__law_events F18) (PySem.W.mg_of X G a18) k18 b18
  have C__law_ends : Cal l.prog w K mg base 2 "_law_ends" (spD K R__law_ends) := cal_mk (ok__law_ends M C__law_events F19) (PySem.W.mg_of X G a19) k19 b19
  have C_is_trace : Cal l.prog w K mg base 3 "is_trace" (spD K R_is_trace) := cal_mk (ok_is_trace M C_creates_frame C_is_event F20) (PySem.W.mg_of X G a20) k20 b20
  have C_next_stack : Cal l.prog w K mg base 3 "next_stack" (spD K R_next_stack) := cal_mk (ok_next_stack M C_created_before C_stack_after F21) (PySem.W.mg_of X G a21) k21 b21
  have C__law_event : Cal l.prog w K mg base 3 "_law_event" (spB K A__law_event B__law_event) := cal_mk (ok__law_event M C__law_of F22) (PySem.W.mg_of X G a22) k22 b22
  have C__law_from : Cal l.prog w K mg base 3 "_law_from" (spD K R__law_from) := cal_mk (ok__law_from M C__law_rows C__law_created F23) (PySem.W.mg_of X G a23) k23 b23
  have C_check_trace : Cal l.prog w K mg base 4 "check_trace" (spD K R_check_trace) := cal_mk (ok_check_trace M C_is_trace F24) (PySem.W.mg_of X G a24) k24 b24
  have C_reached_stacks : Cal l.prog w K mg base 4 "reached_stacks" (spD K R_reached_stacks) := cal_mk (ok_reached_stacks M C_next_stack C_are_moment_numbers F25) (PySem.W.mg_of X G a25) k25 b25
  have C__law_run : Cal l.prog w K mg base 4 "_law_run" (spB K A__law_run B__law_run) := cal_mk (ok__law_run M C__law_take C__law_of C__law_after C__law_event F26) (PySem.W.mg_of X G a26) k26 b26
  have C_frames : Cal l.prog w K mg base 5 "frames" (spD K R_frames) := cal_mk (ok_frames M C_creates_frame C_check_trace F27) (PySem.W.mg_of X G a27) k27 b27
  have C_stacks : Cal l.prog w K mg base 5 "stacks" (spD K R_stacks) := cal_mk (ok_stacks M C_check_trace C_reached_stacks F28) (PySem.W.mg_of X G a28) k28 b28
  have C_from_totals : Cal l.prog w K mg base 5 "from_totals" (spD K R_from_totals) := cal_mk (ok_from_totals M C_created_before C_check_trace C_next_stack C_are_moment_numbers F29) (PySem.W.mg_of X G a29) k29 b29
  have C_totals : Cal l.prog w K mg base 6 "totals" (spD K R_totals) := cal_mk (ok_totals M C_created_before C_stacks F30) (PySem.W.mg_of X G a30) k30 b30
  have C_callers : Cal l.prog w K mg base 6 "callers" (spD K R_callers) := cal_mk (ok_callers M C_frames C_stacks C_caller_at F31) (PySem.W.mg_of X G a31) k31 b31
  have C_ends : Cal l.prog w K mg base 6 "ends" (spD K R_ends) := cal_mk (ok_ends M C_frames C_stacks C_end_of F32) (PySem.W.mg_of X G a32) k32 b32
  exact law_sp (ok_law M C_stacks C_totals C_from_totals C_callers C_ends C__law_bag C__law_take C__law_of C__law_rows C__law_totals C__law_run C__law_callers C__law_ends C__law_from F33)
end Lx
open PySem PySem.W PyProof.Rows
set_option maxHeartbeats 0 in
theorem PySem.Challenge.cw_lostexits_k02_whole_stacks_totals_caller_holds : PySem.Challenge.rw_lostexits_k02_whole_stacks_totals_caller.Holds := by
  w_on; o_law; k_head; (case hw => w_witness2)
  k_fill
  refine L2.walk_of (l := PySem.Challenge.rw_lostexits_k02_whole_stacks_totals_caller) (n := 63) (k := 7) (x := "script") (CX := fun _ => L2.CX0) (sp := fun w => Lx.spLaw _) rfl (by decide) rfl ⟨rfl, by decide, by decide⟩ (fun w h Y => PySem.W.kIn_of Y) ?F (fun _ _ a ns hl _ hS => ⟨a, ns, rfl, hS, hl, fun _ => rfl⟩) (fun _ _ _ _ _ h => h)
  case F =>
    intro w mg fa h KX G hmg
    refine' Lx.all_mk KX G hmg ?a1 ?l1 ?c1 ?k1 ?a2 ?l2 ?c2 ?k2 ?a3 ?l3 ?c3 ?k3 ?a4 ?l4 ?c4 ?k4 ?a5 ?l5 ?c5 ?k5 ?a6 ?l6 ?c6 ?k6 ?a7 ?l7 ?c7 ?k7 ?a8 ?l8 ?c8 ?k8 ?a9 ?l9 ?c9 ?k9 ?a10 ?l10 ?c10 ?k10 ?a11 ?l11 ?c11 ?k11 ?a12 ?l12 ?c12 ?k12 ?a13 ?l13 ?c13 ?k13 ?a14 ?l14 ?c14 ?k14 ?a15 ?l15 ?c15 ?k15 ?a16 ?l16 ?c16 ?k16 ?a17 ?l17 ?c17 ?k17 ?a18 ?l18 ?c18 ?k18 ?a19 ?l19 ?c19 ?k19 ?a20 ?l20 ?c20 ?k20 ?a21 ?l21 ?c21 ?k21 ?a22 ?l22 ?c22 ?k22 ?a23 ?l23 ?c23 ?k23 ?a24 ?l24 ?c24 ?k24 ?a25 ?l25 ?c25 ?k25 ?a26 ?l26 ?c26 ?k26 ?a27 ?l27 ?c27 ?k27 ?a28 ?l28 ?c28 ?k28 ?a29 ?l29 ?c29 ?k29 ?a30 ?l30 ?c30 ?k30 ?a31 ?l31 ?c31 ?k31 ?a32 ?l32 ?c32 ?k32 ?a33 ?l33 ?c33 ?k33 ?z1 ?z2 ?z3 ?z4 ?z5 ?z6 ?z7 ?z8 ?z9 ?z10 ?z11 ?z12 ?v1 ?v2 ?v3
    (case a1 => k_is)
    (case l1 => k_is)
    (case c1 => k_is)
    (case k1 => k_is)
    (case a2 => k_is)
    (case l2 => k_is)
    (case c2 => k_is)
    (case k2 => k_is)
    (case a3 => k_is)
    (case l3 => k_is)
    (case c3 => k_is)
    (case k3 => k_is)
    (case a4 => k_is)
    (case l4 => k_is)
    (case c4 => k_is)
    (case k4 => k_is)
    (case a5 => k_is)
    (case l5 => k_is)
    (case c5 => k_is)
    (case k5 => k_is)
    (case a6 => k_is)
    (case l6 => k_is)
    (case c6 => k_is)
    (case k6 => k_is)
    (case a7 => k_is)
    (case l7 => k_is)
    (case c7 => k_is)
    (case k7 => k_is)
    (case a8 => k_is)
    (case l8 => k_is)
    (case c8 => k_is)
    (case k8 => k_is)
    (case a9 => k_is)
    (case l9 => k_is)
    (case c9 => k_is)
    (case k9 => k_is)
    (case a10 => k_is)
    (case l10 => k_is)
    (case c10 => k_is)
    (case k10 => k_is)
    (case a11 => k_is)
    (case l11 => k_is)
    (case c11 => k_is)
    (case k11 => k_is)
    (case a12 => k_is)
    (case l12 => k_is)
    (case c12 => k_is)
    (case k12 => k_is)
    (case a13 => k_is)
    (case l13 => k_is)
    (case c13 => k_is)
    (case k13 => k_is)
    (case a14 => k_is)
    (case l14 => k_is)
    (case c14 => k_is)
    (case k14 => k_is)
    (case a15 => k_is)
    (case l15 => k_is)
    (case c15 => k_is)
    (case k15 => k_is)
    (case a16 => k_is)
    (case l16 => k_is)
    (case c16 => k_is)
    (case k16 => k_is)
    (case a17 => k_is)
    (case l17 => k_is)
    (case c17 => k_is)
    (case k17 => k_is)
    (case a18 => k_is)
    (case l18 => k_is)
    (case c18 => k_is)
    (case k18 => k_is)
    (case a19 => k_is)
    (case l19 => k_is)
    (case c19 => k_is)
    (case k19 => k_is)
    (case a20 => k_is)
    (case l20 => k_is)
    (case c20 => k_is)
    (case k20 => k_is)
    (case a21 => k_is)
    (case l21 => k_is)
    (case c21 => k_is)
    (case k21 => k_is)
    (case a22 => k_is)
    (case l22 => k_is)
    (case c22 => k_is)
    (case k22 => k_is)
    (case a23 => k_is)
    (case l23 => k_is)
    (case c23 => k_is)
    (case k23 => k_is)
    (case a24 => k_is)
    (case l24 => k_is)
    (case c24 => k_is)
    (case k24 => k_is)
    (case a25 => k_is)
    (case l25 => k_is)
    (case c25 => k_is)
    (case k25 => k_is)
    (case a26 => k_is)
    (case l26 => k_is)
    (case c26 => k_is)
    (case k26 => k_is)
    (case a27 => k_is)
    (case l27 => k_is)
    (case c27 => k_is)
    (case k27 => k_is)
    (case a28 => k_is)
    (case l28 => k_is)
    (case c28 => k_is)
    (case k28 => k_is)
    (case a29 => k_is)
    (case l29 => k_is)
    (case c29 => k_is)
    (case k29 => k_is)
    (case a30 => k_is)
    (case l30 => k_is)
    (case c30 => k_is)
    (case k30 => k_is)
    (case a31 => k_is)
    (case l31 => k_is)
    (case c31 => k_is)
    (case k31 => k_is)
    (case a32 => k_is)
    (case l32 => k_is)
    (case c32 => k_is)
    (case k32 => k_is)
    (case a33 => k_is)
    (case l33 => k_is)
    (case c33 => k_is)
    (case k33 => k_is)
    (case z1 => k_is)
    (case z2 => k_is)
    (case z3 => k_is)
    (case z4 => k_is)
    (case z5 => k_is)
    (case z6 => k_is)
    (case z7 => k_is)
    (case z8 => k_is)
    (case z9 => k_is)
    (case z10 => k_is)
    (case z11 => k_is)
    (case z12 => k_is)
    (case v1 => k_is)
    (case v2 => k_is)
    (case v3 => k_is)

