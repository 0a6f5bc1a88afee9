import PyProof.Rows.All
import Wide.All
import OpenK.AllK
import Wide.FinOn
import HandS.ForMost
import HandS.IsInst
import HandS.Wide
import HandS.Evl
import HandS.TupAny
import HandS.Style
import HandS.Walk
import HandS.WideBits
import HandS.Conv
import HandS.SortKw
import KE.DataMinMax
import HandS.Comp
import HandS.SetFor
import HandS.SortInts
import HandS.Strs
import KE.GoesMore
import PyProof.LongRange
import PySem.Challenge.RW_longyears_k07_whole_two_great_lands
set_option Elab.async false
set_option linter.all false
set_option maxRecDepth 100000
set_option maxHeartbeats 4200000
namespace LY
open PySem PySem.Spec PyProof.Rows L2 Evl

/-! ### own bridges: whatever the library walks, as something that a loop of the hand layer walks -/
/-- n values f 0, f 1, .., the heap left alone -/
def ItF (n : Nat) (f : Nat → V) : It where
  go i _ := i < n
  yld i H x H' := H' = H ∧ x = f i
  stop i _ := i = n
theorem walk_itF {n : Nat} {f : Nat → V} : Walk (ItF n f) n (fun _ => True) (YFn f) :=
  { goes := fun _ _ h _ => h, stops := fun _ _ => rfl, yields := fun _ _ _ _ _ _ y => y }
/-- one record that the walk turns, which keeps no tuple of its own -/
def Lone (St : Nat → Heap → Prop) (it : Addr) : Prop := ∀ i h, St i h → ∃ (o : Obj) (c : String) (vs : Array Value), h.get? it = some o ∧ o.cls = .type c ∧ o.data = .fields vs ∧
  ["enumerate", "zip", "dict_itemiterator", "dict_reverseitemiterator", "odict_iterator", "itertools.zip_longest", "itertools.pairwise"].contains c = false
theorem turn_lone {P : Program} {w : World} {K : PySem.W.Frag} {tg : Expr} {it : Addr} {n : Nat} {f : Nat → V} {Pv : Nat → Value → Prop} {St : Nat → Heap → Prop}
    (W : ∀ A : Around, A.handled = none → Walks P w A it [it] [it] n Pv St) (hv : ∀ i v, Pv i v → RelV (f i) v) (lone : Lone St it)
    (self : ∀ (A : Around) i (s : Shared) Q E, St i s.heap → Q (.ref it) s → wpAny (model P w) A (pyIter (.ref it)) Q E s) : Turn P w K tg (ItF n f) [it] it St := by
  have one : ∀ {b : Addr}, b ∈ [it] → b = it := fun hb => List.mem_singleton.mp hb
  refine { mem := List.mem_singleton.mpr rfl, obj := ?o, keep := ?k, item := ?i, done := ?d, self := ?s }
  case o =>
    rintro i h st b hb
    obtain ⟨o, c, vs, g1, _, g3, _⟩ := lone i h st
    exact ⟨o, one hb ▸ g1, fun v z => by rw [g3] at z; exact Data.noConfusion z⟩
  case k =>
    intro i h h' st kp
    exact (W { callerA with handled := none } rfl).frame i h h' st kp
  case i =>
    rintro X rfl rfl rfl calm i pins s σ H E I fp st lt
    have a := fp it (List.mem_singleton.mpr rfl)
    refine (W X.A (I.ok.hd calm)).item i s _ _ lt st fun v h2 tk pv st2 kp => ⟨v, rfl, ?_⟩
    obtain ⟨o, c, vs, g1, g2, g3, g4⟩ := lone _ _ st2
    exact go_of (s := { s with heap := h2, toks := tk }) g1 g2 g3 g4 ⟨f i, H, I.turned (fun b u hb e => kp b u (fun z => hb (one z)) e) a.1 a.2.1 a.2.2.2.1 a.2.2.2.2.1 a.2.2.2.2.2, hv i v pv, ⟨rfl, rfl⟩, st2, fun b hb => (fp b hb).1⟩
  case d =>
    rintro X rfl rfl rfl calm i pins s σ H E I fp st rfl
    have a := fp it (List.mem_singleton.mpr rfl)
    exact (W X.A (I.ok.hd calm)).done s _ _ st fun h2 tk kp => ⟨rfl, I.turned (fun b u hb e => kp b u (fun z => hb (one z)) e) a.1 a.2.1 a.2.2.2.1 a.2.2.2.2.1 a.2.2.2.2.2⟩
  case s => exact self
section
variable {X : Cx} {tg : Expr}
/-- range(a, b), whatever the size: the small iterator or the long one -/
def iSpan (ta : TA) : TI := fun σ H R => ta σ H fun vs H1 => ∃ a b : Int, vs = [.int a, .int b] ∧ R (ItF (b - a).toNat fun i => .int (a + i)) H1
theorem span_count (a b : Int) : ((b - a).toNat : Int) = Builtin.Range.rangeSize a b 1 := by
  rw [rangeSize_one]
  split
  · omega
  · omega
theorem span_start {pins : List (Addr × Obj)} {σ : L2.St} {H : Hp} {s : Shared} {R : It → Hp → Prop} {E : Value → Shared → Prop} {a b : Int} {t u v : Tok} {tk : Nat} (I : Inv X pins σ H s) (q : R (ItF (b - a).toNat fun i => .int (a + i)) H) :
    wpAny (model X.prog X.w) X.A (pyIter (.ref s.heap.objs.size)) (PIE X pins σ tg R) E { s with heap := s.heap.push { cls := .type "range", data := .fields #[.int a t, .int b u, .int 1 v] }, toks := tk } := by
  generalize hr : ({ cls := .type "range", data := .fields #[.int a t, .int b u, .int 1 v] } : Obj) = rg
  have J : Inv X pins σ H { s with heap := s.heap.push rg, toks := tk } := I.kept fun _ _ => Heap.get?_push_of_some _
  have rng : IsRange (s.heap.push rg) s.heap.objs.size a b 1 t u v := by
    subst hr
    exact IsRange.new ..
  have at0 : a + ((0 : Nat) : Int) * 1 = a := by omega
  have left : ((b - a).toNat : Int) - ((0 : Nat) : Int) = Builtin.Range.rangeSize a b 1 := by
    have := span_count a b
    omega
  have val : ∀ (i : Nat) (x : Value), (∃ t, x = .int (a + i * 1) t) → RelV (.int (a + i)) x := fun i x ⟨t, e⟩ => ⟨t, by rw [e, Int.mul_one]⟩
  have mine : ∀ c ∈ [(s.heap.push rg).objs.size], FpOk X pins H c := fun c hc => by
    rw [List.mem_singleton.mp hc]
    exact J.fpOk (Nat.le_refl _) (J.hok.fresh (Nat.le_refl _))
  cases sm : Builtin.Range.small a b 1
  · refine wpAny_pyIter_longrange (s := { s with heap := s.heap.push rg, toks := tk }) rng sm ⟨_, [_], _, _, H, rfl, J.kept (t' := tk) fun _ _ => Heap.get?_push_of_some _, turn_lone (fun A hA => Walks.longrange hA _ a 1 _) val (fun i h st => ⟨_, "longrange_iterator", _, st, rfl, rfl, rfl⟩) (fun A i s' Q E' st h => wpAny_pyIter_longiter st h), ?_, mine, q⟩
    show IsLongIter _ _ _ _ _
    rw [at0, left]
    apply Heap.get?_push_size
    rfl
  · refine wpAny_pyIter_range (s := { s with heap := s.heap.push rg, toks := tk }) rng sm ⟨_, [_], _, _, H, rfl, J.kept (t' := tk) fun _ _ => Heap.get?_push_of_some _, turn_lone (fun A hA => Walks.range hA _ a 1 _) val (fun i h st => ⟨_, "range_iterator", _, st, rfl, rfl, rfl⟩) (fun A i s' Q E' st h => wpAny_pyIter_rangeiter st h), ?_, mine, q⟩
    show IsRangeIter _ _ _ _ _
    rw [at0, left]
    apply Heap.get?_push_size
    rfl
theorem pi_span {a b : Expr} {ta : TA} {p pos : Pos} (gl : Gl X "range") (no : X.mg "range" = none) (args : PA X [a, b] ta) (two : starEach [a, b] X.env = [(false, eval a X.env), (false, eval b X.env)] := by rfl) (last : starEach [b] X.env = [(false, eval b X.env)] := by rfl) :
    PI X tg (.Call (.Name "range" p) [a, b] [] pos) (iSpan ta) := by
  constructor
  intro pins s σ H R I h
  have run := args.run pos pins s σ H _ I h
  refine Call_ (ld_blt I gl no boot_range (PyProof.Rows.callWith_type1 (thn run fun us s1 got => ?_) (by rw [two, last]) (by rw [last]; rfl)))
  obtain ⟨vs, H1, I1, rel, x, y, rfl, q⟩ := got
  obtain ⟨u1, u2, rfl, ⟨t1, rfl⟩, ⟨t2, rfl⟩⟩ := vals2 rel
  exact call_range_2 (span_start I1 q)
end

/-! ### enumerate of a tracked tuple, by the library's WalksT -/
/-- pairs (i, the i-th of xs), each new -/
def ItP (xs : List V) (t : Addr) : It where
  go i H := i < xs.length ∧ H t = some (.tup xs)
  yld i H v H' := ∃ p x, v = .ref p ∧ H p = none ∧ H' = upd H p (.tup [.int (i : Nat), x]) ∧ xs[i]? = some x
  stop i H := i = xs.length ∧ H t = some (.tup xs)
theorem walk_itP {xs : List V} {t : Addr} : Walk (ItP xs t) xs.length (fun H => H t = some (.tup xs)) (YPair (fun i => some (.int (i : Nat))) (fun i => xs[i]?)) :=
  { goes := fun _ _ h k => ⟨h, k⟩, stops := fun _ k => ⟨rfl, k⟩, yields := fun i _ _ _ _ _ ⟨p, x, h1, h2, h3, h4⟩ => ⟨p, .int (i : Nat), x, h1, h2, h3, rfl, h4⟩ }
theorem turn_pairs {P : Program} {w : World} {K : PySem.W.Frag} {elts : List Expr} {kk : Nat} {tpos : Pos} {xs : List V} {t e it : Addr} (ne : e ≠ it) :
    Turn P w K (.Tuple elts kk tpos) (ItP xs t) [e, it] e (fun i h => (∃ old, IsEnum h e it i old) ∧ h.IsTupleIter it t i) := by
  have me : e ∈ [e, it] := List.mem_cons_self ..
  have mi : it ∈ [e, it] := List.mem_cons_of_mem _ (List.mem_singleton.mpr rfl)
  refine { mem := me, obj := ?o, keep := ?k, item := ?i, done := ?d, self := ?s }
  case o =>
    rintro i h ⟨⟨old, he⟩, o, ho, hc, hd⟩ b hb
    refine (List.mem_cons.mp hb).elim (fun z => ?_) (fun z => ?_)
    · exact ⟨_, z ▸ he, fun v y => Data.noConfusion y⟩
    · exact ⟨o, List.mem_singleton.mp z ▸ ho, fun v y => by rw [hd] at y; exact Data.noConfusion y⟩
  case k => exact fun i h h' st kp => ⟨st.1.imp fun old he => kp e me _ he, st.2.at fun o g => kp it mi o g⟩
  case i =>
    rintro X rfl rfl rfl calm i pins s σ H E I fp ⟨en, ti⟩ ⟨lt, ht⟩
    obtain ⟨its, rel, tup, _⟩ := I.tuple (st_of ht)
    have te : t ≠ e := ne_of_none ht (fp e me).1
    have tt : t ≠ it := ne_of_none ht (fp it mi).1
    have size : its.toArray.size = xs.length := by rw [List.size_toArray, rel.length]
    have D := Draws.tuple (prog := X.prog) (w := X.w) (A := X.A.in1) (show X.A.in1.handled = none from I.ok.hd calm) it t tt its.toArray
    have W := WalksT.enumerateD D e ne (by simp [ne, Ne.symm te]) (by simp)
    obtain ⟨u, hu, ru⟩ := rel.get (List.getElem?_eq_getElem lt)
    refine W.item i s _ _ (by omega) ⟨en, ti, tup⟩ fun p vals h2 tk pv big isT mid kp => ⟨_, rfl, W.go elts kk tpos i p _ _ _ mid fun h3 st3 kp3 => ?_⟩
    obtain ⟨tok, y, hy, rfl⟩ := pv
    have same : y = u := Option.some.inj (hy.symm.trans (by simpa using hu))
    subst same
    have pf := W.apart i p h2 mid
    have isT3 : IsTup h3 p #[.int i tok, y] := isT.at fun o g => kp3 p o pf g
    have fresh : H p = none := I.hok.fresh big
    have J : Inv X pins σ (upd H p (.tup [.int (i : Nat), xs[i]])) { s with heap := h3, toks := tk } :=
      I.turnedNew (ch := [e, it]) (fun b o hb g => kp3 b o hb (kp b o hb g)) fp big ⟨by show 2 ≤ sizeLine; decide, [.int i tok, y], .cons ⟨tok, rfl⟩ (.cons ru .nil), isT3⟩
    refine ⟨.ref p, _, J, rfl, ⟨p, xs[i], rfl, fresh, rfl, List.getElem?_eq_getElem lt⟩, ⟨st3.1, st3.2.1⟩, fun b hb => ?_⟩
    have bp : b ≠ p := fun z => pf (z ▸ hb)
    rw [upd_ne bp]
    exact (fp b hb).1
  case d =>
    rintro X rfl rfl rfl calm i pins s σ H E I fp ⟨⟨old, he⟩, ti⟩ ⟨rfl, ht⟩
    obtain ⟨its, rel, tup, _⟩ := I.tuple (st_of ht)
    have size : xs.length = its.toArray.size := by rw [List.size_toArray, rel.length]
    rw [size] at he ti
    have tt : t ≠ it := ne_of_none ht (fp it mi).1
    have f := fp it mi
    exact wpAny_pyNext_enum_endD (Draws.tuple (show X.A.in1.handled = none from I.ok.hd calm) it t tt its.toArray) he ⟨ti, tup⟩ fun h2 kp => ⟨rfl, I.turned (t' := s.toks) kp f.1 f.2.1 f.2.2.2.1 f.2.2.2.2.1 f.2.2.2.2.2⟩
  case s => exact fun A i s Q E st h => st.1.elim fun _ he => wpAny_pyIter_enum he h

/-! ### enumerate(v) begun: over whatever the library says how iter(v) begins -/
def enumOf (it : Addr) : Obj := { cls := .type "enumerate", data := .fields #[.none, .bool false, .ref it, rawInt 0, .none, .none] }
theorem enum_made {v : Value} {o : Obj} {Hv : Heap → Prop} (B : Begins v o Hv) :
    Meets (Builtin.«enumerate.__new__» ⟨[.type "enumerate", v], []⟩) (fun _ R s => Hv s.heap ∧ R (.ok (.ret (.ref (s.heap.push o).objs.size))) { s with heap := (s.heap.push o).push (enumOf s.heap.objs.size) }) := by
  refine .of_wp fun prog w A R s hyp => ?_
  have sub := sub_enumerate
  rcases s with ⟨hp, gn, dr, tk, os⟩
  rcases hyp with ⟨hv, goal⟩
  have begun := fun (A' : Around) (E : Value → Shared → Prop) (Q : Value → Shared → Prop) => B.iter prog w A' E ⟨hp, gn, dr, tk, os⟩ Q hv
  wp_walk
  refine wpAny_stack_any fun _ => ?_
  refine wpAny_pure ?_
  split
  case _ c _ _ _ _ _ =>
    generalize (c == Value.type "enumerate") = same
    cases same
    all_goals wp_walk using begun
    all_goals exact ⟨_, rfl, goal⟩
  case _ =>
    wp_walk using begun
    exact ⟨_, rfl, goal⟩
theorem enum_call {prog : Program} {w : World} {A : Around} {E : Value → Shared → Prop} {s : Shared} {v : Value} {o : Obj} {Hv : Heap → Prop} {Q : Value → Shared → Prop} (B : Begins v o Hv) (hv : Hv s.heap)
    (q : IsEnum ((s.heap.push o).push (enumOf s.heap.objs.size)) (s.heap.objs.size + 1) s.heap.objs.size 0 .none → Q (.ref (s.heap.objs.size + 1)) { s with heap := (s.heap.push o).push (enumOf s.heap.objs.size) }) :
    wpAny (model prog w) A (call (.type "enumerate") [v]) Q E s := by
  have next : (s.heap.push o).objs.size = s.heap.objs.size + 1 := Heap.size_push ..
  have en : IsEnum ((s.heap.push o).push (enumOf s.heap.objs.size)) (s.heap.objs.size + 1) s.heap.objs.size 0 .none := next ▸ Heap.get?_push_size (s.heap.push o) rfl
  refine callType_new F.called_enumerate (by decide) (F.typeCall_enumerate_1 v) (F.newCall_enumerate_1 v) (fun x => F.args_object_init_2 x v) F.entry_enumerate_new (enum_made B) ⟨hv, ?_⟩
  rw [next]
  exact ⟨⟨_, en, rfl⟩, q en⟩
/-- enumerate of a list that is read, or of a tracked tuple -/
def iEnumS (K : PySem.W.Frag) (ta : TA) : TI := fun σ H R => ta σ H fun vs H1 => ∃ t xs, vs = [.ref t] ∧ ((SqL K H1 t xs ∧ R (Ite K t) H1) ∨ (H1 t = some (.tup xs) ∧ R (ItP xs t) H1))
theorem pi_enumS {X : Cx} {e : Expr} {ta : TA} {p pos tpos : Pos} {elts : List Expr} {kk : Nat} (gl : Gl X "enumerate") (no : X.mg "enumerate" = none) (arg : PA X [e] ta) (one : starEach [e] X.env = [(false, eval e X.env)] := by rfl) :
    PI X (.Tuple elts kk tpos) (.Call (.Name "enumerate" p) [e] [] pos) (iEnumS X.K ta) := by
  constructor
  intro pins s σ H R I h
  have run := arg.run pos pins s σ H _ I h
  refine Call_ (ld_blt I gl no boot_enumerate (PyProof.Rows.callWith_type1 (thn run fun us s1 got => ?_) one rfl))
  obtain ⟨vs, H1, I1, rel, t, xs, rfl, q⟩ := got
  obtain ⟨u, rfl, ru⟩ := vals1 rel
  obtain rfl : u = .ref t := ru
  have mine : ∀ c ∈ [s1.heap.objs.size + 1, s1.heap.objs.size], FpOk X pins H1 c := fun c hc => by
    have le : s1.heap.objs.size ≤ c := by
      simp only [List.mem_cons, List.not_mem_nil, or_false] at hc
      omega
    exact I1.fpOk le (I1.hok.fresh le)
  have grow : ∀ (a b : Obj) (c : Addr) (o : Obj), s1.heap.get? c = some o → ((s1.heap.push a).push b).get? c = some o := fun a b c o g => Heap.get?_push_of_some b (Heap.get?_push_of_some a g)
  have first : ∀ a b : Obj, a.isFreed = false → ((s1.heap.push a).push b).get? s1.heap.objs.size = some a := fun a b fr => Heap.get?_push_of_some b (Heap.get?_push_size _ fr)
  rcases q with ⟨hl, q⟩ | ⟨ht, q⟩
  · obtain ⟨its, _, pl, _⟩ := I1.list hl
    refine enum_call (begins_list t its.toArray) pl.isList fun en => wpAny_pyIter_enum en ⟨_, _, _, _, H1, rfl, I1.kept (t' := s1.toks) (grow _ _), turn_enum t _ _, ⟨⟨_, en⟩, ⟨_, first _ _ rfl, rfl, rfl⟩, Nat.succ_ne_self _⟩, mine, q⟩
  · obtain ⟨its, _, tu, _⟩ := I1.tuple (st_of ht)
    exact enum_call (begins_tuple t its.toArray) tu fun en => wpAny_pyIter_enum en ⟨_, _, _, _, H1, rfl, I1.kept (t' := s1.toks) (grow _ _), turn_pairs (Nat.succ_ne_self _), ⟨⟨_, en⟩, _, first _ _ rfl, rfl, rfl⟩, mine, q⟩

/-! ### xs + ys of lists that are read -/
section
variable {X : Cx}
def rCatL (K : PySem.W.Frag) : R2 := fun x y H Q => ∃ l b xs zs, x = .ref l ∧ y = .ref b ∧ SqL K H l xs ∧ SqL K H b zs ∧ xs.length + zs.length ≤ sizeLine ∧ ∀ p, H p = none → Q (.ref p) (upd H p (.lst (xs ++ zs)))
theorem op_catL : OpR X (binaryOp .Add) (rCatL X.K) := by
  rintro pins s σ H _ _ v u Q I rx ry ⟨l, b, xs, zs, rfl, rfl, ha, hb, hz, q⟩
  cases rx
  cases ry
  obtain ⟨i1, r1, p1, _⟩ := I.list ha
  obtain ⟨i2, r2, p2, _⟩ := I.list hb
  have g1 := r1.length
  have g2 := r2.length
  obtain ⟨⟨c1, dd1, dt1, s1⟩, o1, k1, m1, e1⟩ := p1.isList
  obtain ⟨⟨c2, dd2, dt2, s2⟩, o2, k2, m2, e2⟩ := p2.isList
  simp only at k1 e1 k2 e2
  subst k1 e1 k2 e2
  have ea : i1.toArray ++ i2.toArray = (i1 ++ i2).toArray := by simp
  refine concat_meets ⟨_, o1, rfl⟩ ⟨_, o2, rfl⟩ noFill_list_add seq_list_add PySem.F.slot_list_add PySem.F.entry_list_add (PySem.F.args_list_add_2 _ _)
    (list_addW l b i1.toArray i2.toArray m1 m2 dd1 dd2 s1 s2 (by rw [List.size_toArray, List.size_toArray]; omega)) ⟨o1, o2, ?_⟩
  rw [ea]
  exact ⟨.ref _, _, I.lnew (t' := s.toks) (r1.append r2) (by rw [List.length_append]; omega), rfl, q _ I.fresh⟩
end

/-! ### a truth and a number; a truth's text; a tuple from behind -/
section
variable {X : Cx}
theorem op_either {f : Value → Value → Sem Value} {r r' : R2} (h : OpR X f r) (h' : OpR X f r') : OpR X f (fun x y H Q => r x y H Q ∨ r' x y H Q) :=
  fun pins s σ H x y v u Q I rx ry q => q.elim (h pins s σ H x y v u Q I rx ry) (h' pins s σ H x y v u Q I rx ry)
/-- a truth, then a number -/
def rTN (g : Int → Int → Int) : R2 := fun x y H Q => ∃ (b : Bool) (j : Int), x = .bl b ∧ y = .int j ∧ Q (.int (g (if b = true then 1 else 0) j)) H
theorem op_addB : OpR X (binaryOp .Add) (rTN fun i j => i + j) := by
  rintro pins s σ H _ _ v u Q I rx ry ⟨b, j, rfl, rfl, q⟩
  obtain rfl : v = .bool b := rx
  obtain ⟨t, rfl⟩ : ∃ t, u = .int j t := ry
  exact PySem.IntBool.add_bool_int ⟨.int _, H, I.tok _, ⟨_, rfl⟩, q⟩
theorem op_subB : OpR X (binaryOp .Sub) (rTN fun i j => i - j) := by
  rintro pins s σ H _ _ v u Q I rx ry ⟨b, j, rfl, rfl, q⟩
  obtain rfl : v = .bool b := rx
  obtain ⟨t, rfl⟩ : ∃ t, u = .int j t := ry
  exact PySem.IntBool.sub_bool_int ⟨.int _, H, I.tok _, ⟨_, rfl⟩, q⟩
theorem op_addU : OpR X (binaryOp .Add) (fun x y H Q => rI0 (fun i j => .int (i + j)) x y H Q ∨ rTN (fun i j => i + j) x y H Q) := op_either op_add op_addB
theorem op_subU : OpR X (binaryOp .Sub) (fun x y H Q => rI0 (fun i j => .int (i - j)) x y H Q ∨ rTN (fun i j => i - j) x y H Q) := op_either op_sub op_subB
def rCatU (K : PySem.W.Frag) : R2 := fun x y H Q => rCatL K x y H Q ∨ rCatA K x y H Q
theorem op_catU : OpR X (binaryOp .Add) (rCatU X.K) := op_either op_catL op_catA
theorem sl_U : SlR X (fun x lo hi H Q => rSlL X.K x lo hi H Q ∨ rSlA X.K x lo hi H Q) := SlR.or sl_list sl_tupA
/-- every text of Lean's is a text of Python's -/
theorem strOk_of (s : String) : PyData.strOk (Str.ofString s) = true := by
  rw [Str.ofString_eq_toList]
  refine Array.all_eq_true'.mpr fun x hx => ?_
  obtain ⟨c, _, rfl⟩ : ∃ c, c ∈ s.toList ∧ Char.toNat c = x := by simpa using hx
  exact decide_eq_true (c.valid.elim (fun low => Nat.lt_trans low (by decide)) And.right)
def truthText (b : Bool) : Str := if b then "True" else "False"
theorem truth_text {P : Program} {w : World} {A : Around} {E : Value → Shared → Prop} {s : Shared} {b : Bool} {Q : Value → Shared → Prop} (q : Q (.str (truthText b) s.toks) { s with toks := s.toks + 1 }) : wpAny (model P w) A (call (.type "str") [.bool b]) Q E s := by
  have made : Meets (Builtin.«str.__new__» ⟨[.type "str", .bool b], []⟩) (fun _ R s => R (.ok (.ret (.str (truthText b) s.toks))) { s with toks := s.toks + 1 }) :=
    meets_str_new fun _ _ _ _ s r => wpAny_strOf_gives rfl (PySem.typeIs_bool s b) F.slot_bool_str F.slot_bool_repr F.entry_bool_repr (F.args_bool_repr_1 _) (gives_bool_repr b) r (hsz := by cases b <;> decide)
  exact callType_new F.called_str (by decide) (F.typeCall_str_1 _) (F.newCall_str_1 _) (fun x => F.args_object_init_2 x _) F.entry_str_new made ⟨typeIs_str _ _ _, q⟩
/-- str of a number or of a truth: some text -/
def rStrU : List V → Hp → VK → Prop := fun xs H Q => ((∃ i : Int, xs = [.int i] ∧ i.natAbs.log2 < 1920) ∨ ∃ b, xs = [.bl b]) ∧ ∀ x : Str, PyData.strOk x = true → Q (.str x) H
theorem call_strU : CallR X (.type "str") rStrU := by
  rintro pins s σ H xs us Q I r ⟨⟨i, e, hz⟩ | ⟨b, rfl⟩, q⟩
  · exact call_str_int pins s σ H xs us Q I r ⟨i, e, hz, q _ (strOk_of _)⟩
  · obtain ⟨_, rfl, rfl⟩ := vals1 r
    exact truth_text ⟨.str (truthText b), H, I.tok _, ⟨_, rfl⟩, q _ (by cases b <;> exact strOk_of _)⟩
end
/-- what the model's slices say of [::-1] -/
theorem back_bounds (n : Nat) : Builtin.Slice.sliceAdjust none none (-1) n = ((n : Int) - 1, -1) ∧ Builtin.Slice.slicePlaces ((n : Int) - 1) (-1) (-1) = n := by
  refine ⟨by simp [Builtin.Slice.sliceAdjust], ?_⟩
  simp [Builtin.Slice.slicePlaces]
  omega
theorem back_items (its : Array Value) : ((List.range its.size).filterMap fun k : Nat => its[(((its.size : Int) - 1) + (k : Int) * (-1)).toNat]?) = its.toList.reverse := by
  have there : ∀ k : Nat, its[(((its.size : Int) - 1) + (k : Int) * (-1)).toNat]? = its[its.size - 1 - k]? := fun k => by
    rw [show (((its.size : Int) - 1) + (k : Int) * (-1)).toNat = its.size - 1 - k by omega]
  have back := congrArg (List.filterMap (its[·]?)) (PySem.W.krv_range its.size)
  rw [List.filterMap_map, List.filterMap_reverse, PySem.W.krv_all] at back
  rw [← back]
  exact congrArg (List.filterMap · _) (funext there)
section
variable {s : Shared} {P : Program} {w : World} {A : Around} {E : Value → Shared → Prop}
/-- the slice object of [::-1], taken of n items -/
theorem back_applied {sl : Addr} {tk : Tok} {n : Nat} {Q : Int × Int × Nat → Shared → Prop} (hs : s.heap.IsSliceOf sl .none .none (.int (-1) tk)) (q : Q ((n : Int) - 1, -1, n) s) :
    wpAny (model P w) A (Builtin.Slice.sliceApplied (.ref sl) (pure (n : Int))) Q E s := by
  obtain ⟨o, ho, _, hd⟩ := hs
  have none0 : IsPart Value.none none := .none
  have part : ∀ {i : Nat} {v : Value} {Q' : Value → Shared → Prop}, (#[Value.none, .none, .int (-1) tk] : Array Value)[i]? = some v → Q' v s → wpAny (model P w) A (field (.ref sl) i) Q' E s := fun hi h => wpAny_field ho hd hi h
  simp only [Builtin.Slice.sliceApplied, Builtin.Slice.sliceFields]
  refine wpAny_bind (wpAny_bind (part rfl (wpAny_bind (part rfl (wpAny_bind (part rfl (wpAny_pure ?_)))))))
  refine wpAny_bind (HT.slicePart_ (o := some (-1)) (.int (-1) tk) ?_)
  refine wpAny_bind (HT.slicePart_ none0 (wpAny_bind (HT.slicePart_ none0 (wpAny_bind (wpAny_pure ?_)))))
  have e := back_bounds n
  simp only [Option.getD, e.1, e.2]
  exact wpAny_pure q
/-- t[::-1] asked of the tuple's own __getitem__ -/
theorem back_got {t sl : Addr} {tk : Tok} {its : Array Value} {Q : Value → Shared → Prop} (ht : IsTup s.heap t its) (hs : s.heap.IsSliceOf sl .none .none (.int (-1) tk)) (hz : its.size ≤ sizeLine)
    (q : Q (.ref s.heap.objs.size) { s with heap := s.heap.push { cls := .type "tuple", data := .seq its.toList.reverse.toArray } }) : wpAny (model P w) A (getItem (.ref t) (.ref sl)) Q E s := by
  have slice : s.TypeIs (.ref sl) "slice" := hs.elim fun o h => ⟨o, h.1, h.2.1⟩
  have room : sizeOk (.seq its.toList.reverse.toArray) := by
    simpa [sizeOk] using hz
  have own : wpAny (model P w) A.in1 (Builtin.«tuple.__getitem__» ⟨[.ref t, .ref sl], []⟩) (fun fin s' => ∃ v, fin = .done (.ret v) ∧ Q v s') E s := by
    refine wpAny_bind (m := Builtin.Tuple.tupleItemsOf (.ref t)) (tupleItemsOf_ ht (wpAny_bind (wpAny_typeOf slice ?_)))
    rw [if_pos (by decide)]
    refine wpAny_bind (back_applied hs ?_)
    show wpAny _ _ (if ((its.size : Int) - 1 == 0 && (-1 : Int) == 1 && its.size == its.size) = true then _ else _) _ _ s
    rw [if_neg (by simp)]
    refine wpAny_bind (m := Builtin.Tuple.tupleExact _) ?_
    rw [back_items]
    refine wpAny_newObj_type ?_ room
    exact wpAny_pure ⟨_, rfl, q⟩
  have asked : wpAny (model P w) A (callSpecial? (.ref t) "__getitem__" [.ref sl]) (fun r s' => ∃ v, r = some v ∧ Q v s') E s :=
    wpAny_callSpecial?_slot ht.typeIs PyProof.Rows.slot_tuple_getitem (wpAny_call_entry PyProof.Rows.slot_tuple_getitem ht.typeIs entry_tuple_getitem (wpAny_mono own (fun f s' ⟨v, e, h⟩ => ⟨v, e, v, rfl, h⟩) fun _ _ h => h) (args_tuple_getitem _ _))
  simp only [getItem]
  refine wpAny_holding (wpAny_bind (wpAny_sequenceKey (hT := ht.typeIs) (by decide) ?_))
  refine wpAny_bind (wpAny_mono asked (fun r s' h => ?_) fun _ _ h => h)
  obtain ⟨v, rfl, h⟩ := h
  exact wpAny_pure h
end
section
variable {X : Cx}
/-- t[::-1], t a tuple -/
def tBack (K : PySem.W.Frag) (te : TE) : TE := fun σ H Q => te σ H fun x H1 => ∃ a xs, x = .ref a ∧ SqT K H1 a xs ∧ ∀ p, H1 p = none → Q (.ref p) (upd H1 p (.tup xs.reverse))
theorem pe_back {e : Expr} {te : TE} {k : Nat} {p1 p2 p3 pos : Pos} (he : PE X e te) : PE X (.Subscript e (.Slice none none (some (.UnaryOp .USub (.Constant (.int 1) k p1) p2)) p3) pos) (tBack X.K te) := by
  constructor
  intro pins s σ H Q I h
  have minus : PE X (.UnaryOp .USub (.Constant (.int 1) k p1) p2) (tUn (rU fun i => .int (-i)) (tC (.int 1))) := pe_un un_neg pe_int
  refine Subscript_ (thn (he.run pins s σ H _ I h) fun v s1 got => ?_)
  obtain ⟨_, H1, I1, rv, a, xs, rfl, hx, q⟩ := got
  obtain rfl : v = .ref a := rv
  refine wpAny_Slice (thn (po_none.run pins s1 σ H1 (fun o H' => o = none ∧ H' = H1) I1 ⟨rfl, rfl⟩) fun v2 s2 g2 => ?_)
  obtain ⟨_, H2, I2, n2, rfl, e2⟩ := g2
  rw [e2] at I2
  refine thn (po_none.run pins s2 σ H1 (fun o H' => o = none ∧ H' = H1) I2 ⟨rfl, rfl⟩) fun v3 s3 g3 => ?_
  obtain ⟨_, H3, I3, n3, rfl, e3⟩ := g3
  rw [e3] at I3
  refine thn ((po_some minus).run pins s3 σ H1 (fun o H' => o = some (-1) ∧ H' = H1) I3 ⟨1, rfl, -1, rfl, rfl, rfl⟩) fun v4 s4 g4 => ?_
  obtain ⟨_, H4, I4, n4, rfl, e4⟩ := g4
  rw [e4] at I4
  cases n2
  cases n3
  cases n4 with
  | int _ tk =>
    generalize hsl : ({ cls := .type "slice", data := .fields #[Value.none, .none, .int (-1) tk] } : Obj) = so
    have J : Inv X pins σ H1 { s4 with heap := s4.heap.push so } := I4.kept (t' := s4.toks) fun _ _ => Heap.get?_push_of_some _
    have sl : (s4.heap.push so).IsSliceOf s4.heap.objs.size .none .none (.int (-1) tk) := hsl ▸ Heap.IsSliceOf.new ..
    obtain ⟨its, rel, tup, z⟩ := J.tuple hx
    have sz := rel.length
    refine tail_any (s := { s4 with heap := s4.heap.push so }) (ops := [.ref a, .ref s4.heap.objs.size]) tup.typeIs PyProof.Rows.slot_tuple_getitem.lookup (back_got tup sl (by rw [List.size_toArray]; omega) ?_) (by with_unfolding_all rfl)
    refine ⟨.ref _, _, J.laid (t' := s4.toks) (o := .tup xs.reverse) (fun _ _ => Heap.get?_push_of_some _) (Nat.le_refl _) ⟨?_, its.reverse, rel.reverse, IsTup.new _ _⟩, rfl, q _ J.fresh⟩
    rw [List.length_reverse]
    exact z
end

/-! ### lists and tuples of numbers compared -/
theorem dps_ints {K : PySem.W.Frag} {H : Hp} : ∀ ns : List Int, DpAll K H (ns.map V.int) (ns.map PyData.int)
  | [] => .nil
  | n :: ns => .cons (.int n) (dps_ints ns)
theorem lays_ints : ∀ ns : List Int, PyData.canLayAll0 (ns.map PyData.int) = true
  | [] => rfl
  | n :: ns => by
    have h := lays_ints ns
    simp only [List.map_cons, PyData.canLayAll0, PyData.canLay0, h, Bool.and_true, Bool.true_and]
theorem deep_ints : ∀ ns : List Int, PyData.depthAll (ns.map PyData.int) ≤ 1
  | [] => by decide
  | n :: ns => by
    have h := deep_ints ns
    simp only [List.map_cons, PyData.depth, PyData.depthAll]
    omega
theorem shaped_lst (ns : List Int) : SeqAt.shaped (.list (ns.map PyData.int)) = true := by
  have h1 := lays_ints ns
  have h2 := deep_ints ns
  unfold SeqAt.shaped
  rw [PyData.canLay0, PyData.depth, h1, Bool.true_and]
  exact decide_eq_true (show _ ≤ 64 by omega)
theorem shaped_tup (ns : List Int) : SeqAt.shaped (.tuple (ns.map PyData.int)) = true := by
  have h1 := lays_ints ns
  have h2 := deep_ints ns
  unfold SeqAt.shaped
  rw [PyData.canLay0, PyData.depth, h1, Bool.true_and]
  exact decide_eq_true (show _ ≤ 64 by omega)
theorem eqv_ints : ∀ ns ms : List Int, PyData.eqvAll (ns.map PyData.int) (ms.map PyData.int) = decide (ns = ms)
  | [], [] => rfl
  | [], m :: ms => rfl
  | n :: ns, [] => rfl
  | n :: ns, m :: ms => by
    have h := eqv_ints ns ms
    simp only [List.map_cons, PyData.eqvAll, PyData.eqv, h]
    by_cases e : n = m <;> by_cases e' : ns = ms <;> simp [e, e']
section
variable {K : PySem.W.Frag} {H : Hp} {Q : VK} {a b : Addr} {ns ms : List Int}
theorem eq_lsts (ha : SqL K H a (ns.map V.int)) (hb : SqL K H b (ms.map V.int)) (q : Q (.bl (decide (ns = ms))) H) : rEqD K (.ref a) (.ref b) H Q :=
  ⟨_, _, .lst ha (dps_ints ns), .lst hb (dps_ints ms), shaped_lst ns, shaped_lst ms, by rw [PyData.eqv, eqv_ints]; exact q⟩
theorem ne_lsts (ha : SqL K H a (ns.map V.int)) (hb : SqL K H b (ms.map V.int)) (q : Q (.bl (!decide (ns = ms))) H) : rNeD K (.ref a) (.ref b) H Q :=
  ⟨_, _, .lst ha (dps_ints ns), .lst hb (dps_ints ms), shaped_lst ns, shaped_lst ms, by rw [PyData.eqv, eqv_ints]; exact q⟩
theorem eq_tups (ha : SqT K H a (ns.map V.int)) (hb : SqT K H b (ms.map V.int)) (q : Q (.bl (decide (ns = ms))) H) : rEqD K (.ref a) (.ref b) H Q :=
  ⟨_, _, .tup ha (dps_ints ns), .tup hb (dps_ints ms), shaped_tup ns, shaped_tup ms, by rw [PyData.eqv, eqv_ints]; exact q⟩
theorem ne_tups (ha : SqT K H a (ns.map V.int)) (hb : SqT K H b (ms.map V.int)) (q : Q (.bl (!decide (ns = ms))) H) : rNeD K (.ref a) (.ref b) H Q :=
  ⟨_, _, .tup ha (dps_ints ns), .tup hb (dps_ints ms), shaped_tup ns, shaped_tup ms, by rw [PyData.eqv, eqv_ints]; exact q⟩
end
/-- a comprehension over a list of numbers, with a test -/
theorem given_list (xs : List Int) (p : Int → Bool) (g : Int → Int) : given xs.length (fun i => p (xs[i]?.getD 0)) (fun i => V.int (g (xs[i]?.getD 0))) = ((xs.filter p).map g).map V.int := by
  unfold given
  induction xs with
  | nil => rfl
  | cons x xs ih =>
    have h0 : (x :: xs)[(0 : Nat)]?.getD 0 = x := rfl
    have hs : ∀ i : Nat, (x :: xs)[i + 1]?.getD 0 = xs[i]?.getD 0 := fun i => by rw [List.getElem?_cons_succ]
    rw [List.length_cons, List.range_succ_eq_map, List.filter_cons, List.filter_map, List.filter_cons, h0]
    have e1 : ((fun i => p ((x :: xs)[i]?.getD 0)) ∘ Nat.succ) = fun i : Nat => p (xs[i]?.getD 0) := funext fun i => congrArg p (hs i)
    have e2 : ((fun i => V.int (g ((x :: xs)[i]?.getD 0))) ∘ Nat.succ) = fun i : Nat => V.int (g (xs[i]?.getD 0)) := funext fun i => congrArg (fun z => V.int (g z)) (hs i)
    rw [e1]
    by_cases h : p x = true
    · rw [if_pos h, if_pos h]
      simp only [List.map_cons, List.map_map, e2, h0]
      rw [ih, List.map_map]
    · rw [if_neg h, if_neg h, List.map_map, e2, ih]
theorem given_pick (xs : List Int) (p : Int → Bool) : given xs.length (fun i => p (xs[i]?.getD 0)) (fun i => V.int (xs[i]?.getD 0)) = (xs.filter p).map V.int := by
  have h := given_list xs p fun z => z
  rw [List.map_id'] at h
  exact h

section
variable {X : Cx}
theorem op_isT : OpR X (compareOp .Is) (fun x y H Q => ∃ a b, x = .bl a ∧ y = .bl b ∧ Q (.bl (a == b)) H) := by
  rintro pins s σ H x y v u Q I rx ry ⟨a, b, rfl, rfl, q⟩
  cases rx
  cases ry
  exact is_bool ⟨.bl _, H, I, rfl, q⟩
theorem op_isntT : OpR X (compareOp .IsNot) (fun x y H Q => ∃ a b, x = .bl a ∧ y = .bl b ∧ Q (.bl (a != b)) H) := by
  rintro pins s σ H x y v u Q I rx ry ⟨a, b, rfl, rfl, q⟩
  cases rx
  cases ry
  exact isnot_bool ⟨.bl _, H, I, rfl, q⟩
end

/-! ### min(xs, default=None) of a list of numbers -/
section
variable {X : Cx}
def rMinD (K : PySem.W.Frag) : List V → List V → Hp → VK → Prop := fun vs zs H Q => ∃ (a : Addr) (ns : List Int), vs = [.ref a] ∧ zs = [.non] ∧ SqL K H a (ns.map V.int) ∧ (ns = [] → Q .non H) ∧ ∀ m, m ∈ ns → (∀ y, y ∈ ns → m ≤ y) → Q (.int m) H
theorem cr_minD (calm : X.calm = true) : CallRK X (.builtin "min") [Str.ofString "default"] (rMinD X.K) := by
  rintro pins s σ H vs zs us ws Q I r rz ⟨a, ns, rfl, rfl, hq, q0, q1⟩
  obtain ⟨its, rel, pl, _⟩ := I.list hq
  obtain rfl := Vals.ref1 r
  obtain ⟨w1, ew, e1⟩ := vals1 rz
  subst ew
  replace e1 : w1 = Value.none := e1
  subst e1
  have nums : IntsAre its ns := intsAre_of rel
  have many : its.toArray.size = ns.length := by simpa using nums.length
  have newL : a ≠ s.heap.objs.size := Nat.ne_of_lt pl.lt
  have calm' : X.A.in1.handled = none := by simpa using I.ok.hd calm
  refine call_min_walkD (wpAny_pyIter_list pl.isList ?_)
  have kept : ∀ {s' : Shared}, Moved [s.heap.objs.size] (fun x y => y = x) { s with heap := s.heap.push { cls := .type "list_iterator", data := .fields #[.ref a, .int 0 0] } } s' → ∀ b o, s.heap.get? b = some o → s'.heap.get? b = some o := fun mv b o g =>
    mv.heap b o (fun z => Nat.ne_of_lt (Heap.lt_size g) (List.mem_singleton.mp z)) (Heap.get?_push_of_some _ g)
  have after : ∀ {s' : Shared}, Moved [s.heap.objs.size] (fun x y => y = x) { s with heap := s.heap.push { cls := .type "list_iterator", data := .fields #[.ref a, .int 0 0] } } s' → Inv X pins σ H s' := fun {s'} mv => by
    have J := I.kept (t' := s'.toks) (kept mv)
    rcases s' with ⟨h1, g1, d1, t1, o1⟩
    have eg := mv.gens
    have ed := mv.drawn
    have eo := mv.os
    simp only at eg ed eo
    subst eg ed eo
    exact J
  refine ⟨s.heap.objs.size, _, _, _, _, _, _, s.heap, fun i j => decide (ns.getD i 0 < ns.getD j 0), rfl, (Walks.list calm' s.heap.objs.size a newL its.toArray).toS, ⟨⟨_, Heap.get?_push_size _ rfl, rfl, rfl⟩, pl.isList.push _⟩, ?_, ?_, fun b o g => Heap.get?_push_of_some _ g, fun none_ s' mv => ?_, fun pos => ⟨?_, fun v s' hv mv => ?_⟩⟩
  · intro b hb
    rw [Heap.size_push]
    simp only [List.not_mem_nil, List.mem_cons, or_false] at hb
    rcases hb with rfl | rfl
    · exact Nat.lt_succ_self _
    · exact Nat.lt_succ_of_lt pl.lt
  · intro b o g z
    exact Nat.ne_of_lt (Heap.lt_size g) (List.mem_singleton.mp z)
  · refine ⟨.non, H, after mv, rfl, q0 ?_⟩
    rw [many] at none_
    exact List.eq_nil_of_length_eq_zero none_
  · intro i j vi vj s1 Q1 E1 _ hi hj q
    obtain ⟨t, rfl⟩ := nums.int_at i vi (by rw [← List.getElem?_toArray]; exact hi)
    obtain ⟨t', rfl⟩ := nums.int_at j vj (by rw [← List.getElem?_toArray]; exact hj)
    show wpAny _ _ (compareOp .Lt _ _) _ _ _
    exact lt_int q
  · obtain ⟨h1, h2⟩ := argBest_lt (fun i => ns.getD i 0) (its.toArray.size - 1)
    obtain ⟨t, rfl⟩ := nums.int_at _ v (by rw [← List.getElem?_toArray]; exact hv)
    rw [many] at pos h1 h2
    refine ⟨.int _, H, after mv, ⟨t, rfl⟩, ?_⟩
    rw [many]
    refine q1 _ (PySem.getD_mem (by omega)) fun y hy => ?_
    obtain ⟨j, hj, rfl⟩ := mem_getD hy
    exact h2 j (by omega)
end

/-! ### the text -/
def topS (i : Nat) : Stmt := PySem.Challenge.pw_longyears_k07_whole_two_great_lands.main.body.getD i (.Pass ⟨0, 0, 0, 0⟩)
abbrev s_is_whole : Stmt := topS 6
abbrev s_is_between : Stmt := topS 7
abbrev s_common_measure : Stmt := topS 8
abbrev s_undoing_factor : Stmt := topS 9
abbrev s_is_land : Stmt := topS 15
abbrev s_need_land : Stmt := topS 16
abbrev s_need_day : Stmt := topS 17
abbrev s_need_days : Stmt := topS 18
abbrev s_need_place : Stmt := topS 19
abbrev s_step_of : Stmt := topS 20
abbrev s_need_places : Stmt := topS 22
abbrev s_placed_days : Stmt := topS 23
abbrev s_shared_step : Stmt := topS 24
abbrev s_round_from : Stmt := topS 25
abbrev s_ends_ahead : Stmt := topS 26
abbrev s_next_day : Stmt := topS 27
abbrev s_days : Stmt := topS 28
abbrev s_is_parting : Stmt := topS 29
abbrev s_parting : Stmt := topS 30
abbrev s__law_deck : Stmt := topS 32
abbrev s__law_pick : Stmt := topS 33
abbrev s__law_one : Stmt := topS 34
abbrev s__law_land : Stmt := topS 35
abbrev s__law_any : Stmt := topS 36
abbrev s__law_begin : Stmt := topS 37
abbrev s__law_far : Stmt := topS 38
abbrev s__law_step : Stmt := topS 39
abbrev s__law_measure : Stmt := topS 40
abbrev s__law_is_at : Stmt := topS 41
abbrev s__law_common : Stmt := topS 42
abbrev s__law_next_right : Stmt := topS 43
abbrev s_law : Stmt := topS 44
theorem sc_is_whole : FnScope ["thing"] ["thing"] (defScope s_is_whole) := ⟨rfl, rfl, rfl, by decide +kernel, rfl, by decide +kernel, by decide +kernel⟩
theorem sc_is_between : FnScope ["thing", "least", "most"] ["thing", "least", "most"] (defScope s_is_between) := ⟨rfl, rfl, rfl, by decide +kernel, rfl, by decide +kernel, by decide +kernel⟩
theorem sc_common_measure : FnScope ["one", "other"] ["one", "other"] (defScope s_common_measure) := ⟨rfl, rfl, rfl, by decide +kernel, rfl, by decide +kernel, by decide +kernel⟩
theorem sc_undoing_factor : FnScope ["number", "ring", "one", "other", "times_one", "times_other", "whole"] ["number", "ring"] (defScope s_undoing_factor) := ⟨rfl, rfl, rfl, by decide +kernel, rfl, by decide +kernel, by decide +kernel⟩
theorem sc_is_land : FnScope ["thing", "days", "top", "bottom", "shift"] ["thing"] (defScope s_is_land) := ⟨rfl, rfl, rfl, by decide +kernel, rfl, by decide +kernel, by decide +kernel⟩
theorem sc_need_land : FnScope ["thing"] ["thing"] (defScope s_need_land) := ⟨rfl, rfl, rfl, by decide +kernel, rfl, by decide +kernel, by decide +kernel⟩
theorem sc_need_day : FnScope ["thing"] ["thing"] (defScope s_need_day) := ⟨rfl, rfl, rfl, by decide +kernel, rfl, by decide +kernel, by decide +kernel⟩
theorem sc_need_days : FnScope ["first", "last"] ["first", "last"] (defScope s_need_days) := ⟨rfl, rfl, rfl, by decide +kernel, rfl, by decide +kernel, by decide +kernel⟩
theorem sc_need_place : FnScope ["land", "thing", "days"] ["land", "thing"] (defScope s_need_place) := ⟨rfl, rfl, rfl, by decide +kernel, rfl, by decide +kernel, by decide +kernel⟩
theorem sc_step_of : FnScope ["land", "days", "top", "bottom", "shift"] ["land"] (defScope s_step_of) := ⟨rfl, rfl, rfl, by decide +kernel, rfl, by decide +kernel, by decide +kernel⟩
theorem sc_need_places : FnScope ["one", "place_one", "other", "place_other"] ["one", "place_one", "other", "place_other"] (defScope s_need_places) := ⟨rfl, rfl, rfl, by decide +kernel, rfl, by decide +kernel, by decide +kernel⟩
theorem sc_placed_days : FnScope ["land", "place", "bottom", "shift", "step", "least", "number"] ["land", "place"] (defScope s_placed_days) := ⟨rfl, rfl, rfl, by decide +kernel, rfl, by decide +kernel, by decide +kernel⟩
theorem sc_shared_step : FnScope ["one", "other"] ["one", "other"] (defScope s_shared_step) := ⟨rfl, rfl, rfl, by decide +kernel, rfl, by decide +kernel, by decide +kernel⟩
theorem sc_round_from : FnScope ["one", "place_one", "other", "place_other", "day", "shared", "step_one", "steps", "again", "lead", "row", "starts", "ends", "later_ends", "one_day", "other_day", "end"] ["one", "place_one", "other", "place_other", "day"] (defScope s_round_from) := ⟨rfl, rfl, rfl, by decide +kernel, rfl, by decide +kernel, by decide +kernel⟩
theorem sc_ends_ahead : FnScope ["starts", "ends", "ahead", "at", "start"] ["starts", "ends"] (defScope s_ends_ahead) := ⟨rfl, rfl, rfl, by decide +kernel, rfl, by decide +kernel, by decide +kernel⟩
theorem sc_next_day : FnScope ["one", "place_one", "other", "place_other", "day", "again", "starts", "ends", "nearest", "start", "at"] ["one", "place_one", "other", "place_other", "day"] (defScope s_next_day) := ⟨rfl, rfl, rfl, by decide +kernel, rfl, by decide +kernel, by decide +kernel⟩
theorem sc_days : FnScope ["one", "place_one", "other", "place_other", "first", "last", "again", "starts", "ends", "rounds", "rest", "ahead", "in_round", "in_rest", "start"] ["one", "place_one", "other", "place_other", "first", "last"] (defScope s_days) := ⟨rfl, rfl, rfl, by decide +kernel, rfl, by decide +kernel, by decide +kernel⟩
theorem sc_is_parting : FnScope ["one", "place_one", "other", "place_other", "number", "left", "day"] ["one", "place_one", "other", "place_other", "number"] (defScope s_is_parting) := ⟨rfl, rfl, rfl, by decide +kernel, rfl, by decide +kernel, by decide +kernel⟩
theorem sc_parting : FnScope ["one", "place_one", "other", "place_other", "number"] ["one", "place_one", "other", "place_other"] (defScope s_parting) := ⟨rfl, rfl, rfl, by decide +kernel, rfl, by decide +kernel, by decide +kernel⟩
theorem sc__law_deck : FnScope ["cell", "turn"] ["cell", "turn"] (defScope s__law_deck) := ⟨rfl, rfl, rfl, by decide +kernel, rfl, by decide +kernel, by decide +kernel⟩
theorem sc__law_pick : FnScope ["deck", "size", "found", "number"] ["deck", "size"] (defScope s__law_pick) := ⟨rfl, rfl, rfl, by decide +kernel, rfl, by decide +kernel, by decide +kernel⟩
theorem sc__law_one : FnScope ["deck", "some"] ["deck", "some"] (defScope s__law_one) := ⟨rfl, rfl, rfl, by decide +kernel, rfl, by decide +kernel, by decide +kernel⟩
theorem sc__law_land : FnScope ["deck", "long_so", "bottoms", "shifts", "bottom", "shift"] ["deck", "long_so", "bottoms", "shifts"] (defScope s__law_land) := ⟨rfl, rfl, rfl, by decide +kernel, rfl, by decide +kernel, by decide +kernel⟩
theorem sc__law_any : FnScope ["deck", "long_so", "bottoms", "shifts"] ["deck"] (defScope s__law_any) := ⟨rfl, rfl, rfl, by decide +kernel, rfl, by decide +kernel, by decide +kernel⟩
theorem sc__law_begin : FnScope ["land", "year"] ["land", "year"] (defScope s__law_begin) := ⟨rfl, rfl, rfl, by decide +kernel, rfl, by decide +kernel, by decide +kernel⟩
theorem sc__law_far : FnScope ["deck", "number"] ["deck"] (defScope s__law_far) := ⟨rfl, rfl, rfl, by decide +kernel, rfl, by decide +kernel, by decide +kernel⟩
theorem sc__law_step : FnScope ["land"] ["land"] (defScope s__law_step) := ⟨rfl, rfl, rfl, by decide +kernel, rfl, by decide +kernel, by decide +kernel⟩
theorem sc__law_measure : FnScope ["one", "other"] ["one", "other"] (defScope s__law_measure) := ⟨rfl, rfl, rfl, by decide +kernel, rfl, by decide +kernel, by decide +kernel⟩
theorem sc__law_is_at : FnScope ["land", "place", "day", "year"] ["land", "place", "day"] (defScope s__law_is_at) := ⟨rfl, rfl, rfl, by decide +kernel, rfl, by decide +kernel, by decide +kernel⟩
theorem sc__law_common : FnScope ["one", "place_one", "other", "place_other", "first", "last", "year", "found", "day"] ["one", "place_one", "other", "place_other", "first", "last"] (defScope s__law_common) := ⟨rfl, rfl, rfl, by decide +kernel, rfl, by decide +kernel, by decide +kernel⟩
theorem sc__law_next_right : FnScope ["one", "place_one", "other", "place_other", "begun", "here", "turn", "day", "near"] ["one", "place_one", "other", "place_other", "begun"] (defScope s__law_next_right) := ⟨rfl, rfl, rfl, by decide +kernel, rfl, by decide +kernel, by decide +kernel⟩
theorem sc_law : FnScope ["script", "cell", "deck", "one", "other", "first_so", "second", "number", "begun", "common", "many", "some", "here", "last", "amid", "ahead", "in_round", "seven"] ["script"] (defScope s_law) := ⟨rfl, rfl, rfl, by decide +kernel, rfl, by decide +kernel, by decide +kernel⟩
structure DefAt (K : PySem.W.Frag) (mg : Str → Option Value) (x : Str) (st : Stmt) (ps : List Str) where
  f : Addr
  fd : FuncData
  F : Fun K x x st f fd
  b : Binds K fd ps []
  g : mg x = some (.ref f)
structure Txt (K : PySem.W.Frag) (mg : Str → Option Value) where
  is_whole : DefAt K mg "is_whole" s_is_whole ["thing"]
  is_between : DefAt K mg "is_between" s_is_between ["thing", "least", "most"]
  common_measure : DefAt K mg "common_measure" s_common_measure ["one", "other"]
  undoing_factor : DefAt K mg "undoing_factor" s_undoing_factor ["number", "ring"]
  is_land : DefAt K mg "is_land" s_is_land ["thing"]
  need_land : DefAt K mg "need_land" s_need_land ["thing"]
  need_day : DefAt K mg "need_day" s_need_day ["thing"]
  need_days : DefAt K mg "need_days" s_need_days ["first", "last"]
  need_place : DefAt K mg "need_place" s_need_place ["land", "thing"]
  step_of : DefAt K mg "step_of" s_step_of ["land"]
  need_places : DefAt K mg "need_places" s_need_places ["one", "place_one", "other", "place_other"]
  placed_days : DefAt K mg "placed_days" s_placed_days ["land", "place"]
  shared_step : DefAt K mg "shared_step" s_shared_step ["one", "other"]
  round_from : DefAt K mg "round_from" s_round_from ["one", "place_one", "other", "place_other", "day"]
  ends_ahead : DefAt K mg "ends_ahead" s_ends_ahead ["starts", "ends"]
  next_day : DefAt K mg "next_day" s_next_day ["one", "place_one", "other", "place_other", "day"]
  days : DefAt K mg "days" s_days ["one", "place_one", "other", "place_other", "first", "last"]
  is_parting : DefAt K mg "is_parting" s_is_parting ["one", "place_one", "other", "place_other", "number"]
  parting : DefAt K mg "parting" s_parting ["one", "place_one", "other", "place_other"]
  _law_deck : DefAt K mg "_law_deck" s__law_deck ["cell", "turn"]
  _law_pick : DefAt K mg "_law_pick" s__law_pick ["deck", "size"]
  _law_one : DefAt K mg "_law_one" s__law_one ["deck", "some"]
  _law_land : DefAt K mg "_law_land" s__law_land ["deck", "long_so", "bottoms", "shifts"]
  _law_any : DefAt K mg "_law_any" s__law_any ["deck"]
  _law_begin : DefAt K mg "_law_begin" s__law_begin ["land", "year"]
  _law_far : DefAt K mg "_law_far" s__law_far ["deck"]
  _law_step : DefAt K mg "_law_step" s__law_step ["land"]
  _law_measure : DefAt K mg "_law_measure" s__law_measure ["one", "other"]
  _law_is_at : DefAt K mg "_law_is_at" s__law_is_at ["land", "place", "day"]
  _law_common : DefAt K mg "_law_common" s__law_common ["one", "place_one", "other", "place_other", "first", "last"]
  _law_next_right : DefAt K mg "_law_next_right" s__law_next_right ["one", "place_one", "other", "place_other", "begun"]
  t_MOST_DAYS : Tok
  c_MOST_DAYS : mg "MOST_DAYS" = some (.int 400 t_MOST_DAYS)
  t_MOST_BOTTOM : Tok
  c_MOST_BOTTOM : mg "MOST_BOTTOM" = some (.int 60 t_MOST_BOTTOM)
  t_MOST_SHIFT : Tok
  c_MOST_SHIFT : mg "MOST_SHIFT" = some (.int 1000000 t_MOST_SHIFT)
  t_FARTHEST : Tok
  c_FARTHEST : mg "FARTHEST" = some (.int 1000000000000000000000000000000 t_FARTHEST)
  isinstance : mg "isinstance" = none
  b_int : mg "int" = none
  b_bool : mg "bool" = none
  tuple : mg "tuple" = none
  len : mg "len" = none
  range : mg "range" = none
  sorted : mg "sorted" = none
  min : mg "min" = none
  zip : mg "zip" = none
  divmod : mg "divmod" = none
  sum : mg "sum" = none
  any : mg "any" = none
  max : mg "max" = none
  ValueError : mg "ValueError" = none

/-! ### things: plain data by kinds -/
inductive Kd where
  | non | bl | int | str | lst | tup
def Kd.nm : Kd → String
  | .non => "NoneType" | .bl => "bool" | .int => "int" | .str => "str" | .lst => "list" | .tup => "tuple"
inductive Dat (H : Hp) : V → Kd → Prop where
  | non : Dat H .non .non
  | bl (b : Bool) : Dat H (.bl b) .bl
  | int (i : Int) : Dat H (.int i) .int
  | str (x : Str) : Dat H (.str x) .str
  | lst {a : Addr} {xs : List V} (h : H a = some (.lst xs)) : Dat H (.ref a) .lst
  | tup {a : Addr} {xs : List V} (h : H a = some (.tup xs)) : Dat H (.ref a) .tup
theorem Dat.ty {K : PySem.W.Frag} {H : Hp} {x : V} {t : Kd} (d : Dat H x t) : TyX K H x (.type t.nm) := by
  cases d with
  | non => exact .base .non
  | bl b => exact .base (.bl b)
  | int i => exact .base (.int i)
  | str x => exact .base (.str x)
  | lst h => exact .base (.lst h)
  | tup h => exact .base (.tup h)
theorem Dat.ex {H H' : Hp} {x : V} {t : Kd} (e : Ex H H') (d : Dat H x t) : Dat H' x t := by
  cases d with
  | non => exact .non
  | bl b => exact .bl b
  | int i => exact .int i
  | str x => exact .str x
  | lst h => exact .lst (e _ _ h)
  | tup h => exact .tup (e _ _ h)
/-- isinstance among these kinds -/
def Kd.isa : Kd → Kd → Bool
  | .non, .non => true | .bl, .bl => true | .bl, .int => true | .int, .int => true | .str, .str => true | .lst, .lst => true | .tup, .tup => true
  | _, _ => false
theorem kit_kd {K : PySem.W.Frag} (a b : Kd) (hb : b.nm ≠ "NoneType") : PySem.W.kitOne K (.type a.nm) (.type b.nm) = some (a.isa b) := by
  cases b
  case non => exact absurd rfl hb
  all_goals cases a <;> exact kit_ty (by decide +kernel)
def wholeV : V → Bool
  | .int _ => true
  | _ => false
def btw (x : V) (lo hi : Int) : Bool := match x with
  | .int i => decide (lo ≤ i) && decide (i ≤ hi)
  | _ => false
section
variable {P : Program} {w : World} {K : PySem.W.Frag} {mg : Str → Option Value} {base : Heap}
def spWhole : Sp := fun vs H Q _ => ∃ x t, vs = [x] ∧ Dat H x t ∧ RetV (.bl (wholeV x)) H Q
theorem ok_is_whole (T : Txt K mg) {k : Nat} : FnOk P w K mg base CX0 (k + 1) T.is_whole.f T.is_whole.fd ["thing"] spWhole := by
  refine T.is_whole.F.ok sc_is_whole (fun vs H Q E h => ?_) (fun cdv A outer s H vs Q E hr h => ?_)
  · obtain ⟨x, t, rfl, _⟩ := h
    rfl
  · obtain ⟨x, t, rfl, d, q⟩ := h
    have q0 := q H (Ex.refl H)
    refine ⟨_, (pss_one (ps_ret (pe_and (pe_callB call_isi (by rfl) T.isinstance (by decide +kernel) (pa_cons (pv 0) (pa_cons (pe_bltn (v := .ty "int") (by rfl) T.b_int (by decide +kernel) rfl) pa_nil))) (pe_one (pe_not (pe_callB call_isi (by rfl) T.isinstance (by decide +kernel) (pa_cons (pv 0) (pa_cons (pe_bltn (v := .ty "bool") (by rfl) T.b_bool (by decide +kernel) rfl) pa_nil)))))))), ?_⟩
    refine ⟨_, rfl, _, _, _, _, _, rfl, .ty _, d.ty, kit_kd t .int (by decide), _, rfl, ?_⟩
    cases d
    case non => exact iteF q0
    case str => exact iteF q0
    case lst => exact iteF q0
    case tup => exact iteF q0
    case bl b => exact iteT ⟨_, rfl, _, _, _, _, _, rfl, .ty _, Dat.ty (.bl b), kit_kd .bl .bl (by decide), _, rfl, q0⟩
    case int i => exact iteT ⟨_, rfl, _, _, _, _, _, rfl, .ty _, Dat.ty (.int i), kit_kd .int .bl (by decide), _, rfl, q0⟩
def spBetween : Sp := fun vs H Q _ => ∃ x t lo hi, vs = [x, .int lo, .int hi] ∧ Dat H x t ∧ RetV (.bl (btw x lo hi)) H Q
theorem ok_is_between (T : Txt K mg) : FnOk P w K mg base CX0 2 T.is_between.f T.is_between.fd ["thing", "least", "most"] spBetween := by
  have G_is_whole : FnOk P w K mg base CX0 1 T.is_whole.f T.is_whole.fd ["thing"] spWhole := ok_is_whole T
  refine T.is_between.F.ok sc_is_between (fun vs H Q E h => ?_) (fun cdv A outer s H vs Q E hr h => ?_)
  · obtain ⟨x, t, lo, hi, rfl, _⟩ := h
    rfl
  · obtain ⟨x, t, lo, hi, rfl, d, q⟩ := h
    refine ⟨_, (pss_one (ps_ret (pe_and (pe_call G_is_whole (hr.mono (by omega)) (by rfl) T.is_whole.g T.is_whole.F.kp T.is_whole.b .nil pass0 (pa_cons (pv 0) pa_nil)) (pe_one (pe_chain op_le op_le (pv 1) (pv 0) (pv 2)))))), ?_⟩
    refine ⟨_, rfl, x, t, rfl, d, fun H1 e1 => ⟨_, rfl, ?_⟩⟩
    have q1 := q H1 e1
    cases x with
    | int i =>
      refine iteT ⟨_, rfl, _, rfl, _, _, rfl, rfl, _, rfl, ?_⟩
      by_cases h1 : lo ≤ i
      · rw [if_pos (decide_eq_true h1)]
        refine ⟨_, rfl, _, _, rfl, rfl, ?_⟩
        have e : btw (.int i) lo hi = decide (i ≤ hi) := by
          show (decide (lo ≤ i) && decide (i ≤ hi)) = _
          rw [decide_eq_true h1, Bool.true_and]
        rw [e] at q1
        exact q1
      · rw [if_neg (by rw [decide_eq_false h1]; decide)]
        have e : btw (.int i) lo hi = false := by
          show (decide (lo ≤ i) && decide (i ≤ hi)) = _
          rw [decide_eq_false h1, Bool.false_and]
        rw [e] at q1
        exact q1
    | _ => exact iteF q1
end

/-! ### is_land -/
def topB (t b : V) : Bool := match b with
  | .int b' => btw t 0 (b' - 1)
  | _ => false
def landL : List V → Bool
  | [d, t, b, s] => btw d 1 400 && (btw b 1 60 && (topB t b && btw s (-1000000) 1000000))
  | _ => false
def landB (H : Hp) (x : V) : Bool := match x with
  | .ref a => match H a with
    | some (.tup xs) => landL xs
    | _ => false
  | _ => false
theorem landB_tup {H : Hp} {a : Addr} {xs : List V} (h : H a = some (.tup xs)) : landB H (.ref a) = landL xs := by
  show (match H a with | some (.tup xs) => landL xs | _ => false) = _
  rw [h]
theorem landB_lst {H : Hp} {a : Addr} {xs : List V} (h : H a = some (.lst xs)) : landB H (.ref a) = false := by
  show (match H a with | some (.tup xs) => landL xs | _ => false) = _
  rw [h]
/-- all parts of a tuple are plain data -/
def Parts (H : Hp) (x : V) : Prop := ∀ a xs, x = .ref a → H a = some (.tup xs) → ∀ y ∈ xs, ∃ u, Dat H y u
theorem landL_len {xs : List V} (h : xs.length ≠ 4) : landL xs = false := by
  match xs, h with
  | [], _ => rfl
  | [_], _ => rfl
  | [_, _], _ => rfl
  | [_, _, _], _ => rfl
  | [_, _, _, _], h => exact absurd rfl h
  | _ :: _ :: _ :: _ :: _ :: _, _ => rfl
section
variable {P : Program} {w : World} {K : PySem.W.Frag} {mg : Str → Option Value} {base : Heap}
def spIsLand : Sp := fun vs H Q _ => ∃ x t, vs = [x] ∧ Dat H x t ∧ Parts H x ∧ RetV (.bl (landB H x)) H Q
theorem ok_is_land (T : Txt K mg) : FnOk P w K mg base CX0 3 T.is_land.f T.is_land.fd ["thing"] spIsLand := by
  have G_is_between : FnOk P w K mg base CX0 2 T.is_between.f T.is_between.fd ["thing", "least", "most"] spBetween := ok_is_between T
  refine T.is_land.F.ok sc_is_land (fun vs H Q E h => ?_) (fun cdv A outer s H vs Q E hr h => ?_)
  · obtain ⟨x, t, rfl, _⟩ := h
    rfl
  · obtain ⟨x, t, rfl, d, hp, q⟩ := h
    have q0 := q H (Ex.refl H)
    refine ⟨_, (pss_cons (ps_if (PW.pt (pw_or (pt_not (pt_val (pe_callB call_isi (by rfl) T.isinstance (by decide +kernel) (pa_cons (pv 0) (pa_cons (pe_bltn (v := .ty "tuple") (by rfl) T.tuple (by decide +kernel) rfl) pa_nil))))) (pw_or1 (pt_cmpR op_ne (pe_callB call_len_seq (by rfl) T.len (by decide +kernel) (pa_cons (pv 0) pa_nil)) pe_int (nomark _)))))
        (pss_one (ps_ret pe_bl))
        pss_nil)
      (pss_cons (ps_asg (pv 0) (pg_tup rfl (pgs_cons (pg_name (i := 1) sc_is_land.nd rfl (Or.inl rfl)) (pgs_cons (pg_name (i := 2) sc_is_land.nd rfl (Or.inl rfl)) (pgs_cons (pg_name (i := 3) sc_is_land.nd rfl (Or.inl rfl)) (pgs_cons (pg_name (i := 4) sc_is_land.nd rfl (Or.inl rfl)) pgs_nil))))))
      (pss_one (ps_ret (pe_and (pe_call G_is_between (hr.mono (by omega)) (by rfl) T.is_between.g T.is_between.F.kp T.is_between.b .nil pass0 (pa_cons (pv 1) (pa_cons pe_int (pa_cons (pe_glob (v := .int 400) rfl T.c_MOST_DAYS ⟨_, rfl⟩) pa_nil)))) (pe_and (pe_call G_is_between (hr.mono (by omega)) (by rfl) T.is_between.g T.is_between.F.kp T.is_between.b .nil pass0 (pa_cons (pv 3) (pa_cons pe_int (pa_cons (pe_glob (v := .int 60) rfl T.c_MOST_BOTTOM ⟨_, rfl⟩) pa_nil)))) (pe_and (pe_call G_is_between (hr.mono (by omega)) (by rfl) T.is_between.g T.is_between.F.kp T.is_between.b .nil pass0 (pa_cons (pv 2) (pa_cons pe_int (pa_cons (pe_op op_sub (pv 3) pe_int) pa_nil)))) (pe_one (pe_call G_is_between (hr.mono (by omega)) (by rfl) T.is_between.g T.is_between.F.kp T.is_between.b .nil pass0 (pa_cons (pv 4) (pa_cons (pe_un un_neg (pe_glob (v := .int 1000000) rfl T.c_MOST_SHIFT ⟨_, rfl⟩)) (pa_cons (pe_glob (v := .int 1000000) rfl T.c_MOST_SHIFT ⟨_, rfl⟩) pa_nil)))))))))))), ?_⟩
    refine ⟨_, rfl, _, _, _, _, _, rfl, .ty _, d.ty, kit_kd t .tup (by decide), _, rfl, ?_⟩
    cases d
    case non => exact iteT (iteT q0)
    case bl => exact iteT (iteT q0)
    case int => exact iteT (iteT q0)
    case str => exact iteT (iteT q0)
    case lst h =>
      rw [landB_lst h] at q0
      exact iteT (iteT q0)
    case tup a xs h =>
      refine iteF ⟨_, rfl, a, xs, rfl, .inr (st_of h), rfl, _, rfl, ite2 (fun e => ?_) (fun e => ?_)⟩
      · have hl : xs.length ≠ 4 := fun z => by
          rw [z] at e
          exact absurd e (by decide)
        rw [landB_tup h, landL_len hl] at q0
        exact q0
      · have hl : xs.length = 4 := by
          have e2 := Bool.eq_false_iff.mpr e
          have e3 := of_decide_eq_true (by simpa using e2 : decide (V.int (xs.length : Int) = V.int 4) = true)
          have := V.int.inj e3
          omega
        obtain ⟨dd, tt, bb, ss, rfl⟩ : ∃ d t b s, xs = [d, t, b, s] := by
          match xs, hl with
          | [d, t, b, s], _ => exact ⟨d, t, b, s, rfl⟩
        have hd := hp a _ rfl h
        obtain ⟨kd, dd'⟩ := hd dd (by simp)
        obtain ⟨kt, dt'⟩ := hd tt (by simp)
        obtain ⟨kb, db'⟩ := hd bb (by simp)
        obtain ⟨ks, ds'⟩ := hd ss (by simp)
        have q1 : ∀ H1, Ex H H1 → Q (.bl (btw dd 1 400 && (btw bb 1 60 && (topB tt bb && btw ss (-1000000) 1000000)))) H1 := fun H1 e1 => by
          have z := q H1 e1
          rw [landB_tup h] at z
          exact z
        refine ⟨.ref a, rfl, a, _, rfl, st_of h, rfl, dd, _, rfl, tt, _, rfl, bb, _, rfl, ss, _, rfl, rfl, ?_⟩
        refine ⟨dd, rfl, dd, kd, 1, 400, rfl, dd', fun H1 e1 => ⟨_, rfl, ?_⟩⟩
        cases c1 : btw dd 1 400 with
        | false =>
          have z := q1 H1 e1
          rw [c1, Bool.false_and] at z
          exact iteF z
        | true =>
        rw [c1, Bool.true_and] at q1
        refine iteT ⟨bb, rfl, bb, kb, 1, 60, rfl, db'.ex e1, fun H2 e2 => ⟨_, rfl, ?_⟩⟩
        have e12 := e1.trans e2
        cases c2 : btw bb 1 60 with
        | false =>
          have z := q1 H2 e12
          rw [c2, Bool.false_and] at z
          exact iteF z
        | true =>
        rw [c2, Bool.true_and] at q1
        match bb, c2 with
        | .int b', c2 =>
        refine iteT ⟨tt, rfl, .int b', rfl, b', 1, rfl, rfl, tt, kt, 0, b' - 1, rfl, dt'.ex e12, fun H3 e3 => ⟨_, rfl, ?_⟩⟩
        have e123 := e12.trans e3
        cases c3 : btw tt 0 (b' - 1) with
        | false =>
          have z := q1 H3 e123
          rw [show topB tt (V.int b') = btw tt 0 (b' - 1) from rfl, c3, Bool.false_and] at z
          exact iteF z
        | true =>
          refine iteT ⟨ss, rfl, 1000000, rfl, ss, ks, -1000000, 1000000, rfl, ds'.ex e123, fun H4 e4 => ?_⟩
          have z := q1 H4 (e123.trans e4)
          rw [show topB tt (V.int b') = btw tt 0 (b' - 1) from rfl, c3, Bool.true_and] at z
          exact z
end

/-! ### a land at a value -/
def Land (H : Hp) (v : V) (D T B S : Int) : Prop := ∃ a, v = .ref a ∧ H a = some (.tup [.int D, .int T, .int B, .int S]) ∧ (1 ≤ D ∧ D ≤ 400) ∧ (0 ≤ T ∧ T < B) ∧ (1 ≤ B ∧ B ≤ 60) ∧ (-1000000 ≤ S ∧ S ≤ 1000000)
theorem Land.ex {H H' : Hp} {v : V} {D T B S : Int} (e : Ex H H') (h : Land H v D T B S) : Land H' v D T B S := by
  obtain ⟨a, rfl, ha, r⟩ := h
  exact ⟨a, rfl, e _ _ ha, r⟩
theorem btw_yes {i lo hi : Int} (h : lo ≤ i ∧ i ≤ hi) : btw (.int i) lo hi = true := by
  show (decide (lo ≤ i) && decide (i ≤ hi)) = true
  rw [decide_eq_true h.1, decide_eq_true h.2]
  rfl
theorem btw_iff {i lo hi : Int} : btw (.int i) lo hi = true ↔ (lo ≤ i ∧ i ≤ hi) := by
  show (decide (lo ≤ i) && decide (i ≤ hi)) = true ↔ _
  rw [Bool.and_eq_true, decide_eq_true_iff, decide_eq_true_iff]
theorem Land.is {H : Hp} {v : V} {D T B S : Int} (h : Land H v D T B S) : landB H v = true := by
  obtain ⟨a, rfl, ha, r1, r2, r3, r4⟩ := h
  rw [landB_tup ha]
  show (btw (.int D) 1 400 && (btw (.int B) 1 60 && (btw (.int T) 0 (B - 1) && btw (.int S) (-1000000) 1000000))) = true
  rw [btw_yes r1, btw_yes r3, btw_yes ⟨r2.1, by omega⟩, btw_yes r4]
  rfl
theorem Land.parts {H : Hp} {v : V} {D T B S : Int} (h : Land H v D T B S) : Parts H v ∧ Dat H v .tup := by
  obtain ⟨a, rfl, ha, _⟩ := h
  refine ⟨fun b xs e hb y hy => ?_, .tup ha⟩
  cases e
  rw [ha] at hb
  cases hb
  simp only [List.mem_cons, List.not_mem_nil, or_false] at hy
  rcases hy with rfl | rfl | rfl | rfl <;> exact ⟨_, .int _⟩
/-- the day on which a year begins; how many days of these are added -/
def fst (D T B S y : Int) : Int := ((D * B + T) * y + S) / B
def add (T B S y : Int) : Int := (T * y + S) / B
def yr (D T B S n : Int) : Int := ((n + 1) * B - S - 1) / (D * B + T)
theorem cm_l {i j : Int} (h : -1000000000 ≤ i ∧ i ≤ 1000000000) : CMul i j := .inl ⟨by omega, by omega⟩
theorem cm_r {i j : Int} (h : -1000000000 ≤ j ∧ j ≤ 1000000000) : CMul i j := .inr ⟨by omega, by omega⟩
theorem step_bd {D T B : Int} (r1 : 1 ≤ D ∧ D ≤ 400) (r2 : 0 ≤ T ∧ T < B) (r3 : 1 ≤ B ∧ B ≤ 60) : 1 ≤ D * B + T ∧ D * B + T ≤ 24060 := by
  have h1 : D * B ≤ 400 * B := Int.mul_le_mul_of_nonneg_right r1.2 (by omega)
  have h2 : 1 * B ≤ D * B := Int.mul_le_mul_of_nonneg_right r1.1 (by omega)
  omega

section
variable {P : Program} {w : World} {K : PySem.W.Frag} {mg : Str → Option Value} {base : Heap}
def spNeedLand : Sp := fun vs H Q _ => ∃ v D T B S, vs = [v] ∧ Land H v D T B S ∧ RetV .non H Q
theorem ok_need_land (T : Txt K mg) : FnOk P w K mg base CX0 4 T.need_land.f T.need_land.fd ["thing"] spNeedLand := by
  have G_is_land : FnOk P w K mg base CX0 3 T.is_land.f T.is_land.fd ["thing"] spIsLand := ok_is_land T
  refine T.need_land.F.ok sc_need_land (fun vs H Q E h => ?_) (fun cdv A outer s H vs Q E hr h => ?_)
  · obtain ⟨x, _, _, _, _, rfl, _⟩ := h
    rfl
  · obtain ⟨x, d, t, b, sh, rfl, hl, q⟩ := h
    refine ⟨_, (pss_one (ps_if (pt_not (pt_val (pe_call G_is_land (hr.mono (by omega)) (by rfl) T.is_land.g T.is_land.F.kp T.is_land.b .nil pass0 (pa_cons (pv 0) pa_nil))))
        (pss_one ps_never)
        pss_nil)), ?_⟩
    refine ⟨_, rfl, x, _, rfl, hl.parts.2, hl.parts.1, fun H1 e1 => ⟨_, rfl, ?_⟩⟩
    rw [hl.is]
    exact iteF (q H1 e1)
def spNum : Sp := fun vs H Q _ => ∃ i : Int, vs = [.int i] ∧ (-1000000000000000000000000000000 ≤ i ∧ i ≤ 1000000000000000000000000000000) ∧ RetV .non H Q
theorem ok_need_day (T : Txt K mg) : FnOk P w K mg base CX0 3 T.need_day.f T.need_day.fd ["thing"] spNum := by
  have G_is_between : FnOk P w K mg base CX0 2 T.is_between.f T.is_between.fd ["thing", "least", "most"] spBetween := ok_is_between T
  refine T.need_day.F.ok sc_need_day (fun vs H Q E h => ?_) (fun cdv A outer s H vs Q E hr h => ?_)
  · obtain ⟨i, rfl, _⟩ := h
    rfl
  · obtain ⟨i, rfl, hb, q⟩ := h
    refine ⟨_, (pss_one (ps_if (pt_not (pt_val (pe_call G_is_between (hr.mono (by omega)) (by rfl) T.is_between.g T.is_between.F.kp T.is_between.b .nil pass0 (pa_cons (pv 0) (pa_cons (pe_un un_neg (pe_glob (v := .int 1000000000000000000000000000000) rfl T.c_FARTHEST ⟨_, rfl⟩)) (pa_cons (pe_glob (v := .int 1000000000000000000000000000000) rfl T.c_FARTHEST ⟨_, rfl⟩) pa_nil))))))
        (pss_one ps_never)
        pss_nil)), ?_⟩
    refine ⟨_, rfl, _, rfl, _, _, _, _, rfl, .int i, fun H1 e1 => ⟨_, rfl, ?_⟩⟩
    rw [btw_yes hb]
    exact iteF (q H1 e1)

def spStep : Sp := fun vs H Q _ => ∃ v D T B S, vs = [v] ∧ Land H v D T B S ∧ RetV (.int (D * B + T)) H Q
theorem ok_step_of (T : Txt K mg) : FnOk P w K mg base CX0 1 T.step_of.f T.step_of.fd ["land"] spStep := by
  refine T.step_of.F.ok sc_step_of (fun vs H Q E h => ?_) (fun cdv A outer s H vs Q E hr h => ?_)
  · obtain ⟨x, _, _, _, _, rfl, _⟩ := h
    rfl
  · obtain ⟨x, D, T', B, S, rfl, ⟨a, rfl, ha, r1, r2, r3, r4⟩, q⟩ := h
    refine ⟨_, (pss_cons (ps_asg (pv 0) (pg_tup rfl (pgs_cons (pg_name (i := 1) sc_step_of.nd rfl (Or.inl rfl)) (pgs_cons (pg_name (i := 2) sc_step_of.nd rfl (Or.inl rfl)) (pgs_cons (pg_name (i := 3) sc_step_of.nd rfl (Or.inl rfl)) (pgs_cons (pg_name (i := 4) sc_step_of.nd rfl (Or.inl rfl)) pgs_nil))))))
      (pss_one (ps_ret (pe_op op_add (pe_op op_mul (pv 1) (pv 3)) (pv 2))))), ?_⟩
    refine ⟨_, rfl, a, _, rfl, st_of ha, rfl, _, _, rfl, _, _, rfl, _, _, rfl, _, _, rfl, rfl, ?_⟩
    exact ⟨_, rfl, _, rfl, _, _, rfl, rfl, cm_l (by omega), _, rfl, _, _, rfl, rfl, q H (Ex.refl H)⟩
def spFirst : Sp := fun vs H Q _ => ∃ v D T B S y, vs = [v, .int y] ∧ Land H v D T B S ∧ RetV (.int (fst D T B S y)) H Q
end

/-! ### the deck -/
def Dk (n : Nat) (H : Hp) (d : Addr) : Prop := ∃ x y z : Int, H d = some (.lst [.int x, .int y, .int z]) ∧ (0 ≤ y ∧ y < 2147483579) ∧ (0 ≤ z ∧ z ≤ (n : Int))
/-- all but the deck stands as it stood -/
def ExD (d : Addr) (H H' : Hp) : Prop := ∀ a o, a ≠ d → H a = some o → H' a = some o
theorem ExD.refl {d : Addr} {H : Hp} : ExD d H H := fun _ _ _ h => h
theorem ExD.trans {d : Addr} {H H1 H2 : Hp} (a : ExD d H H1) (b : ExD d H1 H2) : ExD d H H2 := fun x o n h => b x o n (a x o n h)
theorem ExD.of {d : Addr} {H H' : Hp} (e : Ex H H') : ExD d H H' := fun a o _ h => e a o h
theorem ExD.upd {d : Addr} {H : Hp} {o : HO} : ExD d H (upd H d o) := fun a u n h => by
  rw [upd_ne n]
  exact h
theorem Dk.ex {n : Nat} {H H' : Hp} {d : Addr} (e : Ex H H') (h : Dk n H d) : Dk n H' d := by
  obtain ⟨x, y, z, hd, r⟩ := h
  exact ⟨x, y, z, e _ _ hd, r⟩
theorem Dk.ne_tup {n : Nat} {H : Hp} {d a : Addr} {xs : List V} (h : Dk n H d) (ha : H a = some (.tup xs)) : a ≠ d := by
  obtain ⟨x, y, z, hd, r⟩ := h
  exact ne_of ha hd (fun z => by cases z)
theorem ExD.tup {n : Nat} {H H' : Hp} {d a : Addr} {xs : List V} (e : ExD d H H') (h : Dk n H d) (ha : H a = some (.tup xs)) : H' a = some (.tup xs) := e _ _ (h.ne_tup ha) ha
theorem ExD.land {n : Nat} {H H' : Hp} {d : Addr} {v : V} {D T B S : Int} (e : ExD d H H') (h : Dk n H d) (hl : Land H v D T B S) : Land H' v D T B S := by
  obtain ⟨a, rfl, ha, r⟩ := hl
  exact ⟨a, rfl, e.tup h ha, r⟩
/-- new addresses are new -/
theorem ExD.fresh {n : Nat} {d : Addr} {H H' : Hp} {p : Addr} (e : ExD d H H') (hd : Dk n H' d) (h : H' p = none) : H p = none := by
  cases q : H p with
  | none => rfl
  | some o =>
    by_cases hp : p = d
    · obtain ⟨x, y, z, h1, _⟩ := hd
      rw [hp, h1] at h
      cases h
    · rw [e _ _ hp q] at h
      cases h
section
variable {P : Program} {w : World} {K : PySem.W.Frag} {mg : Str → Option Value} {base : Heap}
def spDeck : Sp := fun vs H Q _ => ∃ (c : Int) (n : Nat), vs = [.int c, .int n] ∧ ∀ p H2, H p = none → Ex H H2 → Dk n H2 p → Q (.ref p) H2
theorem ok__law_deck (T : Txt K mg) : FnOk P w K mg base CX0 1 T._law_deck.f T._law_deck.fd ["cell", "turn"] spDeck := by
  refine T._law_deck.F.ok sc__law_deck (fun vs H Q E h => ?_) (fun cdv A outer s H vs Q E hr h => ?_)
  · obtain ⟨c, n, rfl, _⟩ := h
    rfl
  · obtain ⟨c, n, rfl, q⟩ := h
    have hm := Int.emod_nonneg c (show (2147483579 : Int) ≠ 0 by decide)
    have hm2 := Int.emod_lt_of_pos c (show (0 : Int) < 2147483579 by decide)
    refine ⟨_, (pss_cons (ps_if (pt_cmpR op_ge (pv 0) (pe_op op_pow pe_int pe_int) (nomark _))
        (pss_one (ps_ret (pe_lst (pa_cons (pe_op op_sub (pv 0) (pe_op op_pow pe_int pe_int)) (pa_cons (pe_op op_mod (pv 0) pe_int) (pa_cons (pv 1) pa_nil))))))
        pss_nil)
      (pss_one (ps_ret (pe_lst (pa_cons pe_int (pa_cons (pe_op op_mod (pv 0) pe_int) (pa_cons (pv 1) pa_nil))))))), ?_⟩
    refine ⟨_, rfl, _, _, rfl, rfl, ⟨by decide, by decide, by decide⟩, _, _, rfl, rfl, _, rfl, ite2 (fun e => ?_) (fun e => ?_)⟩
    · refine ⟨_, rfl, _, _, rfl, rfl, ⟨by decide, by decide, by decide⟩, _, _, rfl, rfl, _, rfl, _, _, rfl, rfl, by show (0 : Int) < 2147483579; decide, _, rfl, by show 3 ≤ sizeLine; decide, fun p hp => ?_⟩
      exact q p _ hp (Ex.new hp) ⟨_, _, _, upd_same, ⟨hm, hm2⟩, by omega, by omega⟩
    · refine ⟨_, rfl, _, _, rfl, rfl, by show (0 : Int) < 2147483579; decide, _, rfl, by show 3 ≤ sizeLine; decide, fun p hp => ?_⟩
      exact q p _ hp (Ex.new hp) ⟨_, _, _, upd_same, ⟨hm, hm2⟩, by omega, by omega⟩
def spPick : Sp := fun vs H Q _ => ∃ (d : Addr) (m : Int) (n : Nat), vs = [.ref d, .int m] ∧ Dk n H d ∧ n < 1000000 ∧ (0 < m ∧ m.natAbs < 2 ^ 100) ∧ ∀ r H', 0 ≤ r → r < m → ExD d H H' → Dk (n + 1) H' d → Q (.int r) H'
theorem ok__law_pick (T : Txt K mg) : FnOk P w K mg base CX0 1 T._law_pick.f T._law_pick.fd ["deck", "size"] spPick := by
  refine T._law_pick.F.ok sc__law_pick (fun vs H Q E h => ?_) (fun cdv A outer s H vs Q E hr h => ?_)
  · obtain ⟨d, m, n, rfl, _⟩ := h
    rfl
  · obtain ⟨d, m, n, rfl, ⟨x, y, z, hd, hy, hz⟩, hn, hm, q⟩ := h
    refine ⟨_, (pss_cons (ps_if (pt_cmpR op_gt (pe_ix ix_list (pv 0) pe_int (fun _ _ => rfl)) pe_int (nomark _))
        (pss_cons (ps_set (i := 2) sc__law_pick.nd rfl (Or.inl rfl) (pe_op op_mod (pe_ix ix_list (pv 0) pe_int (fun _ _ => rfl)) (pv 1)))
      (pss_cons (ps_asg (pe_op op_fdivW (pe_ix ix_list (pv 0) pe_int (fun _ _ => rfl)) (pv 1)) (pg_sub (pv 0) pe_int set_list))
      (pss_one (ps_ret (pv 2)))))
        pss_nil)
      (pss_cons (ps_asg (pe_op op_add (pe_ix ix_list (pv 0) pe_int (fun _ _ => rfl)) pe_int) (pg_sub (pv 0) pe_int set_list))
      (pss_cons (ps_set (i := 3) sc__law_pick.nd rfl (Or.inl rfl) (pe_op op_mod (pe_op op_pow (pe_op op_add (pe_ix ix_list (pv 0) pe_int (fun _ _ => rfl)) (pe_op op_mul pe_int (pe_ix ix_list (pv 0) pe_int (fun _ _ => rfl)))) pe_int) pe_int))
      (pss_cons (ps_set (i := 2) sc__law_pick.nd rfl (Or.inl rfl) (pe_op op_fdiv (pe_op op_mod (pe_op op_pow (pe_op op_add (pv 3) (pe_op op_mul pe_int (pe_ix ix_list (pv 0) pe_int (fun _ _ => rfl)))) pe_int) pe_int) pe_int))
      (pss_one (ps_ret (pe_op op_mod (pv 2) (pv 1)))))))), ?_⟩
    refine ⟨.ref d, rfl, d, _, 0, _, rfl, rfl, sq_of hd, rfl, _, _, rfl, rfl, _, rfl, ite2 (fun e => ?_) (fun e => ?_)⟩
    · refine ⟨.ref d, rfl, d, _, 0, _, rfl, rfl, sq_of hd, rfl, _, rfl, _, _, rfl, rfl, hm.1, ?_⟩
      refine ⟨.ref d, rfl, d, _, 0, _, rfl, rfl, sq_of hd, rfl, _, rfl, _, _, rfl, rfl, wide_div hm.1 hm.2 (by decide) (by decide), ?_⟩
      refine ⟨.ref d, rfl, d, _, _, _, rfl, rfl, hd, rfl, ?_⟩
      refine ⟨_, rfl, ?_⟩
      exact q _ _ (Int.emod_nonneg x (by omega)) (Int.emod_lt_of_pos x hm.1) ExD.upd ⟨_, _, _, upd_same, hy, by omega, by omega⟩
    · refine ⟨.ref d, rfl, d, _, 2, _, rfl, rfl, sq_of hd, rfl, _, _, rfl, rfl, ?_⟩
      refine ⟨.ref d, rfl, d, _, _, _, rfl, rfl, hd, rfl, ?_⟩
      have hd2 : upd H d (.lst ([V.int x, V.int y, V.int z].set 2 (.int (z + 1)))) d = some (.lst [.int x, .int y, .int (z + 1)]) := upd_same
      have hE : ExD d H (upd H d (.lst ([V.int x, V.int y, V.int z].set 2 (.int (z + 1))))) := ExD.upd
      revert hd2 hE
      show ∀ _ _, tSeq _ _ _ _ (upd H d (.lst ([V.int x, V.int y, V.int z].set 2 (.int (z + 1)))))
      generalize upd H d (.lst ([V.int x, V.int y, V.int z].set 2 (.int (z + 1)))) = H2
      intro hd2 hE
      refine ⟨.ref d, rfl, d, _, 1, _, rfl, rfl, sq_of hd2, rfl, .ref d, rfl, d, _, 2, _, rfl, rfl, sq_of hd2, rfl, _, _, rfl, rfl, cm_l (by omega), _, _, rfl, rfl, _, _, rfl, rfl, ⟨by decide, by decide, by omega⟩, _, _, rfl, rfl, by show (0 : Int) < 2147483647; decide, ?_⟩
      have g1 := Int.emod_nonneg ((y + 15485867 * (z + 1)) ^ (5 : Int).toNat) (show (2147483647 : Int) ≠ 0 by decide)
      have g2 := Int.emod_lt_of_pos ((y + 15485867 * (z + 1)) ^ (5 : Int).toNat) (show (0 : Int) < 2147483647 by decide)
      revert g1 g2
      generalize ((y + 15485867 * (z + 1)) ^ (5 : Int).toNat) % 2147483647 = N
      intro g1 g2
      refine ⟨_, rfl, .ref d, rfl, d, _, 2, _, rfl, rfl, sq_of hd2, rfl, _, _, rfl, rfl, cm_l (by omega), _, _, rfl, rfl, _, _, rfl, rfl, ⟨by decide, by decide, by omega⟩, _, _, rfl, rfl, by show (0 : Int) < 2147483629; decide, _, _, rfl, rfl, ⟨by decide, by decide⟩, ?_⟩
      refine ⟨_, rfl, _, rfl, _, _, rfl, rfl, hm.1, ?_⟩
      exact q _ _ (Int.emod_nonneg _ (by omega)) (Int.emod_lt_of_pos _ hm.1) hE ⟨_, _, _, hd2, hy, by omega, by omega⟩
def spOne : Sp := fun vs H Q _ => ∃ (d b : Addr) (xs : List V) (n : Nat), vs = [.ref d, .ref b] ∧ Dk n H d ∧ n < 1000000 ∧ H b = some (.lst xs) ∧ b ≠ d ∧ (0 < xs.length ∧ xs.length ≤ 1000) ∧
  ∀ v H', v ∈ xs → ExD d H H' → Dk (n + 1) H' d → Q v H'
theorem ok__law_one (T : Txt K mg) : FnOk P w K mg base CX0 2 T._law_one.f T._law_one.fd ["deck", "some"] spOne := by
  have G__law_pick : FnOk P w K mg base CX0 1 T._law_pick.f T._law_pick.fd ["deck", "size"] spPick := ok__law_pick T
  refine T._law_one.F.ok sc__law_one (fun vs H Q E h => ?_) (fun cdv A outer s H vs Q E hr h => ?_)
  · obtain ⟨d, m, xs, n, rfl, _⟩ := h
    rfl
  · obtain ⟨d, b, xs, n, rfl, hk, hn, hb, ne, hl, q⟩ := h
    refine ⟨_, (pss_one (ps_ret (pe_ix ix_list (pv 1) (pe_call G__law_pick (hr.mono (by omega)) (by rfl) T._law_pick.g T._law_pick.F.kp T._law_pick.b .nil pass0 (pa_cons (pv 0) (pa_cons (pe_callB call_len_seq (by rfl) T.len (by decide +kernel) (pa_cons (pv 1) pa_nil)) pa_nil))) (fun _ _ => rfl)))), ?_⟩
    refine ⟨_, rfl, _, rfl, _, rfl, b, xs, rfl, .inl (sq_of hb), d, _, n, rfl, hk, hn, ⟨by omega, by omega⟩, fun r H1 h0 h1 e1 k1 => ?_⟩
    have hr : r.toNat < xs.length := by omega
    refine ⟨b, xs, r, xs[r.toNat], rfl, rfl, sq_of (e1 _ _ ne hb), ?_, q _ _ (List.getElem_mem hr) e1 k1⟩
    exact at_of (j := r.toNat) (by omega) (List.getElem?_eq_getElem hr)
end

/-! ### drawn lands, far numbers -/
section
variable {P : Program} {w : World} {K : PySem.W.Frag} {mg : Str → Option Value} {base : Heap}
def spDraw : Sp := fun vs H Q _ => ∃ (d : Addr) (L M N : Int) (n : Nat), vs = [.ref d, .int L, .int M, .int N] ∧ Dk n H d ∧ n < 900000 ∧ (1 ≤ L ∧ L ≤ 400) ∧ (1 ≤ M ∧ M ≤ 60) ∧ (0 ≤ N ∧ N ≤ 1000000) ∧
  ∀ v H' D T B S, Land H' v D T B S → D ≤ L → B ≤ M → -N ≤ S → S ≤ N → ExD d H H' → Dk (n + 4) H' d → Q v H'
theorem ok__law_land (T : Txt K mg) : FnOk P w K mg base CX0 2 T._law_land.f T._law_land.fd ["deck", "long_so", "bottoms", "shifts"] spDraw := by
  have G__law_pick : FnOk P w K mg base CX0 1 T._law_pick.f T._law_pick.fd ["deck", "size"] spPick := ok__law_pick T
  refine T._law_land.F.ok sc__law_land (fun vs H Q E h => ?_) (fun cdv A outer s H vs Q E hr h => ?_)
  · obtain ⟨d, L, M, N, n, rfl, _⟩ := h
    rfl
  · obtain ⟨d, L, M, N, n, rfl, hk, hn, hL, hM, hN, q⟩ := h
    refine ⟨_, (pss_cons (ps_set (i := 4) sc__law_land.nd rfl (Or.inl rfl) (pe_op op_add pe_int (pe_call G__law_pick (hr.mono (by omega)) (by rfl) T._law_pick.g T._law_pick.F.kp T._law_pick.b .nil pass0 (pa_cons (pv 0) (pa_cons (pv 2) pa_nil)))))
      (pss_cons (ps_set (i := 5) sc__law_land.nd rfl (Or.inl rfl) (pe_op op_sub (pe_call G__law_pick (hr.mono (by omega)) (by rfl) T._law_pick.g T._law_pick.F.kp T._law_pick.b .nil pass0 (pa_cons (pv 0) (pa_cons (pe_op op_add (pe_op op_mul pe_int (pv 3)) pe_int) pa_nil))) (pv 3)))
      (pss_one (ps_ret (pe_tup (pa_cons (pe_op op_add pe_int (pe_call G__law_pick (hr.mono (by omega)) (by rfl) T._law_pick.g T._law_pick.F.kp T._law_pick.b .nil pass0 (pa_cons (pv 0) (pa_cons (pv 1) pa_nil)))) (pa_cons (pe_call G__law_pick (hr.mono (by omega)) (by rfl) T._law_pick.g T._law_pick.F.kp T._law_pick.b .nil pass0 (pa_cons (pv 0) (pa_cons (pv 4) pa_nil))) (pa_cons (pv 4) (pa_cons (pv 5) pa_nil))))))))), ?_⟩
    refine ⟨_, rfl, _, rfl, d, M, n, rfl, hk, by omega, ⟨by omega, by omega⟩, fun b H1 b0 b1 e1 k1 => ⟨_, _, rfl, rfl, ?_⟩⟩
    refine ⟨_, rfl, _, rfl, _, _, rfl, rfl, cm_l (by omega), _, _, rfl, rfl, d, _, n + 1, rfl, k1, by omega, ⟨by omega, by omega⟩, fun sh H2 s0 s1 e2 k2 => ⟨_, rfl, _, _, rfl, rfl, ?_⟩⟩
    refine ⟨_, rfl, _, rfl, d, L, n + 2, rfl, k2, by omega, ⟨by omega, by omega⟩, fun dd H3 d0 d1 e3 k3 => ⟨_, _, rfl, rfl, ?_⟩⟩
    refine ⟨_, rfl, _, rfl, d, 1 + b, n + 3, rfl, k3, by omega, ⟨by omega, by omega⟩, fun tt H4 t0 t1 e4 k4 => ?_⟩
    refine ⟨_, rfl, _, rfl, by show 4 ≤ sizeLine; decide, fun p hp => ?_⟩
    exact q _ _ (1 + dd) tt (1 + b) (sh - N) ⟨p, rfl, upd_same, ⟨by omega, by omega⟩, ⟨by omega, by omega⟩, ⟨by omega, by omega⟩, ⟨by omega, by omega⟩⟩ (by omega) (by omega) (by omega) (by omega)
      (((e1.trans e2).trans (e3.trans e4)).trans (ExD.of (Ex.new hp))) (k4.ex (Ex.new hp))
def spAny : Sp := fun vs H Q _ => ∃ (d : Addr) (n : Nat), vs = [.ref d] ∧ Dk n H d ∧ n < 800000 ∧ ∀ v H' D T B S, Land H' v D T B S → ExD d H H' → Dk (n + 5) H' d → Q v H'
theorem ok__law_any (T : Txt K mg) : FnOk P w K mg base CX0 3 T._law_any.f T._law_any.fd ["deck"] spAny := by
  have G__law_one : FnOk P w K mg base CX0 2 T._law_one.f T._law_one.fd ["deck", "some"] spOne := ok__law_one T
  have G__law_land : FnOk P w K mg base CX0 2 T._law_land.f T._law_land.fd ["deck", "long_so", "bottoms", "shifts"] spDraw := ok__law_land T
  refine T._law_any.F.ok sc__law_any (fun vs H Q E h => ?_) (fun cdv A outer s H vs Q E hr h => ?_)
  · obtain ⟨d, n, rfl, _⟩ := h
    rfl
  · obtain ⟨d, n, rfl, hk, hn, q⟩ := h
    refine ⟨_, (pss_cons (ps_asg (pe_call G__law_one (hr.mono (by omega)) (by rfl) T._law_one.g T._law_one.F.kp T._law_one.b .nil pass0 (pa_cons (pv 0) (pa_cons (pe_lst (pa_cons (pe_tup (pa_cons pe_int (pa_cons pe_int (pa_cons pe_int pa_nil)))) (pa_cons (pe_tup (pa_cons pe_int (pa_cons pe_int (pa_cons pe_int pa_nil)))) (pa_cons (pe_tup (pa_cons pe_int (pa_cons pe_int (pa_cons (pe_op op_pow pe_int pe_int) pa_nil)))) pa_nil)))) pa_nil))) (pg_tup rfl (pgs_cons (pg_name (i := 1) sc__law_any.nd rfl (Or.inl rfl)) (pgs_cons (pg_name (i := 2) sc__law_any.nd rfl (Or.inl rfl)) (pgs_cons (pg_name (i := 3) sc__law_any.nd rfl (Or.inl rfl)) pgs_nil)))))
      (pss_one (ps_ret (pe_call G__law_land (hr.mono (by omega)) (by rfl) T._law_land.g T._law_land.F.kp T._law_land.b .nil pass0 (pa_cons (pv 0) (pa_cons (pv 1) (pa_cons (pv 2) (pa_cons (pv 3) pa_nil)))))))), ?_⟩
    refine ⟨_, rfl, by show 3 ≤ sizeLine; decide, fun p1 n1 => ?_⟩
    refine ⟨by show 3 ≤ sizeLine; decide, fun p2 n2 => ?_⟩
    refine ⟨_, _, rfl, rfl, ⟨by decide, by decide, by decide⟩, by show 3 ≤ sizeLine; decide, fun p3 n3 => ?_⟩
    refine ⟨by show 3 ≤ sizeLine; decide, fun p4 n4 => ?_⟩
    have x1 := Ex.new (o := .tup [.int 9, .int 5, .int 9]) n1
    have x2 := Ex.new (o := .tup [.int 30, .int 60, .int 99]) n2
    have x3 := Ex.new (o := .tup [.int 400, .int 60, .int ((10 : Int) ^ (6 : Int).toNat)]) n3
    have x4 := Ex.new (o := .lst [.ref p1, .ref p2, .ref p3]) n4
    have k4 := (((hk.ex x1).ex x2).ex x3).ex x4
    have a1 := x4 _ _ (x3 _ _ (x2 _ _ (upd_same (H := H) (a := p1) (o := .tup [.int 9, .int 5, .int 9]))))
    have a2 := x4 _ _ (x3 _ _ (upd_same (a := p2) (o := .tup [.int 30, .int 60, .int 99])))
    have a3 := x4 _ _ (upd_same (a := p3) (o := .tup [.int 400, .int 60, .int ((10 : Int) ^ (6 : Int).toNat)]))
    have nd : p4 ≠ d := fun z => by
      obtain ⟨_, _, _, hd, _⟩ := ((hk.ex x1).ex x2).ex x3
      rw [z, hd] at n4
      cases n4
    refine ⟨d, p4, _, n, rfl, k4, by omega, upd_same, nd, ⟨by show 0 < 3; decide, by show 3 ≤ 1000; decide⟩, fun v H5 hv e5 k5 => ?_⟩
    obtain ⟨p, L, M, N, rfl, hp, hL, hM, hN⟩ : ∃ (p : Addr) (L M N : Int), v = .ref p ∧ H5 p = some (.tup [.int L, .int M, .int N]) ∧ (1 ≤ L ∧ L ≤ 400) ∧ (1 ≤ M ∧ M ≤ 60) ∧ (0 ≤ N ∧ N ≤ 1000000) := by
      simp only [List.mem_cons, List.not_mem_nil, or_false] at hv
      rcases hv with hv | hv | hv
      · exact ⟨p1, _, _, _, hv, e5.tup k4 a1, ⟨by decide, by decide⟩, ⟨by decide, by decide⟩, ⟨by decide, by decide⟩⟩
      · exact ⟨p2, _, _, _, hv, e5.tup k4 a2, ⟨by decide, by decide⟩, ⟨by decide, by decide⟩, ⟨by decide, by decide⟩⟩
      · exact ⟨p3, _, _, _, hv, e5.tup k4 a3, ⟨by decide, by decide⟩, ⟨by decide, by decide⟩, ⟨by decide, by decide⟩⟩
    refine ⟨p, _, rfl, st_of hp, rfl, _, _, rfl, _, _, rfl, _, _, rfl, rfl, ?_⟩
    refine ⟨_, rfl, _, rfl, _, rfl, _, rfl, d, L, M, N, n + 1, rfl, k5, by omega, hL, hM, hN, fun u H6 D T' B S hl _ _ _ _ e6 k6 => ?_⟩
    exact q u H6 D T' B S hl ((ExD.of (((x1.trans x2).trans x3).trans x4)).trans (e5.trans e6)) k6

def spFar : Sp := fun vs H Q _ => ∃ (d : Addr) (n : Nat), vs = [.ref d] ∧ Dk n H d ∧ n < 900000 ∧ ∀ (i : Int) H', -1000000000000000000000000000 < i → i < 1000000000000000000000000000 → ExD d H H' → Dk (n + 5) H' d → Q (.int i) H'
theorem ok__law_far (T : Txt K mg) : FnOk P w K mg base CX0 3 T._law_far.f T._law_far.fd ["deck"] spFar := by
  have G__law_one : FnOk P w K mg base CX0 2 T._law_one.f T._law_one.fd ["deck", "some"] spOne := ok__law_one T
  have G__law_pick : FnOk P w K mg base CX0 1 T._law_pick.f T._law_pick.fd ["deck", "size"] spPick := ok__law_pick T
  refine T._law_far.F.ok sc__law_far (fun vs H Q E h => ?_) (fun cdv A outer s H vs Q E hr h => ?_)
  · obtain ⟨d, n, rfl, _⟩ := h
    rfl
  · obtain ⟨d, n, rfl, hk, hn, q⟩ := h
    refine ⟨_, (pss_cons (ps_set (i := 1) sc__law_far.nd rfl (Or.inl rfl) (pe_call G__law_one (hr.mono (by omega)) (by rfl) T._law_one.g T._law_one.F.kp T._law_one.b .nil pass0 (pa_cons (pv 0) (pa_cons (pe_lst (pa_cons (pe_call G__law_pick (hr.mono (by omega)) (by rfl) T._law_pick.g T._law_pick.F.kp T._law_pick.b .nil pass0 (pa_cons (pv 0) (pa_cons pe_int pa_nil))) (pa_cons (pe_call G__law_pick (hr.mono (by omega)) (by rfl) T._law_pick.g T._law_pick.F.kp T._law_pick.b .nil pass0 (pa_cons (pv 0) (pa_cons (pe_op op_pow pe_int pe_int) pa_nil))) (pa_cons (pe_call G__law_pick (hr.mono (by omega)) (by rfl) T._law_pick.g T._law_pick.F.kp T._law_pick.b .nil pass0 (pa_cons (pv 0) (pa_cons (pe_op op_pow pe_int pe_int) pa_nil))) pa_nil)))) pa_nil))))
      (pss_one (ps_ret (pe_ifExp (pt_cmpR op_eq (pe_call G__law_pick (hr.mono (by omega)) (by rfl) T._law_pick.g T._law_pick.F.kp T._law_pick.b .nil pass0 (pa_cons (pv 0) (pa_cons pe_int pa_nil))) pe_int (nomark _)) (pv 1) (pe_op op_sub pe_int (pv 1)))))), ?_⟩
    refine ⟨_, rfl, _, rfl, d, 30, n, rfl, hk, by omega, ⟨by decide, by decide⟩, fun a H1 a0 a1 e1 k1 => ?_⟩
    refine ⟨_, rfl, _, _, rfl, rfl, ⟨by decide, by decide, by decide⟩, d, _, n + 1, rfl, k1, by omega, ⟨by decide, by decide⟩, fun b H2 b0 b1 e2 k2 => ?_⟩
    refine ⟨_, rfl, _, _, rfl, rfl, ⟨by decide, by decide, by decide⟩, d, _, n + 2, rfl, k2, by omega, ⟨by decide, by decide⟩, fun c H3 c0 c1 e3 k3 => ?_⟩
    have b1' : b < 1000000000 := b1
    have c1' : c < 1000000000000000000000000000 := c1
    refine ⟨by show 3 ≤ sizeLine; decide, fun p hp => ?_⟩
    have x := Ex.new (o := .lst [.int a, .int b, .int c]) hp
    have k4 := k3.ex x
    have nd : p ≠ d := fun z => by
      obtain ⟨_, _, _, hd, _⟩ := k3
      rw [z, hd] at hp
      cases hp
    refine ⟨d, p, _, n + 3, rfl, k4, by omega, upd_same, nd, ⟨by show 0 < 3; decide, by show 3 ≤ 1000; decide⟩, fun v H5 hv e5 k5 => ?_⟩
    obtain ⟨i, rfl, i0, i1⟩ : ∃ i : Int, v = .int i ∧ 0 ≤ i ∧ i < 1000000000000000000000000000 := by
      simp only [List.mem_cons, List.not_mem_nil, or_false] at hv
      rcases hv with rfl | rfl | rfl
      · exact ⟨a, rfl, by omega, by omega⟩
      · exact ⟨b, rfl, by omega, by omega⟩
      · exact ⟨c, rfl, by omega, by omega⟩
    refine ⟨_, rfl, d, 2, n + 4, rfl, k5, by omega, ⟨by decide, by decide⟩, fun r H6 r0 r1 e6 k6 => ?_⟩
    have eT : ExD d H H6 := (e1.trans e2).trans (e3.trans ((ExD.of x).trans (e5.trans e6)))
    refine ⟨rfl, _, rfl, ite2 (fun _ => ?_) (fun _ => ?_)⟩
    · exact ⟨_, rfl, q i H6 (by omega) (by omega) eT k6⟩
    · exact ⟨_, rfl, _, _, rfl, rfl, q (0 - i) H6 (by omega) (by omega) eT k6⟩

/-! ### begins by the law's own words -/
def beg (D T B S y : Int) : Int := D * y + (T * y + S) / B
theorem beg_fst {D T B S y : Int} (hB : 1 ≤ B) : beg D T B S y = fst D T B S y := by
  unfold beg fst
  have e : (D * B + T) * y + S = (T * y + S) + B * (D * y) := by
    rw [Int.add_mul, Int.mul_right_comm, Int.mul_comm (D * y) B]
    omega
  rw [e, Int.add_mul_ediv_left _ _ (by omega)]
  omega
def spBeg : Sp := fun vs H Q _ => ∃ v D T B S y, vs = [v, .int y] ∧ Land H v D T B S ∧ RetV (.int (fst D T B S y)) H Q
theorem ok__law_begin (T : Txt K mg) : FnOk P w K mg base CX0 1 T._law_begin.f T._law_begin.fd ["land", "year"] spBeg := by
  refine T._law_begin.F.ok sc__law_begin (fun vs H Q E h => ?_) (fun cdv A outer s H vs Q E hr h => ?_)
  · obtain ⟨x, _, _, _, _, _, rfl, _⟩ := h
    rfl
  · obtain ⟨x, D, T', B, S, y, rfl, ⟨a, rfl, ha, r1, r2, r3, r4⟩, q⟩ := h
    have q0 := q H (Ex.refl H)
    rw [← beg_fst r3.1] at q0
    refine ⟨_, (pss_one (ps_ret (pe_op op_add (pe_op op_mul (pe_ix ix_tup (pv 0) pe_int (fun _ _ => rfl)) (pv 1)) (pe_op op_fdiv (pe_op op_add (pe_op op_mul (pe_ix ix_tup (pv 0) pe_int (fun _ _ => rfl)) (pv 1)) (pe_ix ix_tup (pv 0) pe_int (fun _ _ => rfl))) (pe_ix ix_tup (pv 0) pe_int (fun _ _ => rfl)))))), ?_⟩
    refine ⟨_, rfl, a, _, 0, _, rfl, rfl, st_of ha, rfl, _, rfl, _, _, rfl, rfl, cm_l (by omega), ?_⟩
    refine ⟨_, rfl, a, _, 1, _, rfl, rfl, st_of ha, rfl, _, rfl, _, _, rfl, rfl, cm_l (by omega), ?_⟩
    refine ⟨_, rfl, a, _, 3, _, rfl, rfl, st_of ha, rfl, _, _, rfl, rfl, ?_⟩
    exact ⟨_, rfl, a, _, 2, _, rfl, rfl, st_of ha, rfl, _, _, rfl, rfl, ⟨by omega, by omega⟩, _, _, rfl, rfl, q0⟩

theorem ok__law_step (T : Txt K mg) : FnOk P w K mg base CX0 1 T._law_step.f T._law_step.fd ["land"] spStep := by
  refine T._law_step.F.ok sc__law_step (fun vs H Q E h => ?_) (fun cdv A outer s H vs Q E hr h => ?_)
  · obtain ⟨x, _, _, _, _, rfl, _⟩ := h
    rfl
  · obtain ⟨x, D, T', B, S, rfl, ⟨a, rfl, ha, r1, r2, r3, r4⟩, q⟩ := h
    refine ⟨_, (pss_one (ps_ret (pe_op op_add (pe_op op_mul (pe_ix ix_tup (pv 0) pe_int (fun _ _ => rfl)) (pe_ix ix_tup (pv 0) pe_int (fun _ _ => rfl))) (pe_ix ix_tup (pv 0) pe_int (fun _ _ => rfl))))), ?_⟩
    refine ⟨_, rfl, a, _, 0, _, rfl, rfl, st_of ha, rfl, _, rfl, a, _, 2, _, rfl, rfl, st_of ha, rfl, _, _, rfl, rfl, cm_l (by omega), ?_⟩
    exact ⟨_, rfl, a, _, 1, _, rfl, rfl, st_of ha, rfl, _, _, rfl, rfl, q H (Ex.refl H)⟩

end

/-! ### sameness -/
def Kd.sort : Kd → Int
  | .bl => 1 | .int => 2 | .str => 3 | .lst => 4 | .tup => 5 | .non => 6
section
variable {P : Program} {w : World} {K : PySem.W.Frag} {mg : Str → Option Value} {base : Heap}
def spSort : Sp := fun vs H Q _ => ∃ x t, vs = [x] ∧ Dat H x t ∧ RetV (.int t.sort) H Q
end
/-- x and y are the same data, to the depth n -/
inductive Sm (H : Hp) : Nat → V → V → Prop where
  | non {n : Nat} : Sm H n .non .non
  | bl {n : Nat} (b : Bool) : Sm H n (.bl b) (.bl b)
  | int {n : Nat} (i : Int) : Sm H n (.int i) (.int i)
  | str {n : Nat} (x : Str) : Sm H n (.str x) (.str x)
  | lst {n : Nat} {a b : Addr} {xs ys : List V} (ha : H a = some (.lst xs)) (hb : H b = some (.lst ys)) (hl : xs.length = ys.length) (hz : xs.length ≤ 1000) (h : ∀ (i : Nat) (x y : V), xs[i]? = some x → ys[i]? = some y → Sm H n x y) : Sm H (n + 1) (.ref a) (.ref b)
  | tup {n : Nat} {a b : Addr} {xs ys : List V} (ha : H a = some (.tup xs)) (hb : H b = some (.tup ys)) (hl : xs.length = ys.length) (hz : xs.length ≤ 1000) (h : ∀ (i : Nat) (x y : V), xs[i]? = some x → ys[i]? = some y → Sm H n x y) : Sm H (n + 1) (.ref a) (.ref b)
theorem Sm.ex {H H' : Hp} {n : Nat} {x y : V} (e : Ex H H') (h : Sm H n x y) : Sm H' n x y := by
  induction h with
  | non => exact .non
  | bl b => exact .bl b
  | int i => exact .int i
  | str x => exact .str x
  | lst ha hb hl hz _ ih => exact .lst (e _ _ ha) (e _ _ hb) hl hz ih
  | tup ha hb hl hz _ ih => exact .tup (e _ _ ha) (e _ _ hb) hl hz ih
theorem Sm.kd {H : Hp} {n : Nat} {x y : V} (h : Sm H n x y) : ∃ t, Dat H x t ∧ Dat H y t := by
  cases h with
  | non => exact ⟨_, .non, .non⟩
  | bl b => exact ⟨_, .bl b, .bl b⟩
  | int i => exact ⟨_, .int i, .int i⟩
  | str x => exact ⟨_, .str x, .str x⟩
  | lst ha hb _ _ _ => exact ⟨_, .lst ha, .lst hb⟩
  | tup ha hb _ _ _ => exact ⟨_, .tup ha, .tup hb⟩
def spSame : Nat → Sp
  | 0 => fun _ _ _ _ => False
  | n + 1 => fun vs H Q _ => ∃ x y, vs = [x, y] ∧ Sm H n x y ∧ RetV (.bl true) H Q
section
variable {P : Program} {w : World} {K : PySem.W.Frag} {mg : Str → Option Value} {base : Heap}
end

/-! ### the mathematics of one land -/
theorem mul_bd {x b K L : Int} (hx : -K ≤ x ∧ x ≤ K) (hb : 0 ≤ b ∧ b ≤ L) (hK : 0 ≤ K) : -(K * L) ≤ x * b ∧ x * b ≤ K * L := by
  have h1 : x * b ≤ K * b := Int.mul_le_mul_of_nonneg_right hx.2 hb.1
  have h2 : -K * b ≤ x * b := Int.mul_le_mul_of_nonneg_right hx.1 hb.1
  have h3 : K * b ≤ K * L := Int.mul_le_mul_of_nonneg_left hb.2 hK
  rw [Int.neg_mul] at h2
  omega
theorem div_bd {a s M : Int} (hs : 1 ≤ s) (ha : -M ≤ a ∧ a ≤ M) (hM : 0 ≤ M) : -M ≤ a / s ∧ a / s ≤ M := by
  have h1 : M * 1 ≤ M * s := Int.mul_le_mul_of_nonneg_left hs hM
  constructor
  · rw [Int.le_ediv_iff_mul_le (by omega), Int.neg_mul]
    omega
  · have h2 : a / s < M + 1 := by
      rw [Int.ediv_lt_iff_lt_mul (by omega), Int.add_mul]
      omega
    omega
theorem add_step {T B S y : Int} (hT : 0 ≤ T ∧ T < B) : add T B S y ≤ add T B S (y + 1) ∧ add T B S (y + 1) ≤ add T B S y + 1 := by
  have hB : 0 < B := by omega
  unfold add
  rw [Int.mul_add, Int.mul_one]
  have e := Int.mul_ediv_add_emod (T * y + S) B
  have r0 := Int.emod_nonneg (T * y + S) (show B ≠ 0 by omega)
  have r1 := Int.emod_lt_of_pos (T * y + S) hB
  constructor
  · rw [Int.le_ediv_iff_mul_le hB, Int.mul_comm]
    omega
  · have h : (T * y + T + S) / B < (T * y + S) / B + 1 + 1 := by
      rw [Int.ediv_lt_iff_lt_mul hB, Int.add_mul, Int.add_mul, Int.mul_comm _ B, Int.one_mul]
      omega
    omega
theorem fst_beg {D T B S y : Int} (hB : 1 ≤ B) : fst D T B S y = D * y + add T B S y := by
  unfold fst add
  have e : (D * B + T) * y + S = (T * y + S) + B * (D * y) := by
    rw [Int.add_mul, Int.mul_right_comm, Int.mul_comm (D * y) B]
    omega
  rw [e, Int.add_mul_ediv_left _ _ (by omega)]
  omega
theorem fst_succ {D T B S y : Int} (hB : 1 ≤ B) : fst D T B S (y + 1) - fst D T B S y = D + (add T B S (y + 1) - add T B S y) := by
  rw [fst_beg hB, fst_beg hB, Int.mul_add, Int.mul_one]
  omega
theorem fst_le {D T B S y n : Int} (hB : 1 ≤ B) (hs : 1 ≤ D * B + T) : fst D T B S y ≤ n ↔ y ≤ yr D T B S n := by
  unfold yr fst
  rw [Int.le_ediv_iff_mul_le (by omega), ← Int.lt_add_one_iff, Int.ediv_lt_iff_lt_mul (by omega), Int.mul_comm y]
  omega
theorem yr_spec {D T B S n : Int} (hB : 1 ≤ B) (hs : 1 ≤ D * B + T) : fst D T B S (yr D T B S n) ≤ n ∧ n < fst D T B S (yr D T B S n + 1) := by
  constructor
  · exact (fst_le hB hs).mpr (Int.le_refl _)
  · have h := mt (fst_le (D := D) (T := T) (B := B) (S := S) (y := yr D T B S n + 1) (n := n) hB hs).mp (by omega)
    omega
theorem yr_eq {D T B S n y : Int} (hB : 1 ≤ B) (hs : 1 ≤ D * B + T) (h1 : fst D T B S y ≤ n) (h2 : n < fst D T B S (y + 1)) : yr D T B S n = y := by
  have a1 := (fst_le hB hs).mp h1
  have a2 := mt (fst_le (D := D) (T := T) (B := B) (S := S) (y := y + 1) (n := n) hB hs).mpr (by omega)
  omega
theorem yr_bd {D T B S n : Int} (r1 : 1 ≤ D ∧ D ≤ 400) (r2 : 0 ≤ T ∧ T < B) (r3 : 1 ≤ B ∧ B ≤ 60) (r4 : -1000000 ≤ S ∧ S ≤ 1000000) {M : Int} (hM : 0 ≤ M) (hn : -M ≤ n ∧ n ≤ M) :
    -((M + 1) * 60 + 1000001) ≤ yr D T B S n ∧ yr D T B S n ≤ (M + 1) * 60 + 1000001 := by
  have hs := step_bd r1 r2 r3
  have h := mul_bd (x := n + 1) (b := B) (K := M + 1) (L := 60) (by omega) (by omega) (by omega)
  unfold yr
  exact div_bd hs.1 (by omega) (by omega)
theorem fst_bd {D T B S y : Int} (r1 : 1 ≤ D ∧ D ≤ 400) (r2 : 0 ≤ T ∧ T < B) (r3 : 1 ≤ B ∧ B ≤ 60) (r4 : -1000000 ≤ S ∧ S ≤ 1000000) {M : Int} (hM : 0 ≤ M) (hn : -M ≤ y ∧ y ≤ M) :
    -(M * 401 + 1000000) ≤ fst D T B S y ∧ fst D T B S y ≤ M * 401 + 1000000 := by
  have hd : D * B ≤ 400 * B := Int.mul_le_mul_of_nonneg_right r1.2 (by omega)
  have hd0 : 0 ≤ D * B := Int.mul_nonneg (by omega) (by omega)
  have h := mul_bd (x := y) (b := D * B + T) (K := M) (L := 401 * B) hn (by omega) hM
  rw [Int.mul_comm y] at h
  have e : M * (401 * B) = (M * 401) * B := by rw [Int.mul_assoc]
  rw [e] at h
  unfold fst
  have hB : 0 < B := by omega
  generalize (D * B + T) * y = Z at h ⊢
  constructor
  · rw [Int.le_ediv_iff_mul_le hB, Int.neg_mul, Int.add_mul]
    omega
  · have g : (Z + S) / B < M * 401 + 1000000 + 1 := by
      rw [Int.ediv_lt_iff_lt_mul hB, Int.add_mul, Int.add_mul]
      omega
    omega
theorem fst_round {D T B S y : Int} (hB : 1 ≤ B) : fst D T B S (y + B) = fst D T B S y + (D * B + T) := by
  unfold fst
  have e : (D * B + T) * (y + B) + S = ((D * B + T) * y + S) + (D * B + T) * B := by
    rw [Int.mul_add]
    omega
  rw [e]
  exact Int.add_mul_ediv_right _ _ (by omega)
/-- how many of the n years from y on are long -/
def longs (T B S y : Int) (n : Nat) : Nat := ((List.range n).filter fun (i : Nat) => decide (add T B S (y + (i : Int) + 1) > add T B S (y + (i : Int)))).length
theorem longs_eq {T B S y : Int} (hT : 0 ≤ T ∧ T < B) (n : Nat) : (longs T B S y n : Int) = add T B S (y + n) - add T B S y := by
  induction n with
  | zero =>
    have e : y + ((0 : Nat) : Int) = y := by omega
    rw [e]
    show ((0 : Nat) : Int) = _
    omega
  | succ n ih =>
    have hst := add_step (S := S) (y := y + (n : Int)) hT
    unfold longs at ih ⊢
    rw [List.range_succ, List.filter_append, List.length_append, List.filter_cons]
    have e : y + ((n + 1 : Nat) : Int) = y + (n : Int) + 1 := by omega
    rw [e]
    by_cases h : add T B S (y + (n : Int) + 1) > add T B S (y + (n : Int))
    · rw [if_pos (decide_eq_true h)]
      show ((_ + ([n].length) : Nat) : Int) = _
      have : [n].length = 1 := rfl
      omega
    · rw [if_neg (by rw [decide_eq_false h]; decide)]
      show ((_ + ([] : List Nat).length : Nat) : Int) = _
      have : ([] : List Nat).length = 0 := rfl
      omega
theorem add_bds {T B S y m : Int} (hT : 0 ≤ T ∧ T < B) : m * T / B ≤ add T B S (y + m) - add T B S y ∧ add T B S (y + m) - add T B S y ≤ (m * T + B - 1) / B := by
  have hB : 0 < B := by omega
  unfold add
  rw [Int.mul_add, Int.mul_comm T m]
  have e := Int.mul_ediv_add_emod (T * y + S) B
  have r0 := Int.emod_nonneg (T * y + S) (show B ≠ 0 by omega)
  have r1 := Int.emod_lt_of_pos (T * y + S) hB
  have e2 := Int.mul_ediv_add_emod (m * T) B
  have q0 := Int.emod_nonneg (m * T) (show B ≠ 0 by omega)
  have q1 := Int.emod_lt_of_pos (m * T) hB
  have e3 := Int.mul_ediv_add_emod (T * y + m * T + S) B
  have u0 := Int.emod_nonneg (T * y + m * T + S) (show B ≠ 0 by omega)
  have u1 := Int.emod_lt_of_pos (T * y + m * T + S) hB
  constructor
  · have h : m * T / B + (T * y + S) / B ≤ (T * y + m * T + S) / B := by
      rw [Int.le_ediv_iff_mul_le hB, Int.add_mul, Int.mul_comm _ B, Int.mul_comm _ B]
      omega
    omega
  · rw [Int.le_ediv_iff_mul_le hB, Int.sub_mul, Int.mul_comm _ B, Int.mul_comm _ B]
    omega
theorem add_round {T B S : Int} (hB : 1 ≤ B) : add T B S (0 + B) - add T B S 0 = T := by
  unfold add
  rw [Int.zero_add, Int.mul_zero, Int.add_comm (T * B), Int.add_mul_ediv_right _ _ (by omega), Int.zero_add]
  omega
theorem yr_fst {D T B S y : Int} (r1 : 1 ≤ D) (r2 : 0 ≤ T ∧ T < B) (hs : 1 ≤ D * B + T) : yr D T B S (fst D T B S y) = y := by
  have h := fst_succ (D := D) (T := T) (B := B) (S := S) (y := y) (by omega)
  have a := add_step (S := S) (y := y) r2
  exact yr_eq (by omega) hs (Int.le_refl _) (by omega)
theorem yr_fst1 {D T B S y : Int} (r1 : 1 ≤ D) (r2 : 0 ≤ T ∧ T < B) (hs : 1 ≤ D * B + T) : yr D T B S (fst D T B S y - 1) = y - 1 := by
  have h := fst_succ (D := D) (T := T) (B := B) (S := S) (y := y - 1) (by omega)
  have a := add_step (S := S) (y := y - 1) r2
  rw [Int.sub_add_cancel] at h a
  exact yr_eq (by omega) hs (by omega) (by rw [Int.sub_add_cancel]; omega)

/-! ### rows of numbers that have a thing -/
def cnt (f : Int → Bool) (a : Int) (n : Nat) : Nat := ((List.range n).filter fun (i : Nat) => f (a + i)).length
theorem cnt_succ {f : Int → Bool} {a : Int} (n : Nat) : cnt f a (n + 1) = cnt f a n + (if f (a + n) = true then 1 else 0) := by
  unfold cnt
  rw [List.range_succ, List.filter_append, List.length_append]
  congr 1
  cases h : f (a + (n : Int)) <;> simp [h]
theorem cnt_add {f : Int → Bool} {a : Int} (m n : Nat) : cnt f a (m + n) = cnt f a m + cnt f (a + m) n := by
  induction n with
  | zero => simp [cnt]
  | succ n ih =>
    rw [show m + (n + 1) = m + n + 1 by omega, cnt_succ, cnt_succ, ih, show a + ((m + n : Nat) : Int) = a + (m : Int) + (n : Int) by omega]
    omega
theorem cnt_shift {f : Int → Bool} {c : Int} (per : ∀ y, f (y + c) = f y) (a : Int) (n : Nat) : cnt f (a + c) n = cnt f a n := by
  unfold cnt
  congr 2
  funext i
  rw [show a + c + (i : Int) = a + (i : Int) + c by omega, per]
theorem cnt_rounds {f : Int → Bool} {c : Nat} (per : ∀ y, f (y + c) = f y) (a : Int) (k r : Nat) : cnt f a (k * c + r) = k * cnt f a c + cnt f a r := by
  induction k with
  | zero => simp
  | succ k ih =>
    rw [show (k + 1) * c + r = c + (k * c + r) by rw [Nat.succ_mul]; omega, cnt_add, cnt_shift per, ih, Nat.succ_mul]
    omega
def yrs (f : Int → Bool) (a : Int) (n : Nat) : List Int := ((List.range n).filter fun (i : Nat) => f (a + i)).map fun (i : Nat) => a + (i : Int)
theorem yrs_mem {f : Int → Bool} {a : Int} {n : Nat} {y : Int} : y ∈ yrs f a n ↔ a ≤ y ∧ y < a + n ∧ f y = true := by
  unfold yrs
  simp only [List.mem_map, List.mem_filter, List.mem_range]
  constructor
  · rintro ⟨i, ⟨hi, hf⟩, rfl⟩
    exact ⟨by omega, by omega, hf⟩
  · rintro ⟨h1, h2, h3⟩
    refine ⟨(y - a).toNat, ⟨by omega, ?_⟩, by omega⟩
    rw [show a + ((y - a).toNat : Int) = y by omega]
    exact h3
theorem yrs_up (f : Int → Bool) (a : Int) (n : Nat) : (yrs f a n).Pairwise (· < ·) := by
  unfold yrs
  rw [List.pairwise_map]
  refine List.Pairwise.imp ?_ ((List.pairwise_lt_range (n := n)).filter _)
  intro i j h
  omega
theorem up_at {xs : List Int} (h : xs.Pairwise (· < ·)) {i j : Nat} {y z : Int} (hi : xs[i]? = some y) (hj : xs[j]? = some z) : i < j → y < z := by
  intro ij
  obtain ⟨i1, rfl⟩ := List.getElem?_eq_some_iff.mp hi
  obtain ⟨j1, rfl⟩ := List.getElem?_eq_some_iff.mp hj
  exact List.pairwise_iff_getElem.mp h i j i1 j1 ij
/-- two rising rows with the same members are the same -/
theorem up_same {xs ys : List Int} (h : xs.Pairwise (· < ·)) (h' : ys.Pairwise (· < ·)) (m : ∀ k, k ∈ xs ↔ k ∈ ys) : xs = ys := by
  induction xs generalizing ys with
  | nil =>
    cases ys with
    | nil => rfl
    | cons y ys => exact absurd ((m y).mpr List.mem_cons_self) List.not_mem_nil
  | cons x xs ih =>
    cases ys with
    | nil => exact absurd ((m x).mp List.mem_cons_self) List.not_mem_nil
    | cons y ys =>
      rw [List.pairwise_cons] at h h'
      have exy : x = y := by
        rcases List.mem_cons.mp ((m x).mp List.mem_cons_self) with e | e
        · exact e
        · rcases List.mem_cons.mp ((m y).mpr List.mem_cons_self) with e' | e'
          · exact e'.symm
          · have := h'.1 x e
            have := h.1 y e'
            omega
      subst exy
      congr 1
      refine ih h.2 h'.2 fun k => ⟨fun hk => ?_, fun hk => ?_⟩
      · rcases List.mem_cons.mp ((m k).mp (List.mem_cons_of_mem _ hk)) with e | e
        · have := h.1 k hk
          omega
        · exact e
      · rcases List.mem_cons.mp ((m k).mpr (List.mem_cons_of_mem _ hk)) with e | e
        · have := h'.1 k hk
          omega
        · exact e

theorem per_many {f : Int → Bool} {c : Nat} (per : ∀ y, f (y + c) = f y) (y t : Int) : f (y + t * c) = f y := by
  have up : ∀ (n : Nat) (y : Int), f (y + n * c) = f y := by
    intro n
    induction n with
    | zero => intro y; simp
    | succ n ih =>
      intro y
      rw [show y + ((n + 1 : Nat) : Int) * c = (y + n * c) + c by rw [Int.natCast_add, Int.add_mul]; omega, per, ih]
  by_cases h : 0 ≤ t
  · have := up t.toNat y
    rwa [show ((t.toNat : Nat) : Int) = t by omega] at this
  · have := up (-t).toNat (y + t * c)
    rw [show (((-t).toNat : Nat) : Int) = -t by omega, Int.neg_mul, show y + t * (c : Int) + -(t * (c : Int)) = y by omega] at this
    exact this.symm
theorem yrs_none {f : Int → Bool} {a : Int} {n : Nat} (h : yrs f a n = []) (k : Nat) (hk : k < n) : f (a + k) = false := by
  cases e : f (a + k) with
  | false => rfl
  | true =>
    have m : a + (k : Int) ∈ yrs f a n := yrs_mem.mpr ⟨by omega, by omega, e⟩
    rw [h] at m
    cases m
theorem yrs_first {f : Int → Bool} {a : Int} {n : Nat} {y : Int} {r : List Int} (h : yrs f a n = y :: r) : ∃ k : Nat, k < n ∧ y = a + k ∧ f (a + k) = true ∧ ∀ j : Nat, j < k → f (a + j) = false := by
  have m := yrs_mem.mp (show y ∈ yrs f a n by rw [h]; exact List.mem_cons_self)
  have up := yrs_up f a n
  rw [h, List.pairwise_cons] at up
  refine ⟨(y - a).toNat, by omega, by omega, ?_, fun j hj => ?_⟩
  · rw [show a + ((y - a).toNat : Int) = y by omega]
    exact m.2.2
  · cases e : f (a + j) with
    | false => rfl
    | true =>
      have mj : a + (j : Int) ∈ yrs f a n := yrs_mem.mpr ⟨by omega, by omega, e⟩
      rw [h] at mj
      rcases List.mem_cons.mp mj with z | z
      · omega
      · have := up.1 _ z
        omega
theorem yrs_later {f : Int → Bool} {a : Int} {n m : Nat} (hm : m ≤ n) : (yrs f a n).filter (fun y => decide (y ≥ a + m)) = yrs f (a + m) (n - m) := by
  refine up_same ((yrs_up f a n).filter _) (yrs_up f (a + m) (n - m)) fun k => ?_
  rw [List.mem_filter, yrs_mem, yrs_mem]
  simp only [decide_eq_true_eq]
  constructor
  · rintro ⟨⟨h1, h2, h3⟩, h4⟩
    exact ⟨by omega, by omega, h3⟩
  · rintro ⟨h1, h2, h3⟩
    exact ⟨⟨by omega, by omega, h3⟩, by omega⟩
/-- none from a + m on in this turn: the first of the next turn is the first -/
theorem yrs_over {f : Int → Bool} {c : Nat} (per : ∀ y, f (y + c) = f y) {a : Int} {m : Nat} {y : Int} {r : List Int} (hm : m ≤ c) (h : yrs f a c = y :: r) (no : yrs f (a + m) (c - m) = []) :
    ∃ k : Nat, k < c ∧ y + c = a + m + k ∧ f (a + m + k) = true ∧ ∀ j : Nat, j < k → f (a + m + j) = false := by
  obtain ⟨k, kc, rfl, hk, before⟩ := yrs_first h
  have km : k < m := by
    rcases Nat.lt_or_ge k m with l | g
    · exact l
    · have := yrs_none no (k - m) (by omega)
      rw [show a + (m : Int) + ((k - m : Nat) : Int) = a + k by omega, hk] at this
      cases this
  refine ⟨k + c - m, by omega, by omega, ?_, fun j hj => ?_⟩
  · rw [show a + (m : Int) + ((k + c - m : Nat) : Int) = a + k + c by omega, per]
    exact hk
  · rcases Nat.lt_or_ge (m + j) c with l | g
    · exact yrs_none no j (by omega)
    · have := before (m + j - c) (by omega)
      rw [← per, show a + ((m + j - c : Nat) : Int) + c = a + m + j by omega] at this
      exact this
theorem yrs_cnt (f : Int → Bool) (a : Int) (n : Nat) : (yrs f a n).length = cnt f a n := by
  unfold yrs cnt
  rw [List.length_map]

/-- the first of a row, None where there is none -/
def hd : List Int → V
  | [] => .non
  | y :: _ => .int y
theorem hd_first {f : Int → Bool} {a : Int} {n k : Nat} (kn : k < n) (hk : f (a + k) = true) (before : ∀ j : Nat, j < k → f (a + j) = false) : hd (yrs f a n) = .int (a + k) := by
  cases h : yrs f a n with
  | nil =>
    have := yrs_none h k kn
    rw [hk] at this
    cases this
  | cons y r =>
    obtain ⟨k', kn', rfl, hk', before'⟩ := yrs_first h
    rcases Nat.lt_trichotomy k k' with l | e | l
    · rw [before' k l] at hk
      cases hk
    · rw [e]
      rfl
    · rw [before k' l] at hk'
      cases hk'
theorem hd_none {f : Int → Bool} {a : Int} {n : Nat} (no : ∀ k : Nat, k < n → f (a + k) = false) : hd (yrs f a n) = .non := by
  cases h : yrs f a n with
  | nil => rfl
  | cons y r =>
    obtain ⟨k, kn, _, hk, _⟩ := yrs_first h
    rw [no k kn] at hk
    cases hk
/-- where a row from a later year on is empty, the first one of the whole row a turn later -/
def hdOr (zs xs : List Int) (c : Int) : V := match zs, xs with
  | z :: _, _ => .int z
  | [], y :: _ => .int (y + c)
  | [], [] => .non
theorem hd_turn {f : Int → Bool} {c : Nat} (per : ∀ y, f (y + c) = f y) {a : Int} {m : Nat} (hm : m ≤ c) : hd (yrs f (a + m) c) = hdOr (yrs f (a + m) (c - m)) (yrs f a c) c := by
  cases hz : yrs f (a + m) (c - m) with
  | cons z r =>
    obtain ⟨k, kc, rfl, hk, before⟩ := yrs_first hz
    exact hd_first (by omega) hk before
  | nil =>
    cases hx : yrs f a c with
    | cons y r =>
      obtain ⟨k, kc, e, hk, before⟩ := yrs_over per hm hx hz
      rw [hd_first kc hk before, ← e]
      rfl
    | nil =>
      refine hd_none fun k kc => ?_
      by_cases l : m + k < c
      · have := yrs_none hx (m + k) l
        rwa [show a + ((m + k : Nat) : Int) = a + m + k by omega] at this
      · have := yrs_none hx (m + k - c) (by omega)
        rw [← per, show a + ((m + k - c : Nat) : Int) + c = a + m + k by omega] at this
        exact this
theorem sm_hd {H : Hp} {n : Nat} (xs : List Int) : Sm H n (hd xs) (hd xs) := by
  cases xs with
  | nil => exact .non
  | cons x xs => exact .int x
theorem sm_ints {H : Hp} {n : Nat} {a b : Addr} {ns : List Int} (ha : H a = some (.tup (ns.map V.int))) (hb : H b = some (.tup (ns.map V.int))) (hz : ns.length ≤ 1000) : Sm H (n + 1) (.ref a) (.ref b) :=
  .tup ha hb rfl (by rw [List.length_map]; exact hz) fun i x y hx hy => by
    rw [hx] at hy
    cases hy
    rw [List.getElem?_map] at hx
    cases hz : ns[i]? with
    | none => rw [hz] at hx; cases hx
    | some z => rw [hz] at hx; cases hx; exact .int z

theorem few {xs ys : List Int} (nd : xs.Nodup) (sub : ∀ x ∈ xs, x ∈ ys) : xs.length ≤ ys.length := by
  induction xs generalizing ys with
  | nil => exact Nat.zero_le _
  | cons x xs ih =>
    rw [List.nodup_cons] at nd
    have mx := sub x List.mem_cons_self
    have h := ih (ys := ys.erase x) nd.2 fun y hy => (List.mem_erase_of_ne (fun (e : y = x) => nd.1 (e ▸ hy))).mpr (sub y (List.mem_cons_of_mem _ hy))
    rw [List.length_erase_of_mem mx] at h
    have := List.length_pos_of_mem mx
    rw [List.length_cons]
    omega
theorem ex_put {H H' : Hp} {l : Addr} {o : HO} (e : Ex H H') (n : H l = none) : Ex H (upd H' l o) := fun a u h => by
  have ne : a ≠ l := fun z => by
    rw [z, n] at h
    cases h
  rw [upd_ne ne]
  exact e a u h
theorem inV_int (k : Int) : ∀ xs : List Int, inV (.int k) (xs.map V.int) = decide (k ∈ xs) := fun xs => by
  induction xs with
  | nil => rfl
  | cons x xs ih =>
    unfold inV at ih ⊢
    rw [List.map_cons, List.any_cons, ih]
    by_cases e : x = k
    · subst e
      simp [eqV]
    · have e' : ¬ k = x := fun z => e z.symm
      simp [eqV, e, e']
theorem flat_ints (xs : List Int) : (xs.map V.int).all flatV = true := by
  rw [List.all_map, List.all_eq_true]
  intro x _
  rfl
theorem cut_tail (xs : List V) : cutV xs (some 1) none = xs.drop 1 := by
  unfold cutV HT.sIx
  cases xs with
  | nil => rfl
  | cons x xs => simp
theorem cut_head (xs : List V) : cutV xs none (some 1) = xs.take 1 := by
  unfold cutV HT.sIx
  cases xs with
  | nil => rfl
  | cons x xs => simp
theorem given_all (n : Nat) (v : Nat → V) : given n (fun _ => true) v = (List.range n).map v := by
  unfold given
  rw [List.filter_eq_self.mpr fun _ _ => rfl]
theorem range_ints (xs : List Int) (g : Int → Int) : ((List.range xs.length).map fun i => V.int (g (xs[i]?.getD 0))) = (xs.map g).map V.int := by
  refine List.ext_getElem? fun i => ?_
  simp only [List.getElem?_map]
  by_cases h : i < xs.length
  · rw [List.getElem?_range h]
    show some (V.int (g (xs[i]?.getD 0))) = _
    rw [List.getElem?_eq_getElem h]
    rfl
  · rw [List.getElem?_eq_none (by rw [List.length_range]; omega), List.getElem?_eq_none (by omega)] <;> rfl
theorem given_ints (n : Nat) (p : Nat → Bool) (g : Nat → Int) : given n p (fun j => V.int (g j)) = (((List.range n).filter p).map g).map V.int := by
  unfold given
  rw [List.map_map]
  rfl
theorem none_any (n : Nat) (p : Nat → Bool) (g : Nat → Int) : decide (((List.range n).filter p).map g = []) = !((List.range n).any p) := by
  rw [Bool.eq_iff_iff, decide_eq_true_iff, List.map_eq_nil_iff, List.filter_eq_nil_iff]
  simp
theorem inV_any (k : Int) (n : Nat) (g : Nat → Int) : inV (.int k) (((List.range n).map g).map V.int) = (List.range n).any fun j => decide (g j = k) := by
  rw [inV_int, Bool.eq_iff_iff, decide_eq_true_iff, List.any_eq_true, List.mem_map]
  constructor
  · rintro ⟨j, hj, e⟩
    exact ⟨j, hj, decide_eq_true e⟩
  · rintro ⟨j, hj, e⟩
    exact ⟨j, hj, of_decide_eq_true e⟩
theorem ite_else {b : Bool} {X Y : Prop} (h : b = true → Y → X) (y : Y) : if b = true then X else Y := by
  cases b with
  | false => exact y
  | true => exact h rfl y
theorem if_join {b : Bool} {X : Prop} {N : Hp → Prop} {H : Hp} (h : b = true → (∀ H', Ex H H' → N H') → X) (n : ∀ H', Ex H H' → N H') : if b = true then X else N H := by
  cases b with
  | false => exact n H (Ex.refl H)
  | true => exact h rfl n
theorem iteD {c A B : Prop} [Decidable c] (hc : c) (h : A) : if decide c = true then A else B := by
  rw [decide_eq_true hc]
  exact iteT h
theorem iteND {c A B : Prop} [Decidable c] (hc : ¬ c) (h : B) : if decide c = true then A else B := by
  rw [decide_eq_false hc]
  exact iteF h
theorem at_map {n : Nat} {g : Nat → V} {i : Int} (h0 : 0 ≤ i) (h1 : i.toNat < n) : atI ((List.range n).map g) i = some (g i.toNat) := by
  unfold atI ixN
  rw [List.length_map, List.length_range, if_pos h0, if_pos (by omega)]
  show ((List.range n).map g)[i.toNat]? = _
  rw [List.getElem?_map, List.getElem?_range h1]
  rfl
section
variable {K : PySem.W.Frag} {H : Hp} {Q : VK} {σ : L2.St} {a b : Addr} {i j k : Nat} {xs zs : List Int}
theorem ix_first {x : Int} {xs : List Int} (ha : SqL K H a ((x :: xs).map V.int)) (q : Q (.int x) H) : rIxL K (.ref a) (.int 0) H Q := ⟨a, _, 0, _, rfl, rfl, ha, by unfold atI ixN; simp, q⟩
theorem if_hd (hσ : σ[i]? = some (some (.ref a))) (ha : SqL K H a (xs.map V.int)) (q : Q (hd xs) H) : if (!decide (xs = [])) = true then tOp (rIxL K) (tVar i) (tC (.int 0)) σ H Q else tC .non σ H Q := by
  cases xs with
  | nil => exact iteF q
  | cons x xs => exact iteT ⟨_, hσ, ix_first ha q⟩
theorem if_hdOr {c : Int} (hσ : σ[i]? = some (some (.ref a))) (hj : σ[j]? = some (some (.int c))) (ha : SqL K H a (xs.map V.int)) (e : zs = []) (q : Q (hdOr zs xs c) H) : if (!decide (xs = [])) = true then tOp (rI0 fun i j => .int (i + j)) (tOp (rIxL K) (tVar i) (tC (.int 0))) (tVar j) σ H Q else tC .non σ H Q := by
  subst e
  cases xs with
  | nil => exact iteF q
  | cons x xs => exact iteT ⟨_, hσ, ix_first (Q := fun x H1 => tVar j σ H1 fun y H2 => rI0 (fun i j => .int (i + j)) x y H2 Q) ha ⟨_, hj, _, _, rfl, rfl, q⟩⟩
theorem if_later {c : Int} (hi : σ[i]? = some (some (.ref a))) (hj : σ[j]? = some (some (.ref b))) (hk : σ[k]? = some (some (.int c))) (ha : H a = some (.lst (zs.map V.int))) (hb : H b = some (.lst (xs.map V.int))) (q : ∀ H', Ex H H' → Q (hdOr zs xs c) H') :
    tIf (tTest (tOp (rNeD K) (tVar i) (tLst tNil))) (tOp (rIxL K) (tVar i) (tC (.int 0))) (tIf (tTest (tOp (rNeD K) (tVar j) (tLst tNil))) (tOp (rI0 fun i j => .int (i + j)) (tOp (rIxL K) (tVar j) (tC (.int 0))) (tVar k)) (tC .non)) σ H Q := by
  refine ⟨_, hi, by decide, fun p np => ?_⟩
  have x := Ex.new (o := .lst []) np
  refine ne_lsts (ns := zs) (ms := []) (sq_of (x _ _ ha)) (sq_of upd_same) ⟨_, rfl, ?_⟩
  cases zs with
  | cons z zs => exact iteT ⟨_, hi, ix_first (sq_of (x _ _ ha)) (q _ x)⟩
  | nil =>
    refine iteF ⟨_, hj, by decide, fun p' np' => ?_⟩
    have x' := Ex.new (o := .lst []) np'
    have xx := x.trans x'
    exact ne_lsts (ns := xs) (ms := []) (sq_of (xx _ _ hb)) (sq_of upd_same) ⟨_, rfl, if_hdOr hj hk (sq_of (xx _ _ hb)) rfl (q _ xx)⟩
end

theorem cut_mem {xs : List V} {lo hi : Option Int} {x : V} (h : x ∈ cutV xs lo hi) : x ∈ xs := by
  unfold cutV at h
  exact List.mem_of_mem_drop (List.mem_of_mem_take h)
theorem cells_int {ns : List Int} {lo hi : Option Int} {i : Nat} {x : V} (h : (cutV (V.int 0 :: ns.map V.int) lo hi)[i]? = some x) : ∃ c : Int, x = .int c := by
  have hm := cut_mem (List.mem_of_getElem? h)
  rcases List.mem_cons.mp hm with rfl | there
  · exact ⟨0, rfl⟩
  · obtain ⟨c, _, rfl⟩ := List.mem_map.mp there
    exact ⟨c, rfl⟩

/-! ### what stands through a cell's turn -/
structure Cv (p : Addr) (cells : List V) (v : V) (D T B S : Int) (d : Addr) (n : Nat) (H : Hp) : Prop where
  hp : H p = some (.lst cells)
  ne : p ≠ d
  land : Land H v D T B S
  dk : Dk n H d
section
variable {p d : Addr} {cells : List V} {v : V} {D T B S : Int} {n m : Nat} {H H' : Hp}
theorem Cv.ex (c : Cv p cells v D T B S d n H) (e : Ex H H') : Cv p cells v D T B S d n H' := ⟨e _ _ c.hp, c.ne, c.land.ex e, c.dk.ex e⟩
theorem Cv.exd (c : Cv p cells v D T B S d n H) (e : ExD d H H') (k : Dk m H' d) : Cv p cells v D T B S d m H' := ⟨e _ _ c.ne c.hp, c.ne, e.land c.dk c.land, k⟩
end
def spLaw (K : PySem.W.Frag) : Sp := fun vs H Q _ => ∃ (a : Addr) (ns : List Int), vs = [.ref a] ∧ SqL K H a (ns.map V.int) ∧ ns.length ≤ 63 ∧ ∀ H', Q (.bl true) H'

section
variable {P : Program} {w : World} {K : PySem.W.Frag} {mg : Str → Option Value} {base : Heap}
end

/-! ### two turning things: when they meet -/
theorem bez (a b : Nat) : ∃ u v : Int, u * a + v * b = Nat.gcd a b := by
  induction b using Nat.strongRecOn generalizing a with
  | ind b ih =>
    by_cases h : b = 0
    · subst h
      exact ⟨1, 0, by simp⟩
    · obtain ⟨u, v, e⟩ := ih (a % b) (Nat.mod_lt a (by omega)) b
      refine ⟨v, u - v * (a / b : Nat), ?_⟩
      have g : Nat.gcd b (a % b) = Nat.gcd a b := by rw [Nat.gcd_comm a b, Nat.gcd_rec b a, Nat.gcd_comm]
      have d : (a : Int) = b * (a / b : Nat) + (a % b : Nat) := by
        have := Nat.div_add_mod a b
        omega
      rw [← g, ← e, Int.sub_mul]
      have : v * (a : Int) = v * (b * (a / b : Nat)) + v * (a % b : Nat) := by rw [← Int.mul_add, ← d]
      have : v * (b * ((a / b : Nat) : Int)) = v * (a / b : Nat) * b := by rw [Int.mul_comm (b : Int), Int.mul_assoc]
      omega
/-- the meeting of two rows, by the factor that undoes -/
def metOf (s t : Nat) (u a c : Int) : Int := a + ((c - a) / (Nat.gcd s t : Nat) * u % (t / Nat.gcd s t : Nat)) * s
def undoes (s t : Nat) (u : Int) : Prop := ((t / Nat.gcd s t : Nat) : Int) ∣ ((s / Nat.gcd s t : Nat) : Int) * u - 1
theorem met_one {s t : Nat} {u a c : Int} : (s : Int) ∣ metOf s t u a c - a := by
  unfold metOf
  refine ⟨(c - a) / (Nat.gcd s t : Nat) * u % (t / Nat.gcd s t : Nat), ?_⟩
  rw [Int.mul_comm (s : Int)]
  omega
theorem met_other {s t : Nat} {u a c : Int} (hs : 0 < s) (hu : undoes s t u) (hg : ((Nat.gcd s t : Nat) : Int) ∣ c - a) : (t : Int) ∣ metOf s t u a c - c := by
  have gp : 0 < Nat.gcd s t := Nat.gcd_pos_of_pos_left t hs
  obtain ⟨z, hz⟩ := hg
  obtain ⟨w, hw⟩ := hu
  have ds : (s : Int) = (Nat.gcd s t : Nat) * (s / Nat.gcd s t : Nat) := by
    have := Nat.mul_div_cancel' (Nat.gcd_dvd_left s t)
    rw [← Int.natCast_mul, this]
  have dt : (t : Int) = (Nat.gcd s t : Nat) * (t / Nat.gcd s t : Nat) := by
    have := Nat.mul_div_cancel' (Nat.gcd_dvd_right s t)
    rw [← Int.natCast_mul, this]
  unfold metOf
  rw [hz, Int.mul_ediv_cancel_left z (by omega)]
  revert hw ds dt
  generalize ((s / Nat.gcd s t : Nat) : Int) = s1
  generalize ((t / Nat.gcd s t : Nat) : Int) = t1
  generalize ((Nat.gcd s t : Nat) : Int) = g at hz ⊢
  intro hw ds dt
  have em := Int.mul_ediv_add_emod (z * u) t1
  generalize z * u / t1 = q at em
  generalize z * u % t1 = r at em ⊢
  refine ⟨z * w - q * s1, ?_⟩
  have e1 : r * (s : Int) = z * u * s - t1 * q * s := by
    rw [← Int.sub_mul]
    congr 1
    omega
  have e2 : z * u * (s : Int) = z * (g * (s1 * u)) := by
    rw [ds, Int.mul_assoc z u, Int.mul_comm u, Int.mul_assoc g]
  have e3 : s1 * u = t1 * w + 1 := by omega
  have e4 : z * (g * (t1 * w + 1)) = t * (z * w) + g * z := by
    rw [dt, Int.mul_add, Int.mul_add, Int.mul_one, Int.mul_comm z g, ← Int.mul_assoc g t1 w, Int.mul_left_comm z]
  have e5 : t1 * q * (s : Int) = t * (q * s1) := by
    rw [ds, dt, Int.mul_assoc t1 q, Int.mul_left_comm q g, Int.mul_left_comm t1 g, Int.mul_assoc g t1]
  rw [Int.mul_sub, e1, e2, e3, e4, e5]
  omega
theorem lcm_int {s t : Nat} {x : Int} (h1 : (s : Int) ∣ x) (h2 : (t : Int) ∣ x) : ((s * t / Nat.gcd s t : Nat) : Int) ∣ x := by
  have a1 : s ∣ x.natAbs := Int.ofNat_dvd_left.mp h1
  have a2 : t ∣ x.natAbs := Int.ofNat_dvd_left.mp h2
  exact Int.ofNat_dvd_left.mpr (Nat.lcm_dvd a1 a2)
theorem round_one (s t : Nat) : (s : Int) ∣ ((s * t / Nat.gcd s t : Nat) : Int) := Int.natCast_dvd_natCast.mpr (Nat.dvd_lcm_left s t)
theorem round_other (s t : Nat) : (t : Int) ∣ ((s * t / Nat.gcd s t : Nat) : Int) := Int.natCast_dvd_natCast.mpr (Nat.dvd_lcm_right s t)
theorem dvd_via {k x y z : Int} (h1 : k ∣ x - y) (h2 : k ∣ y - z) : k ∣ x - z := by
  have := Int.dvd_add h1 h2
  rwa [show x - y + (y - z) = x - z by omega] at this
theorem dvd_swap {k x y : Int} (h : k ∣ x - y) : k ∣ y - x := by
  have := Int.dvd_neg.mpr h
  rwa [show -(x - y) = y - x by omega] at this
/-- the days with both are those that are whole rounds from the meeting -/
theorem met_iff {s t : Nat} {u a c d : Int} (hs : 0 < s) (hu : undoes s t u) :
    ((s : Int) ∣ d - a ∧ (t : Int) ∣ d - c) ↔ ((Nat.gcd s t : Nat) : Int) ∣ c - a ∧ ((s * t / Nat.gcd s t : Nat) : Int) ∣ d - metOf s t u a c := by
  constructor
  · rintro ⟨h1, h2⟩
    have g1 : ((Nat.gcd s t : Nat) : Int) ∣ d - a := Int.dvd_trans (Int.natCast_dvd_natCast.mpr (Nat.gcd_dvd_left s t)) h1
    have g2 : ((Nat.gcd s t : Nat) : Int) ∣ d - c := Int.dvd_trans (Int.natCast_dvd_natCast.mpr (Nat.gcd_dvd_right s t)) h2
    have hg := dvd_via (dvd_swap g2) g1
    exact ⟨hg, lcm_int (dvd_via h1 (dvd_swap met_one)) (dvd_via h2 (dvd_swap (met_other hs hu hg)))⟩
  · rintro ⟨hg, h⟩
    exact ⟨dvd_via (Int.dvd_trans (round_one s t) h) met_one, dvd_via (Int.dvd_trans (round_other s t) h) (met_other hs hu hg)⟩
/-- rows that turn by L, none twice: their days -/
def turns (M : List Int) (L d : Int) : Bool := M.any fun m => decide (L ∣ d - m)
def apart (M : List Int) (L : Int) : Prop := M.Pairwise fun m n => ¬ L ∣ m - n
def countOf (M : List Int) (L a b : Int) : Int := (M.map fun m => (b - m - 1) / L - (a - m - 1) / L).sum
theorem floor_step {L x m : Int} (hL : 0 < L) : (x + 1 - m - 1) / L - (x - m - 1) / L = if L ∣ x - m then 1 else 0 := by
  rw [show x + 1 - m - 1 = x - m by omega]
  generalize x - m = z
  have a1 := Int.emod_nonneg z (show L ≠ 0 by omega)
  have a2 := Int.emod_lt_of_pos z hL
  have a3 := Int.mul_ediv_add_emod z L
  by_cases h : L ∣ z
  · rw [if_pos h]
    have e : z % L = 0 := Int.emod_eq_zero_of_dvd h
    have : (z - 1) / L = z / L - 1 := by
      rw [show z - 1 = (L - 1) + L * (z / L - 1) by rw [Int.mul_sub]; omega, Int.add_mul_ediv_left _ _ (by omega), Int.ediv_eq_zero_of_lt (by omega) (by omega)]
      omega
    omega
  · rw [if_neg h]
    have e : z % L ≠ 0 := fun e => h (Int.dvd_of_emod_eq_zero e)
    have : (z - 1) / L = z / L := by
      rw [show z - 1 = (z % L - 1) + L * (z / L) by omega, Int.add_mul_ediv_left _ _ (by omega), Int.ediv_eq_zero_of_lt (by omega) (by omega)]
      omega
    omega
theorem turns_cons {M : List Int} {L x m : Int} : turns (m :: M) L x = (decide (L ∣ x - m) || turns M L x) := List.any_cons
theorem count_cons {M : List Int} {L a b m : Int} : countOf (m :: M) L a b = ((b - m - 1) / L - (a - m - 1) / L) + countOf M L a b := by
  unfold countOf
  simp only [List.map_cons, List.sum_cons]
theorem count_step {M : List Int} {L a x : Int} (hL : 0 < L) (ap : apart M L) : countOf M L a (x + 1) = countOf M L a x + if turns M L x = true then 1 else 0 := by
  unfold apart at ap
  induction M with
  | nil => rfl
  | cons m M ih =>
    rw [List.pairwise_cons] at ap
    have h := ih ap.2
    have s := floor_step (x := x) (m := m) hL
    rw [count_cons, count_cons]
    by_cases d : L ∣ x - m
    · have no : ¬ turns M L x = true := by
        intro z
        obtain ⟨n, hn, e⟩ := List.any_eq_true.mp z
        exact ap.1 n hn (dvd_via (dvd_swap d) (of_decide_eq_true e))
      have yes : turns (m :: M) L x = true := by
        rw [turns_cons, decide_eq_true d, Bool.true_or]
      rw [if_neg no] at h
      rw [if_pos d] at s
      rw [if_pos yes]
      omega
    · have same : turns (m :: M) L x = turns M L x := by
        rw [turns_cons, decide_eq_false d, Bool.false_or]
      rw [if_neg d] at s
      rw [same]
      omega
theorem count_is {M : List Int} {L a : Int} (hL : 0 < L) (ap : apart M L) (n : Nat) : countOf M L a (a + n) = cnt (turns M L) a n := by
  induction n with
  | zero =>
    have z : (M.map fun m => (a + ((0 : Nat) : Int) - m - 1) / L - (a - m - 1) / L) = M.map fun _ => (0 : Int) := List.map_congr_left fun m _ => by
      rw [show a + ((0 : Nat) : Int) = a by omega]
      omega
    unfold countOf
    rw [z]
    have : ∀ M : List Int, (M.map fun _ => (0 : Int)).sum = 0 := fun M => by
      induction M with
      | nil => rfl
      | cons m M ih => rw [List.map_cons, List.sum_cons, ih]; rfl
    rw [this]
    rfl
  | succ n ih =>
    rw [show a + ((n + 1 : Nat) : Int) = a + n + 1 by omega, count_step hL ap, ih, cnt_succ, Int.natCast_add]
    congr 1
    split <;> rfl
/-- from a day on, the first whole rounds from m -/
def nextOf (L d m : Int) : Int := d + (m - d) % L
theorem next_here {L d m : Int} (hL : 0 < L) : d ≤ nextOf L d m ∧ nextOf L d m < d + L ∧ L ∣ nextOf L d m - m := by
  have a1 := Int.emod_nonneg (m - d) (show L ≠ 0 by omega)
  have a2 := Int.emod_lt_of_pos (m - d) hL
  have a3 := Int.mul_ediv_add_emod (m - d) L
  unfold nextOf
  refine ⟨by omega, by omega, -((m - d) / L), ?_⟩
  rw [Int.mul_neg]
  omega
theorem next_least {L d m e : Int} (hL : 0 < L) (h1 : d ≤ e) (h2 : L ∣ e - m) : nextOf L d m ≤ e := by
  have h := next_here (d := d) (m := m) hL
  rcases Int.lt_or_le e (nextOf L d m) with l | l
  · have z := dvd_via h.2.2 (dvd_swap h2)
    obtain ⟨k, hk⟩ := z
    have k1 : 0 < k := by
      rcases Int.lt_or_le 0 k with p | p
      · exact p
      · have := Int.mul_nonpos_of_nonneg_of_nonpos (show 0 ≤ L by omega) p
        omega
    have := Int.mul_le_mul_of_nonneg_left (show 1 ≤ k by omega) (show 0 ≤ L by omega)
    omega
  · exact l

/-! ### days with a place in a land -/
def atP (D T B S p d : Int) : Bool := decide (d - fst D T B S (yr D T B S d) = p)
def pday (D T B S p : Int) (i : Nat) : Int := fst D T B S i + p
theorem fst_mono {D T B S y : Int} (r1 : 1 ≤ D ∧ D ≤ 400) (r2 : 0 ≤ T ∧ T < B) : fst D T B S y + D ≤ fst D T B S (y + 1) := by
  have h := fst_succ (D := D) (T := T) (B := B) (S := S) (y := y) (by omega)
  have a := add_step (S := S) (y := y) r2
  omega
theorem fst_far {D T B S y : Int} (r1 : 1 ≤ D ∧ D ≤ 400) (r2 : 0 ≤ T ∧ T < B) (n : Nat) : fst D T B S y + n ≤ fst D T B S (y + n) := by
  induction n with
  | zero => simp
  | succ n ih =>
    have h := fst_mono (S := S) (y := y + n) r1 r2
    rw [show y + ((n + 1 : Nat) : Int) = y + n + 1 by omega]
    omega
theorem at_iff {D T B S p d : Int} (r1 : 1 ≤ D ∧ D ≤ 400) (r2 : 0 ≤ T ∧ T < B) (r3 : 1 ≤ B ∧ B ≤ 60) (hp : 0 ≤ p ∧ p < D) : atP D T B S p d = true ↔ ∃ y, d = fst D T B S y + p := by
  have hs := step_bd r1 r2 r3
  unfold atP
  rw [decide_eq_true_iff]
  constructor
  · intro h
    exact ⟨yr D T B S d, by omega⟩
  · rintro ⟨y, rfl⟩
    have := fst_mono (S := S) (y := y) r1 r2
    rw [yr_eq (by omega) hs.1 (by omega) (by omega : fst D T B S y + p < fst D T B S (y + 1))]
    omega
theorem fst_turn {D T B S y : Int} (hB : 1 ≤ B) (t : Int) : fst D T B S (y + t * B) = fst D T B S y + t * (D * B + T) := by
  unfold fst
  rw [show (D * B + T) * (y + t * B) + S = (D * B + T) * y + S + t * (D * B + T) * B by
    rw [Int.mul_add, ← Int.mul_assoc (D * B + T) t B, Int.mul_comm (D * B + T) t]; omega]
  exact Int.add_mul_ediv_right _ _ (by omega)
theorem at_mod {D T B S p d : Int} (r1 : 1 ≤ D ∧ D ≤ 400) (r2 : 0 ≤ T ∧ T < B) (r3 : 1 ≤ B ∧ B ≤ 60) (hp : 0 ≤ p ∧ p < D) : atP D T B S p d = true ↔ ∃ i : Nat, i < B.toNat ∧ D * B + T ∣ d - pday D T B S p i := by
  rw [at_iff r1 r2 r3 hp]
  constructor
  · rintro ⟨y, rfl⟩
    have m0 := Int.emod_nonneg y (show B ≠ 0 by omega)
    have m1 := Int.emod_lt_of_pos y (show 0 < B by omega)
    have dm := Int.mul_ediv_add_emod y B
    rw [Int.mul_comm] at dm
    refine ⟨(y % B).toNat, by omega, y / B, ?_⟩
    unfold pday
    have e := fst_turn (D := D) (T := T) (S := S) (y := y % B) r3.1 (y / B)
    rw [show y % B + y / B * B = y by omega] at e
    rw [e, show (((y % B).toNat : Nat) : Int) = y % B by omega, Int.mul_comm (D * B + T)]
    omega
  · rintro ⟨i, _, t, h⟩
    refine ⟨i + t * B, ?_⟩
    rw [fst_turn r3.1]
    unfold pday at h
    rw [Int.mul_comm] at h
    omega
theorem pday_apart {D T B S p : Int} (r1 : 1 ≤ D ∧ D ≤ 400) (r2 : 0 ≤ T ∧ T < B) (r3 : 1 ≤ B ∧ B ≤ 60) {i j : Nat} (hi : i < B.toNat) (hj : j < B.toNat) (h : D * B + T ∣ pday D T B S p i - pday D T B S p j) : i = j := by
  have hs := step_bd r1 r2 r3
  have key : ∀ i j : Nat, i < j → j < B.toNat → ¬ D * B + T ∣ pday D T B S p j - pday D T B S p i := fun i j ij hj hd => by
    have a1 := fst_far (S := S) (y := i) r1 r2 (j - i)
    have a2 := fst_far (S := S) (y := j) r1 r2 (B.toNat - j + i)
    rw [show (i : Int) + ((j - i : Nat) : Int) = j by omega] at a1
    rw [show (j : Int) + ((B.toNat - j + i : Nat) : Int) = i + 1 * B by omega, fst_turn r3.1] at a2
    unfold pday at hd
    obtain ⟨t, ht⟩ := hd
    rcases Int.lt_or_le 0 t with l | l
    · have := Int.mul_le_mul_of_nonneg_left (show 1 ≤ t by omega) (show 0 ≤ D * B + T by omega)
      omega
    · have := Int.mul_nonpos_of_nonneg_of_nonpos (show 0 ≤ D * B + T by omega) l
      omega
  rcases Nat.lt_trichotomy i j with l | e | l
  · exact absurd (by have := Int.dvd_neg.mpr h; rwa [show -(pday D T B S p i - pday D T B S p j) = pday D T B S p j - pday D T B S p i by omega] at this) (key i j l hj)
  · exact e
  · exact absurd h (key j i l hi)
/-! ### meetings of two lands -/
structure Ld (D T B S p : Int) : Prop where
  d : 1 ≤ D ∧ D ≤ 400
  t : 0 ≤ T ∧ T < B
  b : 1 ≤ B ∧ B ≤ 60
  s : -1000000 ≤ S ∧ S ≤ 1000000
  p : 0 ≤ p ∧ p < D
def stp (D T B : Int) : Nat := (D * B + T).toNat
theorem Ld.stp {D T B S p : Int} (h : Ld D T B S p) : ((stp D T B : Nat) : Int) = D * B + T ∧ 1 ≤ stp D T B ∧ stp D T B ≤ 24060 := by
  have := step_bd h.d h.t h.b
  unfold LY.stp
  omega
def meetL (D T B S p D' T' B' S' p' u : Int) : List Int := (List.range B.toNat).flatMap fun i => ((List.range B'.toNat).filter fun j => decide ((pday D' T' B' S' p' j - pday D T B S p i) % ((Nat.gcd (stp D T B) (stp D' T' B') : Nat) : Int) = 0)).map fun j => metOf (stp D T B) (stp D' T' B') u (pday D T B S p i) (pday D' T' B' S' p' j)
def rnd (D T B D' T' B' : Int) : Nat := stp D T B * stp D' T' B' / Nat.gcd (stp D T B) (stp D' T' B')
def meet (D T B S p D' T' B' S' p' d : Int) : Bool := atP D T B S p d && atP D' T' B' S' p' d
section
variable {D T B S p D' T' B' S' p' u : Int} (h : Ld D T B S p) (h' : Ld D' T' B' S' p')
theorem meetL_mem {m : Int} : m ∈ meetL D T B S p D' T' B' S' p' u ↔ ∃ i j : Nat, i < B.toNat ∧ j < B'.toNat ∧ ((Nat.gcd (stp D T B) (stp D' T' B') : Nat) : Int) ∣ pday D' T' B' S' p' j - pday D T B S p i ∧ m = metOf (stp D T B) (stp D' T' B') u (pday D T B S p i) (pday D' T' B' S' p' j) := by
  unfold meetL
  simp only [List.mem_flatMap, List.mem_map, List.mem_filter, List.mem_range, decide_eq_true_eq]
  constructor
  · rintro ⟨i, hi, j, ⟨hj, hg⟩, rfl⟩
    exact ⟨i, j, hi, hj, Int.dvd_of_emod_eq_zero hg, rfl⟩
  · rintro ⟨i, j, hi, hj, hg, rfl⟩
    exact ⟨i, hi, j, ⟨hj, Int.emod_eq_zero_of_dvd hg⟩, rfl⟩
include h h' in
theorem meet_turns (hu : undoes (stp D T B) (stp D' T' B') u) (d : Int) : turns (meetL D T B S p D' T' B' S' p' u) (rnd D T B D' T' B') d = meet D T B S p D' T' B' S' p' d := by
  have s1 := h.stp
  have s2 := h'.stp
  rw [Bool.eq_iff_iff]
  unfold turns meet
  rw [List.any_eq_true, Bool.and_eq_true, at_mod h.d h.t h.b h.p, at_mod h'.d h'.t h'.b h'.p, ← s1.1, ← s2.1]
  constructor
  · rintro ⟨m, hm, hd⟩
    obtain ⟨i, j, hi, hj, hg, rfl⟩ := meetL_mem.mp hm
    have := (met_iff (d := d) (by omega) hu).mpr ⟨hg, of_decide_eq_true hd⟩
    exact ⟨⟨i, hi, this.1⟩, j, hj, this.2⟩
  · rintro ⟨⟨i, hi, h1⟩, j, hj, h2⟩
    have := (met_iff (by omega) hu).mp ⟨h1, h2⟩
    exact ⟨_, meetL_mem.mpr ⟨i, j, hi, hj, this.1, rfl⟩, decide_eq_true this.2⟩
include h h' in
theorem meet_apart (hu : undoes (stp D T B) (stp D' T' B') u) : apart (meetL D T B S p D' T' B' S' p' u) (rnd D T B D' T' B') := by
  have s1 := h.stp
  have s2 := h'.stp
  have one : ∀ {i j i' j' : Nat}, ((rnd D T B D' T' B' : Nat) : Int) ∣ metOf (stp D T B) (stp D' T' B') u (pday D T B S p i) (pday D' T' B' S' p' j) - metOf (stp D T B) (stp D' T' B') u (pday D T B S p i') (pday D' T' B' S' p' j') → i < B.toNat → i' < B.toNat → i = i' := fun {i j i' j'} hd hi hi' => by
    have a := Int.dvd_trans (round_one (stp D T B) (stp D' T' B')) hd
    refine pday_apart h.d h.t h.b (S := S) (p := p) hi hi' ?_
    rw [← s1.1]
    exact dvd_via (dvd_swap met_one) (dvd_via a met_one)
  have other : ∀ {i j i' j' : Nat}, ((rnd D T B D' T' B' : Nat) : Int) ∣ metOf (stp D T B) (stp D' T' B') u (pday D T B S p i) (pday D' T' B' S' p' j) - metOf (stp D T B) (stp D' T' B') u (pday D T B S p i') (pday D' T' B' S' p' j') → ((Nat.gcd (stp D T B) (stp D' T' B') : Nat) : Int) ∣ pday D' T' B' S' p' j - pday D T B S p i → ((Nat.gcd (stp D T B) (stp D' T' B') : Nat) : Int) ∣ pday D' T' B' S' p' j' - pday D T B S p i' → j < B'.toNat → j' < B'.toNat → j = j' := fun {i j i' j'} hd g g' hj hj' => by
    have a := Int.dvd_trans (round_other (stp D T B) (stp D' T' B')) hd
    refine pday_apart h'.d h'.t h'.b (S := S') (p := p') hj hj' ?_
    rw [← s2.1]
    exact dvd_via (dvd_swap (met_other (by omega) hu g)) (dvd_via a (met_other (by omega) hu g'))
  unfold apart meetL
  rw [List.pairwise_flatMap]
  refine ⟨fun i hi => ?_, ?_⟩
  · rw [List.pairwise_map]
    refine List.Pairwise.imp_of_mem ?_ ((List.nodup_range (n := B'.toNat)).filter _)
    intro j j' hj hj' ne hd
    simp only [List.mem_filter, List.mem_range, decide_eq_true_eq] at hj hj'
    exact ne (other hd (Int.dvd_of_emod_eq_zero hj.2) (Int.dvd_of_emod_eq_zero hj'.2) hj.1 hj'.1)
  · refine List.Pairwise.imp_of_mem ?_ (List.nodup_range (n := B.toNat))
    intro i i' hi hi' ne x hx y hy hd
    simp only [List.mem_map] at hx hy
    obtain ⟨j, _, rfl⟩ := hx
    obtain ⟨j', _, rfl⟩ := hy
    exact ne (one hd (List.mem_range.mp hi) (List.mem_range.mp hi'))
include h h' in
theorem rnd_pos : 1 ≤ rnd D T B D' T' B' ∧ rnd D T B D' T' B' ≤ 24060 * 24060 := by
  have s1 := h.stp
  have s2 := h'.stp
  have g0 := Nat.gcd_pos_of_pos_left (stp D' T' B') (show 0 < stp D T B by omega)
  have le := Nat.gcd_le_left (stp D' T' B') (show 0 < stp D T B by omega)
  unfold rnd
  constructor
  · rw [Nat.le_div_iff_mul_le g0, Nat.one_mul]
    exact Nat.le_trans le (Nat.le_mul_of_pos_right _ (by omega))
  · exact Nat.le_trans (Nat.div_le_self _ _) (Nat.mul_le_mul s1.2.2 s2.2.2)
include h h' in
theorem meet_per (hu : undoes (stp D T B) (stp D' T' B') u) (d : Int) : meet D T B S p D' T' B' S' p' (d + (rnd D T B D' T' B' : Nat)) = meet D T B S p D' T' B' S' p' d := by
  rw [← meet_turns h h' hu, ← meet_turns h h' hu]
  unfold turns
  congr 1
  funext m
  rw [Bool.eq_iff_iff, decide_eq_true_iff, decide_eq_true_iff, show d + ((rnd D T B D' T' B' : Nat) : Int) - m = (d - m) + (rnd D T B D' T' B' : Nat) by omega]
  constructor
  · intro hd
    have := Int.dvd_sub hd (Int.dvd_refl ((rnd D T B D' T' B' : Nat) : Int))
    rwa [show d - m + ((rnd D T B D' T' B' : Nat) : Int) - (rnd D T B D' T' B' : Nat) = d - m by omega] at this
  · intro hd
    exact Int.dvd_add hd (Int.dvd_refl _)
end
theorem meet_comm {D T B S p D' T' B' S' p' : Int} : meet D' T' B' S' p' D T B S p = meet D T B S p D' T' B' S' p' := by
  funext d
  unfold meet
  exact Bool.and_comm _ _

section
variable {P : Program} {w : World} {K : PySem.W.Frag} {mg : Str → Option Value} {base : Heap}
def spThing : Sp := fun vs H Q _ => ∃ (d : Addr) (n : Nat), vs = [.ref d] ∧ Dk n H d ∧ n < 900000 ∧ ∀ y t H', Dat H' y t → ExD d H H' → Dk (n + 1) H' d → Q y H'
theorem Dk.ne_fresh {n : Nat} {H : Hp} {d p : Addr} (h : Dk n H d) (hp : H p = none) : p ≠ d := fun z => by
  obtain ⟨_, _, _, hd, _⟩ := h
  rw [z, hd] at hp
  cases hp
end

theorem gcd_pos {a b : Nat} (h : 0 < a) : 0 < Nat.gcd a b := Nat.gcd_pos_of_pos_left b h
section
variable {P : Program} {w : World} {K : PySem.W.Frag} {mg : Str → Option Value} {base : Heap}
def spGcd : Sp := fun vs H Q _ => ∃ a b : Nat, vs = [.int a, .int b] ∧ RetV (.int (Nat.gcd a b)) H Q
theorem ok_common_measure (T : Txt K mg) : FnOk P w K mg base CX0 1 T.common_measure.f T.common_measure.fd ["one", "other"] spGcd := by
  refine T.common_measure.F.ok sc_common_measure (fun vs H Q E h => ?_) (fun cdv A outer s H vs Q E hr h => ?_)
  · obtain ⟨_, _, rfl, _⟩ := h
    rfl
  · obtain ⟨a, b, rfl, q⟩ := h
    refine ⟨_, (pss_cons (ps_while PassesOwn.never (pt_cmpR op_ne (pv 1) pe_int (nomark _))
        (pss_one (ps_par (i := 0) (j := 1) (by rfl) sc_common_measure.nd rfl rfl (by decide) rfl rfl (pa_cons (pv 1) (pa_cons (pe_op op_mod (pv 0) (pv 1)) pa_nil)) (by rfl))))
      (pss_one (ps_ret (pv 0)))), ?_⟩
    refine q_while (fun m σ H' => ∃ c : Nat, σ = [some (.int c), some (.int (m : Nat))] ∧ Nat.gcd c m = Nat.gcd a b ∧ Ex H H') b ⟨a, rfl, rfl, Ex.refl H⟩ ?_
    rintro m σ H1 ⟨c, rfl, hg, e1⟩
    by_cases hm : m = 0
    · subst hm
      refine ⟨false, fun H2 e2 Q2 q2 => ⟨_, rfl, rfl, _, rfl, q2 H2 (Ex.refl H2)⟩, fun z => Bool.noConfusion z, fun _ H2 e2 => ?_⟩
      rw [Nat.gcd_zero_right] at hg
      have z := q H2 (e1.trans e2)
      rw [← hg] at z
      exact ⟨_, rfl, z⟩
    · have hne : decide (V.int ((m : Nat) : Int) = V.int 0) = false := decide_eq_false fun z => hm (by have := V.int.inj z; omega)
      refine ⟨true, fun H2 e2 Q2 q2 => ⟨_, rfl, rfl, _, rfl, ?_⟩, fun _ H2 e2 => ?_, fun z => Bool.noConfusion z⟩
      · rw [hne]
        exact q2 H2 (Ex.refl H2)
      · have next : Nat.gcd m (c % m) = Nat.gcd a b := by
          rw [← hg, Nat.gcd_comm c m, Nat.gcd_rec m c, Nat.gcd_comm]
        refine ⟨fun σ' H' => σ' = [some (.int (m : Nat)), some (.int ((c % m : Nat) : Int))] ∧ Ex H H', fun σ' H' ⟨es, ex⟩ => ⟨c % m, Nat.mod_lt c (by omega), m, es, next, ex⟩, ?_⟩
        refine ⟨_, rfl, _, rfl, _, rfl, _, _, rfl, rfl, by show (0 : Int) < m; omega, _, _, rfl, ?_, e1.trans e2⟩
        rw [Int.natCast_emod]
        rfl
def spPlace : Sp := fun vs H Q _ => ∃ v D T B S i, vs = [v, .int i] ∧ Land H v D T B S ∧ (0 ≤ i ∧ i < D) ∧ RetV .non H Q
theorem ok_need_place (T : Txt K mg) : FnOk P w K mg base CX0 3 T.need_place.f T.need_place.fd ["land", "thing"] spPlace := by
  have G_is_between : FnOk P w K mg base CX0 2 T.is_between.f T.is_between.fd ["thing", "least", "most"] spBetween := ok_is_between T
  refine T.need_place.F.ok sc_need_place (fun vs H Q E h => ?_) (fun cdv A outer s H vs Q E hr h => ?_)
  · obtain ⟨_, _, _, _, _, _, rfl, _⟩ := h
    rfl
  · obtain ⟨v, D, T', B, S, i, rfl, ⟨a, rfl, ha, r⟩, hi, q⟩ := h
    refine ⟨_, (pss_cons (ps_set (i := 2) sc_need_place.nd rfl (Or.inl rfl) (pe_ix ix_tup (pv 0) pe_int (fun _ _ => rfl)))
      (pss_one (ps_if (pt_not (pt_val (pe_call G_is_between (hr.mono (by omega)) (by rfl) T.is_between.g T.is_between.F.kp T.is_between.b .nil pass0 (pa_cons (pv 1) (pa_cons pe_int (pa_cons (pe_op op_sub (pv 2) pe_int) pa_nil))))))
        (pss_one ps_never)
        pss_nil))), ?_⟩
    refine ⟨_, rfl, a, _, 0, _, rfl, rfl, st_of ha, rfl, ?_⟩
    refine ⟨_, rfl, _, rfl, _, _, rfl, rfl, _, _, _, _, rfl, .int i, fun H1 e1 => ⟨_, rfl, ?_⟩⟩
    rw [btw_yes ⟨hi.1, by omega⟩]
    exact iteF (q H1 e1)
end

section
variable {P : Program} {w : World} {K : PySem.W.Frag} {mg : Str → Option Value} {base : Heap}
theorem ok__law_measure (T : Txt K mg) : FnOk P w K mg base CX0 1 T._law_measure.f T._law_measure.fd ["one", "other"] spGcd := by
  refine T._law_measure.F.ok sc__law_measure (fun vs H Q E h => ?_) (fun cdv A outer s H vs Q E hr h => ?_)
  · obtain ⟨_, _, rfl, _⟩ := h
    rfl
  · obtain ⟨a, b, rfl, q⟩ := h
    refine ⟨_, (pss_cons (ps_while PassesOwn.never (pt_cmpR op_gt (pv 1) pe_int (nomark _))
        (pss_one (ps_par (i := 0) (j := 1) (by rfl) sc__law_measure.nd rfl rfl (by decide) rfl rfl (pa_cons (pv 1) (pa_cons (pe_op op_mod (pv 0) (pv 1)) pa_nil)) (by rfl))))
      (pss_one (ps_ret (pv 0)))), ?_⟩
    refine q_while (fun m σ H' => ∃ c : Nat, σ = [some (.int c), some (.int (m : Nat))] ∧ Nat.gcd c m = Nat.gcd a b ∧ Ex H H') b ⟨a, rfl, rfl, Ex.refl H⟩ ?_
    rintro m σ H1 ⟨c, rfl, hg, e1⟩
    by_cases hm : m = 0
    · subst hm
      refine ⟨false, fun H2 e2 Q2 q2 => ⟨_, rfl, _, _, rfl, rfl, _, rfl, q2 H2 (Ex.refl H2)⟩, fun z => Bool.noConfusion z, fun _ H2 e2 => ?_⟩
      rw [Nat.gcd_zero_right] at hg
      have z := q H2 (e1.trans e2)
      rw [← hg] at z
      exact ⟨_, rfl, z⟩
    · have above : decide (((m : Nat) : Int) > 0) = true := decide_eq_true (by omega)
      refine ⟨true, fun H2 e2 Q2 q2 => ⟨_, rfl, _, _, rfl, rfl, _, rfl, ?_⟩, fun _ H2 e2 => ?_, fun z => Bool.noConfusion z⟩
      · rw [above]
        exact q2 H2 (Ex.refl H2)
      · have next : Nat.gcd m (c % m) = Nat.gcd a b := by
          rw [← hg, Nat.gcd_comm c m, Nat.gcd_rec m c, Nat.gcd_comm]
        refine ⟨fun σ' H' => σ' = [some (.int (m : Nat)), some (.int ((c % m : Nat) : Int))] ∧ Ex H H', fun σ' H' ⟨es, ex⟩ => ⟨c % m, Nat.mod_lt c (by omega), m, es, next, ex⟩, ?_⟩
        refine ⟨_, rfl, _, rfl, _, rfl, _, _, rfl, rfl, by show (0 : Int) < m; omega, _, _, rfl, ?_, e1.trans e2⟩
        rw [Int.natCast_emod]
        rfl
end

/-- a walk within a walk: the body is told where it goes on -/
theorem walk_in {J : It} {n : Nat} {G : Hp → Prop} {Y : Nat → Hp → V → Hp → Prop} (w : Walk J n G Y) {body : V → Hp → (Hp → Prop) → Prop} {Nx : Hp → Prop} {H0 : Hp} (Pv : Nat → Hp → Prop) (h0 : Pv 0 H0) (hG : ∀ i H, i ≤ n → Pv i H → G H)
    (hs : ∀ i x H H', i < n → Pv i H → Y i H x H' → body x H' (Pv (i + 1))) (hd : ∀ H, Pv n H → Nx H) :
    ∃ W : Nat → Nat → Hp → Prop, (∃ m, W 0 m H0) ∧ ∀ i m H, W i m H → (J.stop i H ∧ Nx H) ∨ (J.go i H ∧ ∃ N : Hp → Prop, (∀ H', N H' → ∃ m', m' < m ∧ W (i + 1) m' H') ∧ ∀ x H', J.yld i H x H' → body x H' N) := by
  refine ⟨fun i m H => i + m = n ∧ Pv i H, ⟨n, Nat.zero_add n, h0⟩, fun i m H ⟨im, p⟩ => ?_⟩
  have g := hG i H (by omega) p
  cases m with
  | zero =>
    obtain rfl : i = n := by omega
    exact .inl ⟨w.stops H g, hd H p⟩
  | succ m => exact .inr ⟨w.goes i H (by omega) g, Pv (i + 1), fun H' p' => ⟨m, Nat.lt_succ_self m, by omega, p'⟩, fun x H' y => hs i x H H' (by omega) p (w.yields i H x H' (by omega) g y)⟩
section
variable {P : Program} {w : World} {K : PySem.W.Frag} {mg : Str → Option Value} {base : Heap}
def spUndo : Sp := fun vs H Q _ => ∃ a r : Nat, vs = [.int a, .int r] ∧ a ≤ 24060 ∧ (1 ≤ r ∧ r ≤ 24060) ∧ Nat.gcd a r = 1 ∧ ∀ u : Int, (0 ≤ u ∧ u < r) → (r : Int) ∣ a * u - 1 → RetV (.int u) H Q
theorem ok_undoing_factor (T : Txt K mg) : FnOk P w K mg base CX0 1 T.undoing_factor.f T.undoing_factor.fd ["number", "ring"] spUndo := by
  refine T.undoing_factor.F.ok sc_undoing_factor (fun vs H Q E h => ?_) (fun cdv A outer s H vs Q E hr h => ?_)
  · obtain ⟨_, _, rfl, _⟩ := h
    rfl
  · obtain ⟨a, r, rfl, ha, hr1, hg, q⟩ := h
    refine ⟨_, (pss_cons (ps_par (i := 2) (j := 3) (by rfl) sc_undoing_factor.nd rfl rfl (by decide) rfl rfl (pa_cons (pv 0) (pa_cons (pv 1) pa_nil)) (by rfl))
      (pss_cons (ps_asg (pe_tup (pa_cons pe_int (pa_cons pe_int pa_nil))) (pg_tup rfl (pgs_cons (pg_name (i := 4) sc_undoing_factor.nd rfl (Or.inl rfl)) (pgs_cons (pg_name (i := 5) sc_undoing_factor.nd rfl (Or.inl rfl)) pgs_nil))))
      (pss_cons (ps_while PassesOwn.never (pt_cmpR op_ne (pv 3) pe_int (nomark _))
        (pss_cons (ps_set (i := 6) sc_undoing_factor.nd rfl (Or.inl rfl) (pe_op op_fdiv (pv 2) (pv 3)))
      (pss_cons (ps_par (i := 2) (j := 3) (by rfl) sc_undoing_factor.nd rfl rfl (by decide) rfl rfl (pa_cons (pv 3) (pa_cons (pe_op op_sub (pv 2) (pe_op op_mul (pv 6) (pv 3))) pa_nil)) (by rfl))
      (pss_one (ps_par (i := 4) (j := 5) (by rfl) sc_undoing_factor.nd rfl rfl (by decide) rfl rfl (pa_cons (pv 5) (pa_cons (pe_op op_sub (pv 4) (pe_op op_mul (pv 6) (pv 5))) pa_nil)) (by rfl))))))
      (pss_one (ps_ret (pe_op op_mod (pv 4) (pv 1))))))), ?_⟩
    refine ⟨_, rfl, _, rfl, _, _, rfl, by show 2 ≤ sizeLine; decide, fun pc nc => ⟨pc, _, rfl, st_of upd_same, rfl, _, _, rfl, _, _, rfl, rfl, ?_⟩⟩
    have xc := Ex.new (o := .tup [.int 1, .int 0]) nc
    refine q_while (fun m σ H' => ∃ (c : Nat) (x y : Int) (z : Option V), σ = [some (.int a), some (.int r), some (.int c), some (.int (m : Nat)), some (.int x), some (.int y), z] ∧ Nat.gcd c m = 1 ∧ c ≤ 24060 ∧ m ≤ 24060 ∧ (r : Int) ∣ x * a - c ∧ (r : Int) ∣ y * a - m ∧ Ex H H') r ⟨a, 1, 0, none, rfl, hg, ha, hr1.2, by simp, ⟨-1, by omega⟩, xc⟩ ?_
    rintro m σ H1 ⟨c, x, y, z, rfl, hg1, hc, hm0, d1, d2, e1⟩
    by_cases hm : m = 0
    · subst hm
      refine ⟨false, fun H2 e2 Q2 q2 => ⟨_, rfl, rfl, _, rfl, q2 H2 (Ex.refl H2)⟩, fun z => Bool.noConfusion z, fun _ H2 e2 => ?_⟩
      rw [Nat.gcd_zero_right] at hg1
      subst hg1
      refine ⟨_, rfl, _, rfl, _, _, rfl, rfl, by show (0 : Int) < r; omega, ?_⟩
      have m0 := Int.emod_nonneg x (show (r : Int) ≠ 0 by omega)
      have m1 := Int.emod_lt_of_pos x (show (0 : Int) < r by omega)
      have dm := Int.mul_ediv_add_emod x r
      refine q (x % r) ⟨m0, m1⟩ ?_ H2 (e1.trans e2)
      obtain ⟨t, ht⟩ := d1
      refine ⟨t - x / r * a, ?_⟩
      rw [Int.mul_sub, ← Int.mul_assoc, Int.mul_comm (a : Int), show x % r = x - r * (x / r) by omega, Int.sub_mul]
      omega
    · have hne : decide (V.int ((m : Nat) : Int) = V.int 0) = false := decide_eq_false fun z => hm (by have := V.int.inj z; omega)
      refine ⟨true, fun H2 e2 Q2 q2 => ⟨_, rfl, rfl, _, rfl, ?_⟩, fun _ H2 e2 => ?_, fun z => Bool.noConfusion z⟩
      · rw [hne]
        exact q2 H2 (Ex.refl H2)
      · have next : Nat.gcd m (c % m) = 1 := by
          rw [← hg1, Nat.gcd_comm c m, Nat.gcd_rec m c, Nat.gcd_comm]
        have ml := Nat.mod_lt c (show 0 < m by omega)
        have dle := Nat.div_le_self c m
        have dq : ((c : Int) / (m : Int)) = ((c / m : Nat) : Int) := (Int.natCast_ediv c m).symm
        have mq : (c : Int) - ((c / m : Nat) : Int) * m = ((c % m : Nat) : Int) := by
          have := Nat.div_add_mod c m
          have e : ((c / m : Nat) : Int) * m = ((m * (c / m) : Nat) : Int) := by rw [Int.natCast_mul, Int.mul_comm]
          omega
        refine ⟨fun σ' H' => (∃ z, σ' = [some (.int a), some (.int r), some (.int (m : Nat)), some (.int ((c : Int) - (c : Int) / (m : Int) * m)), some (.int y), some (.int (x - (c : Int) / (m : Int) * y)), z]) ∧ Ex H H', fun σ' H' ⟨⟨z, es⟩, ex⟩ => ⟨c % m, ml, m, y, x - ((c / m : Nat) : Int) * y, z, by rw [es, dq, mq], next, hm0, by omega, d2, ?_, ex⟩, ?_⟩
        · obtain ⟨t1, h1⟩ := d1
          obtain ⟨t2, h2⟩ := d2
          refine ⟨t1 - ((c / m : Nat) : Int) * t2, ?_⟩
          rw [← mq, Int.mul_sub, Int.sub_mul, ← h1, Int.mul_left_comm (r : Int), ← h2, Int.mul_sub, Int.mul_assoc]
          omega
        have small : (c : Int) / (m : Int) ≤ 24060 ∧ 0 ≤ (c : Int) / (m : Int) := by
          rw [dq]
          exact ⟨Int.ofNat_le.mpr (Nat.le_trans dle hc), Int.natCast_nonneg _⟩
        refine ⟨_, rfl, _, rfl, _, _, rfl, rfl, ⟨by omega, by omega⟩, ?_⟩
        refine ⟨_, rfl, _, rfl, _, rfl, _, rfl, _, _, rfl, rfl, cm_l (by omega), _, _, rfl, rfl, _, _, rfl, ?_⟩
        exact ⟨_, rfl, _, rfl, _, rfl, _, rfl, _, _, rfl, rfl, cm_l (by omega), _, _, rfl, rfl, _, _, rfl, ⟨_, rfl⟩, e1.trans e2⟩
end

section
variable {P : Program} {w : World} {K : PySem.W.Frag} {mg : Str → Option Value} {base : Heap}
abbrev FarD (i : Int) : Prop := -1000000000000000000000000000000 ≤ i ∧ i ≤ 1000000000000000000000000000000
def spTwoD : Sp := fun vs H Q _ => ∃ i j : Int, vs = [.int i, .int j] ∧ FarD i ∧ FarD j ∧ i ≤ j ∧ RetV .non H Q
theorem ok_need_days (T : Txt K mg) : FnOk P w K mg base CX0 4 T.need_days.f T.need_days.fd ["first", "last"] spTwoD := by
  have G_need_day : FnOk P w K mg base CX0 3 T.need_day.f T.need_day.fd ["thing"] spNum := ok_need_day T
  refine T.need_days.F.ok sc_need_days (fun vs H Q E h => ?_) (fun cdv A outer s H vs Q E hr h => ?_)
  · obtain ⟨_, _, rfl, _⟩ := h
    rfl
  · obtain ⟨i, j, rfl, fi, fj, le, q⟩ := h
    refine ⟨_, (pss_cons (ps_expr (pe_call G_need_day (hr.mono (by omega)) (by rfl) T.need_day.g T.need_day.F.kp T.need_day.b .nil pass0 (pa_cons (pv 0) pa_nil)))
      (pss_cons (ps_expr (pe_call G_need_day (hr.mono (by omega)) (by rfl) T.need_day.g T.need_day.F.kp T.need_day.b .nil pass0 (pa_cons (pv 1) pa_nil)))
      (pss_one (ps_if (pt_cmpR op_lt (pv 1) (pv 0) (nomark _))
        (pss_one ps_never)
        pss_nil)))), ?_⟩
    refine ⟨_, rfl, i, rfl, fi, fun H1 e1 => ⟨_, rfl, j, rfl, fj, fun H2 e2 => ⟨_, rfl, _, rfl, _, _, rfl, rfl, _, rfl, ?_⟩⟩⟩
    rw [decide_eq_false (show ¬ j < i by omega)]
    exact iteF (q H2 (e1.trans e2))
/-- two lands with a place each -/
structure Two (H : Hp) (v : V) (D T B S p : Int) (v' : V) (D' T' B' S' p' : Int) : Prop where
  l : Land H v D T B S
  l' : Land H v' D' T' B' S'
  ld : Ld D T B S p
  ld' : Ld D' T' B' S' p'
theorem Two.ex {H H' : Hp} {v v' : V} {D T B S p D' T' B' S' p' : Int} (t : Two H v D T B S p v' D' T' B' S' p') (e : Ex H H') : Two H' v D T B S p v' D' T' B' S' p' := ⟨t.l.ex e, t.l'.ex e, t.ld, t.ld'⟩
theorem Two.swap {H : Hp} {v v' : V} {D T B S p D' T' B' S' p' : Int} (t : Two H v D T B S p v' D' T' B' S' p') : Two H v' D' T' B' S' p' v D T B S p := ⟨t.l', t.l, t.ld', t.ld⟩
def spTwoP : Sp := fun vs H Q _ => ∃ v D T B S p v' D' T' B' S' p', vs = [v, .int p, v', .int p'] ∧ Two H v D T B S p v' D' T' B' S' p' ∧ RetV .non H Q
theorem ok_need_places (T : Txt K mg) : FnOk P w K mg base CX0 5 T.need_places.f T.need_places.fd ["one", "place_one", "other", "place_other"] spTwoP := by
  have G_need_land : FnOk P w K mg base CX0 4 T.need_land.f T.need_land.fd ["thing"] spNeedLand := ok_need_land T
  have G_need_place : FnOk P w K mg base CX0 3 T.need_place.f T.need_place.fd ["land", "thing"] spPlace := ok_need_place T
  refine T.need_places.F.ok sc_need_places (fun vs H Q E h => ?_) (fun cdv A outer s H vs Q E hr h => ?_)
  · obtain ⟨_, _, _, _, _, _, _, _, _, _, _, _, rfl, _⟩ := h
    rfl
  · obtain ⟨v, D, T1, B, S, p, v', D', T', B', S', p', rfl, t, q⟩ := h
    refine ⟨_, (pss_cons (ps_expr (pe_call G_need_land (hr.mono (by omega)) (by rfl) T.need_land.g T.need_land.F.kp T.need_land.b .nil pass0 (pa_cons (pv 0) pa_nil)))
      (pss_cons (ps_expr (pe_call G_need_place (hr.mono (by omega)) (by rfl) T.need_place.g T.need_place.F.kp T.need_place.b .nil pass0 (pa_cons (pv 0) (pa_cons (pv 1) pa_nil))))
      (pss_cons (ps_expr (pe_call G_need_land (hr.mono (by omega)) (by rfl) T.need_land.g T.need_land.F.kp T.need_land.b .nil pass0 (pa_cons (pv 2) pa_nil)))
      (pss_one (ps_expr (pe_call G_need_place (hr.mono (by omega)) (by rfl) T.need_place.g T.need_place.F.kp T.need_place.b .nil pass0 (pa_cons (pv 2) (pa_cons (pv 3) pa_nil)))))))), ?_⟩
    refine ⟨_, rfl, v, D, T1, B, S, rfl, t.l, fun H1 e1 => ⟨_, rfl, _, rfl, v, D, T1, B, S, p, rfl, t.l.ex e1, t.ld.p, fun H2 e2 => ?_⟩⟩
    have e12 := e1.trans e2
    exact ⟨_, rfl, v', D', T', B', S', rfl, t.l'.ex e12, fun H3 e3 => ⟨_, rfl, _, rfl, v', D', T', B', S', p', rfl, t.l'.ex (e12.trans e3), t.ld'.p, fun H4 e4 => q H4 (e12.trans (e3.trans e4))⟩⟩
def spPlaced : Sp := fun vs H Q _ => ∃ v D T B S p, vs = [v, .int p] ∧ Land H v D T B S ∧ (0 ≤ p ∧ p < D) ∧ ∀ Dl H', H Dl = none → Ex H H' → H' Dl = some (.lst (((List.range B.toNat).map (pday D T B S p)).map V.int)) → Q (.ref Dl) H'
/-- bottom steps of a range -/
theorem steps_of {a c : Int} {n : Nat} (hc : 1 ≤ c ∧ c ≤ 30000) (hn : 1 ≤ n ∧ n ≤ 60) (ha : -2000000 ≤ a ∧ a ≤ 2000000) : RgC a (a + c * n) c n := by
  have h1 : c * 1 ≤ c * n := Int.mul_le_mul_of_nonneg_left (by omega) (by omega)
  have h2 : c * n ≤ c * 60 := Int.mul_le_mul_of_nonneg_left (by omega) (by omega)
  have size : Builtin.Range.rangeSize a (a + c * n) c = n := by
    unfold PySem.Builtin.Range.rangeSize
    rw [if_pos (show c > 0 by omega), if_pos (show a < a + c * n by omega), show a + c * (n : Int) - a - 1 = (c - 1) + c * ((n : Int) - 1) by rw [Int.mul_sub]; omega, Int.add_mul_ediv_left _ _ (by omega), Int.ediv_eq_zero_of_lt (by omega) (by omega)]
    omega
  refine ⟨by omega, by omega, ?_, size⟩
  unfold Builtin.Range.small
  rw [size, if_pos (show c > 0 by omega)]
  simp only [Builtin.Range.rangeFitsLong, Bool.and_eq_true, Bool.or_eq_true, decide_eq_true_eq]
  omega
theorem ok_placed_days (T : Txt K mg) : FnOk P w K mg base CX0 3 T.placed_days.f T.placed_days.fd ["land", "place"] spPlaced := by
  have G_step_of : FnOk P w K mg base CX0 1 T.step_of.f T.step_of.fd ["land"] spStep := ok_step_of T
  refine T.placed_days.F.ok sc_placed_days (fun vs H Q E h => ?_) (fun cdv A outer s H vs Q E hr h => ?_)
  · obtain ⟨_, _, _, _, _, _, rfl, _⟩ := h
    rfl
  · obtain ⟨v, D, T1, B, S, p, rfl, hL, hp, q⟩ := h
    obtain ⟨a, rfl, ha, r1, r2, r3, r4⟩ := id hL
    have hs := step_bd r1 r2 r3
    have hpB : 0 ≤ p * B ∧ p * B ≤ 400 * 60 := by
      have h1 := Int.mul_nonneg hp.1 (show 0 ≤ B by omega)
      have h2 := Int.mul_le_mul (show p ≤ 400 by omega) r3.2 (by omega) (by omega)
      omega
    refine ⟨_, (pss_cons (ps_asg (pe_slice sl_tup (pv 0) (po_some pe_int) po_none) (pg_tup rfl (pgs_cons (pg_name (i := 2) sc_placed_days.nd rfl (Or.inr rfl)) (pgs_cons (pg_name (i := 3) sc_placed_days.nd rfl (Or.inl rfl)) pgs_nil))))
      (pss_cons (ps_set (i := 4) sc_placed_days.nd rfl (Or.inl rfl) (pe_call G_step_of (hr.mono (by omega)) (by rfl) T.step_of.g T.step_of.F.kp T.step_of.b .nil pass0 (pa_cons (pv 0) pa_nil)))
      (pss_cons (ps_set (i := 5) sc_placed_days.nd rfl (Or.inl rfl) (pe_op op_add (pv 3) (pe_op op_mul (pv 1) (pv 2))))
      (pss_one (ps_ret (pe_lc (own := [("number", 6)]) (g := gName 6) (by rfl) sc_placed_days.nd (pi_range3 rfl T.range (pa_cons (pv 5) (pa_cons (pe_op op_add (pv 5) (pe_op op_mul (pv 4) (pv 2))) (pa_cons (pv 4) pa_nil)))) (blkOk_by (own := [("number", 6)]) (N := ["land", "place", "bottom", "shift", "step", "least", "number"]) (sc := defScope s_placed_days) (by decide +kernel)) (fun _ _ _ _ _ => (pg_name (i := 6) sc_placed_days.nd rfl (Or.inl rfl))) (fun _ _ _ _ _ => pts_nil) (fun _ _ _ _ _ => (pe_op op_fdiv (pv 6) (pv 2))))))))), ?_⟩
    refine ⟨_, rfl, _, rfl, a, _, rfl, st_of ha, (by show ¬ (HT.sIx 4 0 (some 2) = 0 ∧ HT.sIx 4 4 none = 4); decide), fun p1 n1 => ?_⟩
    refine ⟨p1, _, rfl, st_of upd_same, rfl, _, _, rfl, _, _, rfl, rfl, ?_⟩
    have x1 := Ex.new (o := .tup (cutV [V.int D, V.int T1, V.int B, V.int S] (some 2) none)) n1
    refine ⟨_, rfl, _, D, T1, B, S, rfl, hL.ex x1, fun H1 e1 => ?_⟩
    have e01 := x1.trans e1
    refine ⟨_, rfl, _, rfl, _, rfl, _, _, rfl, rfl, cm_l (by omega), _, _, rfl, rfl, ?_⟩
    refine ⟨_, rfl, _, rfl, _, rfl, _, rfl, _, _, rfl, rfl, cm_l (by omega), _, _, rfl, rfl, _, rfl, _, _, _, B.toNat, rfl, ?_, fun Dl hD => ?_⟩
    · have z := steps_of (a := S + p * B) (c := D * B + T1) (n := B.toNat) ⟨hs.1, by omega⟩ ⟨by omega, by omega⟩ ⟨by omega, by omega⟩
      rw [show ((B.toNat : Nat) : Int) = B by omega] at z
      exact z
    refine lc_it walk_rangeC (Cw H1 (fun _ => true) (fun (i : Nat) => .int (pday D T1 B S p i)) Dl) ⟨hD, Ex.new hD, upd_same⟩ (fun _ _ _ _ => trivial) (fun i x H' H'' hi c y => ?_) (fun H' c => ?_)
    · obtain ⟨rfl, rfl⟩ := y
      refine ⟨rfl, cw_turn c (by omega) (fun Ha ea Qa qa => qa Ha (Ex.refl Ha)) ?_⟩
      intro _ Ha ea Qa qa
      refine ⟨_, rfl, _, rfl, _, _, rfl, rfl, ⟨by omega, by omega⟩, ?_⟩
      have z := qa Ha (Ex.refl Ha)
      unfold pday fst at z
      show Qa (V.int ((S + p * B + (i : Int) * (D * B + T1)) / B)) Ha
      rw [show (S + p * B + (i : Int) * (D * B + T1)) / B = ((D * B + T1) * (i : Int) + S) / B + p by
        rw [show S + p * B + (i : Int) * (D * B + T1) = ((D * B + T1) * (i : Int) + S) + p * B by rw [Int.mul_comm (i : Int)]; omega, Int.add_mul_ediv_right _ _ (by omega)]]
      exact z
    · obtain ⟨_, e2, h2⟩ := c
      rw [given_all] at h2
      refine q Dl H' (fresh_back e01 hD) (e01.trans e2) ?_
      rw [h2, List.map_map]
      rfl
def spShare : Sp := fun vs H Q _ => ∃ v D T B S p v' D' T' B' S' p', vs = [v, v'] ∧ Two H v D T B S p v' D' T' B' S' p' ∧ RetV (.int (Nat.gcd (stp D T B) (stp D' T' B') : Nat)) H Q
theorem ok_shared_step (T : Txt K mg) : FnOk P w K mg base CX0 2 T.shared_step.f T.shared_step.fd ["one", "other"] spShare := by
  have G_step_of : FnOk P w K mg base CX0 1 T.step_of.f T.step_of.fd ["land"] spStep := ok_step_of T
  have G_common_measure : FnOk P w K mg base CX0 1 T.common_measure.f T.common_measure.fd ["one", "other"] spGcd := ok_common_measure T
  refine T.shared_step.F.ok sc_shared_step (fun vs H Q E h => ?_) (fun cdv A outer s H vs Q E hr h => ?_)
  · obtain ⟨_, _, _, _, _, _, _, _, _, _, _, _, rfl, _⟩ := h
    rfl
  · obtain ⟨v, D, T1, B, S, p, v', D', T', B', S', p', rfl, t, q⟩ := h
    have s1 := t.ld.stp
    have s2 := t.ld'.stp
    refine ⟨_, (pss_one (ps_ret (pe_call G_common_measure (hr.mono (by omega)) (by rfl) T.common_measure.g T.common_measure.F.kp T.common_measure.b .nil pass0 (pa_cons (pe_call G_step_of (hr.mono (by omega)) (by rfl) T.step_of.g T.step_of.F.kp T.step_of.b .nil pass0 (pa_cons (pv 0) pa_nil)) (pa_cons (pe_call G_step_of (hr.mono (by omega)) (by rfl) T.step_of.g T.step_of.F.kp T.step_of.b .nil pass0 (pa_cons (pv 1) pa_nil)) pa_nil))))), ?_⟩
    refine ⟨_, rfl, v, D, T1, B, S, rfl, t.l, fun H1 e1 => ⟨_, rfl, v', D', T', B', S', rfl, t.l'.ex e1, fun H2 e2 => ⟨stp D T1 B, stp D' T' B', ?_, fun H3 e3 => q H3 ((e1.trans e2).trans e3)⟩⟩⟩
    rw [s1.1, s2.1]
    rfl
end

/-! ### starts and ends of two turning things -/
def stO (s t : Nat) (u d a : Int) : Int := (a / (Nat.gcd s t : Nat) * (u * s) - a + d) % (s * t / Nat.gcd s t : Nat) + a % (Nat.gcd s t : Nat) * (2 * (s * t / Nat.gcd s t : Nat))
def enO (s t : Nat) (u c : Int) : Int := c / (Nat.gcd s t : Nat) * (u * s) % (s * t / Nat.gcd s t : Nat) + c % (Nat.gcd s t : Nat) * (2 * (s * t / Nat.gcd s t : Nat))
theorem lead_other {s t : Nat} {u : Int} (hu : undoes s t u) : (t : Int) ∣ u * s - (Nat.gcd s t : Nat) := by
  obtain ⟨w, hw⟩ := hu
  have ds : (s : Int) = (Nat.gcd s t : Nat) * (s / Nat.gcd s t : Nat) := by
    rw [← Int.natCast_mul, Nat.mul_div_cancel' (Nat.gcd_dvd_left s t)]
  have dt : (t : Int) = (Nat.gcd s t : Nat) * (t / Nat.gcd s t : Nat) := by
    rw [← Int.natCast_mul, Nat.mul_div_cancel' (Nat.gcd_dvd_right s t)]
  revert hw ds dt
  generalize ((s / Nat.gcd s t : Nat) : Int) = s1
  generalize ((t / Nat.gcd s t : Nat) : Int) = t1
  generalize ((Nat.gcd s t : Nat) : Int) = g
  intro hw ds dt
  refine ⟨w, ?_⟩
  rw [ds, dt, Int.mul_left_comm, Int.mul_comm u, show s1 * u = t1 * w + 1 by omega, Int.mul_add, Int.mul_assoc]
  omega
theorem far_rows {X Y k L p q e : Int} (hX : 0 ≤ X ∧ X < L) (hY : 0 ≤ Y ∧ Y < L) (hk : 0 ≤ k ∧ k < L) (he : 0 ≤ e ∧ e ≤ L) (h : X + q * (2 * L) + e = Y + p * (2 * L) + k) : q = p := by
  rcases Int.lt_trichotomy q p with l | l | l
  · have := Int.mul_le_mul_of_nonneg_right (show q + 1 ≤ p by omega) (show 0 ≤ 2 * L by omega)
    rw [Int.add_mul] at this
    omega
  · exact l
  · have := Int.mul_le_mul_of_nonneg_right (show p + 1 ≤ q by omega) (show 0 ≤ 2 * L by omega)
    rw [Int.add_mul] at this
    omega
theorem mod_back {L x : Int} : L ∣ x % L - x := by
  refine ⟨-(x / L), ?_⟩
  have := Int.mul_ediv_add_emod x L
  rw [Int.mul_neg]
  omega
theorem round_pos {s t : Nat} (hs : 0 < s) (ht : 0 < t) : (0 : Int) < (s * t / Nat.gcd s t : Nat) := by
  have g0 := Nat.gcd_pos_of_pos_left t hs
  have le := Nat.gcd_le_left t hs
  have : 0 < s * t / Nat.gcd s t := Nat.div_pos (Nat.le_trans le (Nat.le_mul_of_pos_right _ ht)) g0
  omega
theorem hit_iff {s t : Nat} {u d a c k : Int} (hs : 0 < s) (ht : 0 < t) (hu : undoes s t u) (k0 : 0 ≤ k) (kL : k < (s * t / Nat.gcd s t : Nat)) :
    (enO s t u c = stO s t u d a + k ∨ enO s t u c + (s * t / Nat.gcd s t : Nat) = stO s t u d a + k) ↔ (s : Int) ∣ d + k - a ∧ (t : Int) ∣ d + k - c := by
  have L0 := round_pos hs ht
  have l1 := round_one s t
  have l2 := round_other s t
  have lead := lead_other hu
  have both := @lcm_int s t
  have g0 : (0 : Int) < (Nat.gcd s t : Nat) := by have := Nat.gcd_pos_of_pos_left t hs; omega
  have g1 : ((Nat.gcd s t : Nat) : Int) ∣ s := Int.natCast_dvd_natCast.mpr (Nat.gcd_dvd_left s t)
  have g2 : ((Nat.gcd s t : Nat) : Int) ∣ t := Int.natCast_dvd_natCast.mpr (Nat.gcd_dvd_right s t)
  unfold enO stO
  generalize ((s * t / Nat.gcd s t : Nat) : Int) = L at *
  generalize ((Nat.gcd s t : Nat) : Int) = g at *
  have x0 := Int.emod_nonneg (c / g * (u * s)) (show L ≠ 0 by omega)
  have x1 := Int.emod_lt_of_pos (c / g * (u * s)) L0
  have y0 := Int.emod_nonneg (a / g * (u * s) - a + d) (show L ≠ 0 by omega)
  have y1 := Int.emod_lt_of_pos (a / g * (u * s) - a + d) L0
  have xb := mod_back (L := L) (x := c / g * (u * s))
  have yb := mod_back (L := L) (x := a / g * (u * s) - a + d)
  have dc := Int.mul_ediv_add_emod c g
  have da := Int.mul_ediv_add_emod a g
  -- the meeting by its quotients
  have turn : L ∣ (c / g * (u * s) % L - (a / g * (u * s) - a + d) % L - k) - ((c / g - a / g) * (u * s) + a - (d + k)) := by
    have h := Int.dvd_sub xb yb
    rwa [show c / g * (u * s) % L - c / g * (u * s) - ((a / g * (u * s) - a + d) % L - (a / g * (u * s) - a + d)) = (c / g * (u * s) % L - (a / g * (u * s) - a + d) % L - k) - ((c / g - a / g) * (u * s) + a - (d + k)) by rw [Int.sub_mul]; omega] at h
  have key : a % g = c % g → (L ∣ (c / g - a / g) * (u * s) + a - (d + k) ↔ (s : Int) ∣ d + k - a ∧ (t : Int) ∣ d + k - c) := fun same => by
    have ca : g * (c / g - a / g) = c - a := by rw [Int.mul_sub]; omega
    have s1 : (s : Int) ∣ (c / g - a / g) * (u * s) + a - (d + k) - (a - (d + k)) := by
      refine ⟨(c / g - a / g) * u, ?_⟩
      rw [Int.mul_comm (s : Int), Int.mul_assoc]
      omega
    have t1 : (t : Int) ∣ (c / g - a / g) * (u * s) + a - (d + k) - (c - (d + k)) := by
      have h := Int.dvd_mul_of_dvd_right (b := c / g - a / g) lead
      rwa [Int.mul_sub, Int.mul_comm _ g, ca, show (c / g - a / g) * (u * s) - (c - a) = (c / g - a / g) * (u * s) + a - (d + k) - (c - (d + k)) by omega] at h
    constructor
    · intro h
      have h1 := Int.dvd_sub (Int.dvd_trans l1 h) s1
      have h2 := Int.dvd_sub (Int.dvd_trans l2 h) t1
      exact ⟨dvd_swap (by rwa [show (c / g - a / g) * (u * s) + a - (d + k) - ((c / g - a / g) * (u * s) + a - (d + k) - (a - (d + k))) = a - (d + k) by omega] at h1), dvd_swap (by rwa [show (c / g - a / g) * (u * s) + a - (d + k) - ((c / g - a / g) * (u * s) + a - (d + k) - (c - (d + k))) = c - (d + k) by omega] at h2)⟩
    · rintro ⟨h1, h2⟩
      refine both ?_ ?_
      · have := Int.dvd_add s1 (dvd_swap h1)
        rwa [show (c / g - a / g) * (u * s) + a - (d + k) - (a - (d + k)) + (a - (d + k)) = (c / g - a / g) * (u * s) + a - (d + k) by omega] at this
      · have := Int.dvd_add t1 (dvd_swap h2)
        rwa [show (c / g - a / g) * (u * s) + a - (d + k) - (c - (d + k)) + (c - (d + k)) = (c / g - a / g) * (u * s) + a - (d + k) by omega] at this
  generalize (c / g - a / g) * (u * s) + a - (d + k) = W at turn key
  generalize c / g * (u * s) % L = X at *
  generalize (a / g * (u * s) - a + d) % L = Y at *
  constructor
  · intro h
    have same : c % g = a % g := by
      rcases h with h | h
      · exact far_rows (e := 0) ⟨x0, x1⟩ ⟨y0, y1⟩ ⟨k0, kL⟩ ⟨by omega, by omega⟩ (by omega)
      · exact far_rows (e := L) ⟨x0, x1⟩ ⟨y0, y1⟩ ⟨k0, kL⟩ ⟨by omega, by omega⟩ (by omega)
    refine (key same.symm).mp ?_
    rw [same] at h
    have hv : L ∣ X - Y - k := by
      rcases h with h | h
      · exact ⟨0, by omega⟩
      · exact ⟨-1, by omega⟩
    have := Int.dvd_sub hv turn
    rwa [show X - Y - k - (X - Y - k - W) = W by omega] at this
  · rintro ⟨h1, h2⟩
    have same : a % g = c % g := by
      have := dvd_via (dvd_swap (Int.dvd_trans g1 h1)) (Int.dvd_trans g2 h2)
      exact Int.emod_eq_emod_iff_emod_sub_eq_zero.mpr (Int.emod_eq_zero_of_dvd this)
    have hW := (key same).mpr ⟨h1, h2⟩
    have hv := Int.dvd_add turn hW
    rw [show X - Y - k - W + W = X - Y - k by omega] at hv
    obtain ⟨m, hm⟩ := hv
    rw [same]
    have m0 : m < 1 := by
      rcases Int.lt_or_le m 1 with l | l
      · exact l
      · have := Int.mul_le_mul_of_nonneg_left l (show 0 ≤ L by omega)
        omega
    have m1 : -2 < m := by
      rcases Int.lt_or_le (-2) m with l | l
      · exact l
      · have := Int.mul_le_mul_of_nonneg_left l (show 0 ≤ L by omega)
        omega
    rcases (show m = 0 ∨ m = -1 by omega) with rfl | rfl
    · left
      omega
    · right
      omega
/-! ### how many of a list are less -/
def lessN (E : List Int) (x : Int) : Nat := (E.filter fun e => decide (e < x)).length
def sameN (E : List Int) (x : Int) : Nat := (E.filter fun e => decide (e = x)).length
theorem less_cons (e : Int) (E : List Int) (x : Int) : lessN (e :: E) x = (if e < x then 1 else 0) + lessN E x := by
  unfold lessN
  rw [List.filter_cons]
  by_cases h : e < x
  · rw [if_pos (decide_eq_true h), if_pos h, List.length_cons, Nat.add_comm]
  · rw [if_neg (by rw [decide_eq_false h]; decide), if_neg h, Nat.zero_add]
theorem same_cons (e : Int) (E : List Int) (x : Int) : sameN (e :: E) x = (if e = x then 1 else 0) + sameN E x := by
  unfold sameN
  rw [List.filter_cons]
  by_cases h : e = x
  · rw [if_pos (decide_eq_true h), if_pos h, List.length_cons, Nat.add_comm]
  · rw [if_neg (by rw [decide_eq_false h]; decide), if_neg h, Nat.zero_add]
theorem less_step (E : List Int) (x : Int) : lessN E (x + 1) = lessN E x + sameN E x := by
  induction E with
  | nil => rfl
  | cons e E ih =>
    rw [less_cons, less_cons, same_cons, ih]
    by_cases h1 : e < x
    · rw [if_pos (by omega), if_pos h1, if_neg (by omega)]
      omega
    · by_cases h2 : e = x
      · rw [if_pos (by omega), if_neg h1, if_pos h2]
        omega
      · rw [if_neg (by omega), if_neg h1, if_neg h2]
        omega
theorem less_mono (E : List Int) {x y : Int} (h : x ≤ y) : lessN E x ≤ lessN E y := by
  induction E with
  | nil => exact Nat.le_refl _
  | cons e E ih =>
    rw [less_cons, less_cons]
    by_cases h1 : e < x
    · rw [if_pos h1, if_pos (by omega)]
      omega
    · rw [if_neg h1]
      omega
theorem less_le (E : List Int) (x : Int) : lessN E x ≤ E.length := List.length_filter_le _ _
theorem less_lt {E : List Int} {x z : Int} (hz : z ∈ E) (h : x ≤ z) : lessN E x < E.length := by
  induction E with
  | nil => cases hz
  | cons e E ih =>
    rw [less_cons, List.length_cons]
    rcases List.mem_cons.mp hz with rfl | later
    · rw [if_neg (by omega)]
      have := less_le E x
      omega
    · have := ih later
      by_cases h1 : e < x
      · rw [if_pos h1]
        omega
      · rw [if_neg h1]
        omega
theorem less_none {E : List Int} {x : Int} (h : ∀ e ∈ E, x ≤ e) : lessN E x = 0 := by
  unfold lessN
  rw [List.length_eq_zero_iff, List.filter_eq_nil_iff]
  intro e he
  have up := h e he
  rw [decide_eq_false (by omega : ¬ e < x)]
  decide
/-- of a rising list: the first so many are less -/
theorem less_at {E : List Int} (up : E.Pairwise (· ≤ ·)) {k : Nat} {y x : Int} (hk : E[k]? = some y) : y < x ↔ k < lessN E x := by
  induction E generalizing k with
  | nil => cases hk
  | cons e E ih =>
    rw [List.pairwise_cons] at up
    rw [less_cons]
    cases k with
    | zero =>
      cases hk
      by_cases h : y < x
      · rw [if_pos h]
        exact ⟨fun _ => by omega, fun _ => h⟩
      · rw [if_neg h, less_none fun z hz => by have := up.1 z hz; omega]
        exact ⟨fun z => absurd z h, fun z => absurd z (by omega)⟩
    | succ k =>
      rw [List.getElem?_cons_succ] at hk
      have hy := up.1 y (List.mem_of_getElem? hk)
      rw [ih up.2 hk]
      by_cases h : e < x
      · rw [if_pos h]
        omega
      · rw [if_neg h, less_none fun z hz => by have := up.1 z hz; omega]
        omega
theorem less_perm {E E' : List Int} (h : E.Perm E') (x : Int) : lessN E x = lessN E' x := (h.filter _).length_eq
theorem same_append (E F : List Int) (x : Int) : sameN (E ++ F) x = sameN E x + sameN F x := by
  unfold sameN
  rw [List.filter_append, List.length_append]
theorem sum_perm {xs ys : List Int} (h : xs.Perm ys) : xs.sum = ys.sum := by
  induction h with
  | nil => rfl
  | cons x _ ih => rw [List.sum_cons, List.sum_cons, ih]
  | swap x y l => simp only [List.sum_cons]; omega
  | trans _ _ h1 h2 => rw [h1, h2]
/-- over all starts, how many ends are less than so many later -/
def sumLess (S E : List Int) (n : Int) : Int := (S.map fun s => (lessN E (s + n) : Int)).sum
def sumSame (S E : List Int) (n : Int) : Int := (S.map fun s => (sameN E (s + n) : Int)).sum
theorem sumLess_step (S E : List Int) (n : Int) : sumLess S E (n + 1) = sumLess S E n + sumSame S E n := by
  unfold sumLess sumSame
  induction S with
  | nil => rfl
  | cons s S ih =>
    simp only [List.map_cons, List.sum_cons]
    rw [ih, show s + (n + 1) = s + n + 1 by omega, less_step, Int.natCast_add]
    omega
theorem sumLess_perm {S S' E E' : List Int} (hS : S.Perm S') (hE : E.Perm E') (n : Int) : sumLess S E n = sumLess S' E' n := by
  unfold sumLess
  rw [show (fun s => ((lessN E (s + n) : Nat) : Int)) = fun s => ((lessN E' (s + n) : Nat) : Int) from funext fun s => by rw [less_perm hE]]
  exact sum_perm (hS.map _)
theorem sumLess_cnt {S E : List Int} {f : Int → Bool} {d : Int} {L : Nat} (h : ∀ k : Nat, k < L → sumSame S E k = if f (d + k) = true then 1 else 0) (n : Nat) (hn : n ≤ L) : sumLess S E n = sumLess S E 0 + cnt f d n := by
  induction n with
  | zero =>
    rw [show cnt f d 0 = 0 from rfl]
    simp
  | succ n ih =>
    rw [show ((n + 1 : Nat) : Int) = n + 1 by omega, sumLess_step, ih (by omega), h n (by omega), cnt_succ, Int.natCast_add]
    split <;> simp <;> omega
/-- at most one below n -/
theorem one_of {n : Nat} {p : Nat → Bool} (h : ∀ i j, i < n → j < n → p i = true → p j = true → i = j) : ((List.range n).filter p).length = if (List.range n).any p = true then 1 else 0 := by
  induction n with
  | zero => rfl
  | succ n ih =>
    have ih := ih fun i j hi hj => h i j (by omega) (by omega)
    rw [List.range_succ, List.filter_append, List.length_append, List.any_append, ih]
    by_cases e : p n = true
    · have no : (List.range n).any p = false := by
        rw [List.any_eq_false]
        intro i hi pi
        have := h i n (by have := List.mem_range.mp hi; omega) (by omega) pi e
        have := List.mem_range.mp hi
        omega
      simp [no, e]
    · simp only [List.filter_cons, e]
      simp [e]
theorem two_ways {α : Type} (xs : List α) {p q r : α → Bool} (h1 : ∀ x ∈ xs, r x = (p x || q x)) (h2 : ∀ x ∈ xs, p x = true → q x = false) : (xs.filter p).length + (xs.filter q).length = (xs.filter r).length := by
  induction xs with
  | nil => rfl
  | cons x xs ih =>
    have ih := ih (fun y hy => h1 y (List.mem_cons_of_mem _ hy)) (fun y hy => h2 y (List.mem_cons_of_mem _ hy))
    have a := h1 x List.mem_cons_self
    have b := h2 x List.mem_cons_self
    simp only [List.filter_cons]
    cases e : p x with
    | true =>
      have b := b e
      rw [e, Bool.true_or] at a
      rw [a, b]
      simp only [if_true, List.length_cons]
      simp
      omega
    | false =>
      rw [e, Bool.false_or] at a
      rw [a]
      cases q x <;> simp <;> omega

/-! ### starts and ends of two lands -/
theorem sum_if (n : Nat) (p : Nat → Bool) : ((List.range n).map fun i => (if p i = true then (1 : Int) else 0)).sum = (((List.range n).filter p).length : Nat) := by
  induction n with
  | zero => rfl
  | succ n ih =>
    rw [List.range_succ, List.map_append, List.filter_append, List.length_append, List.sum_append, ih]
    by_cases e : p n = true
    · simp [e]
    · simp [e]
theorem same_map (n : Nat) (f : Nat → Int) (x : Int) : sameN ((List.range n).map f) x = ((List.range n).filter fun j => decide (f j = x)).length := by
  unfold sameN
  rw [List.filter_map, List.length_map]
  rfl
def startL (D T B S p D' T' B' u d : Int) : List Int := (List.range B.toNat).map fun i => stO (stp D T B) (stp D' T' B') u d (pday D T B S p i)
def end1L (D T B D' T' B' S' p' u : Int) : List Int := (List.range B'.toNat).map fun j => enO (stp D T B) (stp D' T' B') u (pday D' T' B' S' p' j)
def lastE (D T B D' T' B' : Int) : Int := ((Nat.gcd (stp D T B) (stp D' T' B') : Nat) + 1) * (2 * (rnd D T B D' T' B' : Nat))
def endL (D T B D' T' B' S' p' u : Int) : List Int := end1L D T B D' T' B' S' p' u ++ (end1L D T B D' T' B' S' p' u).map (fun e => e + ((rnd D T B D' T' B' : Nat) : Int)) ++ [lastE D T B D' T' B']
section
variable {D T B S p D' T' B' S' p' u d : Int} (h : Ld D T B S p) (h' : Ld D' T' B' S' p')
include h h' in
theorem start_last {x : Int} (hx : x ∈ startL D T B S p D' T' B' u d) : x + (rnd D T B D' T' B' : Nat) < lastE D T B D' T' B' := by
  have s1 := h.stp
  have s2 := h'.stp
  have L0 : (0 : Int) < (rnd D T B D' T' B' : Nat) := round_pos (by omega) (by omega)
  have g0 := Nat.gcd_pos_of_pos_left (stp D' T' B') (show 0 < stp D T B by omega)
  unfold startL at hx
  obtain ⟨i, _, rfl⟩ := List.mem_map.mp hx
  unfold stO lastE
  change (_ % ((rnd D T B D' T' B' : Nat) : Int) + _ * (2 * ((rnd D T B D' T' B' : Nat) : Int))) + _ < _
  have g1 := Int.emod_lt_of_pos (pday D T B S p i) (show (0 : Int) < (Nat.gcd (stp D T B) (stp D' T' B') : Nat) by omega)
  have m1 := Int.emod_lt_of_pos (pday D T B S p i / (Nat.gcd (stp D T B) (stp D' T' B') : Nat) * (u * (stp D T B : Nat)) - pday D T B S p i + d) L0
  have := Int.mul_le_mul_of_nonneg_right (show pday D T B S p i % (Nat.gcd (stp D T B) (stp D' T' B') : Nat) + 2 ≤ ((Nat.gcd (stp D T B) (stp D' T' B') : Nat) : Int) + 1 by omega) (show 0 ≤ 2 * ((rnd D T B D' T' B' : Nat) : Int) by omega)
  rw [Int.add_mul] at this
  omega
include h h' in
theorem hits_one (hu : undoes (stp D T B) (stp D' T' B') u) {k : Nat} (hk : k < rnd D T B D' T' B') {i : Nat} : sameN (endL D T B D' T' B' S' p' u) (stO (stp D T B) (stp D' T' B') u d (pday D T B S p i) + k) = if decide (((stp D T B : Nat) : Int) ∣ d + k - pday D T B S p i) = true ∧ atP D' T' B' S' p' (d + k) = true then 1 else 0 := by
  have s1 := h.stp
  have s2 := h'.stp
  have L0 : (0 : Int) < (rnd D T B D' T' B' : Nat) := round_pos (by omega) (by omega)
  have hi := fun j : Nat => hit_iff (s := stp D T B) (t := stp D' T' B') (u := u) (d := d) (a := pday D T B S p i) (c := pday D' T' B' S' p' j) (k := k) (by omega) (by omega) hu (by omega) (by have : rnd D T B D' T' B' = stp D T B * stp D' T' B' / Nat.gcd (stp D T B) (stp D' T' B') := rfl; omega)
  have no : sameN [lastE D T B D' T' B'] (stO (stp D T B) (stp D' T' B') u d (pday D T B S p i) + k) = 0 := by
    have g1 := Int.emod_lt_of_pos (pday D T B S p i) (show (0 : Int) < (Nat.gcd (stp D T B) (stp D' T' B') : Nat) by have := Nat.gcd_pos_of_pos_left (stp D' T' B') (show 0 < stp D T B by omega); omega)
    have m1 := Int.emod_lt_of_pos (pday D T B S p i / (Nat.gcd (stp D T B) (stp D' T' B') : Nat) * (u * (stp D T B : Nat)) - pday D T B S p i + d) L0
    have := Int.mul_le_mul_of_nonneg_right (show pday D T B S p i % (Nat.gcd (stp D T B) (stp D' T' B') : Nat) + 2 ≤ ((Nat.gcd (stp D T B) (stp D' T' B') : Nat) : Int) + 1 by omega) (show 0 ≤ 2 * ((rnd D T B D' T' B' : Nat) : Int) by omega)
    rw [Int.add_mul] at this
    rw [same_cons, if_neg]
    · rfl
    · unfold stO lastE
      change ¬ _ = (_ % ((rnd D T B D' T' B' : Nat) : Int) + _ * (2 * ((rnd D T B D' T' B' : Nat) : Int))) + _
      omega
  unfold endL end1L
  rw [same_append, same_append, no, List.map_map, same_map, same_map, Nat.add_zero]
  rw [two_ways (List.range B'.toNat) (r := fun j => decide (((stp D T B : Nat) : Int) ∣ d + k - pday D T B S p i) && decide (((stp D' T' B' : Nat) : Int) ∣ d + k - pday D' T' B' S' p' j))]
  · by_cases e : ((stp D T B : Nat) : Int) ∣ d + k - pday D T B S p i
    · rw [decide_eq_true e]
      simp only [Bool.true_and, true_and]
      rw [one_of]
      · congr 1
        rw [eq_iff_iff, at_mod h'.d h'.t h'.b h'.p, List.any_eq_true, ← s2.1]
        constructor
        · rintro ⟨j, hj, dj⟩
          exact ⟨j, List.mem_range.mp hj, of_decide_eq_true dj⟩
        · rintro ⟨j, hj, dj⟩
          exact ⟨j, List.mem_range.mpr hj, decide_eq_true dj⟩
      · intro j j' hj hj' e1 e2
        refine pday_apart h'.d h'.t h'.b (S := S') (p := p') hj hj' ?_
        rw [← s2.1]
        exact dvd_via (dvd_swap (of_decide_eq_true e1)) (of_decide_eq_true e2)
    · rw [decide_eq_false e]
      simp
  · intro j _
    rw [Bool.eq_iff_iff, Bool.and_eq_true, Bool.or_eq_true, decide_eq_true_iff, decide_eq_true_iff, decide_eq_true_iff, decide_eq_true_iff]
    exact (hi j).symm
  · intro j _ e
    have e := of_decide_eq_true e
    refine decide_eq_false fun z => ?_
    have z : enO (stp D T B) (stp D' T' B') u (pday D' T' B' S' p' j) + (rnd D T B D' T' B' : Nat) = _ := z
    omega
include h h' in
theorem hits_all (hu : undoes (stp D T B) (stp D' T' B') u) (k : Nat) (hk : k < rnd D T B D' T' B') : sumSame (startL D T B S p D' T' B' u d) (endL D T B D' T' B' S' p' u) k = if meet D T B S p D' T' B' S' p' (d + k) = true then 1 else 0 := by
  have s1 := h.stp
  unfold sumSame startL
  rw [List.map_map]
  have row : ((fun s => ((sameN (endL D T B D' T' B' S' p' u) (s + k) : Nat) : Int)) ∘ fun i : Nat => stO (stp D T B) (stp D' T' B') u d (pday D T B S p i)) = fun i : Nat => if (decide (((stp D T B : Nat) : Int) ∣ d + k - pday D T B S p i) && atP D' T' B' S' p' (d + k)) = true then (1 : Int) else 0 := by
    funext i
    show ((sameN _ (stO (stp D T B) (stp D' T' B') u d (pday D T B S p i) + k) : Nat) : Int) = _
    rw [hits_one h h' hu hk]
    simp only [Bool.and_eq_true]
    split <;> rfl
  rw [row, sum_if]
  unfold meet
  cases e : atP D' T' B' S' p' (d + k) with
  | false => simp
  | true =>
    simp only [Bool.and_true]
    rw [one_of]
    · have : (List.range B.toNat).any (fun i => decide (((stp D T B : Nat) : Int) ∣ d + k - pday D T B S p i)) = atP D T B S p (d + k) := by
        rw [Bool.eq_iff_iff, at_mod h.d h.t h.b h.p, List.any_eq_true, ← s1.1]
        constructor
        · rintro ⟨j, hj, dj⟩
          exact ⟨j, List.mem_range.mp hj, of_decide_eq_true dj⟩
        · rintro ⟨j, hj, dj⟩
          exact ⟨j, List.mem_range.mpr hj, decide_eq_true dj⟩
      rw [this]
      split <;> rfl
    · intro j j' hj hj' e1 e2
      refine pday_apart h.d h.t h.b (S := S) (p := p) hj hj' ?_
      rw [← s1.1]
      exact dvd_via (dvd_swap (of_decide_eq_true e1)) (of_decide_eq_true e2)
include h h' in
theorem meet_iff (hu : undoes (stp D T B) (stp D' T' B') u) (k : Nat) (hk : k < rnd D T B D' T' B') : meet D T B S p D' T' B' S' p' (d + k) = true ↔ ∃ x ∈ startL D T B S p D' T' B' u d, x + k ∈ endL D T B D' T' B' S' p' u := by
  have s1 := h.stp
  have s2 := h'.stp
  have hit := fun i j : Nat => hit_iff (s := stp D T B) (t := stp D' T' B') (u := u) (d := d) (a := pday D T B S p i) (c := pday D' T' B' S' p' j) (k := k) (by omega) (by omega) hu (by omega) (by have : rnd D T B D' T' B' = stp D T B * stp D' T' B' / Nat.gcd (stp D T B) (stp D' T' B') := rfl; omega)
  unfold meet
  rw [Bool.and_eq_true, at_mod h.d h.t h.b h.p, at_mod h'.d h'.t h'.b h'.p, ← s1.1, ← s2.1]
  constructor
  · rintro ⟨⟨i, hi, di⟩, j, hj, dj⟩
    refine ⟨_, List.mem_map.mpr ⟨i, List.mem_range.mpr hi, rfl⟩, ?_⟩
    unfold endL
    rcases (hit i j).mpr ⟨di, dj⟩ with e | e
    · rw [← e]
      exact List.mem_append_left _ (List.mem_append_left _ (List.mem_map.mpr ⟨j, List.mem_range.mpr hj, rfl⟩))
    · rw [← e]
      exact List.mem_append_left _ (List.mem_append_right _ (List.mem_map.mpr ⟨_, List.mem_map.mpr ⟨j, List.mem_range.mpr hj, rfl⟩, rfl⟩))
  · rintro ⟨x, hx, he⟩
    have far := start_last h h' hx
    obtain ⟨i, hi, rfl⟩ := List.mem_map.mp hx
    have hi := List.mem_range.mp hi
    unfold endL at he
    rcases List.mem_append.mp he with hb | he
    · rcases List.mem_append.mp hb with ha | he
      · obtain ⟨j, hj, e⟩ := List.mem_map.mp ha
        have := (hit i j).mp (.inl e)
        exact ⟨⟨i, hi, this.1⟩, j, List.mem_range.mp hj, this.2⟩
      · obtain ⟨_, hz, e⟩ := List.mem_map.mp he
        obtain ⟨j, hj, rfl⟩ := List.mem_map.mp hz
        have := (hit i j).mp (.inr e)
        exact ⟨⟨i, hi, this.1⟩, j, List.mem_range.mp hj, this.2⟩
    · have := List.mem_singleton.mp he
      omega
/-- the nearest end of all starts -/
theorem nearest_end {S E : List Int} {f : Int → Bool} {L : Nat} {d m : Int} (up : E.Pairwise (· ≤ ·)) (hit : ∀ k : Nat, k < L → (f (d + k) = true ↔ ∃ x ∈ S, x + k ∈ E)) (N : Int → Int) (hN : ∀ x ∈ S, E[lessN E x]? = some (N x)) (hm : m ∈ S.map fun x => N x - x) (least : ∀ y ∈ S.map fun x => N x - x, m ≤ y) :
    0 ≤ m ∧ (m < L → hd (yrs f d L) = .int (d + m)) ∧ ((L : Int) ≤ m → hd (yrs f d L) = .non) := by
  have near : ∀ x ∈ S, x ≤ N x ∧ N x ∈ E ∧ ∀ e ∈ E, x ≤ e → N x ≤ e := fun x hx => by
    have hx := hN x hx
    refine ⟨?_, List.mem_of_getElem? hx, fun e he le => ?_⟩
    · have := less_at up (x := x) hx
      omega
    · obtain ⟨k, hk⟩ := List.mem_iff_getElem?.mp he
      have h1 := less_at up (x := x) hk
      rcases Nat.lt_or_ge (lessN E x) k with l | l
      · obtain ⟨k1, e1⟩ := List.getElem?_eq_some_iff.mp hx
        obtain ⟨k2, e2⟩ := List.getElem?_eq_some_iff.mp hk
        have := List.pairwise_iff_getElem.mp up _ _ k1 k2 l
        rw [e1, e2] at this
        exact this
      · have : k = lessN E x := by omega
        subst this
        rw [hk] at hx
        cases hx
        exact Int.le_refl _
  obtain ⟨x0, hx0, e0⟩ := List.mem_map.mp hm
  have n0 := near x0 hx0
  have none_before : ∀ j : Nat, (j : Int) < m → j < L → f (d + j) = false := fun j jm jL => by
    cases e : f (d + j) with
    | false => rfl
    | true =>
      obtain ⟨x, hx, he⟩ := (hit j jL).mp e
      have := (near x hx).2.2 _ he (by omega)
      have := least _ (List.mem_map.mpr ⟨x, hx, rfl⟩)
      have := Int.le_trans this (show N x - x ≤ j by omega)
      omega
  have e0 : N x0 - x0 = m := e0
  refine ⟨by omega, fun lt => ?_, fun ge => ?_⟩
  · rw [show m = ((m.toNat : Nat) : Int) by omega]
    refine hd_first (by omega) ((hit m.toNat (by omega)).mpr ⟨x0, hx0, ?_⟩) fun j hj => none_before j (by omega) (by omega)
    rw [show x0 + ((m.toNat : Nat) : Int) = N x0 by omega]
    exact n0.2.1
  · exact hd_none fun k hk => none_before k (by omega) hk
end

section
variable {P : Program} {w : World} {K : PySem.W.Frag} {mg : Str → Option Value} {base : Heap}
/-- a comprehension over a list of numbers, without a test -/
theorem lc_ints {K : PySem.W.Frag} {a : Addr} {M : List Int} (f : Int → Int) {te : TE} {j : Nat} {vs : List Nat} {σ : L2.St} {H1 : Hp} {Dl : Addr} {Qd : Hp → Prop} (ha : H1 a = some (.lst (M.map V.int))) (hD : H1 Dl = none) (hz : M.length ≤ 40000) (hw : ∀ x, wipe ((wipe σ vs).set j (some x)) vs = wipe σ vs)
    (he : ∀ m ∈ M, Ev te ((wipe σ vs).set j (some (.int m))) H1 (.int (f m))) (q : ∀ H', Ex H1 H' → H' Dl = some (.lst ((M.map f).map V.int)) → Qd H') :
    ∃ W : Nat → Nat → Hp → Prop, (∃ m, W 0 m (upd H1 Dl (.lst []))) ∧ ∀ i m H, W i m H → ((Itl K a).stop i H ∧ Qd H) ∨ ((Itl K a).go i H ∧ ∃ Nx : Hp → Prop, (∀ H', Nx H' → ∃ m', m' < m ∧ W (i + 1) m' H') ∧ ∀ x H', (Itl K a).yld i H x H' → gName j x (wipe σ vs) H' fun σ2 H2 => wipe σ2 vs = wipe σ vs ∧ tYes σ2 H2 fun b H3 =>
      if b = true then te σ2 H3 fun y H4 => ∃ acc, H4 Dl = some (.lst acc) ∧ acc.length < sizeLine ∧ Nx (upd H4 Dl (.lst (acc ++ [y]))) else Nx H3) := by
  refine lc_list (xs := M.map V.int) (Cw H1 (fun _ => true) (fun i => .int (f (M[i]?.getD 0))) Dl) ⟨hD, Ex.new hD, upd_same⟩ (fun _ H' _ c => sq_of (c.2.1 _ _ ha)) (fun i x H' hi c => ?_) (fun H' c => ?_)
  · have i1 : i < M.length := by
      obtain ⟨lt, _⟩ := List.getElem?_eq_some_iff.mp hi
      rwa [List.length_map] at lt
    rw [List.getElem?_map, List.getElem?_eq_getElem i1] at hi
    cases hi
    have ei : M[i]?.getD 0 = M[i] := by rw [List.getElem?_eq_getElem i1] <;> rfl
    refine ⟨hw _, cw_turn c (by omega) (fun Ha ea Qa qa => qa Ha (Ex.refl Ha)) ?_⟩
    intro _
    rw [ei]
    exact he _ (List.getElem_mem i1)
  · obtain ⟨_, e1, h1⟩ := c
    rw [given_all, List.length_map, range_ints M f] at h1
    exact q H' e1 h1
def spAhead : Sp := fun vs H Q _ => ∃ (a b : Addr) (xs ys : List Int), vs = [.ref a, .ref b] ∧ H a = some (.lst (xs.map V.int)) ∧ H b = some (.lst (ys.map V.int)) ∧ xs.Pairwise (· ≤ ·) ∧ ys.Pairwise (· ≤ ·) ∧ (∀ x ∈ xs, ∃ z ∈ ys, x ≤ z) ∧ xs.length ≤ 1000 ∧
  ∀ Dl H', H Dl = none → Ex H H' → H' Dl = some (.lst ((xs.map fun x => ((lessN ys x : Nat) : Int)).map V.int)) → Q (.ref Dl) H'
theorem ok_ends_ahead (T : Txt K mg) : FnOk P w K mg base CX0 1 T.ends_ahead.f T.ends_ahead.fd ["starts", "ends"] spAhead := by
  refine T.ends_ahead.F.ok sc_ends_ahead (fun vs H Q E h => ?_) (fun cdv A outer s H vs Q E hr h => ?_)
  · obtain ⟨_, _, _, _, rfl, _⟩ := h
    rfl
  · obtain ⟨a, b, xs, ys, rfl, ha, hb, ux, uy, far, few_, q⟩ := h
    refine ⟨_, (pss_cons (ps_set (i := 2) sc_ends_ahead.nd rfl (Or.inl rfl) (pe_lst pa_nil))
      (pss_cons (ps_set (i := 3) sc_ends_ahead.nd rfl (Or.inl rfl) pe_int)
      (pss_cons (ps_for PassesOwn.never rfl (pi_list (pv 0)) (pg_name (i := 4) sc_ends_ahead.nd rfl (Or.inl rfl))
        (pss_cons (ps_while PassesOwn.never (pt_cmpR op_lt (pe_ix ix_list (pv 1) (pv 3) (fun _ _ => rfl)) (pv 4) (nomark _))
        (pss_one (ps_aug (i := 3) sc_ends_ahead.nd rfl (Or.inl rfl) pe_int ip_add)))
      (pss_one (ps_expr (pe_bm PySem.F.plainAttrs_list PySem.F.slot_list_append PySem.F.type_list_append mt_append (pv 2) (pa_cons (pv 3) pa_nil))))))
      (pss_one (ps_ret (pv 2)))))), ?_⟩
    refine ⟨Nat.zero_le _, fun l nl => ?_⟩
    have x1 := Ex.new (o := .lst []) nl
    refine ⟨_, rfl, a, rfl, ⟨_, sq_of (x1 _ _ ha)⟩, for_list (xs := xs.map V.int) (fun i σ' H' => ∃ (at_ : Nat) (z : Option V), σ' = [some (.ref a), some (.ref b), some (.ref l), some (.int (at_ : Nat)), z] ∧ Ex H H' ∧ H' l = some (.lst (((xs.take i).map fun x => ((lessN ys x : Nat) : Int)).map V.int)) ∧ ∀ j x, i ≤ j → xs[j]? = some x → at_ ≤ lessN ys x) ⟨0, none, rfl, x1, upd_same, fun _ _ _ _ => Nat.zero_le _⟩ (fun i σ' H' _ ⟨_, _, _, e, _⟩ => sq_of (e _ _ ha)) (fun i x σ' H' hi c => ?_) (fun σ' H' c => ?_)⟩
    · obtain ⟨at_, z, rfl, e1, h1, low⟩ := c
      have i1 : i < xs.length := by
        obtain ⟨lt, _⟩ := List.getElem?_eq_some_iff.mp hi
        rwa [List.length_map] at lt
      rw [List.getElem?_map, List.getElem?_eq_getElem i1] at hi
      cases hi
      obtain ⟨zz, hz, le⟩ := far _ (List.getElem_mem i1)
      have lt := less_lt hz le
      have l0 := low i _ (Nat.le_refl i) (List.getElem?_eq_getElem i1)
      show tSeq (tWhile _ _) _ _ _ _
      refine q_while (fun m σ2 H2 => ∃ k : Nat, k + m = lessN ys xs[i] ∧ σ2 = [some (.ref a), some (.ref b), some (.ref l), some (.int (k : Nat)), some (.int xs[i])] ∧ Ex H H2 ∧ H2 l = some (.lst (((xs.take i).map fun x => ((lessN ys x : Nat) : Int)).map V.int))) (lessN ys xs[i] - at_) ⟨at_, by omega, rfl, e1, h1⟩ ?_
      rintro m σ2 H2 ⟨k, km, rfl, e2, h2⟩
      have kl : k < ys.length := by omega
      have cmp := less_at uy (x := xs[i]) (List.getElem?_eq_getElem kl)
      refine ⟨decide (ys[k] < xs[i]), fun H3 e3 Q3 q3 => ⟨_, rfl, _, rfl, b, _, (k : Int), .int ys[k], rfl, rfl, sq_of ((e2.trans e3) _ _ hb), atI_nat (by rw [List.getElem?_map, List.getElem?_eq_getElem kl]; rfl), _, rfl, _, _, rfl, rfl, _, rfl, q3 H3 (Ex.refl H3)⟩, fun hb H3 e3 => ?_, fun hb H3 e3 => ?_⟩
      · have kk := cmp.mp (of_decide_eq_true hb)
        refine ⟨fun σ' H' => σ' = [some (.ref a), some (.ref b), some (.ref l), some (.int ((k + 1 : Nat) : Int)), some (.int xs[i])] ∧ Ex H H' ∧ H' l = some (.lst (((xs.take i).map fun x => ((lessN ys x : Nat) : Int)).map V.int)), fun σ' H' ⟨es, ex, hl⟩ => ⟨m - 1, by omega, k + 1, by omega, es, ex, hl⟩, ?_⟩
        exact ⟨_, rfl, _, _, rfl, rfl, rfl, e2.trans e3, e3 _ _ h2⟩
      · have kk : ¬ k < lessN ys xs[i] := fun z => of_decide_eq_false hb (cmp.mpr z)
        obtain rfl : k = lessN ys xs[i] := by omega
        have h3 := e3 _ _ h2
        refine ⟨_, rfl, .inl ⟨rfl, _, sq_of h3⟩, _, rfl, l, _, _, rfl, rfl, h3, by rw [List.length_map, List.length_map, List.length_take]; exact sz_lt (by omega), _, _, rfl, ex_put (e2.trans e3) nl, ?_, fun j x ij hj => ?_⟩
        · rw [upd_same, List.take_add_one, List.getElem?_eq_getElem i1, List.map_append, List.map_append]
          rfl
        · obtain ⟨jl, ej⟩ := List.getElem?_eq_some_iff.mp hj
          have := List.pairwise_iff_getElem.mp ux i j i1 jl (by omega)
          rw [ej] at this
          exact less_mono ys this
    · obtain ⟨at_, z, rfl, e1, h1, _⟩ := c
      rw [List.length_map, List.take_length] at h1
      exact ⟨_, rfl, q l H' nl e1 h1⟩
end

section
variable {P : Program} {w : World} {K : PySem.W.Frag} {mg : Str → Option Value} {base : Heap}
theorem cm_rr {i j : Int} (h : -4000000000 ≤ j ∧ j ≤ 4000000000) : CMul i j := .inr ⟨by omega, by omega⟩
def spRnd : Sp := fun vs H Q _ => ∃ v D T B S p v' D' T' B' S' p' d, vs = [v, .int p, v', .int p', .int d] ∧ Two H v D T B S p v' D' T' B' S' p' ∧
  ∀ (tp ls le : Addr) H' u (Ss Es : List Int), undoes (stp D T B) (stp D' T' B') u → Ss.Perm (startL D T B S p D' T' B' u d) → Ss.Pairwise (· ≤ ·) → Es.Perm (endL D T B D' T' B' S' p' u) → Es.Pairwise (· ≤ ·) → Ex H H' →
    H' tp = some (.tup [.int (rnd D T B D' T' B' : Nat), .ref ls, .ref le]) → H' ls = some (.lst (Ss.map V.int)) → H' le = some (.lst (Es.map V.int)) → Q (.ref tp) H'
theorem ok_round_from (T : Txt K mg) : FnOk P w K mg base CX0 4 T.round_from.f T.round_from.fd ["one", "place_one", "other", "place_other", "day"] spRnd := by
  have G_step_of : FnOk P w K mg base CX0 1 T.step_of.f T.step_of.fd ["land"] spStep := ok_step_of T
  have G_shared_step : FnOk P w K mg base CX0 2 T.shared_step.f T.shared_step.fd ["one", "other"] spShare := ok_shared_step T
  have G_undoing_factor : FnOk P w K mg base CX0 1 T.undoing_factor.f T.undoing_factor.fd ["number", "ring"] spUndo := ok_undoing_factor T
  have G_placed_days : FnOk P w K mg base CX0 3 T.placed_days.f T.placed_days.fd ["land", "place"] spPlaced := ok_placed_days T
  refine T.round_from.F.ok sc_round_from (fun vs H Q E h => ?_) (fun cdv A outer s H vs Q E hr h => ?_)
  · obtain ⟨_, _, _, _, _, _, _, _, _, _, _, _, _, rfl, _⟩ := h
    rfl
  · obtain ⟨v, D, T1, B, S, p, v', D', T', B', S', p', d, rfl, t, q⟩ := h
    have s1 := t.ld.stp
    have s2 := t.ld'.stp
    have g0 := Nat.gcd_pos_of_pos_left (stp D' T' B') (show 0 < stp D T1 B by omega)
    have gl := Nat.gcd_le_left (stp D' T' B') (show 0 < stp D T1 B by omega)
    have gr := Nat.gcd_le_right (n := stp D' T' B') (stp D T1 B) (by omega)
    have hb := t.ld.b
    have hb' := t.ld'.b
    have rp := rnd_pos t.ld t.ld'
    have d1 : ((stp D T1 B / Nat.gcd (stp D T1 B) (stp D' T' B') : Nat) : Int) = (D * B + T1) / (Nat.gcd (stp D T1 B) (stp D' T' B') : Nat) := by rw [Int.natCast_ediv, s1.1]
    have d2 : ((stp D' T' B' / Nat.gcd (stp D T1 B) (stp D' T' B') : Nat) : Int) = (D' * B' + T') / (Nat.gcd (stp D T1 B) (stp D' T' B') : Nat) := by rw [Int.natCast_ediv, s2.1]
    have q1 := Nat.div_le_self (stp D T1 B) (Nat.gcd (stp D T1 B) (stp D' T' B'))
    have q2 := Nat.div_le_self (stp D' T' B') (Nat.gcd (stp D T1 B) (stp D' T' B'))
    have q2' : 1 ≤ stp D' T' B' / Nat.gcd (stp D T1 B) (stp D' T' B') := (Nat.le_div_iff_mul_le g0).mpr (by omega)
    have hL : (D * B + T1) * ((D' * B' + T') / (Nat.gcd (stp D T1 B) (stp D' T' B') : Nat)) = (rnd D T1 B D' T' B' : Nat) := by
      unfold rnd
      rw [← d2, ← s1.1, ← Int.natCast_mul, Nat.mul_div_assoc _ (Nat.gcd_dvd_right _ _)]
    refine ⟨_, (pss_cons (ps_set (i := 5) sc_round_from.nd rfl (Or.inr rfl) (pe_call G_shared_step (hr.mono (by omega)) (by rfl) T.shared_step.g T.shared_step.F.kp T.shared_step.b .nil pass0 (pa_cons (pv 0) (pa_cons (pv 2) pa_nil))))
      (pss_cons (ps_set (i := 6) sc_round_from.nd rfl (Or.inl rfl) (pe_call G_step_of (hr.mono (by omega)) (by rfl) T.step_of.g T.step_of.F.kp T.step_of.b .nil pass0 (pa_cons (pv 0) pa_nil)))
      (pss_cons (ps_set (i := 7) sc_round_from.nd rfl (Or.inl rfl) (pe_op op_fdiv (pe_call G_step_of (hr.mono (by omega)) (by rfl) T.step_of.g T.step_of.F.kp T.step_of.b .nil pass0 (pa_cons (pv 2) pa_nil)) (pv 5)))
      (pss_cons (ps_set (i := 8) sc_round_from.nd rfl (Or.inr rfl) (pe_op op_mul (pv 6) (pv 7)))
      (pss_cons (ps_set (i := 9) sc_round_from.nd rfl (Or.inr rfl) (pe_op op_mul (pe_call G_undoing_factor (hr.mono (by omega)) (by rfl) T.undoing_factor.g T.undoing_factor.F.kp T.undoing_factor.b .nil pass0 (pa_cons (pe_op op_fdiv (pv 6) (pv 5)) (pa_cons (pv 7) pa_nil))) (pv 6)))
      (pss_cut (ps_set (i := 10) sc_round_from.nd rfl (Or.inr rfl) (pe_op op_mul pe_int (pv 8)))
      (pss_cons (ps_setLc (i := 11) (own := [("one_day", 14)]) (g := gName 14) (by rfl) sc_round_from.nd rfl rfl (sw_true rfl rfl rfl (by decide +kernel)) (pi_list (pe_call G_placed_days (hr.mono (by omega)) (by rfl) T.placed_days.g T.placed_days.F.kp T.placed_days.b .nil pass0 (pa_cons (pv 0) (pa_cons (pv 1) pa_nil)))) (blkOk_by (own := [("one_day", 14)]) (N := ["one", "place_one", "other", "place_other", "day", "shared", "step_one", "steps", "again", "lead", "row", "starts", "ends", "later_ends", "one_day", "other_day", "end"]) (sc := defScope s_round_from) (by decide +kernel)) (fun _ _ _ _ _ => (pg_name (i := 14) sc_round_from.nd rfl (Or.inl rfl))) (fun _ _ _ _ _ => pts_nil) (fun _ _ _ _ _ => (pe_op op_add (pe_op op_mod (pe_op op_add (pe_op op_sub (pe_op op_mul (pe_op op_fdiv (pv 14) (pv 5)) (pv 9)) (pv 14)) (pv 4)) (pv 8)) (pe_op op_mul (pe_op op_mod (pv 14) (pv 5)) (pv 10)))))
      (pss_cons (ps_setLc (i := 12) (own := [("other_day", 15)]) (g := gName 15) (by rfl) sc_round_from.nd rfl rfl (sw_true rfl rfl rfl (by decide +kernel)) (pi_list (pe_call G_placed_days (hr.mono (by omega)) (by rfl) T.placed_days.g T.placed_days.F.kp T.placed_days.b .nil pass0 (pa_cons (pv 2) (pa_cons (pv 3) pa_nil)))) (blkOk_by (own := [("other_day", 15)]) (N := ["one", "place_one", "other", "place_other", "day", "shared", "step_one", "steps", "again", "lead", "row", "starts", "ends", "later_ends", "one_day", "other_day", "end"]) (sc := defScope s_round_from) (by decide +kernel)) (fun _ _ _ _ _ => (pg_name (i := 15) sc_round_from.nd rfl (Or.inl rfl))) (fun _ _ _ _ _ => pts_nil) (fun _ _ _ _ _ => (pe_op op_add (pe_op op_mod (pe_op op_mul (pe_op op_fdiv (pv 15) (pv 5)) (pv 9)) (pv 8)) (pe_op op_mul (pe_op op_mod (pv 15) (pv 5)) (pv 10)))))
      (pss_cons (ps_setLc (i := 13) (own := [("end", 16)]) (g := gName 16) (by rfl) sc_round_from.nd rfl rfl (sw_true rfl rfl rfl (by decide +kernel)) (pi_list (pv 12)) (blkOk_by (own := [("end", 16)]) (N := ["one", "place_one", "other", "place_other", "day", "shared", "step_one", "steps", "again", "lead", "row", "starts", "ends", "later_ends", "one_day", "other_day", "end"]) (sc := defScope s_round_from) (by decide +kernel)) (fun _ _ _ _ _ => (pg_name (i := 16) sc_round_from.nd rfl (Or.inl rfl))) (fun _ _ _ _ _ => pts_nil) (fun _ _ _ _ _ => (pe_op op_add (pv 16) (pv 8))))
      (pss_one (ps_ret (pe_tup (pa_cons (pv 8) (pa_cons (pe_callB cr_sortedI (by rfl) T.sorted (by decide +kernel) (pa_cons (pv 11) pa_nil)) (pa_cons (pe_callB cr_sortedI (by rfl) T.sorted (by decide +kernel) (pa_cons (pe_op op_cat (pe_op op_cat (pv 12) (pv 13)) (pe_lst (pa_cons (pe_op op_mul (pe_op op_add (pv 5) pe_int) (pv 10)) pa_nil))) pa_nil)) pa_nil))))))))))))))), ?_⟩
    refine ⟨_, rfl, _, rfl, v, D, T1, B, S, p, v', D', T', B', S', p', rfl, t, fun H1 e1 => ?_⟩
    refine ⟨_, rfl, v, D, T1, B, S, rfl, t.l.ex e1, fun H2 e2 => ?_⟩
    have e12 := e1.trans e2
    refine ⟨_, rfl, v', D', T', B', S', rfl, t.l'.ex e12, fun H3 e3 => ⟨_, rfl, _, _, rfl, rfl, ⟨by omega, by omega⟩, ?_⟩⟩
    have e13 := e12.trans e3
    refine ⟨_, rfl, _, rfl, _, _, rfl, rfl, cm_l (by omega), ?_⟩
    show gName 8 (V.int ((D * B + T1) * ((D' * B' + T') / _))) _ _ _
    rw [hL]
    refine ⟨_, rfl, _, rfl, _, _, rfl, rfl, ⟨by omega, by omega⟩, _, rfl, stp D T1 B / Nat.gcd (stp D T1 B) (stp D' T' B'), stp D' T' B' / Nat.gcd (stp D T1 B) (stp D' T' B'), by rw [d1, d2]; rfl, by omega, ⟨q2', by omega⟩, Nat.gcd_div_gcd_div_gcd_of_pos_left (by omega), fun u hu du H4 e4 => ?_⟩
    have hun : undoes (stp D T1 B) (stp D' T' B') u := du
    have e14 := e13.trans e4
    have t4 := t.ex e14
    refine ⟨_, rfl, _, _, rfl, rfl, cm_r (by omega), ?_⟩
    refine q_cut (M := fun σ' H' => σ' = [some v, some (.int p), some v', some (.int p'), some (.int d), some (.int (Nat.gcd (stp D T1 B) (stp D' T' B') : Nat)), some (.int (D * B + T1)), some (.int ((D' * B' + T') / (Nat.gcd (stp D T1 B) (stp D' T' B') : Nat))), some (.int (rnd D T1 B D' T' B' : Nat)), some (.int (u * (D * B + T1))), some (.int (2 * (rnd D T1 B D' T' B' : Nat))), none, none, none, none, none, none] ∧ H' = H4) ⟨_, rfl, _, _, rfl, rfl, cm_l (by omega), rfl, rfl⟩ ?_
    rintro _ _ ⟨rfl, rfl⟩
    have zst : ∀ a, stO (stp D T1 B) (stp D' T' B') u d a = (a / (Nat.gcd (stp D T1 B) (stp D' T' B') : Nat) * (u * (D * B + T1)) - a + d) % (rnd D T1 B D' T' B' : Nat) + a % (Nat.gcd (stp D T1 B) (stp D' T' B') : Nat) * (2 * (rnd D T1 B D' T' B' : Nat)) := fun a => by
      rw [← s1.1]
      rfl
    have zen : ∀ a, enO (stp D T1 B) (stp D' T' B') u a = a / (Nat.gcd (stp D T1 B) (stp D' T' B') : Nat) * (u * (D * B + T1)) % (rnd D T1 B D' T' B' : Nat) + a % (Nat.gcd (stp D T1 B) (stp D' T' B') : Nat) * (2 * (rnd D T1 B D' T' B' : Nat)) := fun a => by
      rw [← s1.1]
      rfl
    have lead : -578883600 ≤ u * (D * B + T1) ∧ u * (D * B + T1) ≤ 578883600 := by
      have a1 := Int.mul_nonneg hu.1 (show 0 ≤ D * B + T1 by omega)
      have a2 := Int.mul_le_mul (show u ≤ 24060 by omega) (show D * B + T1 ≤ 24060 by omega) (by omega) (by omega)
      omega
    have ng : (0 : Int) < (Nat.gcd (stp D T1 B) (stp D' T' B') : Nat) := by omega
    have nL : (0 : Int) < (rnd D T1 B D' T' B' : Nat) := by omega
    refine ⟨_, rfl, _, rfl, v, D, T1, B, S, p, rfl, t4.l, t4.ld.p, fun l1 H5 n1 e5 h5 => ⟨l1, rfl, ⟨_, sq_of h5⟩, fun ls nls => ?_⟩⟩
    refine lc_ints (fun a => stO (stp D T1 B) (stp D' T' B') u d a) h5 nls (by rw [List.length_map, List.length_range]; omega) (fun _ => rfl) (fun m _ Ha ea Qa qa => ?_) (fun H6 e6 h6 => ?_)
    · have z := qa Ha (Ex.refl Ha)
      rw [zst] at z
      exact ⟨_, rfl, _, rfl, _, _, rfl, rfl, ⟨by omega, by omega⟩, _, rfl, _, _, rfl, rfl, cm_r (by omega), _, rfl, _, _, rfl, rfl, _, rfl, _, _, rfl, rfl, _, rfl, _, _, rfl, rfl, nL, _, rfl, _, rfl, _, _, rfl, rfl, ng, _, rfl, _, _, rfl, rfl, cm_rr (by omega), _, _, rfl, rfl, z⟩
    have e16 := e14.trans (e5.trans e6)
    have t6 := t.ex e16
    refine ⟨_, rfl, _, rfl, v', D', T', B', S', p', rfl, t6.l', t6.ld'.p, fun l2 H7 n2 e7 h7 => ⟨l2, rfl, ⟨_, sq_of h7⟩, fun le nle => ?_⟩⟩
    refine lc_ints (fun a => enO (stp D T1 B) (stp D' T' B') u a) h7 nle (by rw [List.length_map, List.length_range]; omega) (fun _ => rfl) (fun m _ Ha ea Qa qa => ?_) (fun H8 e8 h8 => ?_)
    · have z := qa Ha (Ex.refl Ha)
      rw [zen] at z
      exact ⟨_, rfl, _, rfl, _, _, rfl, rfl, ⟨by omega, by omega⟩, _, rfl, _, _, rfl, rfl, cm_r (by omega), _, rfl, _, _, rfl, rfl, nL, _, rfl, _, rfl, _, _, rfl, rfl, ng, _, rfl, _, _, rfl, rfl, cm_rr (by omega), _, _, rfl, rfl, z⟩
    refine ⟨_, rfl, le, rfl, ⟨_, sq_of h8⟩, fun lf nlf => ?_⟩
    refine lc_ints (fun e => e + ((rnd D T1 B D' T' B' : Nat) : Int)) h8 nlf (by rw [List.length_map, List.length_map, List.length_range]; omega) (fun _ => rfl) (fun m _ Ha ea Qa qa => ?_) (fun H9 e9 h9 => ?_)
    · exact ⟨_, rfl, _, rfl, _, _, rfl, rfl, qa Ha (Ex.refl Ha)⟩
    have h6' := (e7.trans (e8.trans e9)) _ _ h6
    have h8' := e9 _ _ h8
    have e19 := e16.trans (e7.trans (e8.trans e9))
    rw [List.map_map (g := fun a => stO (stp D T1 B) (stp D' T' B') u d a)] at h6'
    rw [List.map_map (g := fun a => enO (stp D T1 B) (stp D' T' B') u a)] at h8' h9
    change H9 ls = some (.lst ((startL D T1 B S p D' T' B' u d).map V.int)) at h6'
    change H9 le = some (.lst ((end1L D T1 B D' T' B' S' p' u).map V.int)) at h8'
    change H9 lf = some (.lst (((end1L D T1 B D' T' B' S' p' u).map fun e => e + ((rnd D T1 B D' T' B' : Nat) : Int)).map V.int)) at h9
    have len1 : (end1L D T1 B D' T' B' S' p' u).length ≤ 60 := by
      unfold end1L
      rw [List.length_map, List.length_range (n := B'.toNat)]
      omega
    refine ⟨_, rfl, _, rfl, ls, _, rfl, sq_of h6', fun Ss ps perm1 up1 new1 => ?_⟩
    have xa := Ex.new (o := .lst (Ss.map V.int)) new1
    refine ⟨_, rfl, _, rfl, le, lf, _, _, rfl, rfl, xa _ _ h8', xa _ _ h9, by rw [List.length_map, List.length_map, List.length_map]; show _ ≤ sizeLine; rw [sizeLine_eq]; omega, fun pc nc => ?_⟩
    rw [← List.map_append]
    have xb := Ex.new (o := .lst ((end1L D T1 B D' T' B' S' p' u ++ (end1L D T1 B D' T' B' S' p' u).map fun e => e + ((rnd D T1 B D' T' B' : Nat) : Int)).map V.int)) nc
    refine ⟨_, rfl, _, _, rfl, rfl, _, rfl, _, _, rfl, rfl, cm_l (by omega), by show 1 ≤ sizeLine; rw [sizeLine_eq]; decide, fun pd nd => ?_⟩
    have xc := Ex.new (o := .lst [V.int (lastE D T1 B D' T' B')]) nd
    refine ⟨pc, pd, _, _, rfl, rfl, xc _ _ upd_same, upd_same, by rw [List.length_map, List.length_append, List.length_map]; show _ + 1 ≤ sizeLine; rw [sizeLine_eq]; omega, fun pf nf => ?_⟩
    have xd := Ex.new (o := .lst ((end1L D T1 B D' T' B' S' p' u ++ (end1L D T1 B D' T' B' S' p' u).map fun e => e + ((rnd D T1 B D' T' B' : Nat) : Int)).map V.int ++ [V.int (lastE D T1 B D' T' B')])) nf
    refine ⟨pf, endL D T1 B D' T' B' S' p' u, rfl, sq_of ?_, fun Es pe perm2 up2 new2 => ?_⟩
    · refine upd_same.trans ?_
      simp only [endL, List.map_append]
      rfl
    have xe := Ex.new (o := .lst (Es.map V.int)) new2
    refine ⟨by show 3 ≤ sizeLine; rw [sizeLine_eq]; decide, fun tp ntp => ?_⟩
    have xt := Ex.new (o := .tup [.int (rnd D T1 B D' T' B' : Nat), .ref ps, .ref pe]) ntp
    refine q tp ps pe _ u Ss Es hun perm1 up1 perm2 up2 (e19.trans (xa.trans (xb.trans (xc.trans (xd.trans (xe.trans xt)))))) upd_same ?_ ?_
    · exact (xb.trans (xc.trans (xd.trans (xe.trans xt)))) _ _ upd_same
    · exact xt _ _ upd_same
end

theorem undo_some (s t : Nat) (hs : 0 < s) : ∃ u, undoes s t u := by
  obtain ⟨x, y, e⟩ := bez (s / Nat.gcd s t) (t / Nat.gcd s t)
  rw [Nat.gcd_div_gcd_div_gcd_of_pos_left hs] at e
  refine ⟨x, -y, ?_⟩
  rw [Int.mul_neg, Int.mul_comm _ x, Int.mul_comm _ y]
  omega
/-- a number that parts two lands' places -/
def partI (D T B S p D' T' B' S' p' m : Int) : Bool := decide ((D * B + T) % m = 0) && (decide ((D' * B' + T') % m = 0) && !((List.range B'.toNat).any fun j => (List.range B.toNat).any fun i => decide (pday D T B S p i % m = pday D' T' B' S' p' j % m)))
theorem partI_iff {D T B S p D' T' B' S' p' m : Int} : partI D T B S p D' T' B' S' p' m = true ↔ m ∣ D * B + T ∧ m ∣ D' * B' + T' ∧ ∀ i j : Nat, i < B.toNat → j < B'.toNat → pday D T B S p i % m ≠ pday D' T' B' S' p' j % m := by
  unfold partI
  simp only [Bool.and_eq_true, decide_eq_true_eq, Bool.not_eq_true', List.any_eq_false, List.any_eq_true, List.mem_range, not_exists, not_and]
  rw [Int.dvd_iff_emod_eq_zero, Int.dvd_iff_emod_eq_zero]
  constructor
  · rintro ⟨h1, h2, h3⟩
    exact ⟨h1, h2, fun i j hi hj => h3 j hj i hi⟩
  · rintro ⟨h1, h2, h3⟩
    exact ⟨h1, h2, fun j hj i hi => h3 i j hi hj⟩
section
variable {D T B S p D' T' B' S' p' : Int} (h : Ld D T B S p) (h' : Ld D' T' B' S' p')
include h h' in
theorem part_none {m : Int} (hp : partI D T B S p D' T' B' S' p' m = true) (d : Int) : meet D T B S p D' T' B' S' p' d = false := by
  cases e : meet D T B S p D' T' B' S' p' d with
  | false => rfl
  | true =>
    obtain ⟨h1, h2, no⟩ := partI_iff.mp hp
    unfold meet at e
    rw [Bool.and_eq_true, at_mod h.d h.t h.b h.p, at_mod h'.d h'.t h'.b h'.p] at e
    obtain ⟨⟨i, hi, di⟩, j, hj, dj⟩ := e
    have a := Int.dvd_trans h1 di
    have b := Int.dvd_trans h2 dj
    exact absurd (Int.emod_eq_emod_iff_emod_sub_eq_zero.mpr (Int.emod_eq_zero_of_dvd (dvd_via (dvd_swap a) b))) (no i j hi hj)
include h h' in
theorem none_part (no : ∀ d, meet D T B S p D' T' B' S' p' d = false) : partI D T B S p D' T' B' S' p' (Nat.gcd (stp D T B) (stp D' T' B') : Nat) = true := by
  have s1 := h.stp
  have s2 := h'.stp
  refine partI_iff.mpr ⟨?_, ?_, fun i j hi hj e => ?_⟩
  · rw [← s1.1]
    exact Int.natCast_dvd_natCast.mpr (Nat.gcd_dvd_left _ _)
  · rw [← s2.1]
    exact Int.natCast_dvd_natCast.mpr (Nat.gcd_dvd_right _ _)
  · obtain ⟨u, hu⟩ := undo_some (stp D T B) (stp D' T' B') (by omega)
    have hg : ((Nat.gcd (stp D T B) (stp D' T' B') : Nat) : Int) ∣ pday D' T' B' S' p' j - pday D T B S p i := dvd_swap (Int.dvd_of_emod_eq_zero (Int.emod_eq_emod_iff_emod_sub_eq_zero.mp e))
    have m : turns (meetL D T B S p D' T' B' S' p' u) (rnd D T B D' T' B') (metOf (stp D T B) (stp D' T' B') u (pday D T B S p i) (pday D' T' B' S' p' j)) = true := List.any_eq_true.mpr ⟨_, meetL_mem.mpr ⟨i, j, hi, hj, hg, rfl⟩, decide_eq_true (by rw [Int.sub_self]; exact Int.dvd_zero _)⟩
    rw [meet_turns h h' hu, no] at m
    cases m
include h h' in
theorem next_hd {u : Int} (hu : undoes (stp D T B) (stp D' T' B') u) (d : Int) :
    (meetL D T B S p D' T' B' S' p' u = [] → ∀ k : Nat, k < rnd D T B D' T' B' → meet D T B S p D' T' B' S' p' (d + k) = false) ∧
    ∀ m ∈ (meetL D T B S p D' T' B' S' p' u).map (nextOf (rnd D T B D' T' B' : Nat) d), (∀ y ∈ (meetL D T B S p D' T' B' S' p' u).map (nextOf (rnd D T B D' T' B' : Nat) d), m ≤ y) →
      ∃ k : Nat, k < rnd D T B D' T' B' ∧ m = d + k ∧ meet D T B S p D' T' B' S' p' (d + k) = true ∧ ∀ j : Nat, j < k → meet D T B S p D' T' B' S' p' (d + j) = false := by
  have rp := rnd_pos h h'
  refine ⟨fun e k _ => ?_, fun m hm least => ?_⟩
  · rw [← meet_turns h h' hu, e]
    rfl
  · obtain ⟨m0, hm0, rfl⟩ := List.mem_map.mp hm
    have nh := next_here (L := (rnd D T B D' T' B' : Nat)) (d := d) (m := m0) (by omega)
    refine ⟨(nextOf (rnd D T B D' T' B' : Nat) d m0 - d).toNat, by omega, by omega, ?_, fun j hj => ?_⟩
    · rw [show d + ((nextOf (rnd D T B D' T' B' : Nat) d m0 - d).toNat : Int) = nextOf (rnd D T B D' T' B' : Nat) d m0 by omega, ← meet_turns h h' hu]
      exact List.any_eq_true.mpr ⟨m0, hm0, decide_eq_true nh.2.2⟩
    · cases e : meet D T B S p D' T' B' S' p' (d + j) with
      | false => rfl
      | true =>
        rw [← meet_turns h h' hu] at e
        obtain ⟨m1, hm1, d1⟩ := List.any_eq_true.mp e
        have l1 := least _ (List.mem_map.mpr ⟨m1, hm1, rfl⟩)
        have l2 := next_least (L := (rnd D T B D' T' B' : Nat)) (d := d) (m := m1) (e := d + j) (by omega) (by omega) (of_decide_eq_true d1)
        omega
end
theorem meetL_len {D T B S p D' T' B' S' p' u : Int} (h : Ld D T B S p) (h' : Ld D' T' B' S' p') : (meetL D T B S p D' T' B' S' p' u).length ≤ 3600 := by
  have row : ∀ (f : Nat → List Int) (n : Nat), (∀ i, (f i).length ≤ 60) → ((List.range n).flatMap f).length ≤ 60 * n := fun f n hf => by
    induction n with
    | zero => exact Nat.le_refl 0
    | succ n ih =>
      rw [List.range_succ, List.flatMap_append, List.length_append, List.flatMap_cons, List.flatMap_nil, List.append_nil]
      have := hf n
      omega
  have b := h.b
  have b' := h'.b
  refine Nat.le_trans (row _ B.toNat fun i => ?_) (by omega)
  rw [List.length_map]
  exact Nat.le_trans (List.length_filter_le _ _) (by rw [List.length_range]; omega)

theorem sumLess_bd (S E : List Int) (n : Int) : 0 ≤ sumLess S E n ∧ sumLess S E n ≤ S.length * E.length := by
  unfold sumLess
  induction S with
  | nil => simp
  | cons s S ih =>
    rw [List.map_cons (l := S), List.sum_cons, List.length_cons]
    have := less_le E (s + n)
    rw [Int.natCast_add, Int.add_mul]
    omega
section
variable {P : Program} {w : World} {K : PySem.W.Frag} {mg : Str → Option Value} {base : Heap}
def spNextD : Sp := fun vs H Q _ => ∃ v D T B S p v' D' T' B' S' p' d, vs = [v, .int p, v', .int p', .int d] ∧ Two H v D T B S p v' D' T' B' S' p' ∧ FarD d ∧ RetV (hd (yrs (meet D T B S p D' T' B' S' p') d (rnd D T B D' T' B'))) H Q
theorem ok_next_day (T : Txt K mg) : FnOk P w K mg base CX0 6 T.next_day.f T.next_day.fd ["one", "place_one", "other", "place_other", "day"] spNextD := by
  have G_need_places : FnOk P w K mg base CX0 5 T.need_places.f T.need_places.fd ["one", "place_one", "other", "place_other"] spTwoP := ok_need_places T
  have G_need_day : FnOk P w K mg base CX0 3 T.need_day.f T.need_day.fd ["thing"] spNum := ok_need_day T
  have G_round_from : FnOk P w K mg base CX0 4 T.round_from.f T.round_from.fd ["one", "place_one", "other", "place_other", "day"] spRnd := ok_round_from T
  have G_ends_ahead : FnOk P w K mg base CX0 1 T.ends_ahead.f T.ends_ahead.fd ["starts", "ends"] spAhead := ok_ends_ahead T
  refine T.next_day.F.ok sc_next_day (fun vs H Q E h => ?_) (fun cdv A outer s H vs Q E hr h => ?_)
  · obtain ⟨_, _, _, _, _, _, _, _, _, _, _, _, _, rfl, _⟩ := h
    rfl
  · obtain ⟨v, D, T1, B, S, p, v', D', T', B', S', p', d, rfl, t, fd, q⟩ := h
    have rp := rnd_pos t.ld t.ld'
    refine ⟨_, (pss_cons (ps_expr (pe_call G_need_places (hr.mono (by omega)) (by rfl) T.need_places.g T.need_places.F.kp T.need_places.b .nil pass0 (pa_cons (pv 0) (pa_cons (pv 1) (pa_cons (pv 2) (pa_cons (pv 3) pa_nil))))))
      (pss_cons (ps_expr (pe_call G_need_day (hr.mono (by omega)) (by rfl) T.need_day.g T.need_day.F.kp T.need_day.b .nil pass0 (pa_cons (pv 4) pa_nil)))
      (pss_cons (ps_asg (pe_call G_round_from (hr.mono (by omega)) (by rfl) T.round_from.g T.round_from.F.kp T.round_from.b .nil pass0 (pa_cons (pv 0) (pa_cons (pv 1) (pa_cons (pv 2) (pa_cons (pv 3) (pa_cons (pv 4) pa_nil)))))) (pg_tup rfl (pgs_cons (pg_name (i := 5) sc_next_day.nd rfl (Or.inl rfl)) (pgs_cons (pg_name (i := 6) sc_next_day.nd rfl (Or.inl rfl)) (pgs_cons (pg_name (i := 7) sc_next_day.nd rfl (Or.inr rfl)) pgs_nil)))))
      (pss_cons (ps_set (i := 8) sc_next_day.nd rfl (Or.inl rfl) (pe_callB (cr_min rfl) (by rfl) T.min (by decide +kernel) (pa_cons (pe_lc (own := [("start", 9), ("at", 10)]) (g := gTup K 2 (gCons (gName 9) (gCons (gName 10) gNil))) (by rfl) sc_next_day.nd (pi_zip (by rfl) T.zip (pa_cons (pv 6) (pa_cons (pe_call G_ends_ahead (hr.mono (by omega)) (by rfl) T.ends_ahead.g T.ends_ahead.F.kp T.ends_ahead.b .nil pass0 (pa_cons (pv 6) (pa_cons (pv 7) pa_nil))) pa_nil))) (blkOk_by (own := [("start", 9), ("at", 10)]) (N := ["one", "place_one", "other", "place_other", "day", "again", "starts", "ends", "nearest", "start", "at"]) (sc := defScope s_next_day) (by decide +kernel)) (fun _ _ _ _ _ => (pg_tup rfl (pgs_cons (pg_name (i := 9) sc_next_day.nd rfl (Or.inl rfl)) (pgs_cons (pg_name (i := 10) sc_next_day.nd rfl (Or.inl rfl)) pgs_nil)))) (fun _ _ _ _ _ => pts_nil) (fun _ _ _ _ _ => (pe_op op_sub (pe_ix (show IxR _ (rIxL K) from ix_list) (pv 7) (pv 10) (fun _ _ => rfl)) (pv 9)))) pa_nil)))
      (pss_cons (ps_if (pt_cmpR op_lt (pv 8) (pv 5) (nomark _))
        (pss_one (ps_ret (pe_op op_add (pv 4) (pv 8))))
        pss_nil)
      (pss_one (ps_ret pe_non))))))), ?_⟩
    refine ⟨_, rfl, _, rfl, _, rfl, _, rfl, v, D, T1, B, S, p, v', D', T', B', S', p', rfl, t, fun H1 e1 => ⟨_, rfl, d, rfl, fd, fun H2 e2 => ?_⟩⟩
    have e12 := e1.trans e2
    refine ⟨_, rfl, _, rfl, _, rfl, _, rfl, _, rfl, v, D, T1, B, S, p, v', D', T', B', S', p', d, rfl, t.ex e12, fun tp ls le H3 u Ss Es hu ps us pe ue e3 htp hls hle => ?_⟩
    have e13 := e12.trans e3
    have hit := fun (k : Nat) hk => meet_iff (d := d) t.ld t.ld' hu k hk
    have near : ∀ k : Nat, k < rnd D T1 B D' T' B' → (meet D T1 B S p D' T' B' S' p' (d + k) = true ↔ ∃ x ∈ Ss, x + k ∈ Es) := fun k hk => (hit k hk).trans ⟨fun ⟨x, hx, he⟩ => ⟨x, ps.mem_iff.mpr hx, pe.mem_iff.mpr he⟩, fun ⟨x, hx, he⟩ => ⟨x, ps.mem_iff.mp hx, pe.mem_iff.mp he⟩⟩
    have far : ∀ x ∈ Ss, ∃ z ∈ Es, x ≤ z := fun x hx => ⟨lastE D T1 B D' T' B', pe.mem_iff.mpr (by unfold endL; simp), by have := start_last t.ld t.ld' (ps.mem_iff.mp hx); omega⟩
    have len : Ss.length = B.toNat := by rw [ps.length_eq]; unfold startL; rw [List.length_map, List.length_range]
    have hB := t.ld.b
    have at_ : ∀ x ∈ Ss, Es[lessN Es x]? = some (Es[lessN Es x]?.getD 0) := fun x hx => by
      obtain ⟨z, hz, le⟩ := far x hx
      rw [List.getElem?_eq_getElem (less_lt hz le)]
      rfl
    clear hit hu ps pe
    refine ⟨tp, _, rfl, st_of htp, rfl, _, _, rfl, _, _, rfl, _, _, rfl, rfl, ?_⟩
    refine ⟨_, rfl, _, rfl, _, rfl, ls, le, Ss, Es, rfl, hls, hle, us, ue, far, by omega, fun la H4 nla e4 hla => ?_⟩
    refine ⟨ls, la, _, _, rfl, sq_of (e4 _ _ hls), sq_of hla, fun Dl hD => ?_⟩
    refine lc_it (walk_zip (n := Ss.length) (by rw [List.length_map, List.length_map, List.length_map, Nat.min_self])) (Cw H4 (fun _ => true) (fun i => .int ((fun x => Es[lessN Es x]?.getD 0 - x) (Ss[i]?.getD 0))) Dl) ⟨hD, Ex.new hD, upd_same⟩ (fun _ H' _ c => ⟨sq_of (c.2.1 _ _ (e4 _ _ hls)), sq_of (c.2.1 _ _ hla)⟩) (fun i x H' H'' hi c y => ?_) (fun H' c => ?_)
    · obtain ⟨tq, yv, zv, rfl, ntq, rfl, hy, hz⟩ := y
      replace hy : (Ss.map V.int)[i]? = some yv := hy
      replace hz : ((Ss.map fun x => ((lessN Es x : Nat) : Int)).map V.int)[i]? = some zv := hz
      rw [List.getElem?_map, List.getElem?_eq_getElem hi] at hy
      rw [List.getElem?_map, List.getElem?_map, List.getElem?_eq_getElem hi] at hz
      cases hy
      cases hz
      have xq := Ex.new (o := .tup [.int Ss[i], .int (lessN Es Ss[i] : Nat)]) ntq
      refine ⟨tq, _, rfl, st_of upd_same, rfl, _, _, rfl, _, _, rfl, rfl, rfl, ?_⟩
      refine cw_turn (H := H4) ⟨c.1, c.2.1.trans xq, xq _ _ c.2.2⟩ (by omega) (fun Ha ea Qa qa => qa Ha (Ex.refl Ha)) ?_
      intro _ Ha ea Qa qa
      have z := qa Ha (Ex.refl Ha)
      rw [List.getElem?_eq_getElem hi] at z
      have here := at_ Ss[i] (List.getElem_mem hi)
      exact ⟨_, rfl, _, rfl, le, _, ((lessN Es Ss[i] : Nat) : Int), .int (Es[lessN Es Ss[i]]?.getD 0), rfl, rfl, sq_of ((e4.trans ea) _ _ hle), atI_nat (by rw [List.getElem?_map, here]; rfl), _, rfl, _, _, rfl, rfl, z⟩
    · obtain ⟨_, e5, h5⟩ := c
      rw [given_all, range_ints Ss (fun x => Es[lessN Es x]?.getD 0 - x)] at h5
      refine ⟨Dl, _, rfl, sq_of h5, by rw [List.length_map]; omega, fun m hm least => ?_⟩
      obtain ⟨m0, lt, ge⟩ := nearest_end (L := rnd D T1 B D' T' B') (d := d) ue near (fun x => Es[lessN Es x]?.getD 0) at_ hm least
      have e15 := e13.trans (e4.trans e5)
      refine ⟨_, rfl, _, rfl, _, _, rfl, rfl, _, rfl, ?_⟩
      by_cases c : m < (rnd D T1 B D' T' B' : Nat)
      · rw [lt c] at q
        rw [decide_eq_true c]
        exact iteT ⟨_, rfl, _, rfl, _, _, rfl, rfl, q H' e15⟩
      · rw [ge (by omega)] at q
        rw [decide_eq_false c]
        exact iteF (q H' e15)
def spDaysC : Sp := fun vs H Q _ => ∃ v D T B S p v' D' T' B' S' p' a b, vs = [v, .int p, v', .int p', .int a, .int b] ∧ Two H v D T B S p v' D' T' B' S' p' ∧ FarD a ∧ FarD b ∧ a ≤ b ∧ RetV (.int (cnt (meet D T B S p D' T' B' S' p') a (b - a).toNat : Nat)) H Q
theorem ok_days (T : Txt K mg) : FnOk P w K mg base CX0 6 T.days.f T.days.fd ["one", "place_one", "other", "place_other", "first", "last"] spDaysC := by
  have G_need_places : FnOk P w K mg base CX0 5 T.need_places.f T.need_places.fd ["one", "place_one", "other", "place_other"] spTwoP := ok_need_places T
  have G_need_days : FnOk P w K mg base CX0 4 T.need_days.f T.need_days.fd ["first", "last"] spTwoD := ok_need_days T
  have G_round_from : FnOk P w K mg base CX0 4 T.round_from.f T.round_from.fd ["one", "place_one", "other", "place_other", "day"] spRnd := ok_round_from T
  have G_ends_ahead : FnOk P w K mg base CX0 1 T.ends_ahead.f T.ends_ahead.fd ["starts", "ends"] spAhead := ok_ends_ahead T
  refine T.days.F.ok sc_days (fun vs H Q E h => ?_) (fun cdv A outer s H vs Q E hr h => ?_)
  · obtain ⟨_, _, _, _, _, _, _, _, _, _, _, _, _, _, rfl, _⟩ := h
    rfl
  · obtain ⟨v, D, T1, B, S, p, v', D', T', B', S', p', a, b, rfl, t, fa, fb, ab, q⟩ := h
    have rp := rnd_pos t.ld t.ld'
    refine ⟨_, (pss_cons (ps_expr (pe_call G_need_places (hr.mono (by omega)) (by rfl) T.need_places.g T.need_places.F.kp T.need_places.b .nil pass0 (pa_cons (pv 0) (pa_cons (pv 1) (pa_cons (pv 2) (pa_cons (pv 3) pa_nil))))))
      (pss_cons (ps_expr (pe_call G_need_days (hr.mono (by omega)) (by rfl) T.need_days.g T.need_days.F.kp T.need_days.b .nil pass0 (pa_cons (pv 4) (pa_cons (pv 5) pa_nil))))
      (pss_cons (ps_asg (pe_call G_round_from (hr.mono (by omega)) (by rfl) T.round_from.g T.round_from.F.kp T.round_from.b .nil pass0 (pa_cons (pv 0) (pa_cons (pv 1) (pa_cons (pv 2) (pa_cons (pv 3) (pa_cons (pv 4) pa_nil)))))) (pg_tup rfl (pgs_cons (pg_name (i := 6) sc_days.nd rfl (Or.inr rfl)) (pgs_cons (pg_name (i := 7) sc_days.nd rfl (Or.inl rfl)) (pgs_cons (pg_name (i := 8) sc_days.nd rfl (Or.inl rfl)) pgs_nil)))))
      (pss_cut (ps_asg (pe_callB call_divmodW (by rfl) T.divmod (by decide +kernel) (pa_cons (pe_op op_sub (pv 5) (pv 4)) (pa_cons (pv 6) pa_nil))) (pg_tup rfl (pgs_cons (pg_name (i := 9) sc_days.nd rfl (Or.inl rfl)) (pgs_cons (pg_name (i := 10) sc_days.nd rfl (Or.inr rfl)) pgs_nil))))
      (pss_cons (ps_set (i := 11) sc_days.nd rfl (Or.inl rfl) (pe_callB (cr_sum rfl) (by rfl) T.sum (by decide +kernel) (pa_cons (pe_call G_ends_ahead (hr.mono (by omega)) (by rfl) T.ends_ahead.g T.ends_ahead.F.kp T.ends_ahead.b .nil pass0 (pa_cons (pv 7) (pa_cons (pv 8) pa_nil))) pa_nil)))
      (pss_cons (ps_set (i := 12) sc_days.nd rfl (Or.inl rfl) (pe_op op_sub (pe_callB (cr_sum rfl) (by rfl) T.sum (by decide +kernel) (pa_cons (pe_call G_ends_ahead (hr.mono (by omega)) (by rfl) T.ends_ahead.g T.ends_ahead.F.kp T.ends_ahead.b .nil pass0 (pa_cons (pe_lc (own := [("start", 14)]) (g := gName 14) (by rfl) sc_days.nd (pi_list (pv 7)) (blkOk_by (own := [("start", 14)]) (N := ["one", "place_one", "other", "place_other", "first", "last", "again", "starts", "ends", "rounds", "rest", "ahead", "in_round", "in_rest", "start"]) (sc := defScope s_days) (by decide +kernel)) (fun _ _ _ _ _ => (pg_name (i := 14) sc_days.nd rfl (Or.inl rfl))) (fun _ _ _ _ _ => pts_nil) (fun _ _ _ _ _ => (pe_op op_add (pv 14) (pv 6)))) (pa_cons (pv 8) pa_nil))) pa_nil)) (pv 11)))
      (pss_cons (ps_set (i := 13) sc_days.nd rfl (Or.inl rfl) (pe_op op_sub (pe_callB (cr_sum rfl) (by rfl) T.sum (by decide +kernel) (pa_cons (pe_call G_ends_ahead (hr.mono (by omega)) (by rfl) T.ends_ahead.g T.ends_ahead.F.kp T.ends_ahead.b .nil pass0 (pa_cons (pe_lc (own := [("start", 14)]) (g := gName 14) (by rfl) sc_days.nd (pi_list (pv 7)) (blkOk_by (own := [("start", 14)]) (N := ["one", "place_one", "other", "place_other", "first", "last", "again", "starts", "ends", "rounds", "rest", "ahead", "in_round", "in_rest", "start"]) (sc := defScope s_days) (by decide +kernel)) (fun _ _ _ _ _ => (pg_name (i := 14) sc_days.nd rfl (Or.inl rfl))) (fun _ _ _ _ _ => pts_nil) (fun _ _ _ _ _ => (pe_op op_add (pv 14) (pv 10)))) (pa_cons (pv 8) pa_nil))) pa_nil)) (pv 11)))
      (pss_one (ps_ret (pe_op op_add (pe_op op_mul (pv 9) (pv 12)) (pv 13))))))))))), ?_⟩
    refine ⟨_, rfl, _, rfl, _, rfl, _, rfl, v, D, T1, B, S, p, v', D', T', B', S', p', rfl, t, fun H1 e1 => ⟨_, rfl, _, rfl, a, b, rfl, fa, fb, ab, fun H2 e2 => ?_⟩⟩
    have e12 := e1.trans e2
    refine ⟨_, rfl, _, rfl, _, rfl, _, rfl, _, rfl, v, D, T1, B, S, p, v', D', T', B', S', p', a, rfl, t.ex e12, fun tp ls le H3 u Ss Es hu ps us pe ue e3 htp hls hle => ?_⟩
    have e13 := e12.trans e3
    have all := fun (n : Nat) hn => sumLess_cnt (f := meet D T1 B S p D' T' B' S' p') (d := a) (L := rnd D T1 B D' T' B') (fun k hk => hits_all (d := a) t.ld t.ld' hu k hk) n hn
    have far : ∀ k : Int, k ≤ (rnd D T1 B D' T' B' : Nat) → ∀ x ∈ Ss.map (fun x => x + k), ∃ z ∈ Es, x ≤ z := fun k hk y hy => by
      obtain ⟨x, hx, rfl⟩ := List.mem_map.mp hy
      refine ⟨lastE D T1 B D' T' B', pe.mem_iff.mpr (by unfold endL; simp), ?_⟩
      have := start_last t.ld t.ld' (ps.mem_iff.mp hx)
      show x + k ≤ _
      omega
    have far0 : ∀ x ∈ Ss, ∃ z ∈ Es, x ≤ z := fun x hx => far 0 (by omega) x (List.mem_map.mpr ⟨x, hx, by omega⟩)
    have later : ∀ k : Int, (Ss.map (fun x => x + k)).Pairwise (· ≤ ·) := fun k => by
      rw [List.pairwise_map]
      exact us.imp fun h => by omega
    have sums : ∀ k : Int, (((Ss.map (fun x => x + k)).map fun x => ((lessN Es x : Nat) : Int))).sum = sumLess Ss Es k := fun k => by
      rw [List.map_map]
      rfl
    have sum0 : (Ss.map fun x => ((lessN Es x : Nat) : Int)).sum = sumLess Ss Es 0 := by
      unfold sumLess
      simp only [Int.add_zero]
    have same : ∀ k : Int, sumLess Ss Es k = sumLess (startL D T1 B S p D' T' B' u a) (endL D T1 B D' T' B' S' p' u) k := fun k => sumLess_perm ps pe k
    have per : ∀ y, meet D T1 B S p D' T' B' S' p' (y + (rnd D T1 B D' T' B' : Nat)) = meet D T1 B S p D' T' B' S' p' y := meet_per t.ld t.ld' hu
    have hB := t.ld.b
    have hB' := t.ld'.b
    have len : Ss.length ≤ 60 := by rw [ps.length_eq]; unfold startL; rw [List.length_map, List.length_range]; omega
    have lenE : Es.length ≤ 121 := by
      rw [pe.length_eq]
      unfold endL end1L
      simp only [List.length_append, List.length_map, List.length_range, List.length_cons, List.length_nil]
      omega
    simp only [← same] at all
    generalize meet D T1 B S p D' T' B' S' p' = f at all per q
    refine ⟨tp, _, rfl, st_of htp, rfl, _, _, rfl, _, _, rfl, _, _, rfl, rfl, ?_⟩
    have m0 := Int.emod_nonneg (b - a) (show ((rnd D T1 B D' T' B' : Nat) : Int) ≠ 0 by omega)
    have m1 := Int.emod_lt_of_pos (b - a) (show (0 : Int) < (rnd D T1 B D' T' B' : Nat) by omega)
    have q0 := Int.ediv_nonneg (a := b - a) (b := ((rnd D T1 B D' T' B' : Nat) : Int)) (by omega) (by omega)
    have dm := Int.mul_ediv_add_emod (b - a) ((rnd D T1 B D' T' B' : Nat) : Int)
    refine q_cut (M := fun σ' H' => σ' = [some v, some (.int p), some v', some (.int p'), some (.int a), some (.int b), some (.int (rnd D T1 B D' T' B' : Nat)), some (.ref ls), some (.ref le), some (.int ((b - a) / (rnd D T1 B D' T' B' : Nat))), some (.int ((b - a) % (rnd D T1 B D' T' B' : Nat))), none, none, none, none] ∧ Ex H3 H') ⟨_, rfl, _, rfl, _, _, rfl, rfl, _, rfl, b - a, (rnd D T1 B D' T' B' : Nat), rfl, ⟨by omega, PyProof.noPylong_small (by omega)⟩, fun pd npd => ⟨pd, _, rfl, st_of upd_same, rfl, _, _, rfl, _, _, rfl, rfl, rfl, Ex.new npd⟩⟩ ?_
    rintro _ H4 ⟨rfl, e4⟩
    generalize (b - a) % ((rnd D T1 B D' T' B' : Nat) : Int) = rest at m0 m1 dm ⊢
    generalize (b - a) / ((rnd D T1 B D' T' B' : Nat) : Int) = rounds at q0 dm ⊢
    generalize rnd D T1 B D' T' B' = L at *
    have hls4 := e4 _ _ hls
    have hle4 := e4 _ _ hle
    refine ⟨_, rfl, _, rfl, ls, le, Ss, Es, rfl, hls4, hle4, us, ue, far0, by omega, fun l1 H5 n1 e5 h5 => ⟨l1, _, rfl, sq_of h5, ?_⟩⟩
    rw [sum0]
    refine ⟨_, rfl, ls, rfl, ⟨_, sq_of (e5 _ _ hls4)⟩, fun D1 nD1 => ?_⟩
    refine lc_ints (fun x => x + (L : Int)) (e5 _ _ hls4) nD1 (by omega) (fun _ => rfl) (fun m _ Ha ea Qa qa => ⟨_, rfl, _, rfl, _, _, rfl, rfl, qa Ha (Ex.refl Ha)⟩) (fun H6 e6 h6 => ?_)
    have e46 := e5.trans e6
    refine ⟨_, rfl, D1, le, _, Es, rfl, h6, e46 _ _ hle4, later L, ue, far L (by omega), by rw [List.length_map]; omega, fun l2 H7 n2 e7 h7 => ⟨l2, _, rfl, sq_of h7, ?_⟩⟩
    have e47 := e46.trans e7
    refine ⟨_, rfl, _, _, rfl, rfl, ?_⟩
    refine ⟨_, rfl, ls, rfl, ⟨_, sq_of (e47 _ _ hls4)⟩, fun D2 nD2 => ?_⟩
    refine lc_ints (fun x => x + rest) (e47 _ _ hls4) nD2 (by omega) (fun _ => rfl) (fun m _ Ha ea Qa qa => ⟨_, rfl, _, rfl, _, _, rfl, rfl, qa Ha (Ex.refl Ha)⟩) (fun H8 e8 h8 => ?_)
    have e48 := e47.trans e8
    refine ⟨_, rfl, D2, le, _, Es, rfl, h8, e48 _ _ hle4, later rest, ue, far rest (by omega), by rw [List.length_map]; omega, fun l3 H9 n3 e9 h9 => ⟨l3, _, rfl, sq_of h9, ?_⟩⟩
    refine ⟨_, rfl, _, _, rfl, rfl, ?_⟩
    have z := q H9 (e13.trans (e4.trans (e48.trans e9)))
    have b0 := sumLess_bd Ss Es 0
    have b1 := sumLess_bd Ss Es L
    have bb : (Ss.length : Int) * Es.length ≤ 60 * 121 := Int.mul_le_mul (by omega) (by omega) (by omega) (by omega)
    have a1 := all L (Nat.le_refl L)
    have a2 := all rest.toNat (by omega)
    rw [show ((rest.toNat : Nat) : Int) = rest by omega] at a2
    have span : (b - a).toNat = rounds.toNat * L + rest.toNat := by
      have : ((rounds.toNat * L : Nat) : Int) = L * rounds := by
        rw [Int.natCast_mul, show ((rounds.toNat : Nat) : Int) = rounds by omega, Int.mul_comm]
      omega
    rw [span, cnt_rounds per, Int.natCast_add, Int.natCast_mul, show ((rounds.toNat : Nat) : Int) = rounds by omega, show ((cnt f a L : Nat) : Int) = sumLess Ss Es L - sumLess Ss Es 0 by omega, show ((cnt f a rest.toNat : Nat) : Int) = sumLess Ss Es rest - sumLess Ss Es 0 by omega] at z
    rw [← sums L, ← sums rest] at z
    rw [← sums L] at b1
    exact ⟨_, rfl, _, rfl, _, _, rfl, rfl, cm_r (by omega), _, rfl, _, _, rfl, rfl, z⟩
end

section
variable {P : Program} {w : World} {K : PySem.W.Frag} {mg : Str → Option Value} {base : Heap}
theorem any_map (n : Nat) (g : Nat → Bool) : ((List.range n).map g).any id = (List.range n).any g := by
  rw [List.any_map]
  rfl
theorem given_bls (n : Nat) (g : Nat → Bool) : given n (fun _ => true) (fun i => V.bl (g i)) = ((List.range n).map g).map V.bl := by
  rw [given_all, List.map_map]
  rfl
def spPartI : Sp := fun vs H Q _ => ∃ v D T B S p v' D' T' B' S' p' m, vs = [v, .int p, v', .int p', .int m] ∧ Two H v D T B S p v' D' T' B' S' p' ∧ 0 < m ∧ RetV (.bl (partI D T B S p D' T' B' S' p' m)) H Q
theorem ok_is_parting (T : Txt K mg) : FnOk P w K mg base CX0 4 T.is_parting.f T.is_parting.fd ["one", "place_one", "other", "place_other", "number"] spPartI := by
  have G_step_of : FnOk P w K mg base CX0 1 T.step_of.f T.step_of.fd ["land"] spStep := ok_step_of T
  have G_placed_days : FnOk P w K mg base CX0 3 T.placed_days.f T.placed_days.fd ["land", "place"] spPlaced := ok_placed_days T
  refine T.is_parting.F.ok sc_is_parting (fun vs H Q E h => ?_) (fun cdv A outer s H vs Q E hr h => ?_)
  · obtain ⟨_, _, _, _, _, _, _, _, _, _, _, _, _, rfl, _⟩ := h
    rfl
  · obtain ⟨v, D, T1, B, S, p, v', D', T', B', S', p', m, rfl, t, hm, q⟩ := h
    have hb := t.ld.b
    have hb' := t.ld'.b
    have dec : ∀ i : Int, decide (V.int i = V.int 0) = decide (i = 0) := fun i => by simp
    refine ⟨_, (pss_cons (ps_if (PW.pt (pw_or (pt_cmpR op_ne (pe_op op_mod (pe_call G_step_of (hr.mono (by omega)) (by rfl) T.step_of.g T.step_of.F.kp T.step_of.b .nil pass0 (pa_cons (pv 0) pa_nil)) (pv 4)) pe_int (nomark _)) (pw_or1 (pt_cmpR op_ne (pe_op op_mod (pe_call G_step_of (hr.mono (by omega)) (by rfl) T.step_of.g T.step_of.F.kp T.step_of.b .nil pass0 (pa_cons (pv 2) pa_nil)) (pv 4)) pe_int (nomark _)))))
        (pss_one (ps_ret pe_bl))
        pss_nil)
      (pss_cons (ps_set (i := 5) sc_is_parting.nd rfl (Or.inr rfl) (pe_lc (own := [("day", 6)]) (g := gName 6) (by rfl) sc_is_parting.nd (pi_list (pe_call G_placed_days (hr.mono (by omega)) (by rfl) T.placed_days.g T.placed_days.F.kp T.placed_days.b .nil pass0 (pa_cons (pv 0) (pa_cons (pv 1) pa_nil)))) (blkOk_by (own := [("day", 6)]) (N := ["one", "place_one", "other", "place_other", "number", "left", "day"]) (sc := defScope s_is_parting) (by decide +kernel)) (fun _ _ _ _ _ => (pg_name (i := 6) sc_is_parting.nd rfl (Or.inl rfl))) (fun _ _ _ _ _ => pts_nil) (fun _ _ _ _ _ => (pe_op op_mod (pv 6) (pv 4)))))
      (pss_one (ps_ret (pe_not (pe_callB (cr_any rfl) (by rfl) T.any (by decide +kernel) (pa_cons (pe_lc (own := [("day", 6)]) (g := gName 6) (by rfl) sc_is_parting.nd (pi_list (pe_call G_placed_days (hr.mono (by omega)) (by rfl) T.placed_days.g T.placed_days.F.kp T.placed_days.b .nil pass0 (pa_cons (pv 2) (pa_cons (pv 3) pa_nil)))) (blkOk_by (own := [("day", 6)]) (N := ["one", "place_one", "other", "place_other", "number", "left", "day"]) (sc := defScope s_is_parting) (by decide +kernel)) (fun _ _ _ _ _ => (pg_name (i := 6) sc_is_parting.nd rfl (Or.inl rfl))) (fun _ _ _ _ _ => pts_nil) (fun _ _ _ _ _ => (pe_cmpR (show OpR _ _ (rIn K false) from op_in_seq) (pe_op op_mod (pv 6) (pv 4)) (pv 5) (by rfl)))) pa_nil))))))), ?_⟩
    refine ⟨_, rfl, v, D, T1, B, S, rfl, t.l, fun H1 e1 => ⟨_, rfl, _, _, rfl, rfl, hm, rfl, _, rfl, ?_⟩⟩
    rw [dec]
    by_cases h1 : (D * B + T1) % m = 0
    · rw [decide_eq_true h1]
      refine iteF ⟨_, rfl, v', D', T', B', S', rfl, t.l'.ex e1, fun H2 e2 => ⟨_, rfl, _, _, rfl, rfl, hm, rfl, _, rfl, ?_⟩⟩
      rw [dec]
      have e12 := e1.trans e2
      by_cases h2 : (D' * B' + T') % m = 0
      · rw [decide_eq_true h2]
        refine iteF ⟨_, rfl, _, rfl, v, D, T1, B, S, p, rfl, (t.ex e12).l, t.ld.p, fun l1 H3 n1 e3 h3 => ⟨l1, rfl, ⟨_, sq_of h3⟩, fun D1 hD1 => ?_⟩⟩
        have e13 := e12.trans e3
        refine lc_list (xs := ((List.range B.toNat).map (pday D T1 B S p)).map V.int) (Cw H3 (fun _ => true) (fun i => .int (pday D T1 B S p i % m)) D1) ⟨hD1, Ex.new hD1, upd_same⟩ (fun _ H' _ c => sq_of (c.2.1 _ _ h3)) (fun i x H' hi c => ?_) (fun H4 c => ?_)
        · obtain ⟨lt, _⟩ := List.getElem?_eq_some_iff.mp hi
          rw [List.length_map, List.length_map, List.length_range] at lt
          rw [List.getElem?_map, List.getElem?_map, List.getElem?_range lt] at hi
          cases hi
          exact ⟨rfl, cw_turn c (by omega) (fun Ha ea Qa qa => qa Ha (Ex.refl Ha)) fun _ Ha ea Qa qa => ⟨_, rfl, _, rfl, _, _, rfl, rfl, hm, qa Ha (Ex.refl Ha)⟩⟩
        obtain ⟨_, e4, h4⟩ := c
        rw [List.length_map, List.length_map, List.length_range, given_ints (p := fun _ => true) (g := fun i => pday D T1 B S p i % m), List.filter_eq_self.mpr fun _ _ => rfl] at h4
        have e14 := e13.trans e4
        refine ⟨_, rfl, _, rfl, v', D', T', B', S', p', rfl, (t.ex e14).l', t.ld'.p, fun l2 H5 n2 e5 h5 => ⟨l2, rfl, ⟨_, sq_of h5⟩, fun D2 hD2 => ?_⟩⟩
        have h5' := e5 _ _ h4
        refine lc_list (xs := ((List.range B'.toNat).map (pday D' T' B' S' p')).map V.int) (Cw H5 (fun _ => true) (fun j => .bl ((List.range B.toNat).any fun i => decide (pday D T1 B S p i % m = pday D' T' B' S' p' j % m))) D2) ⟨hD2, Ex.new hD2, upd_same⟩ (fun _ H' _ c => sq_of (c.2.1 _ _ h5)) (fun j x H' hj c => ?_) (fun H6 c => ?_)
        · obtain ⟨lt, _⟩ := List.getElem?_eq_some_iff.mp hj
          rw [List.length_map, List.length_map, List.length_range] at lt
          rw [List.getElem?_map, List.getElem?_map, List.getElem?_range lt] at hj
          cases hj
          refine ⟨rfl, cw_turn c (by omega) (fun Ha ea Qa qa => qa Ha (Ex.refl Ha)) fun _ Ha ea Qa qa => ⟨_, rfl, _, rfl, _, _, rfl, rfl, hm, _, rfl, D1, _, rfl, .inl (sq_of (ea _ _ h5')), rfl, flat_ints _, ?_⟩⟩
          show Qa (.bl (inV _ _)) Ha
          rw [inV_any]
          exact qa Ha (Ex.refl Ha)
        obtain ⟨_, e6, h6⟩ := c
        rw [List.length_map, List.length_map, List.length_range, given_bls] at h6
        refine ⟨D2, _, rfl, sq_of h6, ?_⟩
        rw [any_map]
        refine ⟨_, rfl, ?_⟩
        have z := q H6 (e14.trans (e5.trans e6))
        unfold partI at z
        rw [decide_eq_true h1, decide_eq_true h2, Bool.true_and, Bool.true_and] at z
        exact z
      · rw [decide_eq_false h2]
        have z := q H2 e12
        unfold partI at z
        rw [decide_eq_false h2, Bool.false_and, Bool.and_false] at z
        exact iteT z
    · rw [decide_eq_false h1]
      have z := q H1 e1
      unfold partI at z
      rw [decide_eq_false h1, Bool.false_and] at z
      exact iteT (iteT z)
def spParting : Sp := fun vs H Q _ => ∃ v D T B S p v' D' T' B' S' p', vs = [v, .int p, v', .int p'] ∧ Two H v D T B S p v' D' T' B' S' p' ∧
  ((∀ d, meet D T B S p D' T' B' S' p' d = false) → RetV (.int (Nat.gcd (stp D T B) (stp D' T' B') : Nat)) H Q) ∧ ((∃ d, meet D T B S p D' T' B' S' p' d = true) → RetV .non H Q)
theorem ok_parting (T : Txt K mg) : FnOk P w K mg base CX0 6 T.parting.f T.parting.fd ["one", "place_one", "other", "place_other"] spParting := by
  have G_need_places : FnOk P w K mg base CX0 5 T.need_places.f T.need_places.fd ["one", "place_one", "other", "place_other"] spTwoP := ok_need_places T
  have G_shared_step : FnOk P w K mg base CX0 2 T.shared_step.f T.shared_step.fd ["one", "other"] spShare := ok_shared_step T
  have G_is_parting : FnOk P w K mg base CX0 4 T.is_parting.f T.is_parting.fd ["one", "place_one", "other", "place_other", "number"] spPartI := ok_is_parting T
  refine T.parting.F.ok sc_parting (fun vs H Q E h => ?_) (fun cdv A outer s H vs Q E hr h => ?_)
  · obtain ⟨_, _, _, _, _, _, _, _, _, _, _, _, rfl, _⟩ := h
    rfl
  · obtain ⟨v, D, T1, B, S, p, v', D', T', B', S', p', rfl, t, q1, q2⟩ := h
    have s1 := t.ld.stp
    have g0 := Nat.gcd_pos_of_pos_left (stp D' T' B') (show 0 < stp D T1 B by omega)
    refine ⟨_, (pss_cons (ps_expr (pe_call G_need_places (hr.mono (by omega)) (by rfl) T.need_places.g T.need_places.F.kp T.need_places.b .nil pass0 (pa_cons (pv 0) (pa_cons (pv 1) (pa_cons (pv 2) (pa_cons (pv 3) pa_nil))))))
      (pss_cons (ps_set (i := 4) sc_parting.nd rfl (Or.inl rfl) (pe_call G_shared_step (hr.mono (by omega)) (by rfl) T.shared_step.g T.shared_step.F.kp T.shared_step.b .nil pass0 (pa_cons (pv 0) (pa_cons (pv 2) pa_nil))))
      (pss_cons (ps_if (pt_val (pe_call G_is_parting (hr.mono (by omega)) (by rfl) T.is_parting.g T.is_parting.F.kp T.is_parting.b .nil pass0 (pa_cons (pv 0) (pa_cons (pv 1) (pa_cons (pv 2) (pa_cons (pv 3) (pa_cons (pv 4) pa_nil)))))))
        (pss_one (ps_ret (pv 4)))
        pss_nil)
      (pss_one (ps_ret pe_non))))), ?_⟩
    refine ⟨_, rfl, _, rfl, _, rfl, _, rfl, v, D, T1, B, S, p, v', D', T', B', S', p', rfl, t, fun H1 e1 => ?_⟩
    refine ⟨_, rfl, _, rfl, v, D, T1, B, S, p, v', D', T', B', S', p', rfl, t.ex e1, fun H2 e2 => ?_⟩
    have e12 := e1.trans e2
    refine ⟨_, rfl, _, rfl, _, rfl, _, rfl, _, rfl, v, D, T1, B, S, p, v', D', T', B', S', p', _, rfl, t.ex e12, by omega, fun H3 e3 => ⟨_, rfl, ?_⟩⟩
    have e13 := e12.trans e3
    cases hb : partI D T1 B S p D' T' B' S' p' (Nat.gcd (stp D T1 B) (stp D' T' B') : Nat) with
    | true => exact iteT ⟨_, rfl, q1 (part_none t.ld t.ld' hb) H3 e13⟩
    | false =>
      have some_ : ∃ d, meet D T1 B S p D' T' B' S' p' d = true := Classical.byContradiction fun no => by
        have := none_part t.ld t.ld' fun d => by
          cases e : meet D T1 B S p D' T' B' S' p' d with
          | false => rfl
          | true => exact absurd ⟨d, e⟩ no
        rw [hb] at this
        cases this
      exact iteF (q2 some_ H3 e13)
/-- of anything whether it parts -/
def partV (D T B S p D' T' B' S' p' : Int) : V → Bool
  | .int m => decide (m > 0) && partI D T B S p D' T' B' S' p' m
  | _ => false
theorem partV_yes {D T B S p D' T' B' S' p' i : Int} (h : 0 < i) : partV D T B S p D' T' B' S' p' (.int i) = partI D T B S p D' T' B' S' p' i := by
  show (decide (i > 0) && partI D T B S p D' T' B' S' p' i) = _
  rw [decide_eq_true (show i > 0 from h), Bool.true_and]
theorem partV_no {D T B S p D' T' B' S' p' i : Int} (h : ¬ 0 < i) : partV D T B S p D' T' B' S' p' (.int i) = false := by
  show (decide (i > 0) && partI D T B S p D' T' B' S' p' i) = _
  rw [decide_eq_false (show ¬ i > 0 from h), Bool.false_and]
def spPartV : Sp := fun vs H Q _ => ∃ v D T B S p v' D' T' B' S' p' x k, vs = [v, .int p, v', .int p', x] ∧ Two H v D T B S p v' D' T' B' S' p' ∧ Dat H x k ∧ RetV (.bl (partV D T B S p D' T' B' S' p' x)) H Q
end

section
variable {P : Program} {w : World} {K : PySem.W.Frag} {mg : Str → Option Value} {base : Heap}
def spIsAt : Sp := fun vs H Q _ => ∃ v D T B S p d, vs = [v, .int p, .int d] ∧ Land H v D T B S ∧ RetV (.bl (atP D T B S p d)) H Q
theorem ok__law_is_at (T : Txt K mg) : FnOk P w K mg base CX0 2 T._law_is_at.f T._law_is_at.fd ["land", "place", "day"] spIsAt := by
  have G__law_step : FnOk P w K mg base CX0 1 T._law_step.f T._law_step.fd ["land"] spStep := ok__law_step T
  have G__law_begin : FnOk P w K mg base CX0 1 T._law_begin.f T._law_begin.fd ["land", "year"] spBeg := ok__law_begin T
  refine T._law_is_at.F.ok sc__law_is_at (fun vs H Q E h => ?_) (fun cdv A outer s H vs Q E hr h => ?_)
  · obtain ⟨_, _, _, _, _, _, _, rfl, _⟩ := h
    rfl
  · obtain ⟨v, D, T1, B, S, p, d, rfl, hL, q⟩ := h
    obtain ⟨a, rfl, ha, r1, r2, r3, r4⟩ := id hL
    have hs := step_bd r1 r2 r3
    refine ⟨_, (pss_cons (ps_set (i := 3) sc__law_is_at.nd rfl (Or.inl rfl) (pe_op op_sub (pe_op op_fdiv (pe_op op_sub (pe_op op_mul (pv 2) (pe_ix ix_tup (pv 0) pe_int (fun _ _ => rfl))) (pe_ix ix_tup (pv 0) pe_int (fun _ _ => rfl))) (pe_call G__law_step (hr.mono (by omega)) (by rfl) T._law_step.g T._law_step.F.kp T._law_step.b .nil pass0 (pa_cons (pv 0) pa_nil))) pe_int))
      (pss_cons (ps_while PassesOwn.never (pt_cmpR op_le (pe_call G__law_begin (hr.mono (by omega)) (by rfl) T._law_begin.g T._law_begin.F.kp T._law_begin.b .nil pass0 (pa_cons (pv 0) (pa_cons (pe_op op_add (pv 3) pe_int) pa_nil))) (pv 2) (nomark _))
        (pss_one (ps_set (i := 3) sc__law_is_at.nd rfl (Or.inl rfl) (pe_op op_add (pv 3) pe_int))))
      (pss_one (ps_ret (pe_cmpR op_eq (pe_op op_sub (pv 2) (pe_call G__law_begin (hr.mono (by omega)) (by rfl) T._law_begin.g T._law_begin.F.kp T._law_begin.b .nil pass0 (pa_cons (pv 0) (pa_cons (pv 3) pa_nil)))) (pv 1) (nomark _)))))), ?_⟩
    refine ⟨_, rfl, _, rfl, a, _, 2, _, rfl, rfl, st_of ha, rfl, _, _, rfl, rfl, cm_r (by omega), _, rfl, a, _, 3, _, rfl, rfl, st_of ha, rfl, _, _, rfl, rfl, ?_⟩
    refine ⟨_, rfl, _, D, T1, B, S, rfl, hL, fun H1 e1 => ⟨_, _, rfl, rfl, ⟨by omega, by omega⟩, _, _, rfl, rfl, ?_⟩⟩
    have start : (d * B - S) / (D * B + T1) - 1 ≤ yr D T1 B S d := by
      have : (d * B - S) / (D * B + T1) ≤ yr D T1 B S d := by
        unfold yr
        refine Int.ediv_le_ediv (by omega) ?_
        rw [Int.add_mul]
        omega
      omega
    refine q_while (fun m σ H' => ∃ y : Int, σ = [some (.ref a), some (.int p), some (.int d), some (.int y)] ∧ y ≤ yr D T1 B S d ∧ (yr D T1 B S d - y).toNat = m ∧ Ex H H') (yr D T1 B S d - ((d * B - S) / (D * B + T1) - 1)).toNat ⟨_, rfl, start, rfl, e1⟩ ?_
    rintro m σ H2 ⟨y, rfl, le, hm, e2⟩
    have le_ := fst_le (D := D) (T := T1) (B := B) (S := S) (y := y + 1) (n := d) r3.1 hs.1
    by_cases more : y + 1 ≤ yr D T1 B S d
    · refine ⟨true, fun H3 e3 Q2 q2 => ⟨_, rfl, _, rfl, _, _, rfl, rfl, _, D, T1, B, S, y + 1, rfl, hL.ex (e2.trans e3), fun H4 e4 => ⟨_, rfl, _, _, rfl, rfl, _, rfl, ?_⟩⟩, fun _ H3 e3 => ?_, fun z => Bool.noConfusion z⟩
      · rw [decide_eq_true (le_.mpr more)]
        exact q2 H4 e4
      · refine ⟨fun σ' H' => σ' = [some (.ref a), some (.int p), some (.int d), some (.int (y + 1))] ∧ Ex H H', fun σ' H' ⟨es, ex⟩ => ⟨(yr D T1 B S d - (y + 1)).toNat, by omega, y + 1, es, more, rfl, ex⟩, ?_⟩
        exact ⟨_, rfl, _, _, rfl, rfl, rfl, e2.trans e3⟩
    · refine ⟨false, fun H3 e3 Q2 q2 => ⟨_, rfl, _, rfl, _, _, rfl, rfl, _, D, T1, B, S, y + 1, rfl, hL.ex (e2.trans e3), fun H4 e4 => ⟨_, rfl, _, _, rfl, rfl, _, rfl, ?_⟩⟩, fun z => Bool.noConfusion z, fun _ H3 e3 => ?_⟩
      · rw [decide_eq_false (fun z => more (le_.mp z))]
        exact q2 H4 e4
      · obtain rfl : y = yr D T1 B S d := by omega
        have e23 := e2.trans e3
        refine ⟨_, rfl, _, rfl, _, rfl, _, D, T1, B, S, _, rfl, hL.ex e23, fun H4 e4 => ⟨_, _, rfl, rfl, _, rfl, rfl, ?_⟩⟩
        have z := q H4 (e23.trans e4)
        unfold atP at z
        rw [show decide (d - fst D T1 B S (yr D T1 B S d) = p) = decide (V.int (d - fst D T1 B S (yr D T1 B S d)) = V.int p) by simp] at z
        exact z
end

/-- the days with both from a on, as far as the y-th year's day of the one land goes -/
theorem common_step {D T B S p D' T' B' S' p' a b y : Int} (h : Ld D T B S p) (lt : fst D T B S y + p < b) :
    yrs (meet D T B S p D' T' B' S' p') a (min (fst D T B S (y + 1) + p) b - a).toNat = yrs (meet D T B S p D' T' B' S' p') a (min (fst D T B S y + p) b - a).toNat ++ (if a ≤ fst D T B S y + p ∧ atP D' T' B' S' p' (fst D T B S y + p) = true then [fst D T B S y + p] else []) := by
  have mono := fst_mono (S := S) (y := y) h.d h.t
  have hp := h.p
  have mine : atP D T B S p (fst D T B S y + p) = true := (at_iff h.d h.t h.b h.p).mpr ⟨y, rfl⟩
  have only : ∀ k, fst D T B S y + p < k → k < fst D T B S (y + 1) + p → atP D T B S p k = false := fun k k1 k2 => by
    cases e : atP D T B S p k with
    | false => rfl
    | true =>
      obtain ⟨z, rfl⟩ := (at_iff h.d h.t h.b h.p).mp e
      have hs := step_bd h.d h.t h.b
      rcases Int.lt_or_le z (y + 1) with l | l
      · have := (fst_le (D := D) (T := T) (B := B) (S := S) (y := z) (n := fst D T B S y) h.b.1 hs.1).mpr (by rw [yr_fst h.d.1 h.t hs.1]; omega)
        omega
      · have := (fst_le (D := D) (T := T) (B := B) (S := S) (y := y + 1) (n := fst D T B S z) h.b.1 hs.1).mpr (by rw [yr_fst h.d.1 h.t hs.1]; omega)
        omega
  refine up_same (yrs_up _ _ _) ?_ fun k => ?_
  · rw [List.pairwise_append]
    refine ⟨yrs_up _ _ _, by split <;> simp, fun u hu w hw => ?_⟩
    have mu := yrs_mem.mp hu
    split at hw
    · rw [List.mem_singleton] at hw
      omega
    · cases hw
  · rw [List.mem_append, yrs_mem, yrs_mem]
    constructor
    · rintro ⟨k1, k2, k3⟩
      by_cases l : k < fst D T B S y + p
      · exact .inl ⟨k1, by omega, k3⟩
      · by_cases e : k = fst D T B S y + p
        · subst e
          unfold meet at k3
          rw [Bool.and_eq_true] at k3
          exact .inr (by rw [if_pos ⟨k1, k3.2⟩]; exact List.mem_singleton.mpr rfl)
        · unfold meet at k3
          rw [only k (by omega) (by omega)] at k3
          cases k3
    · rintro (⟨k1, k2, k3⟩ | hk)
      · exact ⟨k1, by omega, k3⟩
      · split at hk
        · rename_i c
          rw [List.mem_singleton] at hk
          subst hk
          refine ⟨c.1, by omega, ?_⟩
          unfold meet
          rw [mine, c.2]
          rfl
        · cases hk
section
variable {P : Program} {w : World} {K : PySem.W.Frag} {mg : Str → Option Value} {base : Heap}
def spCommon : Sp := fun vs H Q _ => ∃ v D T B S p v' D' T' B' S' p' a b, vs = [v, .int p, v', .int p', .int a, .int b] ∧ Two H v D T B S p v' D' T' B' S' p' ∧ (a ≤ b ∧ b - a < 90000) ∧
  ∀ Dl H', H Dl = none → Ex H H' → H' Dl = some (.lst ((yrs (meet D T B S p D' T' B' S' p') a (b - a).toNat).map V.int)) → Q (.ref Dl) H'
theorem ok__law_common (T : Txt K mg) : FnOk P w K mg base CX0 3 T._law_common.f T._law_common.fd ["one", "place_one", "other", "place_other", "first", "last"] spCommon := by
  have G__law_step : FnOk P w K mg base CX0 1 T._law_step.f T._law_step.fd ["land"] spStep := ok__law_step T
  have G__law_begin : FnOk P w K mg base CX0 1 T._law_begin.f T._law_begin.fd ["land", "year"] spBeg := ok__law_begin T
  have G__law_is_at : FnOk P w K mg base CX0 2 T._law_is_at.f T._law_is_at.fd ["land", "place", "day"] spIsAt := ok__law_is_at T
  refine T._law_common.F.ok sc__law_common (fun vs H Q E h => ?_) (fun cdv A outer s H vs Q E hr h => ?_)
  · obtain ⟨_, _, _, _, _, _, _, _, _, _, _, _, _, _, rfl, _⟩ := h
    rfl
  · obtain ⟨v, D, T1, B, S, p, v', D', T', B', S', p', a, b, rfl, t, ab, q⟩ := h
    obtain ⟨la, rfl, ha, r1, r2, r3, r4⟩ := id t.l
    have hs := step_bd r1 r2 r3
    have hp := t.ld.p
    refine ⟨_, (pss_cons (ps_set (i := 6) sc__law_common.nd rfl (Or.inl rfl) (pe_op op_sub (pe_op op_fdiv (pe_op op_sub (pe_op op_mul (pv 4) (pe_ix ix_tup (pv 0) pe_int (fun _ _ => rfl))) (pe_ix ix_tup (pv 0) pe_int (fun _ _ => rfl))) (pe_call G__law_step (hr.mono (by omega)) (by rfl) T._law_step.g T._law_step.F.kp T._law_step.b .nil pass0 (pa_cons (pv 0) pa_nil))) pe_int))
      (pss_cons (ps_set (i := 7) sc__law_common.nd rfl (Or.inl rfl) (pe_lst pa_nil))
      (pss_cons (ps_while PassesOwn.never (pt_cmpR op_lt (pe_op op_add (pe_call G__law_begin (hr.mono (by omega)) (by rfl) T._law_begin.g T._law_begin.F.kp T._law_begin.b .nil pass0 (pa_cons (pv 0) (pa_cons (pv 6) pa_nil))) (pv 1)) (pv 5) (nomark _))
        (pss_cons (ps_set (i := 8) sc__law_common.nd rfl (Or.inl rfl) (pe_op op_add (pe_call G__law_begin (hr.mono (by omega)) (by rfl) T._law_begin.g T._law_begin.F.kp T._law_begin.b .nil pass0 (pa_cons (pv 0) (pa_cons (pv 6) pa_nil))) (pv 1)))
      (pss_cons (ps_if (PW.pt (pw_and (pt_cmpR op_ge (pv 8) (pv 4) (nomark _)) (pw_and1 (pt_val (pe_call G__law_is_at (hr.mono (by omega)) (by rfl) T._law_is_at.g T._law_is_at.F.kp T._law_is_at.b .nil pass0 (pa_cons (pv 2) (pa_cons (pv 3) (pa_cons (pv 8) pa_nil))))))))
        (pss_one (ps_expr (pe_bm PySem.F.plainAttrs_list PySem.F.slot_list_append PySem.F.type_list_append mt_append (pv 7) (pa_cons (pv 8) pa_nil))))
        pss_nil)
      (pss_one (ps_set (i := 6) sc__law_common.nd rfl (Or.inl rfl) (pe_op op_add (pv 6) pe_int))))))
      (pss_one (ps_ret (pv 7)))))), ?_⟩
    refine ⟨_, rfl, _, rfl, la, _, 2, _, rfl, rfl, st_of ha, rfl, _, _, rfl, rfl, cm_r (by omega), _, rfl, la, _, 3, _, rfl, rfl, st_of ha, rfl, _, _, rfl, rfl, ?_⟩
    refine ⟨_, rfl, _, D, T1, B, S, rfl, t.l, fun H1 e1 => ⟨_, _, rfl, rfl, ⟨by omega, by omega⟩, _, _, rfl, rfl, ?_⟩⟩
    refine ⟨Nat.zero_le _, fun l nl => ?_⟩
    have xl := Ex.new (o := .lst []) nl
    have nH : H l = none := fresh_back e1 nl
    have start : fst D T1 B S ((a * B - S) / (D * B + T1) - 2) + p ≤ a := by
      have m1 := fst_mono (S := S) (y := (a * B - S) / (D * B + T1) - 2) r1 r2
      have m2 := fst_mono (S := S) (y := (a * B - S) / (D * B + T1) - 2 + 1) r1 r2
      rw [show (a * B - S) / (D * B + T1) - 2 + 1 + 1 = (a * B - S) / (D * B + T1) by omega] at m2
      have top : fst D T1 B S ((a * B - S) / (D * B + T1)) ≤ a := by
        refine (fst_le r3.1 hs.1).mpr ?_
        unfold yr
        refine Int.ediv_le_ediv (by omega) ?_
        rw [Int.add_mul]
        omega
      omega
    refine q_while (fun m σ H' => ∃ (y : Int) (z : Option V), σ = [some (.ref la), some (.int p), some v', some (.int p'), some (.int a), some (.int b), some (.int y), some (.ref l), z] ∧ (b - (fst D T1 B S y + p)).toNat = m ∧ Ex H H' ∧ H' l = some (.lst ((yrs (meet D T1 B S p D' T' B' S' p') a (min (fst D T1 B S y + p) b - a).toNat).map V.int))) (b - (fst D T1 B S ((a * B - S) / (D * B + T1) - 2) + p)).toNat ⟨(a * B - S) / (D * B + T1) - 2, none, rfl, rfl, e1.trans xl, ?_⟩ ?_
    · rw [upd_same, show (min (fst D T1 B S ((a * B - S) / (D * B + T1) - 2) + p) b - a).toNat = 0 by omega]
      rfl
    rintro m σ H2 ⟨y, z, rfl, hm, e2, h2⟩
    by_cases more : fst D T1 B S y + p < b
    · refine ⟨true, fun H3 e3 Q2 q2 => ⟨_, rfl, _, rfl, _, D, T1, B, S, y, rfl, (t.ex (e2.trans e3)).l, fun H4 e4 => ⟨_, rfl, _, _, rfl, rfl, _, rfl, _, _, rfl, rfl, _, rfl, ?_⟩⟩, fun _ H3 e3 => ?_, fun z => Bool.noConfusion z⟩
      · rw [decide_eq_true more]
        exact q2 H4 e4
      · have mono := fst_mono (S := S) (y := y) r1 r2
        have cs := common_step (D' := D') (T' := T') (B' := B') (S' := S') (p' := p') (a := a) t.ld more
        have small : (yrs (meet D T1 B S p D' T' B' S' p') a (min (fst D T1 B S y + p) b - a).toNat).length < 100000 := by
          unfold yrs
          rw [List.length_map]
          exact Nat.lt_of_le_of_lt (List.length_filter_le _ _) (by rw [List.length_range]; omega)
        refine ⟨fun σ' H' => (∃ z, σ' = [some (.ref la), some (.int p), some v', some (.int p'), some (.int a), some (.int b), some (.int (y + 1)), some (.ref l), z]) ∧ Ex H H' ∧ H' l = some (.lst ((yrs (meet D T1 B S p D' T' B' S' p') a (min (fst D T1 B S (y + 1) + p) b - a).toNat).map V.int)), fun σ' H' ⟨⟨z, es⟩, ex, hl⟩ => ⟨(b - (fst D T1 B S (y + 1) + p)).toNat, by omega, y + 1, z, es, rfl, ex, hl⟩, ?_⟩
        have e23 := e2.trans e3
        refine ⟨_, rfl, _, rfl, _, D, T1, B, S, y, rfl, (t.ex e23).l, fun H4 e4 => ⟨_, rfl, _, _, rfl, rfl, ?_⟩⟩
        have h4 := e4 _ _ (e3 _ _ h2)
        have e24 := e23.trans e4
        refine ⟨_, rfl, _, rfl, _, _, rfl, rfl, _, rfl, ?_⟩
        by_cases ge : fst D T1 B S y + p ≥ a
        · rw [decide_eq_true ge]
          refine iteT ⟨_, rfl, _, rfl, _, rfl, v', D', T', B', S', p', _, rfl, (t.ex e24).l', fun H5 e5 => ⟨_, rfl, ?_⟩⟩
          have h5 := e5 _ _ h4
          have e25 := e24.trans e5
          cases at2 : atP D' T' B' S' p' (fst D T1 B S y + p) with
          | true =>
            rw [if_pos ⟨ge, at2⟩] at cs
            refine iteT ⟨_, rfl, .inl ⟨rfl, _, sq_of h5⟩, _, rfl, l, _, _, rfl, rfl, h5, by rw [List.length_map]; exact sz_lt small, ?_⟩
            refine ⟨_, rfl, _, _, rfl, rfl, ⟨_, rfl⟩, ex_put e25 nH, ?_⟩
            rw [upd_same, cs, List.map_append]
            rfl
          | false =>
            rw [if_neg (fun c => by rw [at2] at c; cases c.2), List.append_nil] at cs
            refine iteF ⟨_, rfl, _, _, rfl, rfl, ⟨_, rfl⟩, e25, ?_⟩
            rw [cs]
            exact h5
        · rw [decide_eq_false ge]
          rw [if_neg (fun c => ge c.1), List.append_nil] at cs
          refine iteF (iteF ⟨_, rfl, _, _, rfl, rfl, ⟨_, rfl⟩, e24, ?_⟩)
          rw [cs]
          exact h4
    · refine ⟨false, fun H3 e3 Q2 q2 => ⟨_, rfl, _, rfl, _, D, T1, B, S, y, rfl, (t.ex (e2.trans e3)).l, fun H4 e4 => ⟨_, rfl, _, _, rfl, rfl, _, rfl, _, _, rfl, rfl, _, rfl, ?_⟩⟩, fun z => Bool.noConfusion z, fun _ H3 e3 => ?_⟩
      · rw [decide_eq_false more]
        exact q2 H4 e4
      · refine ⟨_, rfl, q l H3 nH (e2.trans e3) ?_⟩
        rw [show min (fst D T1 B S y + p) b = b by omega] at h2
        exact e3 _ _ h2
end

theorem yrs_all {f : Int → Bool} {c : Nat} (per : ∀ y, f (y + c) = f y) (hc : 1 ≤ c) {a : Int} : yrs f a c = [] ↔ ∀ d, f d = false := by
  constructor
  · intro h d
    have m0 := Int.emod_nonneg (d - a) (show (c : Int) ≠ 0 by omega)
    have m1 := Int.emod_lt_of_pos (d - a) (show (0 : Int) < c by omega)
    have dm := Int.mul_ediv_add_emod (d - a) (c : Int)
    have z := yrs_none h ((d - a) % c).toNat (by omega)
    have s := per_many per (a + (((d - a) % (c : Int)).toNat : Int)) ((d - a) / c)
    rw [show a + (((d - a) % (c : Int)).toNat : Int) + (d - a) / (c : Int) * c = d by rw [Int.mul_comm] at dm; omega] at s
    rw [s]
    exact z
  · intro h
    cases e : yrs f a c with
    | nil => rfl
    | cons y r =>
      have := (yrs_mem.mp (show y ∈ yrs f a c by rw [e]; exact List.mem_cons_self)).2.2
      rw [h] at this
      cases this

theorem rnd_comm {D T B D' T' B' : Int} : rnd D' T' B' D T B = rnd D T B D' T' B' := by
  unfold rnd
  rw [Nat.mul_comm, Nat.gcd_comm]
theorem meet_first {D T B S p D' T' B' S' p' : Int} (h : Ld D T B S p) (h' : Ld D' T' B' S' p') (some_ : ∃ d, meet D T B S p D' T' B' S' p' d = true) (a : Int) : ∃ k : Nat, k < rnd D T B D' T' B' ∧ hd (yrs (meet D T B S p D' T' B' S' p') a (rnd D T B D' T' B')) = .int (a + k) ∧ meet D T B S p D' T' B' S' p' (a + k) = true ∧ ∀ j : Nat, j < k → meet D T B S p D' T' B' S' p' (a + j) = false := by
  have s1 := h.stp
  obtain ⟨u0, hu0⟩ := undo_some (stp D T B) (stp D' T' B') (by omega)
  have per := meet_per h h' hu0
  have rp := rnd_pos h h'
  cases e : yrs (meet D T B S p D' T' B' S' p') a (rnd D T B D' T' B') with
  | nil =>
    obtain ⟨d, hd⟩ := some_
    have := (yrs_all per rp.1).mp e d
    rw [hd] at this
    cases this
  | cons y r =>
    obtain ⟨k, kn, rfl, hk, before⟩ := yrs_first e
    exact ⟨k, kn, rfl, hk, before⟩
section
variable {P : Program} {w : World} {K : PySem.W.Frag} {mg : Str → Option Value} {base : Heap}
def spNextR : Sp := fun vs H Q _ => ∃ v D T B S p v' D' T' B' S' p' d, vs = [v, .int p, v', .int p', .int d] ∧ Two H v D T B S p v' D' T' B' S' p' ∧ (∃ e, meet D T B S p D' T' B' S' p' e = true) ∧ (-1000000000000000000000000000 ≤ d ∧ d ≤ 1000000000000000000000000000) ∧ RetV (.bl true) H Q
theorem ok__law_next_right (T : Txt K mg) : FnOk P w K mg base CX0 7 T._law_next_right.f T._law_next_right.fd ["one", "place_one", "other", "place_other", "begun"] spNextR := by
  have G_next_day : FnOk P w K mg base CX0 6 T.next_day.f T.next_day.fd ["one", "place_one", "other", "place_other", "day"] spNextD := ok_next_day T
  have G_days : FnOk P w K mg base CX0 6 T.days.f T.days.fd ["one", "place_one", "other", "place_other", "first", "last"] spDaysC := ok_days T
  have G__law_common : FnOk P w K mg base CX0 3 T._law_common.f T._law_common.fd ["one", "place_one", "other", "place_other", "first", "last"] spCommon := ok__law_common T
  have G__law_is_at : FnOk P w K mg base CX0 2 T._law_is_at.f T._law_is_at.fd ["land", "place", "day"] spIsAt := ok__law_is_at T
  refine T._law_next_right.F.ok sc__law_next_right (fun vs H Q E h => ?_) (fun cdv A outer s H vs Q E hr h => ?_)
  · obtain ⟨_, _, _, _, _, _, _, _, _, _, _, _, _, rfl, _⟩ := h
    rfl
  · obtain ⟨v, D, T1, B, S, p, v', D', T', B', S', p', d, rfl, t, some_, fd, q⟩ := h
    have rp := rnd_pos t.ld t.ld'
    have first := meet_first t.ld t.ld' some_
    have swap : rnd D' T' B' D T1 B = rnd D T1 B D' T' B' := rnd_comm
    have cmm := meet_comm (D := D) (T := T1) (B := B) (S := S) (p := p) (D' := D') (T' := T') (B' := B') (S' := S') (p' := p')
    refine ⟨_, (pss_cons (ps_set (i := 5) sc__law_next_right.nd rfl (Or.inl rfl) (pv 4))
      (pss_cons (ps_for PassesOwn.never rfl (pi_range1 rfl T.range (pa_cons pe_int pa_nil)) (pg_name (i := 6) sc__law_next_right.nd rfl (Or.inl rfl))
        (pss_cons (ps_set (i := 7) sc__law_next_right.nd rfl (Or.inl rfl) (pe_call G_next_day (hr.mono (by omega)) (by rfl) T.next_day.g T.next_day.F.kp T.next_day.b .nil pass0 (pa_cons (pv 0) (pa_cons (pv 1) (pa_cons (pv 2) (pa_cons (pv 3) (pa_cons (pv 5) pa_nil)))))))
      (pss_cons (ps_if (PW.pt (pw_or (pt_cmpR op_lt (pv 7) (pv 5) (nomark _)) (pw_or (pt_not (pt_val (pe_call G__law_is_at (hr.mono (by omega)) (by rfl) T._law_is_at.g T._law_is_at.F.kp T._law_is_at.b .nil pass0 (pa_cons (pv 0) (pa_cons (pv 1) (pa_cons (pv 7) pa_nil)))))) (pw_or1 (pt_not (pt_val (pe_call G__law_is_at (hr.mono (by omega)) (by rfl) T._law_is_at.g T._law_is_at.F.kp T._law_is_at.b .nil pass0 (pa_cons (pv 2) (pa_cons (pv 3) (pa_cons (pv 7) pa_nil))))))))))
        (pss_one (ps_ret pe_bl))
        pss_nil)
      (pss_cons (ps_set (i := 8) sc__law_next_right.nd rfl (Or.inl rfl) (pe_call G__law_common (hr.mono (by omega)) (by rfl) T._law_common.g T._law_common.F.kp T._law_common.b .nil pass0 (pa_cons (pv 0) (pa_cons (pv 1) (pa_cons (pv 2) (pa_cons (pv 3) (pa_cons (pe_callB (call_max2 rfl) (by rfl) T.max (by decide +kernel) (pa_cons (pv 5) (pa_cons (pe_op op_sub (pv 7) pe_int) pa_nil))) (pa_cons (pv 7) pa_nil))))))))
      (pss_cons (ps_if (PW.pt (pw_or (pt_cmpR (op_neD hr.units) (pv 8) (pe_lst pa_nil) (nomark _)) (pw_or1 (pt_cmpR op_ne (pe_call G_next_day (hr.mono (by omega)) (by rfl) T.next_day.g T.next_day.F.kp T.next_day.b .nil pass0 (pa_cons (pv 2) (pa_cons (pv 3) (pa_cons (pv 0) (pa_cons (pv 1) (pa_cons (pv 5) pa_nil)))))) (pv 7) (nomark _)))))
        (pss_one (ps_ret pe_bl))
        pss_nil)
      (pss_cons (ps_if (pt_cmpR op_ne (pe_call G_days (hr.mono (by omega)) (by rfl) T.days.g T.days.F.kp T.days.b .nil pass0 (pa_cons (pv 0) (pa_cons (pv 1) (pa_cons (pv 2) (pa_cons (pv 3) (pa_cons (pv 5) (pa_cons (pv 7) pa_nil))))))) pe_int (nomark _))
        (pss_one (ps_ret pe_bl))
        pss_nil)
      (pss_cons (ps_if (pt_cmpR op_ne (pe_call G_days (hr.mono (by omega)) (by rfl) T.days.g T.days.F.kp T.days.b .nil pass0 (pa_cons (pv 0) (pa_cons (pv 1) (pa_cons (pv 2) (pa_cons (pv 3) (pa_cons (pv 5) (pa_cons (pe_op op_add (pv 7) pe_int) pa_nil))))))) pe_int (nomark _))
        (pss_one (ps_ret pe_bl))
        pss_nil)
      (pss_one (ps_set (i := 5) sc__law_next_right.nd rfl (Or.inl rfl) (pe_op op_add (pv 7) pe_int))))))))))
      (pss_one (ps_ret pe_bl)))), ?_⟩
    refine ⟨_, rfl, 5, rfl, by decide, by decide, for_range (lo := 0) (n := 5) (fun j σ H' => ∃ (h : Int) (z1 z2 z3 : Option V), σ = [some v, some (.int p), some v', some (.int p'), some (.int d), some (.int h), z1, z2, z3] ∧ (-1000000000000000000000000000 ≤ h ∧ h ≤ 1000000000000000000000000000 + 600000000 * j) ∧ Ex H H') ⟨d, _, _, _, rfl, by omega, Ex.refl H⟩ ?_ ?_⟩
    · rintro j σ H1 hj ⟨h, z1, z2, z3, rfl, hb, e1⟩
      obtain ⟨k, kr, hhd, hk, before⟩ := first h
      have t1 := t.ex e1
      refine ⟨_, rfl, _, rfl, _, rfl, _, rfl, _, rfl, v, D, T1, B, S, p, v', D', T', B', S', p', h, rfl, t1, ⟨by omega, by omega⟩, fun H2 e2 => ?_⟩
      rw [hhd]
      have both := hk
      unfold meet at both
      rw [Bool.and_eq_true] at both
      have t2 := t1.ex e2
      refine ⟨_, rfl, _, rfl, _, _, rfl, rfl, _, rfl, ?_⟩
      rw [decide_eq_false (show ¬ h + (k : Int) < h by omega)]
      refine iteF ⟨_, rfl, _, rfl, _, rfl, v, D, T1, B, S, p, _, rfl, t2.l, fun H3 e3 => ⟨_, rfl, ?_⟩⟩
      rw [both.1]
      have t3 := t2.ex e3
      refine iteF ⟨_, rfl, _, rfl, _, rfl, v', D', T', B', S', p', _, rfl, t3.l', fun H4 e4 => ⟨_, rfl, ?_⟩⟩
      rw [both.2]
      have t4 := t3.ex e4
      refine iteF ⟨_, rfl, _, rfl, _, rfl, _, rfl, _, rfl, _, rfl, _, _, rfl, rfl, h, h + (k : Int) - 3000, rfl, _, rfl, v, D, T1, B, S, p, v', D', T', B', S', p', if h + (k : Int) - 3000 > h then h + (k : Int) - 3000 else h, h + (k : Int), rfl, t4, ⟨by split <;> omega, by split <;> omega⟩, fun ln H5 nln e5 h5 => ?_⟩
      have none_ : yrs (meet D T1 B S p D' T' B' S' p') (if h + (k : Int) - 3000 > h then h + (k : Int) - 3000 else h) (h + (k : Int) - (if h + (k : Int) - 3000 > h then h + (k : Int) - 3000 else h)).toNat = [] := by
        cases e : yrs (meet D T1 B S p D' T' B' S' p') (if h + (k : Int) - 3000 > h then h + (k : Int) - 3000 else h) (h + (k : Int) - (if h + (k : Int) - 3000 > h then h + (k : Int) - 3000 else h)).toNat with
        | nil => rfl
        | cons y r =>
          have my := yrs_mem.mp (show y ∈ _ from by rw [e]; exact List.mem_cons_self)
          have hy : h ≤ y ∧ y < h + k := by
            revert my
            split <;> intro my <;> omega
          have := before (y - h).toNat (by omega)
          rw [show h + (((y - h).toNat : Nat) : Int) = y by omega, my.2.2] at this
          cases this
      rw [none_] at h5
      have t5 := t4.ex e5
      refine ⟨_, rfl, by decide, fun pe ne => ?_⟩
      have xe := Ex.new (o := .lst []) ne
      refine ne_lsts (ns := []) (ms := []) (sq_of (xe _ _ h5)) (sq_of upd_same) ⟨_, rfl, ?_⟩
      have t6 := t5.ex xe
      have e16 := e1.trans (e2.trans (e3.trans (e4.trans (e5.trans xe))))
      revert t6 e16
      generalize upd H5 pe (.lst []) = H6
      intro t6 e16
      refine iteF ⟨_, rfl, _, rfl, _, rfl, _, rfl, _, rfl, v', D', T', B', S', p', v, D, T1, B, S, p, h, rfl, t6.swap, ⟨by omega, by omega⟩, fun H7 e7 => ?_⟩
      rw [cmm, swap, hhd]
      refine ⟨_, rfl, rfl, _, rfl, ?_⟩
      rw [decide_eq_true rfl]
      have t7 := t6.ex e7
      refine iteF ⟨_, rfl, _, rfl, _, rfl, _, rfl, _, rfl, _, rfl, v, D, T1, B, S, p, v', D', T', B', S', p', h, h + (k : Int), rfl, t7, ⟨by omega, by omega⟩, ⟨by omega, by omega⟩, by omega, fun H8 e8 => ?_⟩
      have c0 : cnt (meet D T1 B S p D' T' B' S' p') h k = 0 := by
        unfold cnt
        rw [List.length_eq_zero_iff, List.filter_eq_nil_iff]
        intro i hi
        rw [before i (List.mem_range.mp hi)]
        decide
      have c1 : cnt (meet D T1 B S p D' T' B' S' p') h (k + 1) = 1 := by
        rw [cnt_succ, c0, if_pos hk]
      rw [show (h + (k : Int) - h).toNat = k by omega, c0]
      refine ⟨rfl, _, rfl, ?_⟩
      have t8 := t7.ex e8
      refine iteF ⟨_, rfl, _, rfl, _, rfl, _, rfl, _, rfl, _, rfl, _, _, rfl, rfl, v, D, T1, B, S, p, v', D', T', B', S', p', h, h + (k : Int) + 1, rfl, t8, ⟨by omega, by omega⟩, ⟨by omega, by omega⟩, by omega, fun H9 e9 => ?_⟩
      rw [show (h + (k : Int) + 1 - h).toNat = k + 1 by omega, c1]
      refine ⟨rfl, _, rfl, ?_⟩
      exact iteF ⟨_, rfl, _, _, rfl, rfl, h + (k : Int) + 1, _, _, _, rfl, ⟨by omega, by omega⟩, e16.trans (e7.trans (e8.trans e9))⟩
    · rintro σ H1 ⟨h, z1, z2, z3, rfl, hb, e1⟩
      exact q H1 e1
end

section
variable {P : Program} {w : World} {K : PySem.W.Frag} {mg : Str → Option Value} {base : Heap}
theorem retV_of {x y : V} {H : Hp} {Q : VK} (e : x = y) (h : RetV x H Q) : RetV y H Q := e ▸ h
theorem cnt_none {f : Int → Bool} (no : ∀ d, f d = false) (a : Int) (n : Nat) : cnt f a n = 0 := by
  unfold cnt
  rw [List.length_eq_zero_iff, List.filter_eq_nil_iff]
  intro i _
  rw [no]
  decide
theorem ok_law (T : Txt K mg) {f : Addr} {fd : FuncData} (F : Fun K "law" "law" s_law f fd) : FnOk P w K mg base CX0 8 f fd ["script"] (spLaw K) := by
  have G_next_day : FnOk P w K mg base CX0 6 T.next_day.f T.next_day.fd ["one", "place_one", "other", "place_other", "day"] spNextD := ok_next_day T
  have G_days : FnOk P w K mg base CX0 6 T.days.f T.days.fd ["one", "place_one", "other", "place_other", "first", "last"] spDaysC := ok_days T
  have G_parting : FnOk P w K mg base CX0 6 T.parting.f T.parting.fd ["one", "place_one", "other", "place_other"] spParting := ok_parting T
  have G__law_next_right : FnOk P w K mg base CX0 7 T._law_next_right.f T._law_next_right.fd ["one", "place_one", "other", "place_other", "begun"] spNextR := ok__law_next_right T
  have G__law_measure : FnOk P w K mg base CX0 1 T._law_measure.f T._law_measure.fd ["one", "other"] spGcd := ok__law_measure T
  have G__law_step : FnOk P w K mg base CX0 1 T._law_step.f T._law_step.fd ["land"] spStep := ok__law_step T
  have G__law_deck : FnOk P w K mg base CX0 1 T._law_deck.f T._law_deck.fd ["cell", "turn"] spDeck := ok__law_deck T
  have G__law_pick : FnOk P w K mg base CX0 1 T._law_pick.f T._law_pick.fd ["deck", "size"] spPick := ok__law_pick T
  have G__law_any : FnOk P w K mg base CX0 3 T._law_any.f T._law_any.fd ["deck"] spAny := ok__law_any T
  have G__law_far : FnOk P w K mg base CX0 3 T._law_far.f T._law_far.fd ["deck"] spFar := ok__law_far T
  refine F.ok sc_law (fun vs H Q E h => ?_) (fun cdv A outer s H vs Q E hr h => ?_)
  · obtain ⟨a, ns, rfl, _⟩ := h
    rfl
  · obtain ⟨a, ns, rfl, hS, hlen, q⟩ := h
    refine ⟨_, (pss_cons (ps_for PassesOwn.never rfl (pi_list (pe_slice sl_list (pe_op op_catL (pe_lst (pa_cons pe_int pa_nil)) (pv 0)) po_none (po_some pe_int))) (pg_name (i := 1) sc_law.nd rfl (Or.inl rfl))
        (pss_cons (ps_set (i := 2) sc_law.nd rfl (Or.inl rfl) (pe_call G__law_deck (hr.mono (by omega)) (by rfl) T._law_deck.g T._law_deck.F.kp T._law_deck.b .nil pass0 (pa_cons (pv 1) (pa_cons pe_int pa_nil))))
      (pss_cons (ps_par (i := 3) (j := 4) (by rfl) sc_law.nd rfl rfl (by decide) rfl rfl (pa_cons (pe_call G__law_any (hr.mono (by omega)) (by rfl) T._law_any.g T._law_any.F.kp T._law_any.b .nil pass0 (pa_cons (pv 2) pa_nil)) (pa_cons (pe_call G__law_any (hr.mono (by omega)) (by rfl) T._law_any.g T._law_any.F.kp T._law_any.b .nil pass0 (pa_cons (pv 2) pa_nil)) pa_nil)) (by rfl))
      (pss_cons (ps_par (i := 5) (j := 6) (by rfl) sc_law.nd rfl rfl (by decide) rfl rfl (pa_cons (pe_call G__law_pick (hr.mono (by omega)) (by rfl) T._law_pick.g T._law_pick.F.kp T._law_pick.b .nil pass0 (pa_cons (pv 2) (pa_cons (pe_ix ix_tup (pv 3) pe_int (fun _ _ => rfl)) pa_nil))) (pa_cons (pe_call G__law_pick (hr.mono (by omega)) (by rfl) T._law_pick.g T._law_pick.F.kp T._law_pick.b .nil pass0 (pa_cons (pv 2) (pa_cons (pe_ix ix_tup (pv 4) pe_int (fun _ _ => rfl)) pa_nil))) pa_nil)) (by rfl))
      (pss_cons (ps_set (i := 7) sc_law.nd rfl (Or.inl rfl) (pe_call G_parting (hr.mono (by omega)) (by rfl) T.parting.g T.parting.F.kp T.parting.b .nil pass0 (pa_cons (pv 3) (pa_cons (pv 5) (pa_cons (pv 4) (pa_cons (pv 6) pa_nil))))))
      (pss_cons (ps_set (i := 8) sc_law.nd rfl (Or.inl rfl) (pe_call G__law_far (hr.mono (by omega)) (by rfl) T._law_far.g T._law_far.F.kp T._law_far.b .nil pass0 (pa_cons (pv 2) pa_nil)))
      (pss_cons (ps_set (i := 9) sc_law.nd rfl (Or.inl rfl) (pe_call G__law_measure (hr.mono (by omega)) (by rfl) T._law_measure.g T._law_measure.F.kp T._law_measure.b .nil pass0 (pa_cons (pe_call G__law_step (hr.mono (by omega)) (by rfl) T._law_step.g T._law_step.F.kp T._law_step.b .nil pass0 (pa_cons (pv 3) pa_nil)) (pa_cons (pe_call G__law_step (hr.mono (by omega)) (by rfl) T._law_step.g T._law_step.F.kp T._law_step.b .nil pass0 (pa_cons (pv 4) pa_nil)) pa_nil))))
      (pss_cut (ps_set (i := 10) sc_law.nd rfl (Or.inl rfl) (pe_op op_fdiv (pe_op op_mul (pe_call G__law_step (hr.mono (by omega)) (by rfl) T._law_step.g T._law_step.F.kp T._law_step.b .nil pass0 (pa_cons (pv 3) pa_nil)) (pe_call G__law_step (hr.mono (by omega)) (by rfl) T._law_step.g T._law_step.F.kp T._law_step.b .nil pass0 (pa_cons (pv 4) pa_nil))) (pv 9)))
      (pss_one (ps_if (pt_cmpR op_notN (pv 7) pe_non (nomark _))
        (pss_cons (ps_if (pt_cmpR op_notN (pe_call G_next_day (hr.mono (by omega)) (by rfl) T.next_day.g T.next_day.F.kp T.next_day.b .nil pass0 (pa_cons (pv 3) (pa_cons (pv 5) (pa_cons (pv 4) (pa_cons (pv 6) (pa_cons (pv 8) pa_nil)))))) pe_non (nomark _))
        (pss_one (ps_ret pe_bl))
        pss_nil)
      (pss_cons (ps_set (i := 11) sc_law.nd rfl (Or.inl rfl) (pe_call G_days (hr.mono (by omega)) (by rfl) T.days.g T.days.F.kp T.days.b .nil pass0 (pa_cons (pv 3) (pa_cons (pv 5) (pa_cons (pv 4) (pa_cons (pv 6) (pa_cons (pv 8) (pa_cons (pe_op op_add (pv 8) (pe_op op_pow pe_int pe_int)) pa_nil))))))))
      (pss_one (ps_if (pt_cmpR op_ne (pv 11) pe_int (nomark _))
        (pss_one (ps_ret pe_bl))
        pss_nil))))
        (pss_cons (ps_if (pt_not (pt_val (pe_call G__law_next_right (hr.mono (by omega)) (by rfl) T._law_next_right.g T._law_next_right.F.kp T._law_next_right.b .nil pass0 (pa_cons (pv 3) (pa_cons (pv 5) (pa_cons (pv 4) (pa_cons (pv 6) (pa_cons (pv 8) pa_nil))))))))
        (pss_one (ps_ret pe_bl))
        pss_nil)
      (pss_cons (ps_set (i := 12) sc_law.nd rfl (Or.inl rfl) (pe_call G_next_day (hr.mono (by omega)) (by rfl) T.next_day.g T.next_day.F.kp T.next_day.b .nil pass0 (pa_cons (pv 3) (pa_cons (pv 5) (pa_cons (pv 4) (pa_cons (pv 6) (pa_cons (pv 8) pa_nil)))))))
      (pss_cons (ps_if (pt_cmpR op_ne (pe_call G_next_day (hr.mono (by omega)) (by rfl) T.next_day.g T.next_day.F.kp T.next_day.b .nil pass0 (pa_cons (pv 3) (pa_cons (pv 5) (pa_cons (pv 4) (pa_cons (pv 6) (pa_cons (pe_op op_add (pv 8) (pv 10)) pa_nil)))))) (pe_op op_add (pv 10) (pv 12)) (nomark _))
        (pss_one (ps_ret pe_bl))
        pss_nil)
      (pss_cons (ps_set (i := 13) sc_law.nd rfl (Or.inl rfl) (pe_op op_add (pv 8) (pe_call G__law_pick (hr.mono (by omega)) (by rfl) T._law_pick.g T._law_pick.F.kp T._law_pick.b .nil pass0 (pa_cons (pv 2) (pa_cons (pe_op op_pow pe_int pe_int) pa_nil)))))
      (pss_cons (ps_set (i := 14) sc_law.nd rfl (Or.inl rfl) (pe_op op_add (pv 8) (pe_op op_fdiv (pe_op op_sub (pv 13) (pv 8)) pe_int)))
      (pss_cons (ps_set (i := 15) sc_law.nd rfl (Or.inl rfl) (pe_call G_days (hr.mono (by omega)) (by rfl) T.days.g T.days.F.kp T.days.b .nil pass0 (pa_cons (pv 3) (pa_cons (pv 5) (pa_cons (pv 4) (pa_cons (pv 6) (pa_cons (pv 8) (pa_cons (pv 14) pa_nil))))))))
      (pss_cons (ps_set (i := 15) sc_law.nd rfl (Or.inl rfl) (pe_op op_add (pv 15) (pe_call G_days (hr.mono (by omega)) (by rfl) T.days.g T.days.F.kp T.days.b .nil pass0 (pa_cons (pv 3) (pa_cons (pv 5) (pa_cons (pv 4) (pa_cons (pv 6) (pa_cons (pv 14) (pa_cons (pv 13) pa_nil)))))))))
      (pss_cons (ps_if (pt_cmpR op_ne (pv 15) (pe_call G_days (hr.mono (by omega)) (by rfl) T.days.g T.days.F.kp T.days.b .nil pass0 (pa_cons (pv 3) (pa_cons (pv 5) (pa_cons (pv 4) (pa_cons (pv 6) (pa_cons (pv 8) (pa_cons (pv 13) pa_nil))))))) (nomark _))
        (pss_one (ps_ret pe_bl))
        pss_nil)
      (pss_cons (ps_set (i := 16) sc_law.nd rfl (Or.inl rfl) (pe_call G_days (hr.mono (by omega)) (by rfl) T.days.g T.days.F.kp T.days.b .nil pass0 (pa_cons (pv 3) (pa_cons (pv 5) (pa_cons (pv 4) (pa_cons (pv 6) (pa_cons (pv 8) (pa_cons (pe_op op_add (pv 8) (pv 10)) pa_nil))))))))
      (pss_cons (ps_set (i := 17) sc_law.nd rfl (Or.inl rfl) (pe_call G_days (hr.mono (by omega)) (by rfl) T.days.g T.days.F.kp T.days.b .nil pass0 (pa_cons (pv 3) (pa_cons (pv 5) (pa_cons (pv 4) (pa_cons (pv 6) (pa_cons (pv 8) (pa_cons (pe_op op_add (pv 8) (pe_op op_mul pe_int (pv 10))) pa_nil))))))))
      (pss_one (ps_if (PW.pt (pw_or (pt_cmpR op_ne (pv 17) (pe_op op_mul pe_int (pv 16)) (nomark _)) (pw_or1 (pt_cmpR op_lt (pv 16) pe_int (nomark _)))))
        (pss_one (ps_ret pe_bl))
        pss_nil))))))))))))))))))))))
      (pss_one (ps_ret pe_bl))), ?_⟩
    refine ⟨by show 1 ≤ sizeLine; decide, fun p0 n0 => ?_⟩
    refine ⟨_, rfl, p0, a, _, _, rfl, rfl, sq_of upd_same, ex_l (Ex.new n0) hS, ?_, fun p1 n1 => ?_⟩
    · rw [List.length_map]
      exact sz_of (by show 1 + ns.length ≤ 100000; omega)
    refine ⟨8, rfl, p1, _, rfl, sq_of upd_same, fun p2 n2 => ?_⟩
    refine ⟨p2, rfl, ⟨_, sq_of upd_same⟩, ?_⟩
    refine for_list (xs := cutV (V.int 0 :: ns.map V.int) none (some 8)) (fun i σ H' => (∃ y1 y2 y3 y4 y5 y6 y7 y8 y9 y10 y11 y12 y13 y14 y15 y16 y17, σ = [some (.ref a), y1, y2, y3, y4, y5, y6, y7, y8, y9, y10, y11, y12, y13, y14, y15, y16, y17]) ∧ H' p2 = some (.lst (cutV (V.int 0 :: ns.map V.int) none (some 8))))
      ⟨⟨_, _, _, _, _, _, _, _, _, _, _, _, _, _, _, _, _, rfl⟩, upd_same⟩ (fun i σ H' _ h => sq_of h.2) ?_ ?_
    · rintro i x σ H1 hx ⟨⟨y1, y2, y3, y4, y5, y6, y7, y8, y9, y10, y11, y12, y13, y14, y15, y16, y17, rfl⟩, hp2⟩
      obtain ⟨c, rfl⟩ := cells_int hx
      generalize cutV (V.int 0 :: ns.map V.int) none (some 8) = cells at hp2 ⊢
      refine ⟨_, rfl, c, 7, rfl, fun d H2 nd e2 k2 => ?_⟩
      have ned : p2 ≠ d := ne_of_none hp2 nd
      have h2 := e2 _ _ hp2
      refine ⟨_, rfl, d, _, rfl, k2, by omega, fun v H3 D T1 B S L3 e3 k3 => ?_⟩
      have h3 := e3 _ _ ned h2
      refine ⟨_, rfl, d, _, rfl, k3, by omega, fun v' H4 D' T' B' S' L4' e4 k4 => ⟨_, _, rfl, ?_⟩⟩
      have h4 := e4 _ _ ned h3
      have L4 := e4.land k3 L3
      obtain ⟨la, rfl, hla, r1, r2, r3, r4⟩ := id L4
      obtain ⟨lb, rfl, hlb, r1', r2', r3', r4'⟩ := id L4'
      refine ⟨_, rfl, _, rfl, la, _, 0, _, rfl, rfl, st_of hla, rfl, d, D, _, rfl, k4, by omega, ⟨by omega, by omega⟩, fun p H5 pp0 pp1 e5 k5 => ?_⟩
      refine ⟨_, rfl, _, rfl, lb, _, 0, _, rfl, rfl, st_of (e5.tup k4 hlb), rfl, d, D', _, rfl, k5, by omega, ⟨by omega, by omega⟩, fun p' H6 pp0' pp1' e6 k6 => ⟨_, _, rfl, ?_⟩⟩
      have L6 := e6.land k5 (e5.land k4 L4)
      have L6' := e6.land k5 (e5.land k4 L4')
      have h6 := e6 _ _ ned (e5 _ _ ned h4)
      have t6 : Two H6 (.ref la) D T1 B S p (.ref lb) D' T' B' S' p' := ⟨L6, L6', ⟨r1, r2, r3, r4, pp0, pp1⟩, ⟨r1', r2', r3', r4', pp0', pp1'⟩⟩
      clear hla hlb e3 e4 e5 e6 k2 k3 k4 k5 L3 L4 L4' L6 L6' h2 h3 h4
      have s1 := t6.ld.stp
      have s2 := t6.ld'.stp
      have rp := rnd_pos t6.ld t6.ld'
      obtain ⟨u0, hu0⟩ := undo_some (stp D T1 B) (stp D' T' B') (by omega)
      have per := meet_per t6.ld t6.ld' hu0
      have gp := Nat.gcd_pos_of_pos_left (stp D' T' B') (show 0 < stp D T1 B by omega)
      have gl := Nat.gcd_le_left (stp D' T' B') (show 0 < stp D T1 B by omega)
      have first := meet_first t6.ld t6.ld'
      have hmany : (D * B + T1) * (D' * B' + T') / ((Nat.gcd (stp D T1 B) (stp D' T' B') : Nat) : Int) = (rnd D T1 B D' T' B' : Nat) := by
        unfold rnd
        rw [Int.natCast_ediv, Int.natCast_mul, s1.1, s2.1]
      obtain ⟨nv, hn1, hn2⟩ : ∃ nv : V, ((∀ e, meet D T1 B S p D' T' B' S' p' e = false) → nv = .int (Nat.gcd (stp D T1 B) (stp D' T' B') : Nat)) ∧ ((∃ e, meet D T1 B S p D' T' B' S' p' e = true) → nv = .non) := by
        by_cases ex : ∃ e, meet D T1 B S p D' T' B' S' p' e = true
        · exact ⟨.non, fun no => absurd ex fun ⟨e, he⟩ => (by rw [no] at he; cases he), fun _ => rfl⟩
        · exact ⟨_, fun _ => rfl, fun h => absurd h ex⟩
      refine ⟨_, rfl, _, rfl, _, rfl, _, rfl, .ref la, D, T1, B, S, p, .ref lb, D', T', B', S', p', rfl, t6, ?_⟩
      suffices main : RetV nv H6 _ by
        refine ⟨fun no => ?_, fun ex => ?_⟩
        · exact retV_of (hn1 no) main
        · exact retV_of (hn2 ex) main
      intro H7 e7
      have t7 := t6.ex e7
      have h7 := e7 _ _ h6
      have k7 := k6.ex e7
      refine ⟨_, rfl, d, _, rfl, k7, by omega, fun bg H8 b0 b1 e8 k8 => ?_⟩
      have t8 : Two H8 (.ref la) D T1 B S p (.ref lb) D' T' B' S' p' := ⟨e8.land k7 t7.l, e8.land k7 t7.l', t7.ld, t7.ld'⟩
      have h8 := e8 _ _ ned h7
      clear e7 e8 t6 t7 h6 h7 k6 k7
      refine ⟨_, rfl, _, D, T1, B, S, rfl, t8.l, fun H9 e9 => ⟨_, rfl, _, D', T', B', S', rfl, (t8.ex e9).l', fun H10 e10 => ⟨stp D T1 B, stp D' T' B', by rw [s1.1, s2.1]; rfl, fun H11 e11 => ?_⟩⟩⟩
      have e811 := e9.trans (e10.trans e11)
      refine q_cut (M := fun σ' H' => σ' = [some (.ref a), some (.int c), some (.ref d), some (.ref la), some (.ref lb), some (.int p), some (.int p'), some nv, some (.int bg), some (.int (Nat.gcd (stp D T1 B) (stp D' T' B') : Nat)), some (.int (rnd D T1 B D' T' B' : Nat)), y11, y12, y13, y14, y15, y16, y17] ∧ Ex H11 H') ⟨_, rfl, _, D, T1, B, S, rfl, (t8.ex e811).l, fun H12 e12 => ⟨_, rfl, _, D', T', B', S', rfl, (t8.ex (e811.trans e12)).l', fun H13 e13 => ⟨_, _, rfl, rfl, cm_l (by omega), _, rfl, _, _, rfl, rfl, ⟨by omega, by omega⟩, by rw [← hmany]; rfl, e12.trans e13⟩⟩⟩ ?_
      rintro _ H13 ⟨rfl, e13⟩
      have e813 := e811.trans e13
      have t13 := t8.ex e813
      have h13 := e813 _ _ h8
      have k13 := k8.ex e813
      clear e9 e10 e11 e13 e811 e813 t8 h8 k8 hmany
      by_cases ex : ∃ e, meet D T1 B S p D' T' B' S' p' e = true
      · obtain rfl := hn2 ex
        refine ⟨_, rfl, rfl, _, rfl, iteF ?_⟩
        obtain ⟨k, kr, hhd, hk, before⟩ := first ex bg
        have hhd2 : hd (yrs (meet D T1 B S p D' T' B' S' p') (bg + (rnd D T1 B D' T' B' : Nat)) (rnd D T1 B D' T' B')) = .int (bg + (rnd D T1 B D' T' B' : Nat) + k) := by
          refine hd_first kr ?_ fun j hj => ?_
          · rw [show bg + ((rnd D T1 B D' T' B' : Nat) : Int) + k = bg + k + (rnd D T1 B D' T' B' : Nat) by omega, per]
            exact hk
          · rw [show bg + ((rnd D T1 B D' T' B' : Nat) : Int) + j = bg + j + (rnd D T1 B D' T' B' : Nat) by omega, per]
            exact before j hj
        have one_ : 1 ≤ cnt (meet D T1 B S p D' T' B' S' p') bg (rnd D T1 B D' T' B') := by
          unfold cnt
          exact List.length_pos_of_mem (List.mem_filter.mpr ⟨List.mem_range.mpr kr, hk⟩)
        have seven_ := cnt_rounds per bg 7 0
        rw [show cnt (meet D T1 B S p D' T' B' S' p') bg 0 = 0 from rfl, Nat.add_zero, Nat.add_zero] at seven_
        refine ⟨_, rfl, _, rfl, _, rfl, _, rfl, _, rfl, .ref la, D, T1, B, S, p, .ref lb, D', T', B', S', p', bg, rfl, t13, ex, ⟨by omega, by omega⟩, fun H14 e14 => ⟨_, rfl, iteF ?_⟩⟩
        have t14 := t13.ex e14
        refine ⟨_, rfl, _, rfl, _, rfl, _, rfl, _, rfl, .ref la, D, T1, B, S, p, .ref lb, D', T', B', S', p', bg, rfl, t14, ⟨by omega, by omega⟩, fun H15 e15 => ?_⟩
        rw [hhd]
        have t15 := t14.ex e15
        refine ⟨_, rfl, _, rfl, _, rfl, _, rfl, _, rfl, _, rfl, _, _, rfl, rfl, .ref la, D, T1, B, S, p, .ref lb, D', T', B', S', p', bg + (rnd D T1 B D' T' B' : Nat), rfl, t15, ⟨by omega, by omega⟩, fun H16 e16 => ?_⟩
        rw [hhd2]
        refine ⟨_, rfl, _, rfl, _, _, rfl, rfl, rfl, _, rfl, ?_⟩
        rw [decide_eq_true (show V.int (bg + (rnd D T1 B D' T' B' : Nat) + k) = V.int ((rnd D T1 B D' T' B' : Nat) + (bg + k)) from congrArg V.int (by omega))]
        have e1316 := e14.trans (e15.trans e16)
        have t16 := t13.ex e1316
        have h16 := e1316 _ _ h13
        have k16 := k13.ex e1316
        clear e14 e15 e16 e1316 t13 t14 t15 h13 k13 hhd hhd2 first
        refine iteF ⟨_, rfl, _, rfl, _, _, rfl, rfl, ⟨by decide, by decide, by decide⟩, d, _, _, rfl, k16, by omega, ⟨by decide, by decide⟩, fun r H17 r0 r1 e17 k17 => ⟨_, _, rfl, rfl, ?_⟩⟩
        have r1' : r < 100000000000000000000000000 := r1
        have t17 : Two H17 (.ref la) D T1 B S p (.ref lb) D' T' B' S' p' := ⟨e17.land k16 t16.l, e17.land k16 t16.l', t16.ld, t16.ld'⟩
        have h17 := e17 _ _ ned h16
        clear e17 k16 t16 h16 r1
        refine ⟨_, rfl, _, rfl, _, rfl, _, _, rfl, rfl, _, _, rfl, rfl, ⟨by decide, by decide⟩, _, _, rfl, rfl, ?_⟩
        have m0 : 0 ≤ (bg + r - bg) / 5 ∧ (bg + r - bg) / 5 ≤ r := by omega
        refine ⟨_, rfl, _, rfl, _, rfl, _, rfl, _, rfl, _, rfl, .ref la, D, T1, B, S, p, .ref lb, D', T', B', S', p', bg, bg + (bg + r - bg) / 5, rfl, t17, ⟨by omega, by omega⟩, ⟨by omega, by omega⟩, by omega, fun H18 e18 => ?_⟩
        have t18 := t17.ex e18
        refine ⟨_, rfl, _, rfl, _, rfl, _, rfl, _, rfl, _, rfl, _, rfl, .ref la, D, T1, B, S, p, .ref lb, D', T', B', S', p', bg + (bg + r - bg) / 5, bg + r, rfl, t18, ⟨by omega, by omega⟩, ⟨by omega, by omega⟩, by omega, fun H19 e19 => ⟨_, _, rfl, rfl, ?_⟩⟩
        have t19 := t18.ex e19
        refine ⟨_, rfl, _, rfl, _, rfl, _, rfl, _, rfl, _, rfl, _, rfl, .ref la, D, T1, B, S, p, .ref lb, D', T', B', S', p', bg, bg + r, rfl, t19, ⟨by omega, by omega⟩, ⟨by omega, by omega⟩, by omega, fun H20 e20 => ?_⟩
        have t20 := t19.ex e20
        have h20 := e20 _ _ (e19 _ _ (e18 _ _ h17))
        refine ⟨rfl, _, rfl, ?_⟩
        have parts_ : V.int ((cnt (meet D T1 B S p D' T' B' S' p') bg (bg + (bg + r - bg) / 5 - bg).toNat : Int) + (cnt (meet D T1 B S p D' T' B' S' p') (bg + (bg + r - bg) / 5) (bg + r - (bg + (bg + r - bg) / 5)).toNat : Int)) = V.int (cnt (meet D T1 B S p D' T' B' S' p') bg (bg + r - bg).toNat : Nat) := by
          have s := cnt_add (f := meet D T1 B S p D' T' B' S' p') (a := bg) (bg + (bg + r - bg) / 5 - bg).toNat (bg + r - (bg + (bg + r - bg) / 5)).toNat
          rw [show (bg + (bg + r - bg) / 5 - bg).toNat + (bg + r - (bg + (bg + r - bg) / 5)).toNat = (bg + r - bg).toNat by omega, show bg + (((bg + (bg + r - bg) / 5 - bg).toNat : Nat) : Int) = bg + (bg + r - bg) / 5 by omega] at s
          rw [s, Int.natCast_add]
        rw [decide_eq_true parts_]
        clear parts_ m0
        refine iteF ⟨_, rfl, _, rfl, _, rfl, _, rfl, _, rfl, _, rfl, _, rfl, _, _, rfl, rfl, .ref la, D, T1, B, S, p, .ref lb, D', T', B', S', p', bg, bg + (rnd D T1 B D' T' B' : Nat), rfl, t20, ⟨by omega, by omega⟩, ⟨by omega, by omega⟩, by omega, fun H21 e21 => ?_⟩
        rw [show (bg + ((rnd D T1 B D' T' B' : Nat) : Int) - bg).toNat = rnd D T1 B D' T' B' by omega]
        have t21 := t20.ex e21
        refine ⟨_, rfl, _, rfl, _, rfl, _, rfl, _, rfl, _, rfl, _, rfl, _, _, rfl, rfl, cm_l (by omega), _, _, rfl, rfl, .ref la, D, T1, B, S, p, .ref lb, D', T', B', S', p', bg, bg + 7 * (rnd D T1 B D' T' B' : Nat), rfl, t21, ⟨by omega, by omega⟩, ⟨by omega, by omega⟩, by omega, fun H22 e22 => ?_⟩
        rw [show (bg + 7 * ((rnd D T1 B D' T' B' : Nat) : Int) - bg).toNat = 7 * rnd D T1 B D' T' B' by omega, seven_]
        refine ⟨_, rfl, _, rfl, _, _, rfl, rfl, cm_l (by omega), rfl, _, rfl, ?_⟩
        rw [decide_eq_true (show V.int ((7 * cnt (meet D T1 B S p D' T' B' S' p') bg (rnd D T1 B D' T' B') : Nat) : Int) = V.int (7 * (cnt (meet D T1 B S p D' T' B' S' p') bg (rnd D T1 B D' T' B') : Nat)) from congrArg V.int (by omega))]
        refine iteF ⟨_, rfl, _, _, rfl, rfl, _, rfl, ?_⟩
        rw [decide_eq_false (show ¬ ((cnt (meet D T1 B S p D' T' B' S' p') bg (rnd D T1 B D' T' B') : Nat) : Int) < 1 by omega)]
        exact iteF ⟨⟨_, _, _, _, _, _, _, _, _, _, _, _, _, _, _, _, _, rfl⟩, e22 _ _ (e21 _ _ h20)⟩
      · have no : ∀ e, meet D T1 B S p D' T' B' S' p' e = false := fun e => by
          cases he : meet D T1 B S p D' T' B' S' p' e with
          | false => rfl
          | true => exact absurd ⟨e, he⟩ ex
        obtain rfl := hn1 no
        refine ⟨_, rfl, rfl, _, rfl, iteT ?_⟩
        refine ⟨_, rfl, _, rfl, _, rfl, _, rfl, _, rfl, .ref la, D, T1, B, S, p, .ref lb, D', T', B', S', p', bg, rfl, t13, ⟨by omega, by omega⟩, fun H14 e14 => ?_⟩
        rw [hd_none fun k _ => no _]
        have t14 := t13.ex e14
        refine ⟨rfl, _, rfl, iteF ?_⟩
        refine ⟨_, rfl, _, rfl, _, rfl, _, rfl, _, rfl, _, rfl, _, _, rfl, rfl, ⟨by decide, by decide, by decide⟩, _, _, rfl, rfl, .ref la, D, T1, B, S, p, .ref lb, D', T', B', S', p', bg, bg + 100000000000000000000000000, rfl, t14, ⟨by omega, by omega⟩, ⟨by omega, by omega⟩, by omega, fun H15 e15 => ?_⟩
        rw [cnt_none no]
        exact ⟨_, rfl, rfl, _, rfl, iteF ⟨⟨_, _, _, _, _, _, _, _, _, _, _, _, _, _, _, _, _, rfl⟩, e15 _ _ (e14 _ _ h13)⟩⟩
    · rintro σ H1 ⟨⟨y1, y2, y3, y4, y5, y6, y7, y8, y9, y10, y11, y12, y13, y14, y15, y16, y17, rfl⟩, hp2⟩
      exact q H1
end

theorem all_mk {l : PySem.W.OpenLaw} {w : World} {K : PySem.W.Frag} {h : Heap} {mg : Str → Option Value} {fa : Addr} (X : K.In h) (G : h.Ns mainGlobals mg) (hfa : mg "law" = some (.ref fa))
    {f0 : Addr} {od0 an0 : Option Addr} {sl0 : Array (Option Value)} {oc0 kV0 dc0 pm0 cd0 ct0 : Value}
    (ya0 : PySem.W.nsIn K mainGlobals "is_whole" = some (some (.ref f0))) (yl0 : K.lookup f0 = some ⟨oc0, od0, .func (PySem.W.fnOf "is_whole" "is_whole" (defArgs s_is_whole) (defBody s_is_whole) (defScope s_is_whole) .none kV0 dc0 pm0 an0 cd0 ct0), sl0⟩) (yc0 : PySem.W.codeIn K cd0 "is_whole" = true) (yk0 : PySem.W.keepIn K (.ref f0) = true)
    {f1 : Addr} {od1 an1 : Option Addr} {sl1 : Array (Option Value)} {oc1 kV1 dc1 pm1 cd1 ct1 : Value}
    (ya1 : PySem.W.nsIn K mainGlobals "is_between" = some (some (.ref f1))) (yl1 : K.lookup f1 = some ⟨oc1, od1, .func (PySem.W.fnOf "is_between" "is_between" (defArgs s_is_between) (defBody s_is_between) (defScope s_is_between) .none kV1 dc1 pm1 an1 cd1 ct1), sl1⟩) (yc1 : PySem.W.codeIn K cd1 "is_between" = true) (yk1 : PySem.W.keepIn K (.ref f1) = true)
    {f2 : Addr} {od2 an2 : Option Addr} {sl2 : Array (Option Value)} {oc2 kV2 dc2 pm2 cd2 ct2 : Value}
    (ya2 : PySem.W.nsIn K mainGlobals "common_measure" = some (some (.ref f2))) (yl2 : K.lookup f2 = some ⟨oc2, od2, .func (PySem.W.fnOf "common_measure" "common_measure" (defArgs s_common_measure) (defBody s_common_measure) (defScope s_common_measure) .none kV2 dc2 pm2 an2 cd2 ct2), sl2⟩) (yc2 : PySem.W.codeIn K cd2 "common_measure" = true) (yk2 : PySem.W.keepIn K (.ref f2) = true)
    {f3 : Addr} {od3 an3 : Option Addr} {sl3 : Array (Option Value)} {oc3 kV3 dc3 pm3 cd3 ct3 : Value}
    (ya3 : PySem.W.nsIn K mainGlobals "undoing_factor" = some (some (.ref f3))) (yl3 : K.lookup f3 = some ⟨oc3, od3, .func (PySem.W.fnOf "undoing_factor" "undoing_factor" (defArgs s_undoing_factor) (defBody s_undoing_factor) (defScope s_undoing_factor) .none kV3 dc3 pm3 an3 cd3 ct3), sl3⟩) (yc3 : PySem.W.codeIn K cd3 "undoing_factor" = true) (yk3 : PySem.W.keepIn K (.ref f3) = true)
    {f4 : Addr} {od4 an4 : Option Addr} {sl4 : Array (Option Value)} {oc4 kV4 dc4 pm4 cd4 ct4 : Value}
    (ya4 : PySem.W.nsIn K mainGlobals "is_land" = some (some (.ref f4))) (yl4 : K.lookup f4 = some ⟨oc4, od4, .func (PySem.W.fnOf "is_land" "is_land" (defArgs s_is_land) (defBody s_is_land) (defScope s_is_land) .none kV4 dc4 pm4 an4 cd4 ct4), sl4⟩) (yc4 : PySem.W.codeIn K cd4 "is_land" = true) (yk4 : PySem.W.keepIn K (.ref f4) = true)
    {f5 : Addr} {od5 an5 : Option Addr} {sl5 : Array (Option Value)} {oc5 kV5 dc5 pm5 cd5 ct5 : Value}
    (ya5 : PySem.W.nsIn K mainGlobals "need_land" = some (some (.ref f5))) (yl5 : K.lookup f5 = some ⟨oc5, od5, .func (PySem.W.fnOf "need_land" "need_land" (defArgs s_need_land) (defBody s_need_land) (defScope s_need_land) .none kV5 dc5 pm5 an5 cd5 ct5), sl5⟩) (yc5 : PySem.W.codeIn K cd5 "need_land" = true) (yk5 : PySem.W.keepIn K (.ref f5) = true)
    {f6 : Addr} {od6 an6 : Option Addr} {sl6 : Array (Option Value)} {oc6 kV6 dc6 pm6 cd6 ct6 : Value}
    (ya6 : PySem.W.nsIn K mainGlobals "need_day" = some (some (.ref f6))) (yl6 : K.lookup f6 = some ⟨oc6, od6, .func (PySem.W.fnOf "need_day" "need_day" (defArgs s_need_day) (defBody s_need_day) (defScope s_need_day) .none kV6 dc6 pm6 an6 cd6 ct6), sl6⟩) (yc6 : PySem.W.codeIn K cd6 "need_day" = true) (yk6 : PySem.W.keepIn K (.ref f6) = true)
    {f7 : Addr} {od7 an7 : Option Addr} {sl7 : Array (Option Value)} {oc7 kV7 dc7 pm7 cd7 ct7 : Value}
    (ya7 : PySem.W.nsIn K mainGlobals "need_days" = some (some (.ref f7))) (yl7 : K.lookup f7 = some ⟨oc7, od7, .func (PySem.W.fnOf "need_days" "need_days" (defArgs s_need_days) (defBody s_need_days) (defScope s_need_days) .none kV7 dc7 pm7 an7 cd7 ct7), sl7⟩) (yc7 : PySem.W.codeIn K cd7 "need_days" = true) (yk7 : PySem.W.keepIn K (.ref f7) = true)
    {f8 : Addr} {od8 an8 : Option Addr} {sl8 : Array (Option Value)} {oc8 kV8 dc8 pm8 cd8 ct8 : Value}
    (ya8 : PySem.W.nsIn K mainGlobals "need_place" = some (some (.ref f8))) (yl8 : K.lookup f8 = some ⟨oc8, od8, .func (PySem.W.fnOf "need_place" "need_place" (defArgs s_need_place) (defBody s_need_place) (defScope s_need_place) .none kV8 dc8 pm8 an8 cd8 ct8), sl8⟩) (yc8 : PySem.W.codeIn K cd8 "need_place" = true) (yk8 : PySem.W.keepIn K (.ref f8) = true)
    {f9 : Addr} {od9 an9 : Option Addr} {sl9 : Array (Option Value)} {oc9 kV9 dc9 pm9 cd9 ct9 : Value}
    (ya9 : PySem.W.nsIn K mainGlobals "step_of" = some (some (.ref f9))) (yl9 : K.lookup f9 = some ⟨oc9, od9, .func (PySem.W.fnOf "step_of" "step_of" (defArgs s_step_of) (defBody s_step_of) (defScope s_step_of) .none kV9 dc9 pm9 an9 cd9 ct9), sl9⟩) (yc9 : PySem.W.codeIn K cd9 "step_of" = true) (yk9 : PySem.W.keepIn K (.ref f9) = true)
    {f10 : Addr} {od10 an10 : Option Addr} {sl10 : Array (Option Value)} {oc10 kV10 dc10 pm10 cd10 ct10 : Value}
    (ya10 : PySem.W.nsIn K mainGlobals "need_places" = some (some (.ref f10))) (yl10 : K.lookup f10 = some ⟨oc10, od10, .func (PySem.W.fnOf "need_places" "need_places" (defArgs s_need_places) (defBody s_need_places) (defScope s_need_places) .none kV10 dc10 pm10 an10 cd10 ct10), sl10⟩) (yc10 : PySem.W.codeIn K cd10 "need_places" = true) (yk10 : PySem.W.keepIn K (.ref f10) = true)
    {f11 : Addr} {od11 an11 : Option Addr} {sl11 : Array (Option Value)} {oc11 kV11 dc11 pm11 cd11 ct11 : Value}
    (ya11 : PySem.W.nsIn K mainGlobals "placed_days" = some (some (.ref f11))) (yl11 : K.lookup f11 = some ⟨oc11, od11, .func (PySem.W.fnOf "placed_days" "placed_days" (defArgs s_placed_days) (defBody s_placed_days) (defScope s_placed_days) .none kV11 dc11 pm11 an11 cd11 ct11), sl11⟩) (yc11 : PySem.W.codeIn K cd11 "placed_days" = true) (yk11 : PySem.W.keepIn K (.ref f11) = true)
    {f12 : Addr} {od12 an12 : Option Addr} {sl12 : Array (Option Value)} {oc12 kV12 dc12 pm12 cd12 ct12 : Value}
    (ya12 : PySem.W.nsIn K mainGlobals "shared_step" = some (some (.ref f12))) (yl12 : K.lookup f12 = some ⟨oc12, od12, .func (PySem.W.fnOf "shared_step" "shared_step" (defArgs s_shared_step) (defBody s_shared_step) (defScope s_shared_step) .none kV12 dc12 pm12 an12 cd12 ct12), sl12⟩) (yc12 : PySem.W.codeIn K cd12 "shared_step" = true) (yk12 : PySem.W.keepIn K (.ref f12) = true)
    {f13 : Addr} {od13 an13 : Option Addr} {sl13 : Array (Option Value)} {oc13 kV13 dc13 pm13 cd13 ct13 : Value}
    (ya13 : PySem.W.nsIn K mainGlobals "round_from" = some (some (.ref f13))) (yl13 : K.lookup f13 = some ⟨oc13, od13, .func (PySem.W.fnOf "round_from" "round_from" (defArgs s_round_from) (defBody s_round_from) (defScope s_round_from) .none kV13 dc13 pm13 an13 cd13 ct13), sl13⟩) (yc13 : PySem.W.codeIn K cd13 "round_from" = true) (yk13 : PySem.W.keepIn K (.ref f13) = true)
    {f14 : Addr} {od14 an14 : Option Addr} {sl14 : Array (Option Value)} {oc14 kV14 dc14 pm14 cd14 ct14 : Value}
    (ya14 : PySem.W.nsIn K mainGlobals "ends_ahead" = some (some (.ref f14))) (yl14 : K.lookup f14 = some ⟨oc14, od14, .func (PySem.W.fnOf "ends_ahead" "ends_ahead" (defArgs s_ends_ahead) (defBody s_ends_ahead) (defScope s_ends_ahead) .none kV14 dc14 pm14 an14 cd14 ct14), sl14⟩) (yc14 : PySem.W.codeIn K cd14 "ends_ahead" = true) (yk14 : PySem.W.keepIn K (.ref f14) = true)
    {f15 : Addr} {od15 an15 : Option Addr} {sl15 : Array (Option Value)} {oc15 kV15 dc15 pm15 cd15 ct15 : Value}
    (ya15 : PySem.W.nsIn K mainGlobals "next_day" = some (some (.ref f15))) (yl15 : K.lookup f15 = some ⟨oc15, od15, .func (PySem.W.fnOf "next_day" "next_day" (defArgs s_next_day) (defBody s_next_day) (defScope s_next_day) .none kV15 dc15 pm15 an15 cd15 ct15), sl15⟩) (yc15 : PySem.W.codeIn K cd15 "next_day" = true) (yk15 : PySem.W.keepIn K (.ref f15) = true)
    {f16 : Addr} {od16 an16 : Option Addr} {sl16 : Array (Option Value)} {oc16 kV16 dc16 pm16 cd16 ct16 : Value}
    (ya16 : PySem.W.nsIn K mainGlobals "days" = some (some (.ref f16))) (yl16 : K.lookup f16 = some ⟨oc16, od16, .func (PySem.W.fnOf "days" "days" (defArgs s_days) (defBody s_days) (defScope s_days) .none kV16 dc16 pm16 an16 cd16 ct16), sl16⟩) (yc16 : PySem.W.codeIn K cd16 "days" = true) (yk16 : PySem.W.keepIn K (.ref f16) = true)
    {f17 : Addr} {od17 an17 : Option Addr} {sl17 : Array (Option Value)} {oc17 kV17 dc17 pm17 cd17 ct17 : Value}
    (ya17 : PySem.W.nsIn K mainGlobals "is_parting" = some (some (.ref f17))) (yl17 : K.lookup f17 = some ⟨oc17, od17, .func (PySem.W.fnOf "is_parting" "is_parting" (defArgs s_is_parting) (defBody s_is_parting) (defScope s_is_parting) .none kV17 dc17 pm17 an17 cd17 ct17), sl17⟩) (yc17 : PySem.W.codeIn K cd17 "is_parting" = true) (yk17 : PySem.W.keepIn K (.ref f17) = true)
    {f18 : Addr} {od18 an18 : Option Addr} {sl18 : Array (Option Value)} {oc18 kV18 dc18 pm18 cd18 ct18 : Value}
    (ya18 : PySem.W.nsIn K mainGlobals "parting" = some (some (.ref f18))) (yl18 : K.lookup f18 = some ⟨oc18, od18, .func (PySem.W.fnOf "parting" "parting" (defArgs s_parting) (defBody s_parting) (defScope s_parting) .none kV18 dc18 pm18 an18 cd18 ct18), sl18⟩) (yc18 : PySem.W.codeIn K cd18 "parting" = true) (yk18 : PySem.W.keepIn K (.ref f18) = true)
    {f19 : Addr} {od19 an19 : Option Addr} {sl19 : Array (Option Value)} {oc19 kV19 dc19 pm19 cd19 ct19 : Value}
    (ya19 : PySem.W.nsIn K mainGlobals "_law_deck" = some (some (.ref f19))) (yl19 : K.lookup f19 = some ⟨oc19, od19, .func (PySem.W.fnOf "_law_deck" "_law_deck" (defArgs s__law_deck) (defBody s__law_deck) (defScope s__law_deck) .none kV19 dc19 pm19 an19 cd19 ct19), sl19⟩) (yc19 : PySem.W.codeIn K cd19 "_law_deck" = true) (yk19 : PySem.W.keepIn K (.ref f19) = true)
    {f20 : Addr} {od20 an20 : Option Addr} {sl20 : Array (Option Value)} {oc20 kV20 dc20 pm20 cd20 ct20 : Value}
    (ya20 : PySem.W.nsIn K mainGlobals "_law_pick" = some (some (.ref f20))) (yl20 : K.lookup f20 = some ⟨oc20, od20, .func (PySem.W.fnOf "_law_pick" "_law_pick" (defArgs s__law_pick) (defBody s__law_pick) (defScope s__law_pick) .none kV20 dc20 pm20 an20 cd20 ct20), sl20⟩) (yc20 : PySem.W.codeIn K cd20 "_law_pick" = true) (yk20 : PySem.W.keepIn K (.ref f20) = true)
    {f21 : Addr} {od21 an21 : Option Addr} {sl21 : Array (Option Value)} {oc21 kV21 dc21 pm21 cd21 ct21 : Value}
    (ya21 : PySem.W.nsIn K mainGlobals "_law_one" = some (some (.ref f21))) (yl21 : K.lookup f21 = some ⟨oc21, od21, .func (PySem.W.fnOf "_law_one" "_law_one" (defArgs s__law_one) (defBody s__law_one) (defScope s__law_one) .none kV21 dc21 pm21 an21 cd21 ct21), sl21⟩) (yc21 : PySem.W.codeIn K cd21 "_law_one" = true) (yk21 : PySem.W.keepIn K (.ref f21) = true)
    {f22 : Addr} {od22 an22 : Option Addr} {sl22 : Array (Option Value)} {oc22 kV22 dc22 pm22 cd22 ct22 : Value}
    (ya22 : PySem.W.nsIn K mainGlobals "_law_land" = some (some (.ref f22))) (yl22 : K.lookup f22 = some ⟨oc22, od22, .func (PySem.W.fnOf "_law_land" "_law_land" (defArgs s__law_land) (defBody s__law_land) (defScope s__law_land) .none kV22 dc22 pm22 an22 cd22 ct22), sl22⟩) (yc22 : PySem.W.codeIn K cd22 "_law_land" = true) (yk22 : PySem.W.keepIn K (.ref f22) = true)
    {f23 : Addr} {od23 an23 : Option Addr} {sl23 : Array (Option Value)} {oc23 kV23 dc23 pm23 cd23 ct23 : Value}
    (ya23 : PySem.W.nsIn K mainGlobals "_law_any" = some (some (.ref f23))) (yl23 : K.lookup f23 = some ⟨oc23, od23, .func (PySem.W.fnOf "_law_any" "_law_any" (defArgs s__law_any) (defBody s__law_any) (defScope s__law_any) .none kV23 dc23 pm23 an23 cd23 ct23), sl23⟩) (yc23 : PySem.W.codeIn K cd23 "_law_any" = true) (yk23 : PySem.W.keepIn K (.ref f23) = true)
    {f24 : Addr} {od24 an24 : Option Addr} {sl24 : Array (Option Value)} {oc24 kV24 dc24 pm24 cd24 ct24 : Value}
    (ya24 : PySem.W.nsIn K mainGlobals "_law_begin" = some (some (.ref f24))) (yl24 : K.lookup f24 = some ⟨oc24, od24, .func (PySem.W.fnOf "_law_begin" "_law_begin" (defArgs s__law_begin) (defBody s__law_begin) (defScope s__law_begin) .none kV24 dc24 pm24 an24 cd24 ct24), sl24⟩) (yc24 : PySem.W.codeIn K cd24 "_law_begin" = true) (yk24 : PySem.W.keepIn K (.ref f24) = true)
    {f25 : Addr} {od25 an25 : Option Addr} {sl25 : Array (Option Value)} {oc25 kV25 dc25 pm25 cd25 ct25 : Value}
    (ya25 : PySem.W.nsIn K mainGlobals "_law_far" = some (some (.ref f25))) (yl25 : K.lookup f25 = some ⟨oc25, od25, .func (PySem.W.fnOf "_law_far" "_law_far" (defArgs s__law_far) (defBody s__law_far) (defScope s__law_far) .none kV25 dc25 pm25 an25 cd25 ct25), sl25⟩) (yc25 : PySem.W.codeIn K cd25 "_law_far" = true) (yk25 : PySem.W.keepIn K (.ref f25) = true)
    {f26 : Addr} {od26 an26 : Option Addr} {sl26 : Array (Option Value)} {oc26 kV26 dc26 pm26 cd26 ct26 : Value}
    (ya26 : PySem.W.nsIn K mainGlobals "_law_step" = some (some (.ref f26))) (yl26 : K.lookup f26 = some ⟨oc26, od26, .func (PySem.W.fnOf "_law_step" "_law_step" (defArgs s__law_step) (defBody s__law_step) (defScope s__law_step) .none kV26 dc26 pm26 an26 cd26 ct26), sl26⟩) (yc26 : PySem.W.codeIn K cd26 "_law_step" = true) (yk26 : PySem.W.keepIn K (.ref f26) = true)
    {f27 : Addr} {od27 an27 : Option Addr} {sl27 : Array (Option Value)} {oc27 kV27 dc27 pm27 cd27 ct27 : Value}
    (ya27 : PySem.W.nsIn K mainGlobals "_law_measure" = some (some (.ref f27))) (yl27 : K.lookup f27 = some ⟨oc27, od27, .func (PySem.W.fnOf "_law_measure" "_law_measure" (defArgs s__law_measure) (defBody s__law_measure) (defScope s__law_measure) .none kV27 dc27 pm27 an27 cd27 ct27), sl27⟩) (yc27 : PySem.W.codeIn K cd27 "_law_measure" = true) (yk27 : PySem.W.keepIn K (.ref f27) = true)
    {f28 : Addr} {od28 an28 : Option Addr} {sl28 : Array (Option Value)} {oc28 kV28 dc28 pm28 cd28 ct28 : Value}
    (ya28 : PySem.W.nsIn K mainGlobals "_law_is_at" = some (some (.ref f28))) (yl28 : K.lookup f28 = some ⟨oc28, od28, .func (PySem.W.fnOf "_law_is_at" "_law_is_at" (defArgs s__law_is_at) (defBody s__law_is_at) (defScope s__law_is_at) .none kV28 dc28 pm28 an28 cd28 ct28), sl28⟩) (yc28 : PySem.W.codeIn K cd28 "_law_is_at" = true) (yk28 : PySem.W.keepIn K (.ref f28) = true)
    {f29 : Addr} {od29 an29 : Option Addr} {sl29 : Array (Option Value)} {oc29 kV29 dc29 pm29 cd29 ct29 : Value}
    (ya29 : PySem.W.nsIn K mainGlobals "_law_common" = some (some (.ref f29))) (yl29 : K.lookup f29 = some ⟨oc29, od29, .func (PySem.W.fnOf "_law_common" "_law_common" (defArgs s__law_common) (defBody s__law_common) (defScope s__law_common) .none kV29 dc29 pm29 an29 cd29 ct29), sl29⟩) (yc29 : PySem.W.codeIn K cd29 "_law_common" = true) (yk29 : PySem.W.keepIn K (.ref f29) = true)
    {f30 : Addr} {od30 an30 : Option Addr} {sl30 : Array (Option Value)} {oc30 kV30 dc30 pm30 cd30 ct30 : Value}
    (ya30 : PySem.W.nsIn K mainGlobals "_law_next_right" = some (some (.ref f30))) (yl30 : K.lookup f30 = some ⟨oc30, od30, .func (PySem.W.fnOf "_law_next_right" "_law_next_right" (defArgs s__law_next_right) (defBody s__law_next_right) (defScope s__law_next_right) .none kV30 dc30 pm30 an30 cd30 ct30), sl30⟩) (yc30 : PySem.W.codeIn K cd30 "_law_next_right" = true) (yk30 : PySem.W.keepIn K (.ref f30) = true)
    {f31 : Addr} {od31 an31 : Option Addr} {sl31 : Array (Option Value)} {oc31 kV31 dc31 pm31 cd31 ct31 : Value}
    (ya31 : PySem.W.nsIn K mainGlobals "law" = some (some (.ref f31))) (yl31 : K.lookup f31 = some ⟨oc31, od31, .func (PySem.W.fnOf "law" "law" (defArgs s_law) (defBody s_law) (defScope s_law) .none kV31 dc31 pm31 an31 cd31 ct31), sl31⟩) (yc31 : PySem.W.codeIn K cd31 "law" = true) (yk31 : PySem.W.keepIn K (.ref f31) = true)
    {tk0 : Tok} (ycst0 : PySem.W.nsIn K mainGlobals "MOST_DAYS" = some (some (.int 400 tk0)))
    {tk1 : Tok} (ycst1 : PySem.W.nsIn K mainGlobals "MOST_BOTTOM" = some (some (.int 60 tk1)))
    {tk2 : Tok} (ycst2 : PySem.W.nsIn K mainGlobals "MOST_SHIFT" = some (some (.int 1000000 tk2)))
    {tk3 : Tok} (ycst3 : PySem.W.nsIn K mainGlobals "FARTHEST" = some (some (.int 1000000000000000000000000000000 tk3)))
    (yz0 : PySem.W.nsIn K mainGlobals "isinstance" = some none)
    (yz1 : PySem.W.nsIn K mainGlobals "int" = some none)
    (yz2 : PySem.W.nsIn K mainGlobals "bool" = some none)
    (yz3 : PySem.W.nsIn K mainGlobals "tuple" = some none)
    (yz4 : PySem.W.nsIn K mainGlobals "len" = some none)
    (yz5 : PySem.W.nsIn K mainGlobals "range" = some none)
    (yz6 : PySem.W.nsIn K mainGlobals "sorted" = some none)
    (yz7 : PySem.W.nsIn K mainGlobals "min" = some none)
    (yz8 : PySem.W.nsIn K mainGlobals "zip" = some none)
    (yz9 : PySem.W.nsIn K mainGlobals "divmod" = some none)
    (yz10 : PySem.W.nsIn K mainGlobals "sum" = some none)
    (yz11 : PySem.W.nsIn K mainGlobals "any" = some none)
    (yz12 : PySem.W.nsIn K mainGlobals "max" = some none)
    (yz13 : PySem.W.nsIn K mainGlobals "ValueError" = some none)
    : ∃ fd : FuncData, (∀ (s : Shared) (v : Value), BindsTo s fd ⟨[v], []⟩ [("script", v)]) ∧ ∀ base : Heap, K.In base → base.Ns mainGlobals mg → FnOk l.prog w K mg base CX0 8 fa fd ["script"] (spLaw K) := by
  have e := hfa.symm.trans (PySem.W.mg_of X G ya31)
  cases e
  have F0 := fun_mk (st := s_is_whole) yl0 yc0 yk0
  have b0 := F0.binds (ps := ["thing"]) fun _ _ _ _ _ _ us hl => match us, hl with | [_], _ => rfl
  have F1 := fun_mk (st := s_is_between) yl1 yc1 yk1
  have b1 := F1.binds (ps := ["thing", "least", "most"]) fun _ _ _ _ _ _ us hl => match us, hl with | [_, _, _], _ => rfl
  have F2 := fun_mk (st := s_common_measure) yl2 yc2 yk2
  have b2 := F2.binds (ps := ["one", "other"]) fun _ _ _ _ _ _ us hl => match us, hl with | [_, _], _ => rfl
  have F3 := fun_mk (st := s_undoing_factor) yl3 yc3 yk3
  have b3 := F3.binds (ps := ["number", "ring"]) fun _ _ _ _ _ _ us hl => match us, hl with | [_, _], _ => rfl
  have F4 := fun_mk (st := s_is_land) yl4 yc4 yk4
  have b4 := F4.binds (ps := ["thing"]) fun _ _ _ _ _ _ us hl => match us, hl with | [_], _ => rfl
  have F5 := fun_mk (st := s_need_land) yl5 yc5 yk5
  have b5 := F5.binds (ps := ["thing"]) fun _ _ _ _ _ _ us hl => match us, hl with | [_], _ => rfl
  have F6 := fun_mk (st := s_need_day) yl6 yc6 yk6
  have b6 := F6.binds (ps := ["thing"]) fun _ _ _ _ _ _ us hl => match us, hl with | [_], _ => rfl
  have F7 := fun_mk (st := s_need_days) yl7 yc7 yk7
  have b7 := F7.binds (ps := ["first", "last"]) fun _ _ _ _ _ _ us hl => match us, hl with | [_, _], _ => rfl
  have F8 := fun_mk (st := s_need_place) yl8 yc8 yk8
  have b8 := F8.binds (ps := ["land", "thing"]) fun _ _ _ _ _ _ us hl => match us, hl with | [_, _], _ => rfl
  have F9 := fun_mk (st := s_step_of) yl9 yc9 yk9
  have b9 := F9.binds (ps := ["land"]) fun _ _ _ _ _ _ us hl => match us, hl with | [_], _ => rfl
  have F10 := fun_mk (st := s_need_places) yl10 yc10 yk10
  have b10 := F10.binds (ps := ["one", "place_one", "other", "place_other"]) fun _ _ _ _ _ _ us hl => match us, hl with | [_, _, _, _], _ => rfl
  have F11 := fun_mk (st := s_placed_days) yl11 yc11 yk11
  have b11 := F11.binds (ps := ["land", "place"]) fun _ _ _ _ _ _ us hl => match us, hl with | [_, _], _ => rfl
  have F12 := fun_mk (st := s_shared_step) yl12 yc12 yk12
  have b12 := F12.binds (ps := ["one", "other"]) fun _ _ _ _ _ _ us hl => match us, hl with | [_, _], _ => rfl
  have F13 := fun_mk (st := s_round_from) yl13 yc13 yk13
  have b13 := F13.binds (ps := ["one", "place_one", "other", "place_other", "day"]) fun _ _ _ _ _ _ us hl => match us, hl with | [_, _, _, _, _], _ => rfl
  have F14 := fun_mk (st := s_ends_ahead) yl14 yc14 yk14
  have b14 := F14.binds (ps := ["starts", "ends"]) fun _ _ _ _ _ _ us hl => match us, hl with | [_, _], _ => rfl
  have F15 := fun_mk (st := s_next_day) yl15 yc15 yk15
  have b15 := F15.binds (ps := ["one", "place_one", "other", "place_other", "day"]) fun _ _ _ _ _ _ us hl => match us, hl with | [_, _, _, _, _], _ => rfl
  have F16 := fun_mk (st := s_days) yl16 yc16 yk16
  have b16 := F16.binds (ps := ["one", "place_one", "other", "place_other", "first", "last"]) fun _ _ _ _ _ _ us hl => match us, hl with | [_, _, _, _, _, _], _ => rfl
  have F17 := fun_mk (st := s_is_parting) yl17 yc17 yk17
  have b17 := F17.binds (ps := ["one", "place_one", "other", "place_other", "number"]) fun _ _ _ _ _ _ us hl => match us, hl with | [_, _, _, _, _], _ => rfl
  have F18 := fun_mk (st := s_parting) yl18 yc18 yk18
  have b18 := F18.binds (ps := ["one", "place_one", "other", "place_other"]) fun _ _ _ _ _ _ us hl => match us, hl with | [_, _, _, _], _ => rfl
  have F19 := fun_mk (st := s__law_deck) yl19 yc19 yk19
  have b19 := F19.binds (ps := ["cell", "turn"]) fun _ _ _ _ _ _ us hl => match us, hl with | [_, _], _ => rfl
  have F20 := fun_mk (st := s__law_pick) yl20 yc20 yk20
  have b20 := F20.binds (ps := ["deck", "size"]) fun _ _ _ _ _ _ us hl => match us, hl with | [_, _], _ => rfl
  have F21 := fun_mk (st := s__law_one) yl21 yc21 yk21
  have b21 := F21.binds (ps := ["deck", "some"]) fun _ _ _ _ _ _ us hl => match us, hl with | [_, _], _ => rfl
  have F22 := fun_mk (st := s__law_land) yl22 yc22 yk22
  have b22 := F22.binds (ps := ["deck", "long_so", "bottoms", "shifts"]) fun _ _ _ _ _ _ us hl => match us, hl with | [_, _, _, _], _ => rfl
  have F23 := fun_mk (st := s__law_any) yl23 yc23 yk23
  have b23 := F23.binds (ps := ["deck"]) fun _ _ _ _ _ _ us hl => match us, hl with | [_], _ => rfl
  have F24 := fun_mk (st := s__law_begin) yl24 yc24 yk24
  have b24 := F24.binds (ps := ["land", "year"]) fun _ _ _ _ _ _ us hl => match us, hl with | [_, _], _ => rfl
  have F25 := fun_mk (st := s__law_far) yl25 yc25 yk25
  have b25 := F25.binds (ps := ["deck"]) fun _ _ _ _ _ _ us hl => match us, hl with | [_], _ => rfl
  have F26 := fun_mk (st := s__law_step) yl26 yc26 yk26
  have b26 := F26.binds (ps := ["land"]) fun _ _ _ _ _ _ us hl => match us, hl with | [_], _ => rfl
  have F27 := fun_mk (st := s__law_measure) yl27 yc27 yk27
  have b27 := F27.binds (ps := ["one", "other"]) fun _ _ _ _ _ _ us hl => match us, hl with | [_, _], _ => rfl
  have F28 := fun_mk (st := s__law_is_at) yl28 yc28 yk28
  have b28 := F28.binds (ps := ["land", "place", "day"]) fun _ _ _ _ _ _ us hl => match us, hl with | [_, _, _], _ => rfl
  have F29 := fun_mk (st := s__law_common) yl29 yc29 yk29
  have b29 := F29.binds (ps := ["one", "place_one", "other", "place_other", "first", "last"]) fun _ _ _ _ _ _ us hl => match us, hl with | [_, _, _, _, _, _], _ => rfl
  have F30 := fun_mk (st := s__law_next_right) yl30 yc30 yk30
  have b30 := F30.binds (ps := ["one", "place_one", "other", "place_other", "begun"]) fun _ _ _ _ _ _ us hl => match us, hl with | [_, _, _, _, _], _ => rfl
  have FL := fun_mk (st := s_law) yl31 yc31 yk31
  let T : Txt K mg := { is_whole := ⟨_, _, F0, b0, PySem.W.mg_of X G ya0⟩, is_between := ⟨_, _, F1, b1, PySem.W.mg_of X G ya1⟩, common_measure := ⟨_, _, F2, b2, PySem.W.mg_of X G ya2⟩, undoing_factor := ⟨_, _, F3, b3, PySem.W.mg_of X G ya3⟩, is_land := ⟨_, _, F4, b4, PySem.W.mg_of X G ya4⟩, need_land := ⟨_, _, F5, b5, PySem.W.mg_of X G ya5⟩, need_day := ⟨_, _, F6, b6, PySem.W.mg_of X G ya6⟩, need_days := ⟨_, _, F7, b7, PySem.W.mg_of X G ya7⟩, need_place := ⟨_, _, F8, b8, PySem.W.mg_of X G ya8⟩, step_of := ⟨_, _, F9, b9, PySem.W.mg_of X G ya9⟩, need_places := ⟨_, _, F10, b10, PySem.W.mg_of X G ya10⟩, placed_days := ⟨_, _, F11, b11, PySem.W.mg_of X G ya11⟩, shared_step := ⟨_, _, F12, b12, PySem.W.mg_of X G ya12⟩, round_from := ⟨_, _, F13, b13, PySem.W.mg_of X G ya13⟩, ends_ahead := ⟨_, _, F14, b14, PySem.W.mg_of X G ya14⟩, next_day := ⟨_, _, F15, b15, PySem.W.mg_of X G ya15⟩, days := ⟨_, _, F16, b16, PySem.W.mg_of X G ya16⟩, is_parting := ⟨_, _, F17, b17, PySem.W.mg_of X G ya17⟩, parting := ⟨_, _, F18, b18, PySem.W.mg_of X G ya18⟩, _law_deck := ⟨_, _, F19, b19, PySem.W.mg_of X G ya19⟩, _law_pick := ⟨_, _, F20, b20, PySem.W.mg_of X G ya20⟩, _law_one := ⟨_, _, F21, b21, PySem.W.mg_of X G ya21⟩, _law_land := ⟨_, _, F22, b22, PySem.W.mg_of X G ya22⟩, _law_any := ⟨_, _, F23, b23, PySem.W.mg_of X G ya23⟩, _law_begin := ⟨_, _, F24, b24, PySem.W.mg_of X G ya24⟩, _law_far := ⟨_, _, F25, b25, PySem.W.mg_of X G ya25⟩, _law_step := ⟨_, _, F26, b26, PySem.W.mg_of X G ya26⟩, _law_measure := ⟨_, _, F27, b27, PySem.W.mg_of X G ya27⟩, _law_is_at := ⟨_, _, F28, b28, PySem.W.mg_of X G ya28⟩, _law_common := ⟨_, _, F29, b29, PySem.W.mg_of X G ya29⟩, _law_next_right := ⟨_, _, F30, b30, PySem.W.mg_of X G ya30⟩, t_MOST_DAYS := _, c_MOST_DAYS := PySem.W.mg_of X G ycst0, t_MOST_BOTTOM := _, c_MOST_BOTTOM := PySem.W.mg_of X G ycst1, t_MOST_SHIFT := _, c_MOST_SHIFT := PySem.W.mg_of X G ycst2, t_FARTHEST := _, c_FARTHEST := PySem.W.mg_of X G ycst3, isinstance := PySem.W.mg_none_of X G yz0, b_int := PySem.W.mg_none_of X G yz1, b_bool := PySem.W.mg_none_of X G yz2, tuple := PySem.W.mg_none_of X G yz3, len := PySem.W.mg_none_of X G yz4, range := PySem.W.mg_none_of X G yz5, sorted := PySem.W.mg_none_of X G yz6, min := PySem.W.mg_none_of X G yz7, zip := PySem.W.mg_none_of X G yz8, divmod := PySem.W.mg_none_of X G yz9, sum := PySem.W.mg_none_of X G yz10, any := PySem.W.mg_none_of X G yz11, max := PySem.W.mg_none_of X G yz12, ValueError := PySem.W.mg_none_of X G yz13 }
  exact ⟨PySem.W.fnOf "law" "law" (defArgs s_law) (defBody s_law) (defScope s_law) .none kV31 dc31 pm31 an31 cd31 ct31, fun s v => .of_eq rfl, fun base _ _ => ok_law T FL⟩
end LY
open PySem PySem.W PyProof.Rows
set_option maxHeartbeats 0 in
theorem PySem.Challenge.cw_longyears_k07_whole_two_great_lands_holds : PySem.Challenge.rw_longyears_k07_whole_two_great_lands.Holds := by
  w_on; o_law; k_head; (case hw => w_witness2)
  k_fill
  refine L2.walk_of (l := PySem.Challenge.rw_longyears_k07_whole_two_great_lands) (n := 63) (k := 8) (x := "script") (CX := fun _ => L2.CX0) (sp := fun w => LY.spLaw _) rfl (by decide) rfl ⟨rfl, by decide, by decide⟩ (fun w h Y => PySem.W.kIn_of Y) ?F (fun _ _ a ns hl _ hS => ⟨a, ns, rfl, hS, hl, fun _ => rfl⟩) (fun _ _ _ _ _ h => h)
  case F =>
    intro w mg fa h KX G hmg
    refine' LY.all_mk KX G hmg ?ya0 ?yl0 ?yc0 ?yk0 ?ya1 ?yl1 ?yc1 ?yk1 ?ya2 ?yl2 ?yc2 ?yk2 ?ya3 ?yl3 ?yc3 ?yk3 ?ya4 ?yl4 ?yc4 ?yk4 ?ya5 ?yl5 ?yc5 ?yk5 ?ya6 ?yl6 ?yc6 ?yk6 ?ya7 ?yl7 ?yc7 ?yk7 ?ya8 ?yl8 ?yc8 ?yk8 ?ya9 ?yl9 ?yc9 ?yk9 ?ya10 ?yl10 ?yc10 ?yk10 ?ya11 ?yl11 ?yc11 ?yk11 ?ya12 ?yl12 ?yc12 ?yk12 ?ya13 ?yl13 ?yc13 ?yk13 ?ya14 ?yl14 ?yc14 ?yk14 ?ya15 ?yl15 ?yc15 ?yk15 ?ya16 ?yl16 ?yc16 ?yk16 ?ya17 ?yl17 ?yc17 ?yk17 ?ya18 ?yl18 ?yc18 ?yk18 ?ya19 ?yl19 ?yc19 ?yk19 ?ya20 ?yl20 ?yc20 ?yk20 ?ya21 ?yl21 ?yc21 ?yk21 ?ya22 ?yl22 ?yc22 ?yk22 ?ya23 ?yl23 ?yc23 ?yk23 ?ya24 ?yl24 ?yc24 ?yk24 ?ya25 ?yl25 ?yc25 ?yk25 ?ya26 ?yl26 ?yc26 ?yk26 ?ya27 ?yl27 ?yc27 ?yk27 ?ya28 ?yl28 ?yc28 ?yk28 ?ya29 ?yl29 ?yc29 ?yk29 ?ya30 ?yl30 ?yc30 ?yk30 ?ya31 ?yl31 ?yc31 ?yk31 ?ycst0 ?ycst1 ?ycst2 ?ycst3 ?yz0 ?yz1 ?yz2 ?yz3 ?yz4 ?yz5 ?yz6 ?yz7 ?yz8 ?yz9 ?yz10 ?yz11 ?yz12 ?yz13
    (case ya0 => k_is)
    (case yl0 => k_is)
    (case yc0 => k_is)
    (case yk0 => k_is)
    (case ya1 => k_is)
    (case yl1 => k_is)
    (case yc1 => k_is)
    (case yk1 => k_is)
    (case ya2 => k_is)
    (case yl2 => k_is)
    (case yc2 => k_is)
    (case yk2 => k_is)
    (case ya3 => k_is)
    (case yl3 => k_is)
    (case yc3 => k_is)
    (case yk3 => k_is)
    (case ya4 => k_is)
    (case yl4 => k_is)
    (case yc4 => k_is)
    (case yk4 => k_is)
    (case ya5 => k_is)
    (case yl5 => k_is)
    (case yc5 => k_is)
    (case yk5 => k_is)
    (case ya6 => k_is)
    (case yl6 => k_is)
    (case yc6 => k_is)
    (case yk6 => k_is)
    (case ya7 => k_is)
    (case yl7 => k_is)
    (case yc7 => k_is)
    (case yk7 => k_is)
    (case ya8 => k_is)
    (case yl8 => k_is)
    (case yc8 => k_is)
    (case yk8 => k_is)
    (case ya9 => k_is)
    (case yl9 => k_is)
    (case yc9 => k_is)
    (case yk9 => k_is)
    (case ya10 => k_is)
    (case yl10 => k_is)
    (case yc10 => k_is)
    (case yk10 => k_is)
    (case ya11 => k_is)
    (case yl11 => k_is)
    (case yc11 => k_is)
    (case yk11 => k_is)
    (case ya12 => k_is)
    (case yl12 => k_is)
    (case yc12 => k_is)
    (case yk12 => k_is)
    (case ya13 => k_is)
    (case yl13 => k_is)
    (case yc13 => k_is)
    (case yk13 => k_is)
    (case ya14 => k_is)
    (case yl14 => k_is)
    (case yc14 => k_is)
    (case yk14 => k_is)
    (case ya15 => k_is)
    (case yl15 => k_is)
    (case yc15 => k_is)
    (case yk15 => k_is)
    (case ya16 => k_is)
    (case yl16 => k_is)
    (case yc16 => k_is)
    (case yk16 => k_is)
    (case ya17 => k_is)
    (case yl17 => k_is)
    (case yc17 => k_is)
    (case yk17 => k_is)
    (case ya18 => k_is)
    (case yl18 => k_is)
    (case yc18 => k_is)
    (case yk18 => k_is)
    (case ya19 => k_is)
    (case yl19 => k_is)
    (case yc19 => k_is)
    (case yk19 => k_is)
    (case ya20 => k_is)
    (case yl20 => k_is)
    (case yc20 => k_is)
    (case yk20 => k_is)
    (case ya21 => k_is)
    (case yl21 => k_is)
    (case yc21 => k_is)
    (case yk21 => k_is)
    (case ya22 => k_is)
    (case yl22 => k_is)
    (case yc22 => k_is)
    (case yk22 => k_is)
    (case ya23 => k_is)
    (case yl23 => k_is)
    (case yc23 => k_is)
    (case yk23 => k_is)
    (case ya24 => k_is)
    (case yl24 => k_is)
    (case yc24 => k_is)
    (case yk24 => k_is)
    (case ya25 => k_is)
    (case yl25 => k_is)
    (case yc25 => k_is)
    (case yk25 => k_is)
    (case ya26 => k_is)
    (case yl26 => k_is)
    (case yc26 => k_is)
    (case yk26 => k_is)
    (case ya27 => k_is)
    (case yl27 => k_is)
    (case yc27 => k_is)
    (case yk27 => k_is)
    (case ya28 => k_is)
    (case yl28 => k_is)
    (case yc28 => k_is)
    (case yk28 => k_is)
    (case ya29 => k_is)
    (case yl29 => k_is)
    (case yc29 => k_is)
    (case yk29 => k_is)
    (case ya30 => k_is)
    (case yl30 => k_is)
    (case yc30 => k_is)
    (case yk30 => k_is)
    (case ya31 => k_is)
    (case yl31 => k_is)
    (case yc31 => k_is)
    (case yk31 => k_is)
    (case ycst0 => k_is)
    (case ycst1 => k_is)
    (case ycst2 => k_is)
    (case ycst3 => k_is)
    (case yz0 => k_is)
    (case yz1 => k_is)
    (case yz2 => k_is)
    (case yz3 => k_is)
    (case yz4 => k_is)
    (case yz5 => k_is)
    (case yz6 => k_is)
    (case yz7 => k_is)
    (case yz8 => k_is)
    (case yz9 => k_is)
    (case yz10 => k_is)
    (case yz11 => k_is)
    (case yz12 => k_is)
    (case yz13 => k_is)
