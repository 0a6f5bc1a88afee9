import PyProof.Rows.All
import Wide.All
import OpenK.AllK
import Wide.FinOn
import HandS.ForMost
import HandS.IsInst
import HandS.Wide
import HandS.Evl
import HandS.TupAny
import HandS.Style
import HandS.Walk
import HandS.WideBits
import HandS.Conv
import HandS.Comp
import HandS.SetFor
import HandS.SortInts
import HandS.Strs
import KE.GoesMore
import PyProof.LongRange
import PySem.Challenge.RW_longyears_k08_whole_lands_alike_or_parte
set_option Elab.async false
set_option linter.all false
set_option maxRecDepth 100000
set_option maxHeartbeats 4200000
namespace LY
open PySem PySem.Spec PyProof.Rows L2 Evl

/-! ### own bridges: whatever the library walks, as something that a loop of the hand layer walks -/
/-- n values f 0, f 1, .., the heap left alone -/
def ItF (n : Nat) (f : Nat → V) : It where
  go i _ := i < n
  yld i H x H' := H' = H ∧ x = f i
  stop i _ := i = n
theorem walk_itF {n : Nat} {f : Nat → V} : Walk (ItF n f) n (fun _ => True) (YFn f) :=
  { goes := fun _ _ h _ => h, stops := fun _ _ => rfl, yields := fun _ _ _ _ _ _ y => y }
/-- one record that the walk turns, which keeps no tuple of its own -/
def Lone (St : Nat → Heap → Prop) (it : Addr) : Prop := ∀ i h, St i h → ∃ (o : Obj) (c : String) (vs : Array Value), h.get? it = some o ∧ o.cls = .type c ∧ o.data = .fields vs ∧
  ["enumerate", "zip", "dict_itemiterator", "dict_reverseitemiterator", "odict_iterator", "itertools.zip_longest", "itertools.pairwise"].contains c = false
theorem turn_lone {P : Program} {w : World} {K : PySem.W.Frag} {tg : Expr} {it : Addr} {n : Nat} {f : Nat → V} {Pv : Nat → Value → Prop} {St : Nat → Heap → Prop}
    (W : ∀ A : Around, A.handled = none → Walks P w A it [it] [it] n Pv St) (hv : ∀ i v, Pv i v → RelV (f i) v) (lone : Lone St it)
    (self : ∀ (A : Around) i (s : Shared) Q E, St i s.heap → Q (.ref it) s → wpAny (model P w) A (pyIter (.ref it)) Q E s) : Turn P w K tg (ItF n f) [it] it St := by
  have one : ∀ {b : Addr}, b ∈ [it] → b = it := fun hb => List.mem_singleton.mp hb
  refine { mem := List.mem_singleton.mpr rfl, obj := ?o, keep := ?k, item := ?i, done := ?d, self := ?s }
  case o =>
    rintro i h st b hb
    obtain ⟨o, c, vs, g1, _, g3, _⟩ := lone i h st
    exact ⟨o, one hb ▸ g1, fun v z => by rw [g3] at z; exact Data.noConfusion z⟩
  case k =>
    intro i h h' st kp
    exact (W { callerA with handled := none } rfl).frame i h h' st kp
  case i =>
    rintro X rfl rfl rfl calm i pins s σ H E I fp st lt
    have a := fp it (List.mem_singleton.mpr rfl)
    refine (W X.A (I.ok.hd calm)).item i s _ _ lt st fun v h2 tk pv st2 kp => ⟨v, rfl, ?_⟩
    obtain ⟨o, c, vs, g1, g2, g3, g4⟩ := lone _ _ st2
    exact go_of (s := { s with heap := h2, toks := tk }) g1 g2 g3 g4 ⟨f i, H, I.turned (fun b u hb e => kp b u (fun z => hb (one z)) e) a.1 a.2.1 a.2.2.2.1 a.2.2.2.2.1 a.2.2.2.2.2, hv i v pv, ⟨rfl, rfl⟩, st2, fun b hb => (fp b hb).1⟩
  case d =>
    rintro X rfl rfl rfl calm i pins s σ H E I fp st rfl
    have a := fp it (List.mem_singleton.mpr rfl)
    exact (W X.A (I.ok.hd calm)).done s _ _ st fun h2 tk kp => ⟨rfl, I.turned (fun b u hb e => kp b u (fun z => hb (one z)) e) a.1 a.2.1 a.2.2.2.1 a.2.2.2.2.1 a.2.2.2.2.2⟩
  case s => exact self
section
variable {X : Cx} {tg : Expr}
/-- range(a, b), whatever the size: the small iterator or the long one -/
def iSpan (ta : TA) : TI := fun σ H R => ta σ H fun vs H1 => ∃ a b : Int, vs = [.int a, .int b] ∧ R (ItF (b - a).toNat fun i => .int (a + i)) H1
theorem span_count (a b : Int) : ((b - a).toNat : Int) = Builtin.Range.rangeSize a b 1 := by
  rw [rangeSize_one]
  split
  · omega
  · omega
theorem span_start {pins : List (Addr × Obj)} {σ : L2.St} {H : Hp} {s : Shared} {R : It → Hp → Prop} {E : Value → Shared → Prop} {a b : Int} {t u v : Tok} {tk : Nat} (I : Inv X pins σ H s) (q : R (ItF (b - a).toNat fun i => .int (a + i)) H) :
    wpAny (model X.prog X.w) X.A (pyIter (.ref s.heap.objs.size)) (PIE X pins σ tg R) E { s with heap := s.heap.push { cls := .type "range", data := .fields #[.int a t, .int b u, .int 1 v] }, toks := tk } := by
  generalize hr : ({ cls := .type "range", data := .fields #[.int a t, .int b u, .int 1 v] } : Obj) = rg
  have J : Inv X pins σ H { s with heap := s.heap.push rg, toks := tk } := I.kept fun _ _ => Heap.get?_push_of_some _
  have rng : IsRange (s.heap.push rg) s.heap.objs.size a b 1 t u v := by
    subst hr
    exact IsRange.new ..
  have at0 : a + ((0 : Nat) : Int) * 1 = a := by omega
  have left : ((b - a).toNat : Int) - ((0 : Nat) : Int) = Builtin.Range.rangeSize a b 1 := by
    have := span_count a b
    omega
  have val : ∀ (i : Nat) (x : Value), (∃ t, x = .int (a + i * 1) t) → RelV (.int (a + i)) x := fun i x ⟨t, e⟩ => ⟨t, by rw [e, Int.mul_one]⟩
  have mine : ∀ c ∈ [(s.heap.push rg).objs.size], FpOk X pins H c := fun c hc => by
    rw [List.mem_singleton.mp hc]
    exact J.fpOk (Nat.le_refl _) (J.hok.fresh (Nat.le_refl _))
  cases sm : Builtin.Range.small a b 1
  · refine wpAny_pyIter_longrange (s := { s with heap := s.heap.push rg, toks := tk }) rng sm ⟨_, [_], _, _, H, rfl, J.kept (t' := tk) fun _ _ => Heap.get?_push_of_some _, turn_lone (fun A hA => Walks.longrange hA _ a 1 _) val (fun i h st => ⟨_, "longrange_iterator", _, st, rfl, rfl, rfl⟩) (fun A i s' Q E' st h => wpAny_pyIter_longiter st h), ?_, mine, q⟩
    show IsLongIter _ _ _ _ _
    rw [at0, left]
    apply Heap.get?_push_size
    rfl
  · refine wpAny_pyIter_range (s := { s with heap := s.heap.push rg, toks := tk }) rng sm ⟨_, [_], _, _, H, rfl, J.kept (t' := tk) fun _ _ => Heap.get?_push_of_some _, turn_lone (fun A hA => Walks.range hA _ a 1 _) val (fun i h st => ⟨_, "range_iterator", _, st, rfl, rfl, rfl⟩) (fun A i s' Q E' st h => wpAny_pyIter_rangeiter st h), ?_, mine, q⟩
    show IsRangeIter _ _ _ _ _
    rw [at0, left]
    apply Heap.get?_push_size
    rfl
theorem pi_span {a b : Expr} {ta : TA} {p pos : Pos} (gl : Gl X "range") (no : X.mg "range" = none) (args : PA X [a, b] ta) (two : starEach [a, b] X.env = [(false, eval a X.env), (false, eval b X.env)] := by rfl) (last : starEach [b] X.env = [(false, eval b X.env)] := by rfl) :
    PI X tg (.Call (.Name "range" p) [a, b] [] pos) (iSpan ta) := by
  constructor
  intro pins s σ H R I h
  have run := args.run pos pins s σ H _ I h
  refine Call_ (ld_blt I gl no boot_range (PyProof.Rows.callWith_type1 (thn run fun us s1 got => ?_) (by rw [two, last]) (by rw [last]; rfl)))
  obtain ⟨vs, H1, I1, rel, x, y, rfl, q⟩ := got
  obtain ⟨u1, u2, rfl, ⟨t1, rfl⟩, ⟨t2, rfl⟩⟩ := vals2 rel
  exact call_range_2 (span_start I1 q)
end

/-! ### enumerate of a tracked tuple, by the library's WalksT -/
/-- pairs (i, the i-th of xs), each new -/
def ItP (xs : List V) (t : Addr) : It where
  go i H := i < xs.length ∧ H t = some (.tup xs)
  yld i H v H' := ∃ p x, v = .ref p ∧ H p = none ∧ H' = upd H p (.tup [.int (i : Nat), x]) ∧ xs[i]? = some x
  stop i H := i = xs.length ∧ H t = some (.tup xs)
theorem walk_itP {xs : List V} {t : Addr} : Walk (ItP xs t) xs.length (fun H => H t = some (.tup xs)) (YPair (fun i => some (.int (i : Nat))) (fun i => xs[i]?)) :=
  { goes := fun _ _ h k => ⟨h, k⟩, stops := fun _ k => ⟨rfl, k⟩, yields := fun i _ _ _ _ _ ⟨p, x, h1, h2, h3, h4⟩ => ⟨p, .int (i : Nat), x, h1, h2, h3, rfl, h4⟩ }
theorem turn_pairs {P : Program} {w : World} {K : PySem.W.Frag} {elts : List Expr} {kk : Nat} {tpos : Pos} {xs : List V} {t e it : Addr} (ne : e ≠ it) :
    Turn P w K (.Tuple elts kk tpos) (ItP xs t) [e, it] e (fun i h => (∃ old, IsEnum h e it i old) ∧ h.IsTupleIter it t i) := by
  have me : e ∈ [e, it] := List.mem_cons_self ..
  have mi : it ∈ [e, it] := List.mem_cons_of_mem _ (List.mem_singleton.mpr rfl)
  refine { mem := me, obj := ?o, keep := ?k, item := ?i, done := ?d, self := ?s }
  case o =>
    rintro i h ⟨⟨old, he⟩, o, ho, hc, hd⟩ b hb
    refine (List.mem_cons.mp hb).elim (fun z => ?_) (fun z => ?_)
    · exact ⟨_, z ▸ he, fun v y => Data.noConfusion y⟩
    · exact ⟨o, List.mem_singleton.mp z ▸ ho, fun v y => by rw [hd] at y; exact Data.noConfusion y⟩
  case k => exact fun i h h' st kp => ⟨st.1.imp fun old he => kp e me _ he, st.2.at fun o g => kp it mi o g⟩
  case i =>
    rintro X rfl rfl rfl calm i pins s σ H E I fp ⟨en, ti⟩ ⟨lt, ht⟩
    obtain ⟨its, rel, tup, _⟩ := I.tuple (st_of ht)
    have te : t ≠ e := ne_of_none ht (fp e me).1
    have tt : t ≠ it := ne_of_none ht (fp it mi).1
    have size : its.toArray.size = xs.length := by rw [List.size_toArray, rel.length]
    have D := Draws.tuple (prog := X.prog) (w := X.w) (A := X.A.in1) (show X.A.in1.handled = none from I.ok.hd calm) it t tt its.toArray
    have W := WalksT.enumerateD D e ne (by simp [ne, Ne.symm te]) (by simp)
    obtain ⟨u, hu, ru⟩ := rel.get (List.getElem?_eq_getElem lt)
    refine W.item i s _ _ (by omega) ⟨en, ti, tup⟩ fun p vals h2 tk pv big isT mid kp => ⟨_, rfl, W.go elts kk tpos i p _ _ _ mid fun h3 st3 kp3 => ?_⟩
    obtain ⟨tok, y, hy, rfl⟩ := pv
    have same : y = u := Option.some.inj (hy.symm.trans (by simpa using hu))
    subst same
    have pf := W.apart i p h2 mid
    have isT3 : IsTup h3 p #[.int i tok, y] := isT.at fun o g => kp3 p o pf g
    have fresh : H p = none := I.hok.fresh big
    have J : Inv X pins σ (upd H p (.tup [.int (i : Nat), xs[i]])) { s with heap := h3, toks := tk } :=
      I.turnedNew (ch := [e, it]) (fun b o hb g => kp3 b o hb (kp b o hb g)) fp big ⟨by show 2 ≤ sizeLine; decide, [.int i tok, y], .cons ⟨tok, rfl⟩ (.cons ru .nil), isT3⟩
    refine ⟨.ref p, _, J, rfl, ⟨p, xs[i], rfl, fresh, rfl, List.getElem?_eq_getElem lt⟩, ⟨st3.1, st3.2.1⟩, fun b hb => ?_⟩
    have bp : b ≠ p := fun z => pf (z ▸ hb)
    rw [upd_ne bp]
    exact (fp b hb).1
  case d =>
    rintro X rfl rfl rfl calm i pins s σ H E I fp ⟨⟨old, he⟩, ti⟩ ⟨rfl, ht⟩
    obtain ⟨its, rel, tup, _⟩ := I.tuple (st_of ht)
    have size : xs.length = its.toArray.size := by rw [List.size_toArray, rel.length]
    rw [size] at he ti
    have tt : t ≠ it := ne_of_none ht (fp it mi).1
    have f := fp it mi
    exact wpAny_pyNext_enum_endD (Draws.tuple (show X.A.in1.handled = none from I.ok.hd calm) it t tt its.toArray) he ⟨ti, tup⟩ fun h2 kp => ⟨rfl, I.turned (t' := s.toks) kp f.1 f.2.1 f.2.2.2.1 f.2.2.2.2.1 f.2.2.2.2.2⟩
  case s => exact fun A i s Q E st h => st.1.elim fun _ he => wpAny_pyIter_enum he h

/-! ### enumerate(v) begun: over whatever the library says how iter(v) begins -/
def enumOf (it : Addr) : Obj := { cls := .type "enumerate", data := .fields #[.none, .bool false, .ref it, rawInt 0, .none, .none] }
theorem enum_made {v : Value} {o : Obj} {Hv : Heap → Prop} (B : Begins v o Hv) :
    Meets (Builtin.«enumerate.__new__» ⟨[.type "enumerate", v], []⟩) (fun _ R s => Hv s.heap ∧ R (.ok (.ret (.ref (s.heap.push o).objs.size))) { s with heap := (s.heap.push o).push (enumOf s.heap.objs.size) }) := by
  refine .of_wp fun prog w A R s hyp => ?_
  have sub := sub_enumerate
  rcases s with ⟨hp, gn, dr, tk, os⟩
  rcases hyp with ⟨hv, goal⟩
  have begun := fun (A' : Around) (E : Value → Shared → Prop) (Q : Value → Shared → Prop) => B.iter prog w A' E ⟨hp, gn, dr, tk, os⟩ Q hv
  wp_walk
  refine wpAny_stack_any fun _ => ?_
  refine wpAny_pure ?_
  split
  case _ c _ _ _ _ _ =>
    generalize (c == Value.type "enumerate") = same
    cases same
    all_goals wp_walk using begun
    all_goals exact ⟨_, rfl, goal⟩
  case _ =>
    wp_walk using begun
    exact ⟨_, rfl, goal⟩
theorem enum_call {prog : Program} {w : World} {A : Around} {E : Value → Shared → Prop} {s : Shared} {v : Value} {o : Obj} {Hv : Heap → Prop} {Q : Value → Shared → Prop} (B : Begins v o Hv) (hv : Hv s.heap)
    (q : IsEnum ((s.heap.push o).push (enumOf s.heap.objs.size)) (s.heap.objs.size + 1) s.heap.objs.size 0 .none → Q (.ref (s.heap.objs.size + 1)) { s with heap := (s.heap.push o).push (enumOf s.heap.objs.size) }) :
    wpAny (model prog w) A (call (.type "enumerate") [v]) Q E s := by
  have next : (s.heap.push o).objs.size = s.heap.objs.size + 1 := Heap.size_push ..
  have en : IsEnum ((s.heap.push o).push (enumOf s.heap.objs.size)) (s.heap.objs.size + 1) s.heap.objs.size 0 .none := next ▸ Heap.get?_push_size (s.heap.push o) rfl
  refine callType_new F.called_enumerate (by decide) (F.typeCall_enumerate_1 v) (F.newCall_enumerate_1 v) (fun x => F.args_object_init_2 x v) F.entry_enumerate_new (enum_made B) ⟨hv, ?_⟩
  rw [next]
  exact ⟨⟨_, en, rfl⟩, q en⟩
/-- enumerate of a list that is read, or of a tracked tuple -/
def iEnumS (K : PySem.W.Frag) (ta : TA) : TI := fun σ H R => ta σ H fun vs H1 => ∃ t xs, vs = [.ref t] ∧ ((SqL K H1 t xs ∧ R (Ite K t) H1) ∨ (H1 t = some (.tup xs) ∧ R (ItP xs t) H1))
theorem pi_enumS {X : Cx} {e : Expr} {ta : TA} {p pos tpos : Pos} {elts : List Expr} {kk : Nat} (gl : Gl X "enumerate") (no : X.mg "enumerate" = none) (arg : PA X [e] ta) (one : starEach [e] X.env = [(false, eval e X.env)] := by rfl) :
    PI X (.Tuple elts kk tpos) (.Call (.Name "enumerate" p) [e] [] pos) (iEnumS X.K ta) := by
  constructor
  intro pins s σ H R I h
  have run := arg.run pos pins s σ H _ I h
  refine Call_ (ld_blt I gl no boot_enumerate (PyProof.Rows.callWith_type1 (thn run fun us s1 got => ?_) one rfl))
  obtain ⟨vs, H1, I1, rel, t, xs, rfl, q⟩ := got
  obtain ⟨u, rfl, ru⟩ := vals1 rel
  obtain rfl : u = .ref t := ru
  have mine : ∀ c ∈ [s1.heap.objs.size + 1, s1.heap.objs.size], FpOk X pins H1 c := fun c hc => by
    have le : s1.heap.objs.size ≤ c := by
      simp only [List.mem_cons, List.not_mem_nil, or_false] at hc
      omega
    exact I1.fpOk le (I1.hok.fresh le)
  have grow : ∀ (a b : Obj) (c : Addr) (o : Obj), s1.heap.get? c = some o → ((s1.heap.push a).push b).get? c = some o := fun a b c o g => Heap.get?_push_of_some b (Heap.get?_push_of_some a g)
  have first : ∀ a b : Obj, a.isFreed = false → ((s1.heap.push a).push b).get? s1.heap.objs.size = some a := fun a b fr => Heap.get?_push_of_some b (Heap.get?_push_size _ fr)
  rcases q with ⟨hl, q⟩ | ⟨ht, q⟩
  · obtain ⟨its, _, pl, _⟩ := I1.list hl
    refine enum_call (begins_list t its.toArray) pl.isList fun en => wpAny_pyIter_enum en ⟨_, _, _, _, H1, rfl, I1.kept (t' := s1.toks) (grow _ _), turn_enum t _ _, ⟨⟨_, en⟩, ⟨_, first _ _ rfl, rfl, rfl⟩, Nat.succ_ne_self _⟩, mine, q⟩
  · obtain ⟨its, _, tu, _⟩ := I1.tuple (st_of ht)
    exact enum_call (begins_tuple t its.toArray) tu fun en => wpAny_pyIter_enum en ⟨_, _, _, _, H1, rfl, I1.kept (t' := s1.toks) (grow _ _), turn_pairs (Nat.succ_ne_self _), ⟨⟨_, en⟩, _, first _ _ rfl, rfl, rfl⟩, mine, q⟩

/-! ### xs + ys of lists that are read -/
section
variable {X : Cx}
def rCatL (K : PySem.W.Frag) : R2 := fun x y H Q => ∃ l b xs zs, x = .ref l ∧ y = .ref b ∧ SqL K H l xs ∧ SqL K H b zs ∧ xs.length + zs.length ≤ sizeLine ∧ ∀ p, H p = none → Q (.ref p) (upd H p (.lst (xs ++ zs)))
theorem op_catL : OpR X (binaryOp .Add) (rCatL X.K) := by
  rintro pins s σ H _ _ v u Q I rx ry ⟨l, b, xs, zs, rfl, rfl, ha, hb, hz, q⟩
  cases rx
  cases ry
  obtain ⟨i1, r1, p1, _⟩ := I.list ha
  obtain ⟨i2, r2, p2, _⟩ := I.list hb
  have g1 := r1.length
  have g2 := r2.length
  obtain ⟨⟨c1, dd1, dt1, s1⟩, o1, k1, m1, e1⟩ := p1.isList
  obtain ⟨⟨c2, dd2, dt2, s2⟩, o2, k2, m2, e2⟩ := p2.isList
  simp only at k1 e1 k2 e2
  subst k1 e1 k2 e2
  have ea : i1.toArray ++ i2.toArray = (i1 ++ i2).toArray := by simp
  refine concat_meets ⟨_, o1, rfl⟩ ⟨_, o2, rfl⟩ noFill_list_add seq_list_add PySem.F.slot_list_add PySem.F.entry_list_add (PySem.F.args_list_add_2 _ _)
    (list_addW l b i1.toArray i2.toArray m1 m2 dd1 dd2 s1 s2 (by rw [List.size_toArray, List.size_toArray]; omega)) ⟨o1, o2, ?_⟩
  rw [ea]
  exact ⟨.ref _, _, I.lnew (t' := s.toks) (r1.append r2) (by rw [List.length_append]; omega), rfl, q _ I.fresh⟩
end

/-! ### a truth and a number; a truth's text; a tuple from behind -/
section
variable {X : Cx}
theorem op_either {f : Value → Value → Sem Value} {r r' : R2} (h : OpR X f r) (h' : OpR X f r') : OpR X f (fun x y H Q => r x y H Q ∨ r' x y H Q) :=
  fun pins s σ H x y v u Q I rx ry q => q.elim (h pins s σ H x y v u Q I rx ry) (h' pins s σ H x y v u Q I rx ry)
/-- a truth, then a number -/
def rTN (g : Int → Int → Int) : R2 := fun x y H Q => ∃ (b : Bool) (j : Int), x = .bl b ∧ y = .int j ∧ Q (.int (g (if b = true then 1 else 0) j)) H
theorem op_addB : OpR X (binaryOp .Add) (rTN fun i j => i + j) := by
  rintro pins s σ H _ _ v u Q I rx ry ⟨b, j, rfl, rfl, q⟩
  obtain rfl : v = .bool b := rx
  obtain ⟨t, rfl⟩ : ∃ t, u = .int j t := ry
  exact PySem.IntBool.add_bool_int ⟨.int _, H, I.tok _, ⟨_, rfl⟩, q⟩
theorem op_subB : OpR X (binaryOp .Sub) (rTN fun i j => i - j) := by
  rintro pins s σ H _ _ v u Q I rx ry ⟨b, j, rfl, rfl, q⟩
  obtain rfl : v = .bool b := rx
  obtain ⟨t, rfl⟩ : ∃ t, u = .int j t := ry
  exact PySem.IntBool.sub_bool_int ⟨.int _, H, I.tok _, ⟨_, rfl⟩, q⟩
theorem op_addU : OpR X (binaryOp .Add) (fun x y H Q => rI0 (fun i j => .int (i + j)) x y H Q ∨ rTN (fun i j => i + j) x y H Q) := op_either op_add op_addB
theorem op_subU : OpR X (binaryOp .Sub) (fun x y H Q => rI0 (fun i j => .int (i - j)) x y H Q ∨ rTN (fun i j => i - j) x y H Q) := op_either op_sub op_subB
def rCatU (K : PySem.W.Frag) : R2 := fun x y H Q => rCatL K x y H Q ∨ rCatA K x y H Q
theorem op_catU : OpR X (binaryOp .Add) (rCatU X.K) := op_either op_catL op_catA
theorem sl_U : SlR X (fun x lo hi H Q => rSlL X.K x lo hi H Q ∨ rSlA X.K x lo hi H Q) := SlR.or sl_list sl_tupA
/-- every text of Lean's is a text of Python's -/
theorem strOk_of (s : String) : PyData.strOk (Str.ofString s) = true := by
  rw [Str.ofString_eq_toList]
  refine Array.all_eq_true'.mpr fun x hx => ?_
  obtain ⟨c, _, rfl⟩ : ∃ c, c ∈ s.toList ∧ Char.toNat c = x := by simpa using hx
  exact decide_eq_true (c.valid.elim (fun low => Nat.lt_trans low (by decide)) And.right)
def truthText (b : Bool) : Str := if b then "True" else "False"
theorem truth_text {P : Program} {w : World} {A : Around} {E : Value → Shared → Prop} {s : Shared} {b : Bool} {Q : Value → Shared → Prop} (q : Q (.str (truthText b) s.toks) { s with toks := s.toks + 1 }) : wpAny (model P w) A (call (.type "str") [.bool b]) Q E s := by
  have made : Meets (Builtin.«str.__new__» ⟨[.type "str", .bool b], []⟩) (fun _ R s => R (.ok (.ret (.str (truthText b) s.toks))) { s with toks := s.toks + 1 }) :=
    meets_str_new fun _ _ _ _ s r => wpAny_strOf_gives rfl (PySem.typeIs_bool s b) F.slot_bool_str F.slot_bool_repr F.entry_bool_repr (F.args_bool_repr_1 _) (gives_bool_repr b) r (hsz := by cases b <;> decide)
  exact callType_new F.called_str (by decide) (F.typeCall_str_1 _) (F.newCall_str_1 _) (fun x => F.args_object_init_2 x _) F.entry_str_new made ⟨typeIs_str _ _ _, q⟩
/-- str of a number or of a truth: some text -/
def rStrU : List V → Hp → VK → Prop := fun xs H Q => ((∃ i : Int, xs = [.int i] ∧ i.natAbs.log2 < 1920) ∨ ∃ b, xs = [.bl b]) ∧ ∀ x : Str, PyData.strOk x = true → Q (.str x) H
theorem call_strU : CallR X (.type "str") rStrU := by
  rintro pins s σ H xs us Q I r ⟨⟨i, e, hz⟩ | ⟨b, rfl⟩, q⟩
  · exact call_str_int pins s σ H xs us Q I r ⟨i, e, hz, q _ (strOk_of _)⟩
  · obtain ⟨_, rfl, rfl⟩ := vals1 r
    exact truth_text ⟨.str (truthText b), H, I.tok _, ⟨_, rfl⟩, q _ (by cases b <;> exact strOk_of _)⟩
end
/-- what the model's slices say of [::-1] -/
theorem back_bounds (n : Nat) : Builtin.Slice.sliceAdjust none none (-1) n = ((n : Int) - 1, -1) ∧ Builtin.Slice.slicePlaces ((n : Int) - 1) (-1) (-1) = n := by
  refine ⟨by simp [Builtin.Slice.sliceAdjust], ?_⟩
  simp [Builtin.Slice.slicePlaces]
  omega
theorem back_items (its : Array Value) : ((List.range its.size).filterMap fun k : Nat => its[(((its.size : Int) - 1) + (k : Int) * (-1)).toNat]?) = its.toList.reverse := by
  have there : ∀ k : Nat, its[(((its.size : Int) - 1) + (k : Int) * (-1)).toNat]? = its[its.size - 1 - k]? := fun k => by
    rw [show (((its.size : Int) - 1) + (k : Int) * (-1)).toNat = its.size - 1 - k by omega]
  have back := congrArg (List.filterMap (its[·]?)) (PySem.W.krv_range its.size)
  rw [List.filterMap_map, List.filterMap_reverse, PySem.W.krv_all] at back
  rw [← back]
  exact congrArg (List.filterMap · _) (funext there)
section
variable {s : Shared} {P : Program} {w : World} {A : Around} {E : Value → Shared → Prop}
/-- the slice object of [::-1], taken of n items -/
theorem back_applied {sl : Addr} {tk : Tok} {n : Nat} {Q : Int × Int × Nat → Shared → Prop} (hs : s.heap.IsSliceOf sl .none .none (.int (-1) tk)) (q : Q ((n : Int) - 1, -1, n) s) :
    wpAny (model P w) A (Builtin.Slice.sliceApplied (.ref sl) (pure (n : Int))) Q E s := by
  obtain ⟨o, ho, _, hd⟩ := hs
  have none0 : IsPart Value.none none := .none
  have part : ∀ {i : Nat} {v : Value} {Q' : Value → Shared → Prop}, (#[Value.none, .none, .int (-1) tk] : Array Value)[i]? = some v → Q' v s → wpAny (model P w) A (field (.ref sl) i) Q' E s := fun hi h => wpAny_field ho hd hi h
  simp only [Builtin.Slice.sliceApplied, Builtin.Slice.sliceFields]
  refine wpAny_bind (wpAny_bind (part rfl (wpAny_bind (part rfl (wpAny_bind (part rfl (wpAny_pure ?_)))))))
  refine wpAny_bind (HT.slicePart_ (o := some (-1)) (.int (-1) tk) ?_)
  refine wpAny_bind (HT.slicePart_ none0 (wpAny_bind (HT.slicePart_ none0 (wpAny_bind (wpAny_pure ?_)))))
  have e := back_bounds n
  simp only [Option.getD, e.1, e.2]
  exact wpAny_pure q
/-- t[::-1] asked of the tuple's own __getitem__ -/
theorem back_got {t sl : Addr} {tk : Tok} {its : Array Value} {Q : Value → Shared → Prop} (ht : IsTup s.heap t its) (hs : s.heap.IsSliceOf sl .none .none (.int (-1) tk)) (hz : its.size ≤ sizeLine)
    (q : Q (.ref s.heap.objs.size) { s with heap := s.heap.push { cls := .type "tuple", data := .seq its.toList.reverse.toArray } }) : wpAny (model P w) A (getItem (.ref t) (.ref sl)) Q E s := by
  have slice : s.TypeIs (.ref sl) "slice" := hs.elim fun o h => ⟨o, h.1, h.2.1⟩
  have room : sizeOk (.seq its.toList.reverse.toArray) := by
    simpa [sizeOk] using hz
  have own : wpAny (model P w) A.in1 (Builtin.«tuple.__getitem__» ⟨[.ref t, .ref sl], []⟩) (fun fin s' => ∃ v, fin = .done (.ret v) ∧ Q v s') E s := by
    refine wpAny_bind (m := Builtin.Tuple.tupleItemsOf (.ref t)) (tupleItemsOf_ ht (wpAny_bind (wpAny_typeOf slice ?_)))
    rw [if_pos (by decide)]
    refine wpAny_bind (back_applied hs ?_)
    show wpAny _ _ (if ((its.size : Int) - 1 == 0 && (-1 : Int) == 1 && its.size == its.size) = true then _ else _) _ _ s
    rw [if_neg (by simp)]
    refine wpAny_bind (m := Builtin.Tuple.tupleExact _) ?_
    rw [back_items]
    refine wpAny_newObj_type ?_ room
    exact wpAny_pure ⟨_, rfl, q⟩
  have asked : wpAny (model P w) A (callSpecial? (.ref t) "__getitem__" [.ref sl]) (fun r s' => ∃ v, r = some v ∧ Q v s') E s :=
    wpAny_callSpecial?_slot ht.typeIs PyProof.Rows.slot_tuple_getitem (wpAny_call_entry PyProof.Rows.slot_tuple_getitem ht.typeIs entry_tuple_getitem (wpAny_mono own (fun f s' ⟨v, e, h⟩ => ⟨v, e, v, rfl, h⟩) fun _ _ h => h) (args_tuple_getitem _ _))
  simp only [getItem]
  refine wpAny_holding (wpAny_bind (wpAny_sequenceKey (hT := ht.typeIs) (by decide) ?_))
  refine wpAny_bind (wpAny_mono asked (fun r s' h => ?_) fun _ _ h => h)
  obtain ⟨v, rfl, h⟩ := h
  exact wpAny_pure h
end
section
variable {X : Cx}
/-- t[::-1], t a tuple -/
def tBack (K : PySem.W.Frag) (te : TE) : TE := fun σ H Q => te σ H fun x H1 => ∃ a xs, x = .ref a ∧ SqT K H1 a xs ∧ ∀ p, H1 p = none → Q (.ref p) (upd H1 p (.tup xs.reverse))
theorem pe_back {e : Expr} {te : TE} {k : Nat} {p1 p2 p3 pos : Pos} (he : PE X e te) : PE X (.Subscript e (.Slice none none (some (.UnaryOp .USub (.Constant (.int 1) k p1) p2)) p3) pos) (tBack X.K te) := by
  constructor
  intro pins s σ H Q I h
  have minus : PE X (.UnaryOp .USub (.Constant (.int 1) k p1) p2) (tUn (rU fun i => .int (-i)) (tC (.int 1))) := pe_un un_neg pe_int
  refine Subscript_ (thn (he.run pins s σ H _ I h) fun v s1 got => ?_)
  obtain ⟨_, H1, I1, rv, a, xs, rfl, hx, q⟩ := got
  obtain rfl : v = .ref a := rv
  refine wpAny_Slice (thn (po_none.run pins s1 σ H1 (fun o H' => o = none ∧ H' = H1) I1 ⟨rfl, rfl⟩) fun v2 s2 g2 => ?_)
  obtain ⟨_, H2, I2, n2, rfl, e2⟩ := g2
  rw [e2] at I2
  refine thn (po_none.run pins s2 σ H1 (fun o H' => o = none ∧ H' = H1) I2 ⟨rfl, rfl⟩) fun v3 s3 g3 => ?_
  obtain ⟨_, H3, I3, n3, rfl, e3⟩ := g3
  rw [e3] at I3
  refine thn ((po_some minus).run pins s3 σ H1 (fun o H' => o = some (-1) ∧ H' = H1) I3 ⟨1, rfl, -1, rfl, rfl, rfl⟩) fun v4 s4 g4 => ?_
  obtain ⟨_, H4, I4, n4, rfl, e4⟩ := g4
  rw [e4] at I4
  cases n2
  cases n3
  cases n4 with
  | int _ tk =>
    generalize hsl : ({ cls := .type "slice", data := .fields #[Value.none, .none, .int (-1) tk] } : Obj) = so
    have J : Inv X pins σ H1 { s4 with heap := s4.heap.push so } := I4.kept (t' := s4.toks) fun _ _ => Heap.get?_push_of_some _
    have sl : (s4.heap.push so).IsSliceOf s4.heap.objs.size .none .none (.int (-1) tk) := hsl ▸ Heap.IsSliceOf.new ..
    obtain ⟨its, rel, tup, z⟩ := J.tuple hx
    have sz := rel.length
    refine tail_any (s := { s4 with heap := s4.heap.push so }) (ops := [.ref a, .ref s4.heap.objs.size]) tup.typeIs PyProof.Rows.slot_tuple_getitem.lookup (back_got tup sl (by rw [List.size_toArray]; omega) ?_) (by with_unfolding_all rfl)
    refine ⟨.ref _, _, J.laid (t' := s4.toks) (o := .tup xs.reverse) (fun _ _ => Heap.get?_push_of_some _) (Nat.le_refl _) ⟨?_, its.reverse, rel.reverse, IsTup.new _ _⟩, rfl, q _ J.fresh⟩
    rw [List.length_reverse]
    exact z
end

/-! ### lists and tuples of numbers compared -/
theorem dps_ints {K : PySem.W.Frag} {H : Hp} : ∀ ns : List Int, DpAll K H (ns.map V.int) (ns.map PyData.int)
  | [] => .nil
  | n :: ns => .cons (.int n) (dps_ints ns)
theorem lays_ints : ∀ ns : List Int, PyData.canLayAll0 (ns.map PyData.int) = true
  | [] => rfl
  | n :: ns => by
    have h := lays_ints ns
    simp only [List.map_cons, PyData.canLayAll0, PyData.canLay0, h, Bool.and_true, Bool.true_and]
theorem deep_ints : ∀ ns : List Int, PyData.depthAll (ns.map PyData.int) ≤ 1
  | [] => by decide
  | n :: ns => by
    have h := deep_ints ns
    simp only [List.map_cons, PyData.depth, PyData.depthAll]
    omega
theorem shaped_lst (ns : List Int) : SeqAt.shaped (.list (ns.map PyData.int)) = true := by
  have h1 := lays_ints ns
  have h2 := deep_ints ns
  unfold SeqAt.shaped
  rw [PyData.canLay0, PyData.depth, h1, Bool.true_and]
  exact decide_eq_true (show _ ≤ 64 by omega)
theorem shaped_tup (ns : List Int) : SeqAt.shaped (.tuple (ns.map PyData.int)) = true := by
  have h1 := lays_ints ns
  have h2 := deep_ints ns
  unfold SeqAt.shaped
  rw [PyData.canLay0, PyData.depth, h1, Bool.true_and]
  exact decide_eq_true (show _ ≤ 64 by omega)
theorem eqv_ints : ∀ ns ms : List Int, PyData.eqvAll (ns.map PyData.int) (ms.map PyData.int) = decide (ns = ms)
  | [], [] => rfl
  | [], m :: ms => rfl
  | n :: ns, [] => rfl
  | n :: ns, m :: ms => by
    have h := eqv_ints ns ms
    simp only [List.map_cons, PyData.eqvAll, PyData.eqv, h]
    by_cases e : n = m <;> by_cases e' : ns = ms <;> simp [e, e']
section
variable {K : PySem.W.Frag} {H : Hp} {Q : VK} {a b : Addr} {ns ms : List Int}
theorem eq_lsts (ha : SqL K H a (ns.map V.int)) (hb : SqL K H b (ms.map V.int)) (q : Q (.bl (decide (ns = ms))) H) : rEqD K (.ref a) (.ref b) H Q :=
  ⟨_, _, .lst ha (dps_ints ns), .lst hb (dps_ints ms), shaped_lst ns, shaped_lst ms, by rw [PyData.eqv, eqv_ints]; exact q⟩
theorem ne_lsts (ha : SqL K H a (ns.map V.int)) (hb : SqL K H b (ms.map V.int)) (q : Q (.bl (!decide (ns = ms))) H) : rNeD K (.ref a) (.ref b) H Q :=
  ⟨_, _, .lst ha (dps_ints ns), .lst hb (dps_ints ms), shaped_lst ns, shaped_lst ms, by rw [PyData.eqv, eqv_ints]; exact q⟩
theorem eq_tups (ha : SqT K H a (ns.map V.int)) (hb : SqT K H b (ms.map V.int)) (q : Q (.bl (decide (ns = ms))) H) : rEqD K (.ref a) (.ref b) H Q :=
  ⟨_, _, .tup ha (dps_ints ns), .tup hb (dps_ints ms), shaped_tup ns, shaped_tup ms, by rw [PyData.eqv, eqv_ints]; exact q⟩
theorem ne_tups (ha : SqT K H a (ns.map V.int)) (hb : SqT K H b (ms.map V.int)) (q : Q (.bl (!decide (ns = ms))) H) : rNeD K (.ref a) (.ref b) H Q :=
  ⟨_, _, .tup ha (dps_ints ns), .tup hb (dps_ints ms), shaped_tup ns, shaped_tup ms, by rw [PyData.eqv, eqv_ints]; exact q⟩
end
/-- a comprehension over a list of numbers, with a test -/
theorem given_list (xs : List Int) (p : Int → Bool) (g : Int → Int) : given xs.length (fun i => p (xs[i]?.getD 0)) (fun i => V.int (g (xs[i]?.getD 0))) = ((xs.filter p).map g).map V.int := by
  unfold given
  induction xs with
  | nil => rfl
  | cons x xs ih =>
    have h0 : (x :: xs)[(0 : Nat)]?.getD 0 = x := rfl
    have hs : ∀ i : Nat, (x :: xs)[i + 1]?.getD 0 = xs[i]?.getD 0 := fun i => by rw [List.getElem?_cons_succ]
    rw [List.length_cons, List.range_succ_eq_map, List.filter_cons, List.filter_map, List.filter_cons, h0]
    have e1 : ((fun i => p ((x :: xs)[i]?.getD 0)) ∘ Nat.succ) = fun i : Nat => p (xs[i]?.getD 0) := funext fun i => congrArg p (hs i)
    have e2 : ((fun i => V.int (g ((x :: xs)[i]?.getD 0))) ∘ Nat.succ) = fun i : Nat => V.int (g (xs[i]?.getD 0)) := funext fun i => congrArg (fun z => V.int (g z)) (hs i)
    rw [e1]
    by_cases h : p x = true
    · rw [if_pos h, if_pos h]
      simp only [List.map_cons, List.map_map, e2, h0]
      rw [ih, List.map_map]
    · rw [if_neg h, if_neg h, List.map_map, e2, ih]
theorem given_pick (xs : List Int) (p : Int → Bool) : given xs.length (fun i => p (xs[i]?.getD 0)) (fun i => V.int (xs[i]?.getD 0)) = (xs.filter p).map V.int := by
  have h := given_list xs p fun z => z
  rw [List.map_id'] at h
  exact h

section
variable {X : Cx}
theorem op_isT : OpR X (compareOp .Is) (fun x y H Q => ∃ a b, x = .bl a ∧ y = .bl b ∧ Q (.bl (a == b)) H) := by
  rintro pins s σ H x y v u Q I rx ry ⟨a, b, rfl, rfl, q⟩
  cases rx
  cases ry
  exact is_bool ⟨.bl _, H, I, rfl, q⟩
theorem op_isntT : OpR X (compareOp .IsNot) (fun x y H Q => ∃ a b, x = .bl a ∧ y = .bl b ∧ Q (.bl (a != b)) H) := by
  rintro pins s σ H x y v u Q I rx ry ⟨a, b, rfl, rfl, q⟩
  cases rx
  cases ry
  exact isnot_bool ⟨.bl _, H, I, rfl, q⟩
end

/-! ### the text -/
def topS (i : Nat) : Stmt := PySem.Challenge.pw_longyears_k08_whole_lands_alike_or_parte.main.body.getD i (.Pass ⟨0, 0, 0, 0⟩)
abbrev s_is_whole : Stmt := topS 4
abbrev s_is_between : Stmt := topS 5
abbrev s_is_land : Stmt := topS 10
abbrev s_need_land : Stmt := topS 11
abbrev s_step_of : Stmt := topS 12
abbrev s_first_day : Stmt := topS 13
abbrev s_alike : Stmt := topS 15
abbrev s_first_parting : Stmt := topS 16
abbrev s__law_deck : Stmt := topS 18
abbrev s__law_pick : Stmt := topS 19
abbrev s__law_whole : Stmt := topS 20
abbrev s__law_one : Stmt := topS 21
abbrev s__law_sort : Stmt := topS 22
abbrev s__law_same : Stmt := topS 23
abbrev s__law_land : Stmt := topS 24
abbrev s__law_any : Stmt := topS 25
abbrev s__law_begin : Stmt := topS 26
abbrev s__law_far : Stmt := topS 27
abbrev s__law_near : Stmt := topS 28
abbrev s_law : Stmt := topS 29
theorem sc_is_whole : FnScope ["thing"] ["thing"] (defScope s_is_whole) := ⟨rfl, rfl, rfl, by decide +kernel, rfl, by decide +kernel, by decide +kernel⟩
theorem sc_is_between : FnScope ["thing", "least", "most"] ["thing", "least", "most"] (defScope s_is_between) := ⟨rfl, rfl, rfl, by decide +kernel, rfl, by decide +kernel, by decide +kernel⟩
theorem sc_is_land : FnScope ["thing", "days", "top", "bottom", "shift"] ["thing"] (defScope s_is_land) := ⟨rfl, rfl, rfl, by decide +kernel, rfl, by decide +kernel, by decide +kernel⟩
theorem sc_need_land : FnScope ["thing"] ["thing"] (defScope s_need_land) := ⟨rfl, rfl, rfl, by decide +kernel, rfl, by decide +kernel, by decide +kernel⟩
theorem sc_step_of : FnScope ["land", "days", "top", "bottom", "shift"] ["land"] (defScope s_step_of) := ⟨rfl, rfl, rfl, by decide +kernel, rfl, by decide +kernel, by decide +kernel⟩
theorem sc_first_day : FnScope ["land", "year", "days", "top", "bottom", "shift"] ["land", "year"] (defScope s_first_day) := ⟨rfl, rfl, rfl, by decide +kernel, rfl, by decide +kernel, by decide +kernel⟩
theorem sc_alike : FnScope ["one", "other"] ["one", "other"] (defScope s_alike) := ⟨rfl, rfl, rfl, by decide +kernel, rfl, by decide +kernel, by decide +kernel⟩
theorem sc_first_parting : FnScope ["one", "other", "year"] ["one", "other"] (defScope s_first_parting) := ⟨rfl, rfl, rfl, by decide +kernel, rfl, by decide +kernel, by decide +kernel⟩
theorem sc__law_deck : FnScope ["cell", "turn"] ["cell", "turn"] (defScope s__law_deck) := ⟨rfl, rfl, rfl, by decide +kernel, rfl, by decide +kernel, by decide +kernel⟩
theorem sc__law_pick : FnScope ["deck", "size", "found", "number"] ["deck", "size"] (defScope s__law_pick) := ⟨rfl, rfl, rfl, by decide +kernel, rfl, by decide +kernel, by decide +kernel⟩
theorem sc__law_whole : FnScope ["thing"] ["thing"] (defScope s__law_whole) := ⟨rfl, rfl, rfl, by decide +kernel, rfl, by decide +kernel, by decide +kernel⟩
theorem sc__law_one : FnScope ["deck", "some"] ["deck", "some"] (defScope s__law_one) := ⟨rfl, rfl, rfl, by decide +kernel, rfl, by decide +kernel, by decide +kernel⟩
theorem sc__law_sort : FnScope ["thing"] ["thing"] (defScope s__law_sort) := ⟨rfl, rfl, rfl, by decide +kernel, rfl, by decide +kernel, by decide +kernel⟩
theorem sc__law_same : FnScope ["told", "due", "k", "part"] ["told", "due"] (defScope s__law_same) := ⟨rfl, rfl, rfl, by decide +kernel, rfl, by decide +kernel, by decide +kernel⟩
theorem sc__law_land : FnScope ["deck", "long_so", "bottoms", "shifts", "bottom", "shift"] ["deck", "long_so", "bottoms", "shifts"] (defScope s__law_land) := ⟨rfl, rfl, rfl, by decide +kernel, rfl, by decide +kernel, by decide +kernel⟩
theorem sc__law_any : FnScope ["deck", "long_so", "bottoms", "shifts"] ["deck"] (defScope s__law_any) := ⟨rfl, rfl, rfl, by decide +kernel, rfl, by decide +kernel, by decide +kernel⟩
theorem sc__law_begin : FnScope ["land", "year"] ["land", "year"] (defScope s__law_begin) := ⟨rfl, rfl, rfl, by decide +kernel, rfl, by decide +kernel, by decide +kernel⟩
theorem sc__law_far : FnScope ["deck", "number"] ["deck"] (defScope s__law_far) := ⟨rfl, rfl, rfl, by decide +kernel, rfl, by decide +kernel, by decide +kernel⟩
theorem sc__law_near : FnScope ["deck", "land", "long_so", "top", "bottom", "shift", "way_here", "times"] ["deck", "land"] (defScope s__law_near) := ⟨rfl, rfl, rfl, by decide +kernel, rfl, by decide +kernel, by decide +kernel⟩
theorem sc_law : FnScope ["script", "cell", "deck", "turn", "one", "other", "told", "year", "years", "k", "one_year"] ["script"] (defScope s_law) := ⟨rfl, rfl, rfl, by decide +kernel, rfl, by decide +kernel, by decide +kernel⟩
structure DefAt (K : PySem.W.Frag) (mg : Str → Option Value) (x : Str) (st : Stmt) (ps : List Str) where
  f : Addr
  fd : FuncData
  F : Fun K x x st f fd
  b : Binds K fd ps []
  g : mg x = some (.ref f)
structure Txt (K : PySem.W.Frag) (mg : Str → Option Value) where
  is_whole : DefAt K mg "is_whole" s_is_whole ["thing"]
  is_between : DefAt K mg "is_between" s_is_between ["thing", "least", "most"]
  is_land : DefAt K mg "is_land" s_is_land ["thing"]
  need_land : DefAt K mg "need_land" s_need_land ["thing"]
  step_of : DefAt K mg "step_of" s_step_of ["land"]
  first_day : DefAt K mg "first_day" s_first_day ["land", "year"]
  alike : DefAt K mg "alike" s_alike ["one", "other"]
  first_parting : DefAt K mg "first_parting" s_first_parting ["one", "other"]
  _law_deck : DefAt K mg "_law_deck" s__law_deck ["cell", "turn"]
  _law_pick : DefAt K mg "_law_pick" s__law_pick ["deck", "size"]
  _law_whole : DefAt K mg "_law_whole" s__law_whole ["thing"]
  _law_one : DefAt K mg "_law_one" s__law_one ["deck", "some"]
  _law_sort : DefAt K mg "_law_sort" s__law_sort ["thing"]
  _law_same : DefAt K mg "_law_same" s__law_same ["told", "due"]
  _law_land : DefAt K mg "_law_land" s__law_land ["deck", "long_so", "bottoms", "shifts"]
  _law_any : DefAt K mg "_law_any" s__law_any ["deck"]
  _law_begin : DefAt K mg "_law_begin" s__law_begin ["land", "year"]
  _law_far : DefAt K mg "_law_far" s__law_far ["deck"]
  _law_near : DefAt K mg "_law_near" s__law_near ["deck", "land"]
  t_MOST_DAYS : Tok
  c_MOST_DAYS : mg "MOST_DAYS" = some (.int 400 t_MOST_DAYS)
  t_MOST_BOTTOM : Tok
  c_MOST_BOTTOM : mg "MOST_BOTTOM" = some (.int 60 t_MOST_BOTTOM)
  t_MOST_SHIFT : Tok
  c_MOST_SHIFT : mg "MOST_SHIFT" = some (.int 1000000 t_MOST_SHIFT)
  isinstance : mg "isinstance" = none
  b_int : mg "int" = none
  b_bool : mg "bool" = none
  tuple : mg "tuple" = none
  len : mg "len" = none
  range : mg "range" = none
  str : mg "str" = none
  b_list : mg "list" = none
  enumerate : mg "enumerate" = none
  max : mg "max" = none
  min : mg "min" = none
  ValueError : mg "ValueError" = none

/-! ### things: plain data by kinds -/
inductive Kd where
  | non | bl | int | str | lst | tup
def Kd.nm : Kd → String
  | .non => "NoneType" | .bl => "bool" | .int => "int" | .str => "str" | .lst => "list" | .tup => "tuple"
inductive Dat (H : Hp) : V → Kd → Prop where
  | non : Dat H .non .non
  | bl (b : Bool) : Dat H (.bl b) .bl
  | int (i : Int) : Dat H (.int i) .int
  | str (x : Str) : Dat H (.str x) .str
  | lst {a : Addr} {xs : List V} (h : H a = some (.lst xs)) : Dat H (.ref a) .lst
  | tup {a : Addr} {xs : List V} (h : H a = some (.tup xs)) : Dat H (.ref a) .tup
theorem Dat.ty {K : PySem.W.Frag} {H : Hp} {x : V} {t : Kd} (d : Dat H x t) : TyX K H x (.type t.nm) := by
  cases d with
  | non => exact .base .non
  | bl b => exact .base (.bl b)
  | int i => exact .base (.int i)
  | str x => exact .base (.str x)
  | lst h => exact .base (.lst h)
  | tup h => exact .base (.tup h)
theorem Dat.ex {H H' : Hp} {x : V} {t : Kd} (e : Ex H H') (d : Dat H x t) : Dat H' x t := by
  cases d with
  | non => exact .non
  | bl b => exact .bl b
  | int i => exact .int i
  | str x => exact .str x
  | lst h => exact .lst (e _ _ h)
  | tup h => exact .tup (e _ _ h)
/-- isinstance among these kinds -/
def Kd.isa : Kd → Kd → Bool
  | .non, .non => true | .bl, .bl => true | .bl, .int => true | .int, .int => true | .str, .str => true | .lst, .lst => true | .tup, .tup => true
  | _, _ => false
theorem kit_kd {K : PySem.W.Frag} (a b : Kd) (hb : b.nm ≠ "NoneType") : PySem.W.kitOne K (.type a.nm) (.type b.nm) = some (a.isa b) := by
  cases b
  case non => exact absurd rfl hb
  all_goals cases a <;> exact kit_ty (by decide +kernel)
def wholeV : V → Bool
  | .int _ => true
  | _ => false
def btw (x : V) (lo hi : Int) : Bool := match x with
  | .int i => decide (lo ≤ i) && decide (i ≤ hi)
  | _ => false
section
variable {P : Program} {w : World} {K : PySem.W.Frag} {mg : Str → Option Value} {base : Heap}
def spWhole : Sp := fun vs H Q _ => ∃ x t, vs = [x] ∧ Dat H x t ∧ RetV (.bl (wholeV x)) H Q
theorem ok_is_whole (T : Txt K mg) {k : Nat} : FnOk P w K mg base CX0 (k + 1) T.is_whole.f T.is_whole.fd ["thing"] spWhole := by
  refine T.is_whole.F.ok sc_is_whole (fun vs H Q E h => ?_) (fun cdv A outer s H vs Q E hr h => ?_)
  · obtain ⟨x, t, rfl, _⟩ := h
    rfl
  · obtain ⟨x, t, rfl, d, q⟩ := h
    have q0 := q H (Ex.refl H)
    refine ⟨_, (pss_one (ps_ret (pe_and (pe_callB call_isi (by rfl) T.isinstance (by decide +kernel) (pa_cons (pv 0) (pa_cons (pe_bltn (v := .ty "int") (by rfl) T.b_int (by decide +kernel) rfl) pa_nil))) (pe_one (pe_not (pe_callB call_isi (by rfl) T.isinstance (by decide +kernel) (pa_cons (pv 0) (pa_cons (pe_bltn (v := .ty "bool") (by rfl) T.b_bool (by decide +kernel) rfl) pa_nil)))))))), ?_⟩
    refine ⟨_, rfl, _, _, _, _, _, rfl, .ty _, d.ty, kit_kd t .int (by decide), _, rfl, ?_⟩
    cases d
    case non => exact iteF q0
    case str => exact iteF q0
    case lst => exact iteF q0
    case tup => exact iteF q0
    case bl b => exact iteT ⟨_, rfl, _, _, _, _, _, rfl, .ty _, Dat.ty (.bl b), kit_kd .bl .bl (by decide), _, rfl, q0⟩
    case int i => exact iteT ⟨_, rfl, _, _, _, _, _, rfl, .ty _, Dat.ty (.int i), kit_kd .int .bl (by decide), _, rfl, q0⟩
def spBetween : Sp := fun vs H Q _ => ∃ x t lo hi, vs = [x, .int lo, .int hi] ∧ Dat H x t ∧ RetV (.bl (btw x lo hi)) H Q
theorem ok_is_between (T : Txt K mg) : FnOk P w K mg base CX0 2 T.is_between.f T.is_between.fd ["thing", "least", "most"] spBetween := by
  have G_is_whole : FnOk P w K mg base CX0 1 T.is_whole.f T.is_whole.fd ["thing"] spWhole := ok_is_whole T
  refine T.is_between.F.ok sc_is_between (fun vs H Q E h => ?_) (fun cdv A outer s H vs Q E hr h => ?_)
  · obtain ⟨x, t, lo, hi, rfl, _⟩ := h
    rfl
  · obtain ⟨x, t, lo, hi, rfl, d, q⟩ := h
    refine ⟨_, (pss_one (ps_ret (pe_and (pe_call G_is_whole (hr.mono (by omega)) (by rfl) T.is_whole.g T.is_whole.F.kp T.is_whole.b .nil pass0 (pa_cons (pv 0) pa_nil)) (pe_one (pe_chain op_le op_le (pv 1) (pv 0) (pv 2)))))), ?_⟩
    refine ⟨_, rfl, x, t, rfl, d, fun H1 e1 => ⟨_, rfl, ?_⟩⟩
    have q1 := q H1 e1
    cases x with
    | int i =>
      refine iteT ⟨_, rfl, _, rfl, _, _, rfl, rfl, _, rfl, ?_⟩
      by_cases h1 : lo ≤ i
      · rw [if_pos (decide_eq_true h1)]
        refine ⟨_, rfl, _, _, rfl, rfl, ?_⟩
        have e : btw (.int i) lo hi = decide (i ≤ hi) := by
          show (decide (lo ≤ i) && decide (i ≤ hi)) = _
          rw [decide_eq_true h1, Bool.true_and]
        rw [e] at q1
        exact q1
      · rw [if_neg (by rw [decide_eq_false h1]; decide)]
        have e : btw (.int i) lo hi = false := by
          show (decide (lo ≤ i) && decide (i ≤ hi)) = _
          rw [decide_eq_false h1, Bool.false_and]
        rw [e] at q1
        exact q1
    | _ => exact iteF q1
end

/-! ### is_land -/
def topB (t b : V) : Bool := match b with
  | .int b' => btw t 0 (b' - 1)
  | _ => false
def landL : List V → Bool
  | [d, t, b, s] => btw d 1 400 && (btw b 1 60 && (topB t b && btw s (-1000000) 1000000))
  | _ => false
def landB (H : Hp) (x : V) : Bool := match x with
  | .ref a => match H a with
    | some (.tup xs) => landL xs
    | _ => false
  | _ => false
theorem landB_tup {H : Hp} {a : Addr} {xs : List V} (h : H a = some (.tup xs)) : landB H (.ref a) = landL xs := by
  show (match H a with | some (.tup xs) => landL xs | _ => false) = _
  rw [h]
theorem landB_lst {H : Hp} {a : Addr} {xs : List V} (h : H a = some (.lst xs)) : landB H (.ref a) = false := by
  show (match H a with | some (.tup xs) => landL xs | _ => false) = _
  rw [h]
/-- all parts of a tuple are plain data -/
def Parts (H : Hp) (x : V) : Prop := ∀ a xs, x = .ref a → H a = some (.tup xs) → ∀ y ∈ xs, ∃ u, Dat H y u
theorem landL_len {xs : List V} (h : xs.length ≠ 4) : landL xs = false := by
  match xs, h with
  | [], _ => rfl
  | [_], _ => rfl
  | [_, _], _ => rfl
  | [_, _, _], _ => rfl
  | [_, _, _, _], h => exact absurd rfl h
  | _ :: _ :: _ :: _ :: _ :: _, _ => rfl
section
variable {P : Program} {w : World} {K : PySem.W.Frag} {mg : Str → Option Value} {base : Heap}
def spIsLand : Sp := fun vs H Q _ => ∃ x t, vs = [x] ∧ Dat H x t ∧ Parts H x ∧ RetV (.bl (landB H x)) H Q
theorem ok_is_land (T : Txt K mg) : FnOk P w K mg base CX0 3 T.is_land.f T.is_land.fd ["thing"] spIsLand := by
  have G_is_between : FnOk P w K mg base CX0 2 T.is_between.f T.is_between.fd ["thing", "least", "most"] spBetween := ok_is_between T
  refine T.is_land.F.ok sc_is_land (fun vs H Q E h => ?_) (fun cdv A outer s H vs Q E hr h => ?_)
  · obtain ⟨x, t, rfl, _⟩ := h
    rfl
  · obtain ⟨x, t, rfl, d, hp, q⟩ := h
    have q0 := q H (Ex.refl H)
    refine ⟨_, (pss_cons (ps_if (PW.pt (pw_or (pt_not (pt_val (pe_callB call_isi (by rfl) T.isinstance (by decide +kernel) (pa_cons (pv 0) (pa_cons (pe_bltn (v := .ty "tuple") (by rfl) T.tuple (by decide +kernel) rfl) pa_nil))))) (pw_or1 (pt_cmpR op_ne (pe_callB call_len_seq (by rfl) T.len (by decide +kernel) (pa_cons (pv 0) pa_nil)) pe_int (nomark _)))))
        (pss_one (ps_ret pe_bl))
        pss_nil)
      (pss_cons (ps_asg (pv 0) (pg_tup rfl (pgs_cons (pg_name (i := 1) sc_is_land.nd rfl (Or.inl rfl)) (pgs_cons (pg_name (i := 2) sc_is_land.nd rfl (Or.inl rfl)) (pgs_cons (pg_name (i := 3) sc_is_land.nd rfl (Or.inl rfl)) (pgs_cons (pg_name (i := 4) sc_is_land.nd rfl (Or.inl rfl)) pgs_nil))))))
      (pss_one (ps_ret (pe_and (pe_call G_is_between (hr.mono (by omega)) (by rfl) T.is_between.g T.is_between.F.kp T.is_between.b .nil pass0 (pa_cons (pv 1) (pa_cons pe_int (pa_cons (pe_glob (v := .int 400) rfl T.c_MOST_DAYS ⟨_, rfl⟩) pa_nil)))) (pe_and (pe_call G_is_between (hr.mono (by omega)) (by rfl) T.is_between.g T.is_between.F.kp T.is_between.b .nil pass0 (pa_cons (pv 3) (pa_cons pe_int (pa_cons (pe_glob (v := .int 60) rfl T.c_MOST_BOTTOM ⟨_, rfl⟩) pa_nil)))) (pe_and (pe_call G_is_between (hr.mono (by omega)) (by rfl) T.is_between.g T.is_between.F.kp T.is_between.b .nil pass0 (pa_cons (pv 2) (pa_cons pe_int (pa_cons (pe_op op_sub (pv 3) pe_int) pa_nil)))) (pe_one (pe_call G_is_between (hr.mono (by omega)) (by rfl) T.is_between.g T.is_between.F.kp T.is_between.b .nil pass0 (pa_cons (pv 4) (pa_cons (pe_un un_neg (pe_glob (v := .int 1000000) rfl T.c_MOST_SHIFT ⟨_, rfl⟩)) (pa_cons (pe_glob (v := .int 1000000) rfl T.c_MOST_SHIFT ⟨_, rfl⟩) pa_nil)))))))))))), ?_⟩
    refine ⟨_, rfl, _, _, _, _, _, rfl, .ty _, d.ty, kit_kd t .tup (by decide), _, rfl, ?_⟩
    cases d
    case non => exact iteT (iteT q0)
    case bl => exact iteT (iteT q0)
    case int => exact iteT (iteT q0)
    case str => exact iteT (iteT q0)
    case lst h =>
      rw [landB_lst h] at q0
      exact iteT (iteT q0)
    case tup a xs h =>
      refine iteF ⟨_, rfl, a, xs, rfl, .inr (st_of h), rfl, _, rfl, ite2 (fun e => ?_) (fun e => ?_)⟩
      · have hl : xs.length ≠ 4 := fun z => by
          rw [z] at e
          exact absurd e (by decide)
        rw [landB_tup h, landL_len hl] at q0
        exact q0
      · have hl : xs.length = 4 := by
          have e2 := Bool.eq_false_iff.mpr e
          have e3 := of_decide_eq_true (by simpa using e2 : decide (V.int (xs.length : Int) = V.int 4) = true)
          have := V.int.inj e3
          omega
        obtain ⟨dd, tt, bb, ss, rfl⟩ : ∃ d t b s, xs = [d, t, b, s] := by
          match xs, hl with
          | [d, t, b, s], _ => exact ⟨d, t, b, s, rfl⟩
        have hd := hp a _ rfl h
        obtain ⟨kd, dd'⟩ := hd dd (by simp)
        obtain ⟨kt, dt'⟩ := hd tt (by simp)
        obtain ⟨kb, db'⟩ := hd bb (by simp)
        obtain ⟨ks, ds'⟩ := hd ss (by simp)
        have q1 : ∀ H1, Ex H H1 → Q (.bl (btw dd 1 400 && (btw bb 1 60 && (topB tt bb && btw ss (-1000000) 1000000)))) H1 := fun H1 e1 => by
          have z := q H1 e1
          rw [landB_tup h] at z
          exact z
        refine ⟨.ref a, rfl, a, _, rfl, st_of h, rfl, dd, _, rfl, tt, _, rfl, bb, _, rfl, ss, _, rfl, rfl, ?_⟩
        refine ⟨dd, rfl, dd, kd, 1, 400, rfl, dd', fun H1 e1 => ⟨_, rfl, ?_⟩⟩
        cases c1 : btw dd 1 400 with
        | false =>
          have z := q1 H1 e1
          rw [c1, Bool.false_and] at z
          exact iteF z
        | true =>
        rw [c1, Bool.true_and] at q1
        refine iteT ⟨bb, rfl, bb, kb, 1, 60, rfl, db'.ex e1, fun H2 e2 => ⟨_, rfl, ?_⟩⟩
        have e12 := e1.trans e2
        cases c2 : btw bb 1 60 with
        | false =>
          have z := q1 H2 e12
          rw [c2, Bool.false_and] at z
          exact iteF z
        | true =>
        rw [c2, Bool.true_and] at q1
        match bb, c2 with
        | .int b', c2 =>
        refine iteT ⟨tt, rfl, .int b', rfl, b', 1, rfl, rfl, tt, kt, 0, b' - 1, rfl, dt'.ex e12, fun H3 e3 => ⟨_, rfl, ?_⟩⟩
        have e123 := e12.trans e3
        cases c3 : btw tt 0 (b' - 1) with
        | false =>
          have z := q1 H3 e123
          rw [show topB tt (V.int b') = btw tt 0 (b' - 1) from rfl, c3, Bool.false_and] at z
          exact iteF z
        | true =>
          refine iteT ⟨ss, rfl, 1000000, rfl, ss, ks, -1000000, 1000000, rfl, ds'.ex e123, fun H4 e4 => ?_⟩
          have z := q1 H4 (e123.trans e4)
          rw [show topB tt (V.int b') = btw tt 0 (b' - 1) from rfl, c3, Bool.true_and] at z
          exact z
end

/-! ### a land at a value -/
def Land (H : Hp) (v : V) (D T B S : Int) : Prop := ∃ a, v = .ref a ∧ H a = some (.tup [.int D, .int T, .int B, .int S]) ∧ (1 ≤ D ∧ D ≤ 400) ∧ (0 ≤ T ∧ T < B) ∧ (1 ≤ B ∧ B ≤ 60) ∧ (-1000000 ≤ S ∧ S ≤ 1000000)
theorem Land.ex {H H' : Hp} {v : V} {D T B S : Int} (e : Ex H H') (h : Land H v D T B S) : Land H' v D T B S := by
  obtain ⟨a, rfl, ha, r⟩ := h
  exact ⟨a, rfl, e _ _ ha, r⟩
theorem btw_yes {i lo hi : Int} (h : lo ≤ i ∧ i ≤ hi) : btw (.int i) lo hi = true := by
  show (decide (lo ≤ i) && decide (i ≤ hi)) = true
  rw [decide_eq_true h.1, decide_eq_true h.2]
  rfl
theorem btw_iff {i lo hi : Int} : btw (.int i) lo hi = true ↔ (lo ≤ i ∧ i ≤ hi) := by
  show (decide (lo ≤ i) && decide (i ≤ hi)) = true ↔ _
  rw [Bool.and_eq_true, decide_eq_true_iff, decide_eq_true_iff]
theorem Land.is {H : Hp} {v : V} {D T B S : Int} (h : Land H v D T B S) : landB H v = true := by
  obtain ⟨a, rfl, ha, r1, r2, r3, r4⟩ := h
  rw [landB_tup ha]
  show (btw (.int D) 1 400 && (btw (.int B) 1 60 && (btw (.int T) 0 (B - 1) && btw (.int S) (-1000000) 1000000))) = true
  rw [btw_yes r1, btw_yes r3, btw_yes ⟨r2.1, by omega⟩, btw_yes r4]
  rfl
theorem Land.parts {H : Hp} {v : V} {D T B S : Int} (h : Land H v D T B S) : Parts H v ∧ Dat H v .tup := by
  obtain ⟨a, rfl, ha, _⟩ := h
  refine ⟨fun b xs e hb y hy => ?_, .tup ha⟩
  cases e
  rw [ha] at hb
  cases hb
  simp only [List.mem_cons, List.not_mem_nil, or_false] at hy
  rcases hy with rfl | rfl | rfl | rfl <;> exact ⟨_, .int _⟩
/-- the day on which a year begins; how many days of these are added -/
def fst (D T B S y : Int) : Int := ((D * B + T) * y + S) / B
def add (T B S y : Int) : Int := (T * y + S) / B
def yr (D T B S n : Int) : Int := ((n + 1) * B - S - 1) / (D * B + T)
theorem cm_l {i j : Int} (h : -1000000000 ≤ i ∧ i ≤ 1000000000) : CMul i j := .inl ⟨by omega, by omega⟩
theorem cm_r {i j : Int} (h : -1000000000 ≤ j ∧ j ≤ 1000000000) : CMul i j := .inr ⟨by omega, by omega⟩
theorem step_bd {D T B : Int} (r1 : 1 ≤ D ∧ D ≤ 400) (r2 : 0 ≤ T ∧ T < B) (r3 : 1 ≤ B ∧ B ≤ 60) : 1 ≤ D * B + T ∧ D * B + T ≤ 24060 := by
  have h1 : D * B ≤ 400 * B := Int.mul_le_mul_of_nonneg_right r1.2 (by omega)
  have h2 : 1 * B ≤ D * B := Int.mul_le_mul_of_nonneg_right r1.1 (by omega)
  omega

section
variable {P : Program} {w : World} {K : PySem.W.Frag} {mg : Str → Option Value} {base : Heap}
def spNeedLand : Sp := fun vs H Q _ => ∃ v D T B S, vs = [v] ∧ Land H v D T B S ∧ RetV .non H Q
theorem ok_need_land (T : Txt K mg) : FnOk P w K mg base CX0 4 T.need_land.f T.need_land.fd ["thing"] spNeedLand := by
  have G_is_land : FnOk P w K mg base CX0 3 T.is_land.f T.is_land.fd ["thing"] spIsLand := ok_is_land T
  refine T.need_land.F.ok sc_need_land (fun vs H Q E h => ?_) (fun cdv A outer s H vs Q E hr h => ?_)
  · obtain ⟨x, _, _, _, _, rfl, _⟩ := h
    rfl
  · obtain ⟨x, d, t, b, sh, rfl, hl, q⟩ := h
    refine ⟨_, (pss_one (ps_if (pt_not (pt_val (pe_call G_is_land (hr.mono (by omega)) (by rfl) T.is_land.g T.is_land.F.kp T.is_land.b .nil pass0 (pa_cons (pv 0) pa_nil))))
        (pss_one ps_never)
        pss_nil)), ?_⟩
    refine ⟨_, rfl, x, _, rfl, hl.parts.2, hl.parts.1, fun H1 e1 => ⟨_, rfl, ?_⟩⟩
    rw [hl.is]
    exact iteF (q H1 e1)
def spNum : Sp := fun vs H Q _ => ∃ i : Int, vs = [.int i] ∧ (-1000000000000000000000000000000 ≤ i ∧ i ≤ 1000000000000000000000000000000) ∧ RetV .non H Q
def spStep : Sp := fun vs H Q _ => ∃ v D T B S, vs = [v] ∧ Land H v D T B S ∧ RetV (.int (D * B + T)) H Q
theorem ok_step_of (T : Txt K mg) : FnOk P w K mg base CX0 1 T.step_of.f T.step_of.fd ["land"] spStep := by
  refine T.step_of.F.ok sc_step_of (fun vs H Q E h => ?_) (fun cdv A outer s H vs Q E hr h => ?_)
  · obtain ⟨x, _, _, _, _, rfl, _⟩ := h
    rfl
  · obtain ⟨x, D, T', B, S, rfl, ⟨a, rfl, ha, r1, r2, r3, r4⟩, q⟩ := h
    refine ⟨_, (pss_cons (ps_asg (pv 0) (pg_tup rfl (pgs_cons (pg_name (i := 1) sc_step_of.nd rfl (Or.inl rfl)) (pgs_cons (pg_name (i := 2) sc_step_of.nd rfl (Or.inl rfl)) (pgs_cons (pg_name (i := 3) sc_step_of.nd rfl (Or.inl rfl)) (pgs_cons (pg_name (i := 4) sc_step_of.nd rfl (Or.inl rfl)) pgs_nil))))))
      (pss_one (ps_ret (pe_op op_add (pe_op op_mul (pv 1) (pv 3)) (pv 2))))), ?_⟩
    refine ⟨_, rfl, a, _, rfl, st_of ha, rfl, _, _, rfl, _, _, rfl, _, _, rfl, _, _, rfl, rfl, ?_⟩
    exact ⟨_, rfl, _, rfl, _, _, rfl, rfl, cm_l (by omega), _, rfl, _, _, rfl, rfl, q H (Ex.refl H)⟩
def spFirst : Sp := fun vs H Q _ => ∃ v D T B S y, vs = [v, .int y] ∧ Land H v D T B S ∧ RetV (.int (fst D T B S y)) H Q
theorem ok_first_day (T : Txt K mg) : FnOk P w K mg base CX0 2 T.first_day.f T.first_day.fd ["land", "year"] spFirst := by
  have G_step_of : FnOk P w K mg base CX0 1 T.step_of.f T.step_of.fd ["land"] spStep := ok_step_of T
  refine T.first_day.F.ok sc_first_day (fun vs H Q E h => ?_) (fun cdv A outer s H vs Q E hr h => ?_)
  · obtain ⟨x, _, _, _, _, _, rfl, _⟩ := h
    rfl
  · obtain ⟨x, D, T', B, S, y, rfl, hL, q⟩ := h
    obtain ⟨a, rfl, ha, r1, r2, r3, r4⟩ := id hL
    have hs := step_bd r1 r2 r3
    refine ⟨_, (pss_cons (ps_asg (pv 0) (pg_tup rfl (pgs_cons (pg_name (i := 2) sc_first_day.nd rfl (Or.inl rfl)) (pgs_cons (pg_name (i := 3) sc_first_day.nd rfl (Or.inl rfl)) (pgs_cons (pg_name (i := 4) sc_first_day.nd rfl (Or.inl rfl)) (pgs_cons (pg_name (i := 5) sc_first_day.nd rfl (Or.inl rfl)) pgs_nil))))))
      (pss_one (ps_ret (pe_op op_fdiv (pe_op op_add (pe_op op_mul (pe_call G_step_of (hr.mono (by omega)) (by rfl) T.step_of.g T.step_of.F.kp T.step_of.b .nil pass0 (pa_cons (pv 0) pa_nil)) (pv 1)) (pv 5)) (pv 4))))), ?_⟩
    refine ⟨_, rfl, a, _, rfl, st_of ha, rfl, _, _, rfl, _, _, rfl, _, _, rfl, _, _, rfl, rfl, ?_⟩
    refine ⟨_, rfl, _, D, T', B, S, rfl, hL, fun H1 e1 => ?_⟩
    exact ⟨_, rfl, _, _, rfl, rfl, cm_l (by omega), _, rfl, _, _, rfl, rfl, _, rfl, _, _, rfl, rfl, ⟨by omega, by omega⟩, q H1 e1⟩

end

/-! ### the deck -/
def Dk (n : Nat) (H : Hp) (d : Addr) : Prop := ∃ x y z : Int, H d = some (.lst [.int x, .int y, .int z]) ∧ (0 ≤ y ∧ y < 2147483579) ∧ (0 ≤ z ∧ z ≤ (n : Int))
/-- all but the deck stands as it stood -/
def ExD (d : Addr) (H H' : Hp) : Prop := ∀ a o, a ≠ d → H a = some o → H' a = some o
theorem ExD.refl {d : Addr} {H : Hp} : ExD d H H := fun _ _ _ h => h
theorem ExD.trans {d : Addr} {H H1 H2 : Hp} (a : ExD d H H1) (b : ExD d H1 H2) : ExD d H H2 := fun x o n h => b x o n (a x o n h)
theorem ExD.of {d : Addr} {H H' : Hp} (e : Ex H H') : ExD d H H' := fun a o _ h => e a o h
theorem ExD.upd {d : Addr} {H : Hp} {o : HO} : ExD d H (upd H d o) := fun a u n h => by
  rw [upd_ne n]
  exact h
theorem Dk.ex {n : Nat} {H H' : Hp} {d : Addr} (e : Ex H H') (h : Dk n H d) : Dk n H' d := by
  obtain ⟨x, y, z, hd, r⟩ := h
  exact ⟨x, y, z, e _ _ hd, r⟩
theorem Dk.ne_tup {n : Nat} {H : Hp} {d a : Addr} {xs : List V} (h : Dk n H d) (ha : H a = some (.tup xs)) : a ≠ d := by
  obtain ⟨x, y, z, hd, r⟩ := h
  exact ne_of ha hd (fun z => by cases z)
theorem ExD.tup {n : Nat} {H H' : Hp} {d a : Addr} {xs : List V} (e : ExD d H H') (h : Dk n H d) (ha : H a = some (.tup xs)) : H' a = some (.tup xs) := e _ _ (h.ne_tup ha) ha
theorem ExD.land {n : Nat} {H H' : Hp} {d : Addr} {v : V} {D T B S : Int} (e : ExD d H H') (h : Dk n H d) (hl : Land H v D T B S) : Land H' v D T B S := by
  obtain ⟨a, rfl, ha, r⟩ := hl
  exact ⟨a, rfl, e.tup h ha, r⟩
/-- new addresses are new -/
theorem ExD.fresh {n : Nat} {d : Addr} {H H' : Hp} {p : Addr} (e : ExD d H H') (hd : Dk n H' d) (h : H' p = none) : H p = none := by
  cases q : H p with
  | none => rfl
  | some o =>
    by_cases hp : p = d
    · obtain ⟨x, y, z, h1, _⟩ := hd
      rw [hp, h1] at h
      cases h
    · rw [e _ _ hp q] at h
      cases h
section
variable {P : Program} {w : World} {K : PySem.W.Frag} {mg : Str → Option Value} {base : Heap}
def spDeck : Sp := fun vs H Q _ => ∃ (c : Int) (n : Nat), vs = [.int c, .int n] ∧ ∀ p H2, H p = none → Ex H H2 → Dk n H2 p → Q (.ref p) H2
theorem ok__law_deck (T : Txt K mg) : FnOk P w K mg base CX0 1 T._law_deck.f T._law_deck.fd ["cell", "turn"] spDeck := by
  refine T._law_deck.F.ok sc__law_deck (fun vs H Q E h => ?_) (fun cdv A outer s H vs Q E hr h => ?_)
  · obtain ⟨c, n, rfl, _⟩ := h
    rfl
  · obtain ⟨c, n, rfl, q⟩ := h
    have hm := Int.emod_nonneg c (show (2147483579 : Int) ≠ 0 by decide)
    have hm2 := Int.emod_lt_of_pos c (show (0 : Int) < 2147483579 by decide)
    refine ⟨_, (pss_cons (ps_if (pt_cmpR op_ge (pv 0) (pe_op op_pow pe_int pe_int) (nomark _))
        (pss_one (ps_ret (pe_lst (pa_cons (pe_op op_sub (pv 0) (pe_op op_pow pe_int pe_int)) (pa_cons (pe_op op_mod (pv 0) pe_int) (pa_cons (pv 1) pa_nil))))))
        pss_nil)
      (pss_one (ps_ret (pe_lst (pa_cons pe_int (pa_cons (pe_op op_mod (pv 0) pe_int) (pa_cons (pv 1) pa_nil))))))), ?_⟩
    refine ⟨_, rfl, _, _, rfl, rfl, ⟨by decide, by decide, by decide⟩, _, _, rfl, rfl, _, rfl, ite2 (fun e => ?_) (fun e => ?_)⟩
    · refine ⟨_, rfl, _, _, rfl, rfl, ⟨by decide, by decide, by decide⟩, _, _, rfl, rfl, _, rfl, _, _, rfl, rfl, by show (0 : Int) < 2147483579; decide, _, rfl, by show 3 ≤ sizeLine; decide, fun p hp => ?_⟩
      exact q p _ hp (Ex.new hp) ⟨_, _, _, upd_same, ⟨hm, hm2⟩, by omega, by omega⟩
    · refine ⟨_, rfl, _, _, rfl, rfl, by show (0 : Int) < 2147483579; decide, _, rfl, by show 3 ≤ sizeLine; decide, fun p hp => ?_⟩
      exact q p _ hp (Ex.new hp) ⟨_, _, _, upd_same, ⟨hm, hm2⟩, by omega, by omega⟩
def spPick : Sp := fun vs H Q _ => ∃ (d : Addr) (m : Int) (n : Nat), vs = [.ref d, .int m] ∧ Dk n H d ∧ n < 1000000 ∧ (0 < m ∧ m.natAbs < 2 ^ 100) ∧ ∀ r H', 0 ≤ r → r < m → ExD d H H' → Dk (n + 1) H' d → Q (.int r) H'
theorem ok__law_pick (T : Txt K mg) : FnOk P w K mg base CX0 1 T._law_pick.f T._law_pick.fd ["deck", "size"] spPick := by
  refine T._law_pick.F.ok sc__law_pick (fun vs H Q E h => ?_) (fun cdv A outer s H vs Q E hr h => ?_)
  · obtain ⟨d, m, n, rfl, _⟩ := h
    rfl
  · obtain ⟨d, m, n, rfl, ⟨x, y, z, hd, hy, hz⟩, hn, hm, q⟩ := h
    refine ⟨_, (pss_cons (ps_if (pt_cmpR op_gt (pe_ix ix_list (pv 0) pe_int (fun _ _ => rfl)) pe_int (nomark _))
        (pss_cons (ps_set (i := 2) sc__law_pick.nd rfl (Or.inl rfl) (pe_op op_mod (pe_ix ix_list (pv 0) pe_int (fun _ _ => rfl)) (pv 1)))
      (pss_cons (ps_asg (pe_op op_fdivW (pe_ix ix_list (pv 0) pe_int (fun _ _ => rfl)) (pv 1)) (pg_sub (pv 0) pe_int set_list))
      (pss_one (ps_ret (pv 2)))))
        pss_nil)
      (pss_cons (ps_asg (pe_op op_add (pe_ix ix_list (pv 0) pe_int (fun _ _ => rfl)) pe_int) (pg_sub (pv 0) pe_int set_list))
      (pss_cons (ps_set (i := 3) sc__law_pick.nd rfl (Or.inl rfl) (pe_op op_mod (pe_op op_pow (pe_op op_add (pe_ix ix_list (pv 0) pe_int (fun _ _ => rfl)) (pe_op op_mul pe_int (pe_ix ix_list (pv 0) pe_int (fun _ _ => rfl)))) pe_int) pe_int))
      (pss_cons (ps_set (i := 2) sc__law_pick.nd rfl (Or.inl rfl) (pe_op op_fdiv (pe_op op_mod (pe_op op_pow (pe_op op_add (pv 3) (pe_op op_mul pe_int (pe_ix ix_list (pv 0) pe_int (fun _ _ => rfl)))) pe_int) pe_int) pe_int))
      (pss_one (ps_ret (pe_op op_mod (pv 2) (pv 1)))))))), ?_⟩
    refine ⟨.ref d, rfl, d, _, 0, _, rfl, rfl, sq_of hd, rfl, _, _, rfl, rfl, _, rfl, ite2 (fun e => ?_) (fun e => ?_)⟩
    · refine ⟨.ref d, rfl, d, _, 0, _, rfl, rfl, sq_of hd, rfl, _, rfl, _, _, rfl, rfl, hm.1, ?_⟩
      refine ⟨.ref d, rfl, d, _, 0, _, rfl, rfl, sq_of hd, rfl, _, rfl, _, _, rfl, rfl, wide_div hm.1 hm.2 (by decide) (by decide), ?_⟩
      refine ⟨.ref d, rfl, d, _, _, _, rfl, rfl, hd, rfl, ?_⟩
      refine ⟨_, rfl, ?_⟩
      exact q _ _ (Int.emod_nonneg x (by omega)) (Int.emod_lt_of_pos x hm.1) ExD.upd ⟨_, _, _, upd_same, hy, by omega, by omega⟩
    · refine ⟨.ref d, rfl, d, _, 2, _, rfl, rfl, sq_of hd, rfl, _, _, rfl, rfl, ?_⟩
      refine ⟨.ref d, rfl, d, _, _, _, rfl, rfl, hd, rfl, ?_⟩
      have hd2 : upd H d (.lst ([V.int x, V.int y, V.int z].set 2 (.int (z + 1)))) d = some (.lst [.int x, .int y, .int (z + 1)]) := upd_same
      have hE : ExD d H (upd H d (.lst ([V.int x, V.int y, V.int z].set 2 (.int (z + 1))))) := ExD.upd
      revert hd2 hE
      show ∀ _ _, tSeq _ _ _ _ (upd H d (.lst ([V.int x, V.int y, V.int z].set 2 (.int (z + 1)))))
      generalize upd H d (.lst ([V.int x, V.int y, V.int z].set 2 (.int (z + 1)))) = H2
      intro hd2 hE
      refine ⟨.ref d, rfl, d, _, 1, _, rfl, rfl, sq_of hd2, rfl, .ref d, rfl, d, _, 2, _, rfl, rfl, sq_of hd2, rfl, _, _, rfl, rfl, cm_l (by omega), _, _, rfl, rfl, _, _, rfl, rfl, ⟨by decide, by decide, by omega⟩, _, _, rfl, rfl, by show (0 : Int) < 2147483647; decide, ?_⟩
      have g1 := Int.emod_nonneg ((y + 15485867 * (z + 1)) ^ (5 : Int).toNat) (show (2147483647 : Int) ≠ 0 by decide)
      have g2 := Int.emod_lt_of_pos ((y + 15485867 * (z + 1)) ^ (5 : Int).toNat) (show (0 : Int) < 2147483647 by decide)
      revert g1 g2
      generalize ((y + 15485867 * (z + 1)) ^ (5 : Int).toNat) % 2147483647 = N
      intro g1 g2
      refine ⟨_, rfl, .ref d, rfl, d, _, 2, _, rfl, rfl, sq_of hd2, rfl, _, _, rfl, rfl, cm_l (by omega), _, _, rfl, rfl, _, _, rfl, rfl, ⟨by decide, by decide, by omega⟩, _, _, rfl, rfl, by show (0 : Int) < 2147483629; decide, _, _, rfl, rfl, ⟨by decide, by decide⟩, ?_⟩
      refine ⟨_, rfl, _, rfl, _, _, rfl, rfl, hm.1, ?_⟩
      exact q _ _ (Int.emod_nonneg _ (by omega)) (Int.emod_lt_of_pos _ hm.1) hE ⟨_, _, _, hd2, hy, by omega, by omega⟩
def spOne : Sp := fun vs H Q _ => ∃ (d b : Addr) (xs : List V) (n : Nat), vs = [.ref d, .ref b] ∧ Dk n H d ∧ n < 1000000 ∧ H b = some (.lst xs) ∧ b ≠ d ∧ (0 < xs.length ∧ xs.length ≤ 1000) ∧
  ∀ v H', v ∈ xs → ExD d H H' → Dk (n + 1) H' d → Q v H'
theorem ok__law_one (T : Txt K mg) : FnOk P w K mg base CX0 2 T._law_one.f T._law_one.fd ["deck", "some"] spOne := by
  have G__law_pick : FnOk P w K mg base CX0 1 T._law_pick.f T._law_pick.fd ["deck", "size"] spPick := ok__law_pick T
  refine T._law_one.F.ok sc__law_one (fun vs H Q E h => ?_) (fun cdv A outer s H vs Q E hr h => ?_)
  · obtain ⟨d, m, xs, n, rfl, _⟩ := h
    rfl
  · obtain ⟨d, b, xs, n, rfl, hk, hn, hb, ne, hl, q⟩ := h
    refine ⟨_, (pss_one (ps_ret (pe_ix ix_list (pv 1) (pe_call G__law_pick (hr.mono (by omega)) (by rfl) T._law_pick.g T._law_pick.F.kp T._law_pick.b .nil pass0 (pa_cons (pv 0) (pa_cons (pe_callB call_len_seq (by rfl) T.len (by decide +kernel) (pa_cons (pv 1) pa_nil)) pa_nil))) (fun _ _ => rfl)))), ?_⟩
    refine ⟨_, rfl, _, rfl, _, rfl, b, xs, rfl, .inl (sq_of hb), d, _, n, rfl, hk, hn, ⟨by omega, by omega⟩, fun r H1 h0 h1 e1 k1 => ?_⟩
    have hr : r.toNat < xs.length := by omega
    refine ⟨b, xs, r, xs[r.toNat], rfl, rfl, sq_of (e1 _ _ ne hb), ?_, q _ _ (List.getElem_mem hr) e1 k1⟩
    exact at_of (j := r.toNat) (by omega) (List.getElem?_eq_getElem hr)
end

/-! ### drawn lands, far numbers -/
section
variable {P : Program} {w : World} {K : PySem.W.Frag} {mg : Str → Option Value} {base : Heap}
def spDraw : Sp := fun vs H Q _ => ∃ (d : Addr) (L M N : Int) (n : Nat), vs = [.ref d, .int L, .int M, .int N] ∧ Dk n H d ∧ n < 900000 ∧ (1 ≤ L ∧ L ≤ 400) ∧ (1 ≤ M ∧ M ≤ 60) ∧ (0 ≤ N ∧ N ≤ 1000000) ∧
  ∀ v H' D T B S, Land H' v D T B S → D ≤ L → B ≤ M → -N ≤ S → S ≤ N → ExD d H H' → Dk (n + 4) H' d → Q v H'
theorem ok__law_land (T : Txt K mg) : FnOk P w K mg base CX0 2 T._law_land.f T._law_land.fd ["deck", "long_so", "bottoms", "shifts"] spDraw := by
  have G__law_pick : FnOk P w K mg base CX0 1 T._law_pick.f T._law_pick.fd ["deck", "size"] spPick := ok__law_pick T
  refine T._law_land.F.ok sc__law_land (fun vs H Q E h => ?_) (fun cdv A outer s H vs Q E hr h => ?_)
  · obtain ⟨d, L, M, N, n, rfl, _⟩ := h
    rfl
  · obtain ⟨d, L, M, N, n, rfl, hk, hn, hL, hM, hN, q⟩ := h
    refine ⟨_, (pss_cons (ps_set (i := 4) sc__law_land.nd rfl (Or.inl rfl) (pe_op op_add pe_int (pe_call G__law_pick (hr.mono (by omega)) (by rfl) T._law_pick.g T._law_pick.F.kp T._law_pick.b .nil pass0 (pa_cons (pv 0) (pa_cons (pv 2) pa_nil)))))
      (pss_cons (ps_set (i := 5) sc__law_land.nd rfl (Or.inl rfl) (pe_op op_sub (pe_call G__law_pick (hr.mono (by omega)) (by rfl) T._law_pick.g T._law_pick.F.kp T._law_pick.b .nil pass0 (pa_cons (pv 0) (pa_cons (pe_op op_add (pe_op op_mul pe_int (pv 3)) pe_int) pa_nil))) (pv 3)))
      (pss_one (ps_ret (pe_tup (pa_cons (pe_op op_add pe_int (pe_call G__law_pick (hr.mono (by omega)) (by rfl) T._law_pick.g T._law_pick.F.kp T._law_pick.b .nil pass0 (pa_cons (pv 0) (pa_cons (pv 1) pa_nil)))) (pa_cons (pe_call G__law_pick (hr.mono (by omega)) (by rfl) T._law_pick.g T._law_pick.F.kp T._law_pick.b .nil pass0 (pa_cons (pv 0) (pa_cons (pv 4) pa_nil))) (pa_cons (pv 4) (pa_cons (pv 5) pa_nil))))))))), ?_⟩
    refine ⟨_, rfl, _, rfl, d, M, n, rfl, hk, by omega, ⟨by omega, by omega⟩, fun b H1 b0 b1 e1 k1 => ⟨_, _, rfl, rfl, ?_⟩⟩
    refine ⟨_, rfl, _, rfl, _, _, rfl, rfl, cm_l (by omega), _, _, rfl, rfl, d, _, n + 1, rfl, k1, by omega, ⟨by omega, by omega⟩, fun sh H2 s0 s1 e2 k2 => ⟨_, rfl, _, _, rfl, rfl, ?_⟩⟩
    refine ⟨_, rfl, _, rfl, d, L, n + 2, rfl, k2, by omega, ⟨by omega, by omega⟩, fun dd H3 d0 d1 e3 k3 => ⟨_, _, rfl, rfl, ?_⟩⟩
    refine ⟨_, rfl, _, rfl, d, 1 + b, n + 3, rfl, k3, by omega, ⟨by omega, by omega⟩, fun tt H4 t0 t1 e4 k4 => ?_⟩
    refine ⟨_, rfl, _, rfl, by show 4 ≤ sizeLine; decide, fun p hp => ?_⟩
    exact q _ _ (1 + dd) tt (1 + b) (sh - N) ⟨p, rfl, upd_same, ⟨by omega, by omega⟩, ⟨by omega, by omega⟩, ⟨by omega, by omega⟩, ⟨by omega, by omega⟩⟩ (by omega) (by omega) (by omega) (by omega)
      (((e1.trans e2).trans (e3.trans e4)).trans (ExD.of (Ex.new hp))) (k4.ex (Ex.new hp))
def spAny : Sp := fun vs H Q _ => ∃ (d : Addr) (n : Nat), vs = [.ref d] ∧ Dk n H d ∧ n < 800000 ∧ ∀ v H' D T B S, Land H' v D T B S → ExD d H H' → Dk (n + 5) H' d → Q v H'
theorem ok__law_any (T : Txt K mg) : FnOk P w K mg base CX0 3 T._law_any.f T._law_any.fd ["deck"] spAny := by
  have G__law_one : FnOk P w K mg base CX0 2 T._law_one.f T._law_one.fd ["deck", "some"] spOne := ok__law_one T
  have G__law_land : FnOk P w K mg base CX0 2 T._law_land.f T._law_land.fd ["deck", "long_so", "bottoms", "shifts"] spDraw := ok__law_land T
  refine T._law_any.F.ok sc__law_any (fun vs H Q E h => ?_) (fun cdv A outer s H vs Q E hr h => ?_)
  · obtain ⟨d, n, rfl, _⟩ := h
    rfl
  · obtain ⟨d, n, rfl, hk, hn, q⟩ := h
    refine ⟨_, (pss_cons (ps_asg (pe_call G__law_one (hr.mono (by omega)) (by rfl) T._law_one.g T._law_one.F.kp T._law_one.b .nil pass0 (pa_cons (pv 0) (pa_cons (pe_lst (pa_cons (pe_tup (pa_cons pe_int (pa_cons pe_int (pa_cons pe_int pa_nil)))) (pa_cons (pe_tup (pa_cons pe_int (pa_cons pe_int (pa_cons pe_int pa_nil)))) (pa_cons (pe_tup (pa_cons pe_int (pa_cons pe_int (pa_cons (pe_op op_pow pe_int pe_int) pa_nil)))) pa_nil)))) pa_nil))) (pg_tup rfl (pgs_cons (pg_name (i := 1) sc__law_any.nd rfl (Or.inl rfl)) (pgs_cons (pg_name (i := 2) sc__law_any.nd rfl (Or.inl rfl)) (pgs_cons (pg_name (i := 3) sc__law_any.nd rfl (Or.inl rfl)) pgs_nil)))))
      (pss_one (ps_ret (pe_call G__law_land (hr.mono (by omega)) (by rfl) T._law_land.g T._law_land.F.kp T._law_land.b .nil pass0 (pa_cons (pv 0) (pa_cons (pv 1) (pa_cons (pv 2) (pa_cons (pv 3) pa_nil)))))))), ?_⟩
    refine ⟨_, rfl, by show 3 ≤ sizeLine; decide, fun p1 n1 => ?_⟩
    refine ⟨by show 3 ≤ sizeLine; decide, fun p2 n2 => ?_⟩
    refine ⟨_, _, rfl, rfl, ⟨by decide, by decide, by decide⟩, by show 3 ≤ sizeLine; decide, fun p3 n3 => ?_⟩
    refine ⟨by show 3 ≤ sizeLine; decide, fun p4 n4 => ?_⟩
    have x1 := Ex.new (o := .tup [.int 9, .int 5, .int 9]) n1
    have x2 := Ex.new (o := .tup [.int 30, .int 60, .int 99]) n2
    have x3 := Ex.new (o := .tup [.int 400, .int 60, .int ((10 : Int) ^ (6 : Int).toNat)]) n3
    have x4 := Ex.new (o := .lst [.ref p1, .ref p2, .ref p3]) n4
    have k4 := (((hk.ex x1).ex x2).ex x3).ex x4
    have a1 := x4 _ _ (x3 _ _ (x2 _ _ (upd_same (H := H) (a := p1) (o := .tup [.int 9, .int 5, .int 9]))))
    have a2 := x4 _ _ (x3 _ _ (upd_same (a := p2) (o := .tup [.int 30, .int 60, .int 99])))
    have a3 := x4 _ _ (upd_same (a := p3) (o := .tup [.int 400, .int 60, .int ((10 : Int) ^ (6 : Int).toNat)]))
    have nd : p4 ≠ d := fun z => by
      obtain ⟨_, _, _, hd, _⟩ := ((hk.ex x1).ex x2).ex x3
      rw [z, hd] at n4
      cases n4
    refine ⟨d, p4, _, n, rfl, k4, by omega, upd_same, nd, ⟨by show 0 < 3; decide, by show 3 ≤ 1000; decide⟩, fun v H5 hv e5 k5 => ?_⟩
    obtain ⟨p, L, M, N, rfl, hp, hL, hM, hN⟩ : ∃ (p : Addr) (L M N : Int), v = .ref p ∧ H5 p = some (.tup [.int L, .int M, .int N]) ∧ (1 ≤ L ∧ L ≤ 400) ∧ (1 ≤ M ∧ M ≤ 60) ∧ (0 ≤ N ∧ N ≤ 1000000) := by
      simp only [List.mem_cons, List.not_mem_nil, or_false] at hv
      rcases hv with hv | hv | hv
      · exact ⟨p1, _, _, _, hv, e5.tup k4 a1, ⟨by decide, by decide⟩, ⟨by decide, by decide⟩, ⟨by decide, by decide⟩⟩
      · exact ⟨p2, _, _, _, hv, e5.tup k4 a2, ⟨by decide, by decide⟩, ⟨by decide, by decide⟩, ⟨by decide, by decide⟩⟩
      · exact ⟨p3, _, _, _, hv, e5.tup k4 a3, ⟨by decide, by decide⟩, ⟨by decide, by decide⟩, ⟨by decide, by decide⟩⟩
    refine ⟨p, _, rfl, st_of hp, rfl, _, _, rfl, _, _, rfl, _, _, rfl, rfl, ?_⟩
    refine ⟨_, rfl, _, rfl, _, rfl, _, rfl, d, L, M, N, n + 1, rfl, k5, by omega, hL, hM, hN, fun u H6 D T' B S hl _ _ _ _ e6 k6 => ?_⟩
    exact q u H6 D T' B S hl ((ExD.of (((x1.trans x2).trans x3).trans x4)).trans (e5.trans e6)) k6

def spFar : Sp := fun vs H Q _ => ∃ (d : Addr) (n : Nat), vs = [.ref d] ∧ Dk n H d ∧ n < 900000 ∧ ∀ (i : Int) H', -1000000000000000000000000000 < i → i < 1000000000000000000000000000 → ExD d H H' → Dk (n + 5) H' d → Q (.int i) H'
theorem ok__law_far (T : Txt K mg) : FnOk P w K mg base CX0 3 T._law_far.f T._law_far.fd ["deck"] spFar := by
  have G__law_one : FnOk P w K mg base CX0 2 T._law_one.f T._law_one.fd ["deck", "some"] spOne := ok__law_one T
  have G__law_pick : FnOk P w K mg base CX0 1 T._law_pick.f T._law_pick.fd ["deck", "size"] spPick := ok__law_pick T
  refine T._law_far.F.ok sc__law_far (fun vs H Q E h => ?_) (fun cdv A outer s H vs Q E hr h => ?_)
  · obtain ⟨d, n, rfl, _⟩ := h
    rfl
  · obtain ⟨d, n, rfl, hk, hn, q⟩ := h
    refine ⟨_, (pss_cons (ps_set (i := 1) sc__law_far.nd rfl (Or.inl rfl) (pe_call G__law_one (hr.mono (by omega)) (by rfl) T._law_one.g T._law_one.F.kp T._law_one.b .nil pass0 (pa_cons (pv 0) (pa_cons (pe_lst (pa_cons (pe_call G__law_pick (hr.mono (by omega)) (by rfl) T._law_pick.g T._law_pick.F.kp T._law_pick.b .nil pass0 (pa_cons (pv 0) (pa_cons pe_int pa_nil))) (pa_cons (pe_call G__law_pick (hr.mono (by omega)) (by rfl) T._law_pick.g T._law_pick.F.kp T._law_pick.b .nil pass0 (pa_cons (pv 0) (pa_cons (pe_op op_pow pe_int pe_int) pa_nil))) (pa_cons (pe_call G__law_pick (hr.mono (by omega)) (by rfl) T._law_pick.g T._law_pick.F.kp T._law_pick.b .nil pass0 (pa_cons (pv 0) (pa_cons (pe_op op_pow pe_int pe_int) pa_nil))) pa_nil)))) pa_nil))))
      (pss_one (ps_ret (pe_ifExp (pt_cmpR op_eq (pe_call G__law_pick (hr.mono (by omega)) (by rfl) T._law_pick.g T._law_pick.F.kp T._law_pick.b .nil pass0 (pa_cons (pv 0) (pa_cons pe_int pa_nil))) pe_int (nomark _)) (pv 1) (pe_op op_sub pe_int (pv 1)))))), ?_⟩
    refine ⟨_, rfl, _, rfl, d, 30, n, rfl, hk, by omega, ⟨by decide, by decide⟩, fun a H1 a0 a1 e1 k1 => ?_⟩
    refine ⟨_, rfl, _, _, rfl, rfl, ⟨by decide, by decide, by decide⟩, d, _, n + 1, rfl, k1, by omega, ⟨by decide, by decide⟩, fun b H2 b0 b1 e2 k2 => ?_⟩
    refine ⟨_, rfl, _, _, rfl, rfl, ⟨by decide, by decide, by decide⟩, d, _, n + 2, rfl, k2, by omega, ⟨by decide, by decide⟩, fun c H3 c0 c1 e3 k3 => ?_⟩
    have b1' : b < 1000000000 := b1
    have c1' : c < 1000000000000000000000000000 := c1
    refine ⟨by show 3 ≤ sizeLine; decide, fun p hp => ?_⟩
    have x := Ex.new (o := .lst [.int a, .int b, .int c]) hp
    have k4 := k3.ex x
    have nd : p ≠ d := fun z => by
      obtain ⟨_, _, _, hd, _⟩ := k3
      rw [z, hd] at hp
      cases hp
    refine ⟨d, p, _, n + 3, rfl, k4, by omega, upd_same, nd, ⟨by show 0 < 3; decide, by show 3 ≤ 1000; decide⟩, fun v H5 hv e5 k5 => ?_⟩
    obtain ⟨i, rfl, i0, i1⟩ : ∃ i : Int, v = .int i ∧ 0 ≤ i ∧ i < 1000000000000000000000000000 := by
      simp only [List.mem_cons, List.not_mem_nil, or_false] at hv
      rcases hv with rfl | rfl | rfl
      · exact ⟨a, rfl, by omega, by omega⟩
      · exact ⟨b, rfl, by omega, by omega⟩
      · exact ⟨c, rfl, by omega, by omega⟩
    refine ⟨_, rfl, d, 2, n + 4, rfl, k5, by omega, ⟨by decide, by decide⟩, fun r H6 r0 r1 e6 k6 => ?_⟩
    have eT : ExD d H H6 := (e1.trans e2).trans (e3.trans ((ExD.of x).trans (e5.trans e6)))
    refine ⟨rfl, _, rfl, ite2 (fun _ => ?_) (fun _ => ?_)⟩
    · exact ⟨_, rfl, q i H6 (by omega) (by omega) eT k6⟩
    · exact ⟨_, rfl, _, _, rfl, rfl, q (0 - i) H6 (by omega) (by omega) eT k6⟩

/-! ### begins by the law's own words -/
def beg (D T B S y : Int) : Int := D * y + (T * y + S) / B
theorem beg_fst {D T B S y : Int} (hB : 1 ≤ B) : beg D T B S y = fst D T B S y := by
  unfold beg fst
  have e : (D * B + T) * y + S = (T * y + S) + B * (D * y) := by
    rw [Int.add_mul, Int.mul_right_comm, Int.mul_comm (D * y) B]
    omega
  rw [e, Int.add_mul_ediv_left _ _ (by omega)]
  omega
def spBeg : Sp := fun vs H Q _ => ∃ v D T B S y, vs = [v, .int y] ∧ Land H v D T B S ∧ RetV (.int (fst D T B S y)) H Q
theorem ok__law_begin (T : Txt K mg) : FnOk P w K mg base CX0 1 T._law_begin.f T._law_begin.fd ["land", "year"] spBeg := by
  refine T._law_begin.F.ok sc__law_begin (fun vs H Q E h => ?_) (fun cdv A outer s H vs Q E hr h => ?_)
  · obtain ⟨x, _, _, _, _, _, rfl, _⟩ := h
    rfl
  · obtain ⟨x, D, T', B, S, y, rfl, ⟨a, rfl, ha, r1, r2, r3, r4⟩, q⟩ := h
    have q0 := q H (Ex.refl H)
    rw [← beg_fst r3.1] at q0
    refine ⟨_, (pss_one (ps_ret (pe_op op_add (pe_op op_mul (pe_ix ix_tup (pv 0) pe_int (fun _ _ => rfl)) (pv 1)) (pe_op op_fdiv (pe_op op_add (pe_op op_mul (pe_ix ix_tup (pv 0) pe_int (fun _ _ => rfl)) (pv 1)) (pe_ix ix_tup (pv 0) pe_int (fun _ _ => rfl))) (pe_ix ix_tup (pv 0) pe_int (fun _ _ => rfl)))))), ?_⟩
    refine ⟨_, rfl, a, _, 0, _, rfl, rfl, st_of ha, rfl, _, rfl, _, _, rfl, rfl, cm_l (by omega), ?_⟩
    refine ⟨_, rfl, a, _, 1, _, rfl, rfl, st_of ha, rfl, _, rfl, _, _, rfl, rfl, cm_l (by omega), ?_⟩
    refine ⟨_, rfl, a, _, 3, _, rfl, rfl, st_of ha, rfl, _, _, rfl, rfl, ?_⟩
    exact ⟨_, rfl, a, _, 2, _, rfl, rfl, st_of ha, rfl, _, _, rfl, rfl, ⟨by omega, by omega⟩, _, _, rfl, rfl, q0⟩

end

/-! ### sameness -/
def Kd.sort : Kd → Int
  | .bl => 1 | .int => 2 | .str => 3 | .lst => 4 | .tup => 5 | .non => 6
section
variable {P : Program} {w : World} {K : PySem.W.Frag} {mg : Str → Option Value} {base : Heap}
def spSort : Sp := fun vs H Q _ => ∃ x t, vs = [x] ∧ Dat H x t ∧ RetV (.int t.sort) H Q
theorem ok__law_sort (T : Txt K mg) : FnOk P w K mg base CX0 1 T._law_sort.f T._law_sort.fd ["thing"] spSort := by
  refine T._law_sort.F.ok sc__law_sort (fun vs H Q E h => ?_) (fun cdv A outer s H vs Q E hr h => ?_)
  · obtain ⟨x, t, rfl, _⟩ := h
    rfl
  · obtain ⟨x, t, rfl, d, q⟩ := h
    have q0 := q H (Ex.refl H)
    refine ⟨_, (pss_cons (ps_if (pt_val (pe_callB call_isi (by rfl) T.isinstance (by decide +kernel) (pa_cons (pv 0) (pa_cons (pe_bltn (v := .ty "bool") (by rfl) T.b_bool (by decide +kernel) rfl) pa_nil))))
        (pss_one (ps_ret pe_int))
        pss_nil)
      (pss_cons (ps_if (pt_val (pe_callB call_isi (by rfl) T.isinstance (by decide +kernel) (pa_cons (pv 0) (pa_cons (pe_bltn (v := .ty "int") (by rfl) T.b_int (by decide +kernel) rfl) pa_nil))))
        (pss_one (ps_ret pe_int))
        pss_nil)
      (pss_cons (ps_if (pt_val (pe_callB call_isi (by rfl) T.isinstance (by decide +kernel) (pa_cons (pv 0) (pa_cons (pe_bltn (v := .ty "str") (by rfl) T.str (by decide +kernel) rfl) pa_nil))))
        (pss_one (ps_ret pe_int))
        pss_nil)
      (pss_cons (ps_if (pt_val (pe_callB call_isi (by rfl) T.isinstance (by decide +kernel) (pa_cons (pv 0) (pa_cons (pe_bltn (v := .ty "list") (by rfl) T.b_list (by decide +kernel) rfl) pa_nil))))
        (pss_one (ps_ret pe_int))
        pss_nil)
      (pss_one (ps_ret (pe_ifExp (pt_val (pe_callB call_isi (by rfl) T.isinstance (by decide +kernel) (pa_cons (pv 0) (pa_cons (pe_bltn (v := .ty "tuple") (by rfl) T.tuple (by decide +kernel) rfl) pa_nil)))) pe_int pe_int))))))), ?_⟩
    refine ⟨_, rfl, _, _, _, _, _, rfl, .ty _, d.ty, kit_kd t .bl (by decide), _, rfl, ?_⟩
    cases t
    case bl => exact iteT q0
    all_goals refine iteF ⟨_, rfl, _, _, _, _, _, rfl, .ty _, d.ty, kit_kd _ .int (by decide), _, rfl, ?_⟩
    case int => exact iteT q0
    all_goals refine iteF ⟨_, rfl, _, _, _, _, _, rfl, .ty _, d.ty, kit_kd _ .str (by decide), _, rfl, ?_⟩
    case str => exact iteT q0
    all_goals refine iteF ⟨_, rfl, _, _, _, _, _, rfl, .ty _, d.ty, kit_kd _ .lst (by decide), _, rfl, ?_⟩
    case lst => exact iteT q0
    all_goals refine iteF ⟨_, rfl, _, _, _, _, _, rfl, .ty _, d.ty, kit_kd _ .tup (by decide), _, rfl, ?_⟩
    case tup => exact iteT q0
    case non => exact iteF q0
end
/-- x and y are the same data, to the depth n -/
inductive Sm (H : Hp) : Nat → V → V → Prop where
  | non {n : Nat} : Sm H n .non .non
  | bl {n : Nat} (b : Bool) : Sm H n (.bl b) (.bl b)
  | int {n : Nat} (i : Int) : Sm H n (.int i) (.int i)
  | str {n : Nat} (x : Str) : Sm H n (.str x) (.str x)
  | lst {n : Nat} {a b : Addr} {xs ys : List V} (ha : H a = some (.lst xs)) (hb : H b = some (.lst ys)) (hl : xs.length = ys.length) (hz : xs.length ≤ 1000) (h : ∀ (i : Nat) (x y : V), xs[i]? = some x → ys[i]? = some y → Sm H n x y) : Sm H (n + 1) (.ref a) (.ref b)
  | tup {n : Nat} {a b : Addr} {xs ys : List V} (ha : H a = some (.tup xs)) (hb : H b = some (.tup ys)) (hl : xs.length = ys.length) (hz : xs.length ≤ 1000) (h : ∀ (i : Nat) (x y : V), xs[i]? = some x → ys[i]? = some y → Sm H n x y) : Sm H (n + 1) (.ref a) (.ref b)
theorem Sm.ex {H H' : Hp} {n : Nat} {x y : V} (e : Ex H H') (h : Sm H n x y) : Sm H' n x y := by
  induction h with
  | non => exact .non
  | bl b => exact .bl b
  | int i => exact .int i
  | str x => exact .str x
  | lst ha hb hl hz _ ih => exact .lst (e _ _ ha) (e _ _ hb) hl hz ih
  | tup ha hb hl hz _ ih => exact .tup (e _ _ ha) (e _ _ hb) hl hz ih
theorem Sm.kd {H : Hp} {n : Nat} {x y : V} (h : Sm H n x y) : ∃ t, Dat H x t ∧ Dat H y t := by
  cases h with
  | non => exact ⟨_, .non, .non⟩
  | bl b => exact ⟨_, .bl b, .bl b⟩
  | int i => exact ⟨_, .int i, .int i⟩
  | str x => exact ⟨_, .str x, .str x⟩
  | lst ha hb _ _ _ => exact ⟨_, .lst ha, .lst hb⟩
  | tup ha hb _ _ _ => exact ⟨_, .tup ha, .tup hb⟩
def spSame : Nat → Sp
  | 0 => fun _ _ _ _ => False
  | n + 1 => fun vs H Q _ => ∃ x y, vs = [x, y] ∧ Sm H n x y ∧ RetV (.bl true) H Q
section
variable {P : Program} {w : World} {K : PySem.W.Frag} {mg : Str → Option Value} {base : Heap}
theorem ok__law_same (T : Txt K mg) (n : Nat) : FnOk P w K mg base CX0 (n + 1) T._law_same.f T._law_same.fd ["told", "due"] (spSame n) := by
  induction n with
  | zero => exact ⟨fun _ _ _ _ h => h.elim, fun _ _ _ _ _ _ _ _ _ _ _ _ _ h => h.elim⟩
  | succ n G__law_same =>
    have G__law_sort : FnOk P w K mg base CX0 1 T._law_sort.f T._law_sort.fd ["thing"] spSort := ok__law_sort T
    refine T._law_same.F.ok sc__law_same (fun vs H Q E h => ?_) (fun cdv A outer s H vs Q E hr h => ?_)
    · obtain ⟨x, y, rfl, _⟩ := h
      rfl
    · obtain ⟨x, y, rfl, hS, q⟩ := h
      refine ⟨_, (pss_cons (ps_if (pt_cmpR op_ne (pe_call G__law_sort (hr.mono (by omega)) (by rfl) T._law_sort.g T._law_sort.F.kp T._law_sort.b .nil pass0 (pa_cons (pv 0) pa_nil)) (pe_call G__law_sort (hr.mono (by omega)) (by rfl) T._law_sort.g T._law_sort.F.kp T._law_sort.b .nil pass0 (pa_cons (pv 1) pa_nil)) (nomark _))
        (pss_one (ps_ret pe_bl))
        pss_nil)
      (pss_cons (ps_if (PW.pt (pw_and (pt_cmpR op_gt (pe_call G__law_sort (hr.mono (by omega)) (by rfl) T._law_sort.g T._law_sort.F.kp T._law_sort.b .nil pass0 (pa_cons (pv 0) pa_nil)) pe_int (nomark _)) (pw_and1 (pt_cmpR op_lt (pe_call G__law_sort (hr.mono (by omega)) (by rfl) T._law_sort.g T._law_sort.F.kp T._law_sort.b .nil pass0 (pa_cons (pv 0) pa_nil)) pe_int (nomark _)))))
        (pss_cons (ps_if (pt_cmpR op_ne (pe_callB call_len_seq (by rfl) T.len (by decide +kernel) (pa_cons (pv 0) pa_nil)) (pe_callB call_len_seq (by rfl) T.len (by decide +kernel) (pa_cons (pv 1) pa_nil)) (nomark _))
        (pss_one (ps_ret pe_bl))
        pss_nil)
      (pss_one (ps_ret (pe_cmpR (op_eqD hr.units) (pe_lc (own := [("k", 2), ("part", 3)]) (g := gTup K 2 (gCons (gName 2) (gCons (gName 3) gNil))) (by rfl) sc__law_same.nd (pi_enumS rfl T.enumerate (pa_cons (pv 0) pa_nil)) (blkOk_by (own := [("k", 2), ("part", 3)]) (N := ["told", "due", "k", "part"]) (sc := defScope s__law_same) (by decide +kernel)) (fun _ _ _ _ _ => (pg_tup rfl (pgs_cons (pg_name (i := 2) sc__law_same.nd rfl (Or.inl rfl)) (pgs_cons (pg_name (i := 3) sc__law_same.nd rfl (Or.inl rfl)) pgs_nil)))) (fun _ _ _ _ _ => (pts_one (pt_not (pt_val (pe_call G__law_same (hr.mono (by omega)) (by rfl) T._law_same.g T._law_same.F.kp T._law_same.b .nil pass0 (pa_cons (pv 3) (pa_cons (pe_ix (show IxR _ (rIx K) from ix_seq) (pv 1) (pv 2) (fun _ _ => rfl)) pa_nil))))))) (fun _ _ _ _ _ => (pv 2))) (pe_lst pa_nil) (nomark _)))))
        pss_nil)
      (pss_one (ps_ret (pe_cmpR op_eq (pv 0) (pv 1) (nomark _)))))), ?_⟩
      obtain ⟨t, dx, dy⟩ := hS.kd
      refine ⟨_, rfl, _, t, rfl, dx, fun H1 e1 => ⟨_, rfl, _, t, rfl, dy.ex e1, fun H2 e2 => ⟨rfl, _, rfl, iteNS rfl ?_⟩⟩⟩
      have e12 := e1.trans e2
      refine ⟨_, rfl, _, t, rfl, dx.ex e12, fun H3 e3 => ⟨_, _, rfl, rfl, _, rfl, ?_⟩⟩
      have e13 := e12.trans e3
      have hS3 := hS.ex e13
      have dx3 := dx.ex e13
      have q3 : ∀ H4, Ex H3 H4 → Q (.bl true) H4 := fun H4 e4 => q H4 (e13.trans e4)
      clear hS dx dy q e12 e13
      cases hS3 with
      | non =>
        cases dx3
        refine iteT ⟨_, rfl, _, _, rfl, .non, fun H4 e4 => ⟨_, _, rfl, rfl, _, rfl, iteF ⟨_, rfl, _, rfl, rfl, q3 H4 e4⟩⟩⟩
      | bl b =>
        cases dx3
        refine iteF (iteF ⟨_, rfl, _, rfl, rfl, ?_⟩)
        rw [decide_eq_true rfl]
        exact q3 H3 (Ex.refl H3)
      | int i =>
        cases dx3
        refine iteF (iteF ⟨_, rfl, _, rfl, rfl, ?_⟩)
        rw [decide_eq_true rfl]
        exact q3 H3 (Ex.refl H3)
      | str x =>
        cases dx3
        refine iteF (iteF ⟨_, rfl, _, rfl, rfl, ?_⟩)
        rw [decide_eq_true rfl]
        exact q3 H3 (Ex.refl H3)
      | @lst m a b xs ys ha hb hl hz hh =>
        have et : t = .lst := by
          cases dx3 with
          | lst _ => rfl
          | tup h => rw [ha] at h; cases h
        subst et
        refine iteT ⟨_, rfl, _, _, rfl, dx3, fun H4 e4 => ⟨_, _, rfl, rfl, _, rfl, iteT ?_⟩⟩
        have ha4 := e4 _ _ ha
        have hb4 := e4 _ _ hb
        refine ⟨_, rfl, a, xs, rfl, .inl (sq_of ha4), _, rfl, b, ys, rfl, .inl (sq_of hb4), rfl, _, rfl, iteNS (by rw [hl]) ?_⟩
        refine ⟨_, rfl, a, xs, rfl, .inl ⟨sq_of ha4, fun D hD => ?_⟩⟩
        refine lc_it walk_enum (fun i H' => Ex H4 H' ∧ H' D = some (.lst [])) ⟨Ex.new hD, upd_same⟩ (fun i H' _ p => sq_of (p.1 _ _ ha4)) (fun i v H' H'' hi p y => ?_) (fun H' p => ?_)
        · obtain ⟨Tp, x1, x2, rfl, nT, rfl, h1, h2⟩ := y
          cases h1
          have x4 := p.1.trans (Ex.new (o := .tup [.int (i : Int), x2]) nT)
          have hi2 : i < ys.length := by omega
          refine ⟨Tp, _, rfl, st_of upd_same, rfl, _, _, rfl, _, _, rfl, rfl, rfl, ?_⟩
          refine ⟨_, rfl, _, rfl, _, rfl, .inl ⟨b, ys, i, ys[i], rfl, rfl, sq_of (x4 _ _ hb4), at_of (j := i) rfl (List.getElem?_eq_getElem hi2), ?_⟩⟩
          have hD2 := Ex.new (o := .tup [.int (i : Int), x2]) nT _ _ p.2
          refine ⟨x2, ys[i], rfl, (hh i x2 ys[i] h2 (List.getElem?_eq_getElem hi2)).ex (e4.trans x4), fun H5 e5 => ⟨_, rfl, iteF ⟨x4.trans e5, e5 _ _ hD2⟩⟩⟩
        · refine ⟨by show 0 ≤ sizeLine; decide, fun p' hp' => ?_⟩
          have e6 := p.1.trans (Ex.new (o := .lst []) hp')
          exact ⟨.list [], .list [], .lst (sq_of (Ex.new (o := .lst []) hp' _ _ p.2)) .nil, .lst (sq_of upd_same) .nil, rfl, rfl, q3 _ (e4.trans e6)⟩
      | @tup m a b xs ys ha hb hl hz hh =>
        have et : t = .tup := by
          cases dx3 with
          | tup _ => rfl
          | lst h => rw [ha] at h; cases h
        subst et
        refine iteT ⟨_, rfl, _, _, rfl, dx3, fun H4 e4 => ⟨_, _, rfl, rfl, _, rfl, iteT ?_⟩⟩
        have ha4 := e4 _ _ ha
        have hb4 := e4 _ _ hb
        refine ⟨_, rfl, a, xs, rfl, .inr (st_of ha4), _, rfl, b, ys, rfl, .inr (st_of hb4), rfl, _, rfl, iteNS (by rw [hl]) ?_⟩
        refine ⟨_, rfl, a, xs, rfl, .inr ⟨ha4, fun D hD => ?_⟩⟩
        refine lc_it walk_itP (fun i H' => Ex H4 H' ∧ H' D = some (.lst [])) ⟨Ex.new hD, upd_same⟩ (fun i H' _ p => p.1 _ _ ha4) (fun i v H' H'' hi p y => ?_) (fun H' p => ?_)
        · obtain ⟨Tp, x1, x2, rfl, nT, rfl, h1, h2⟩ := y
          cases h1
          have x4 := p.1.trans (Ex.new (o := .tup [.int (i : Int), x2]) nT)
          have hi2 : i < ys.length := by omega
          refine ⟨Tp, _, rfl, st_of upd_same, rfl, _, _, rfl, _, _, rfl, rfl, rfl, ?_⟩
          refine ⟨_, rfl, _, rfl, _, rfl, .inr (.inl ⟨b, ys, i, ys[i], rfl, rfl, st_of (x4 _ _ hb4), at_of (j := i) rfl (List.getElem?_eq_getElem hi2), ?_⟩)⟩
          have hD2 := Ex.new (o := .tup [.int (i : Int), x2]) nT _ _ p.2
          refine ⟨x2, ys[i], rfl, (hh i x2 ys[i] h2 (List.getElem?_eq_getElem hi2)).ex (e4.trans x4), fun H5 e5 => ⟨_, rfl, iteF ⟨x4.trans e5, e5 _ _ hD2⟩⟩⟩
        · refine ⟨by show 0 ≤ sizeLine; decide, fun p' hp' => ?_⟩
          have e6 := p.1.trans (Ex.new (o := .lst []) hp')
          exact ⟨.list [], .list [], .lst (sq_of (Ex.new (o := .lst []) hp' _ _ p.2)) .nil, .lst (sq_of upd_same) .nil, rfl, rfl, q3 _ (e4.trans e6)⟩
end

/-! ### the mathematics of one land -/
theorem mul_bd {x b K L : Int} (hx : -K ≤ x ∧ x ≤ K) (hb : 0 ≤ b ∧ b ≤ L) (hK : 0 ≤ K) : -(K * L) ≤ x * b ∧ x * b ≤ K * L := by
  have h1 : x * b ≤ K * b := Int.mul_le_mul_of_nonneg_right hx.2 hb.1
  have h2 : -K * b ≤ x * b := Int.mul_le_mul_of_nonneg_right hx.1 hb.1
  have h3 : K * b ≤ K * L := Int.mul_le_mul_of_nonneg_left hb.2 hK
  rw [Int.neg_mul] at h2
  omega
theorem div_bd {a s M : Int} (hs : 1 ≤ s) (ha : -M ≤ a ∧ a ≤ M) (hM : 0 ≤ M) : -M ≤ a / s ∧ a / s ≤ M := by
  have h1 : M * 1 ≤ M * s := Int.mul_le_mul_of_nonneg_left hs hM
  constructor
  · rw [Int.le_ediv_iff_mul_le (by omega), Int.neg_mul]
    omega
  · have h2 : a / s < M + 1 := by
      rw [Int.ediv_lt_iff_lt_mul (by omega), Int.add_mul]
      omega
    omega
theorem add_step {T B S y : Int} (hT : 0 ≤ T ∧ T < B) : add T B S y ≤ add T B S (y + 1) ∧ add T B S (y + 1) ≤ add T B S y + 1 := by
  have hB : 0 < B := by omega
  unfold add
  rw [Int.mul_add, Int.mul_one]
  have e := Int.mul_ediv_add_emod (T * y + S) B
  have r0 := Int.emod_nonneg (T * y + S) (show B ≠ 0 by omega)
  have r1 := Int.emod_lt_of_pos (T * y + S) hB
  constructor
  · rw [Int.le_ediv_iff_mul_le hB, Int.mul_comm]
    omega
  · have h : (T * y + T + S) / B < (T * y + S) / B + 1 + 1 := by
      rw [Int.ediv_lt_iff_lt_mul hB, Int.add_mul, Int.add_mul, Int.mul_comm _ B, Int.one_mul]
      omega
    omega
theorem fst_beg {D T B S y : Int} (hB : 1 ≤ B) : fst D T B S y = D * y + add T B S y := by
  unfold fst add
  have e : (D * B + T) * y + S = (T * y + S) + B * (D * y) := by
    rw [Int.add_mul, Int.mul_right_comm, Int.mul_comm (D * y) B]
    omega
  rw [e, Int.add_mul_ediv_left _ _ (by omega)]
  omega
theorem fst_succ {D T B S y : Int} (hB : 1 ≤ B) : fst D T B S (y + 1) - fst D T B S y = D + (add T B S (y + 1) - add T B S y) := by
  rw [fst_beg hB, fst_beg hB, Int.mul_add, Int.mul_one]
  omega
theorem fst_le {D T B S y n : Int} (hB : 1 ≤ B) (hs : 1 ≤ D * B + T) : fst D T B S y ≤ n ↔ y ≤ yr D T B S n := by
  unfold yr fst
  rw [Int.le_ediv_iff_mul_le (by omega), ← Int.lt_add_one_iff, Int.ediv_lt_iff_lt_mul (by omega), Int.mul_comm y]
  omega
theorem yr_spec {D T B S n : Int} (hB : 1 ≤ B) (hs : 1 ≤ D * B + T) : fst D T B S (yr D T B S n) ≤ n ∧ n < fst D T B S (yr D T B S n + 1) := by
  constructor
  · exact (fst_le hB hs).mpr (Int.le_refl _)
  · have h := mt (fst_le (D := D) (T := T) (B := B) (S := S) (y := yr D T B S n + 1) (n := n) hB hs).mp (by omega)
    omega
theorem yr_eq {D T B S n y : Int} (hB : 1 ≤ B) (hs : 1 ≤ D * B + T) (h1 : fst D T B S y ≤ n) (h2 : n < fst D T B S (y + 1)) : yr D T B S n = y := by
  have a1 := (fst_le hB hs).mp h1
  have a2 := mt (fst_le (D := D) (T := T) (B := B) (S := S) (y := y + 1) (n := n) hB hs).mpr (by omega)
  omega
theorem yr_bd {D T B S n : Int} (r1 : 1 ≤ D ∧ D ≤ 400) (r2 : 0 ≤ T ∧ T < B) (r3 : 1 ≤ B ∧ B ≤ 60) (r4 : -1000000 ≤ S ∧ S ≤ 1000000) {M : Int} (hM : 0 ≤ M) (hn : -M ≤ n ∧ n ≤ M) :
    -((M + 1) * 60 + 1000001) ≤ yr D T B S n ∧ yr D T B S n ≤ (M + 1) * 60 + 1000001 := by
  have hs := step_bd r1 r2 r3
  have h := mul_bd (x := n + 1) (b := B) (K := M + 1) (L := 60) (by omega) (by omega) (by omega)
  unfold yr
  exact div_bd hs.1 (by omega) (by omega)
theorem fst_bd {D T B S y : Int} (r1 : 1 ≤ D ∧ D ≤ 400) (r2 : 0 ≤ T ∧ T < B) (r3 : 1 ≤ B ∧ B ≤ 60) (r4 : -1000000 ≤ S ∧ S ≤ 1000000) {M : Int} (hM : 0 ≤ M) (hn : -M ≤ y ∧ y ≤ M) :
    -(M * 401 + 1000000) ≤ fst D T B S y ∧ fst D T B S y ≤ M * 401 + 1000000 := by
  have hd : D * B ≤ 400 * B := Int.mul_le_mul_of_nonneg_right r1.2 (by omega)
  have hd0 : 0 ≤ D * B := Int.mul_nonneg (by omega) (by omega)
  have h := mul_bd (x := y) (b := D * B + T) (K := M) (L := 401 * B) hn (by omega) hM
  rw [Int.mul_comm y] at h
  have e : M * (401 * B) = (M * 401) * B := by rw [Int.mul_assoc]
  rw [e] at h
  unfold fst
  have hB : 0 < B := by omega
  generalize (D * B + T) * y = Z at h ⊢
  constructor
  · rw [Int.le_ediv_iff_mul_le hB, Int.neg_mul, Int.add_mul]
    omega
  · have g : (Z + S) / B < M * 401 + 1000000 + 1 := by
      rw [Int.ediv_lt_iff_lt_mul hB, Int.add_mul, Int.add_mul]
      omega
    omega
theorem fst_round {D T B S y : Int} (hB : 1 ≤ B) : fst D T B S (y + B) = fst D T B S y + (D * B + T) := by
  unfold fst
  have e : (D * B + T) * (y + B) + S = ((D * B + T) * y + S) + (D * B + T) * B := by
    rw [Int.mul_add]
    omega
  rw [e]
  exact Int.add_mul_ediv_right _ _ (by omega)
/-- how many of the n years from y on are long -/
def longs (T B S y : Int) (n : Nat) : Nat := ((List.range n).filter fun (i : Nat) => decide (add T B S (y + (i : Int) + 1) > add T B S (y + (i : Int)))).length
theorem longs_eq {T B S y : Int} (hT : 0 ≤ T ∧ T < B) (n : Nat) : (longs T B S y n : Int) = add T B S (y + n) - add T B S y := by
  induction n with
  | zero =>
    have e : y + ((0 : Nat) : Int) = y := by omega
    rw [e]
    show ((0 : Nat) : Int) = _
    omega
  | succ n ih =>
    have hst := add_step (S := S) (y := y + (n : Int)) hT
    unfold longs at ih ⊢
    rw [List.range_succ, List.filter_append, List.length_append, List.filter_cons]
    have e : y + ((n + 1 : Nat) : Int) = y + (n : Int) + 1 := by omega
    rw [e]
    by_cases h : add T B S (y + (n : Int) + 1) > add T B S (y + (n : Int))
    · rw [if_pos (decide_eq_true h)]
      show ((_ + ([n].length) : Nat) : Int) = _
      have : [n].length = 1 := rfl
      omega
    · rw [if_neg (by rw [decide_eq_false h]; decide)]
      show ((_ + ([] : List Nat).length : Nat) : Int) = _
      have : ([] : List Nat).length = 0 := rfl
      omega
theorem add_bds {T B S y m : Int} (hT : 0 ≤ T ∧ T < B) : m * T / B ≤ add T B S (y + m) - add T B S y ∧ add T B S (y + m) - add T B S y ≤ (m * T + B - 1) / B := by
  have hB : 0 < B := by omega
  unfold add
  rw [Int.mul_add, Int.mul_comm T m]
  have e := Int.mul_ediv_add_emod (T * y + S) B
  have r0 := Int.emod_nonneg (T * y + S) (show B ≠ 0 by omega)
  have r1 := Int.emod_lt_of_pos (T * y + S) hB
  have e2 := Int.mul_ediv_add_emod (m * T) B
  have q0 := Int.emod_nonneg (m * T) (show B ≠ 0 by omega)
  have q1 := Int.emod_lt_of_pos (m * T) hB
  have e3 := Int.mul_ediv_add_emod (T * y + m * T + S) B
  have u0 := Int.emod_nonneg (T * y + m * T + S) (show B ≠ 0 by omega)
  have u1 := Int.emod_lt_of_pos (T * y + m * T + S) hB
  constructor
  · have h : m * T / B + (T * y + S) / B ≤ (T * y + m * T + S) / B := by
      rw [Int.le_ediv_iff_mul_le hB, Int.add_mul, Int.mul_comm _ B, Int.mul_comm _ B]
      omega
    omega
  · rw [Int.le_ediv_iff_mul_le hB, Int.sub_mul, Int.mul_comm _ B, Int.mul_comm _ B]
    omega
theorem add_round {T B S : Int} (hB : 1 ≤ B) : add T B S (0 + B) - add T B S 0 = T := by
  unfold add
  rw [Int.zero_add, Int.mul_zero, Int.add_comm (T * B), Int.add_mul_ediv_right _ _ (by omega), Int.zero_add]
  omega
theorem yr_fst {D T B S y : Int} (r1 : 1 ≤ D) (r2 : 0 ≤ T ∧ T < B) (hs : 1 ≤ D * B + T) : yr D T B S (fst D T B S y) = y := by
  have h := fst_succ (D := D) (T := T) (B := B) (S := S) (y := y) (by omega)
  have a := add_step (S := S) (y := y) r2
  exact yr_eq (by omega) hs (Int.le_refl _) (by omega)
theorem yr_fst1 {D T B S y : Int} (r1 : 1 ≤ D) (r2 : 0 ≤ T ∧ T < B) (hs : 1 ≤ D * B + T) : yr D T B S (fst D T B S y - 1) = y - 1 := by
  have h := fst_succ (D := D) (T := T) (B := B) (S := S) (y := y - 1) (by omega)
  have a := add_step (S := S) (y := y - 1) r2
  rw [Int.sub_add_cancel] at h a
  exact yr_eq (by omega) hs (by omega) (by rw [Int.sub_add_cancel]; omega)

/-! ### rows of numbers that have a thing -/
def cnt (f : Int → Bool) (a : Int) (n : Nat) : Nat := ((List.range n).filter fun (i : Nat) => f (a + i)).length
theorem cnt_succ {f : Int → Bool} {a : Int} (n : Nat) : cnt f a (n + 1) = cnt f a n + (if f (a + n) = true then 1 else 0) := by
  unfold cnt
  rw [List.range_succ, List.filter_append, List.length_append]
  congr 1
  cases h : f (a + (n : Int)) <;> simp [h]
theorem cnt_add {f : Int → Bool} {a : Int} (m n : Nat) : cnt f a (m + n) = cnt f a m + cnt f (a + m) n := by
  induction n with
  | zero => simp [cnt]
  | succ n ih =>
    rw [show m + (n + 1) = m + n + 1 by omega, cnt_succ, cnt_succ, ih, show a + ((m + n : Nat) : Int) = a + (m : Int) + (n : Int) by omega]
    omega
theorem cnt_shift {f : Int → Bool} {c : Int} (per : ∀ y, f (y + c) = f y) (a : Int) (n : Nat) : cnt f (a + c) n = cnt f a n := by
  unfold cnt
  congr 2
  funext i
  rw [show a + c + (i : Int) = a + (i : Int) + c by omega, per]
theorem cnt_rounds {f : Int → Bool} {c : Nat} (per : ∀ y, f (y + c) = f y) (a : Int) (k r : Nat) : cnt f a (k * c + r) = k * cnt f a c + cnt f a r := by
  induction k with
  | zero => simp
  | succ k ih =>
    rw [show (k + 1) * c + r = c + (k * c + r) by rw [Nat.succ_mul]; omega, cnt_add, cnt_shift per, ih, Nat.succ_mul]
    omega
def yrs (f : Int → Bool) (a : Int) (n : Nat) : List Int := ((List.range n).filter fun (i : Nat) => f (a + i)).map fun (i : Nat) => a + (i : Int)
theorem yrs_mem {f : Int → Bool} {a : Int} {n : Nat} {y : Int} : y ∈ yrs f a n ↔ a ≤ y ∧ y < a + n ∧ f y = true := by
  unfold yrs
  simp only [List.mem_map, List.mem_filter, List.mem_range]
  constructor
  · rintro ⟨i, ⟨hi, hf⟩, rfl⟩
    exact ⟨by omega, by omega, hf⟩
  · rintro ⟨h1, h2, h3⟩
    refine ⟨(y - a).toNat, ⟨by omega, ?_⟩, by omega⟩
    rw [show a + ((y - a).toNat : Int) = y by omega]
    exact h3
theorem yrs_up (f : Int → Bool) (a : Int) (n : Nat) : (yrs f a n).Pairwise (· < ·) := by
  unfold yrs
  rw [List.pairwise_map]
  refine List.Pairwise.imp ?_ ((List.pairwise_lt_range (n := n)).filter _)
  intro i j h
  omega
theorem up_at {xs : List Int} (h : xs.Pairwise (· < ·)) {i j : Nat} {y z : Int} (hi : xs[i]? = some y) (hj : xs[j]? = some z) : i < j → y < z := by
  intro ij
  obtain ⟨i1, rfl⟩ := List.getElem?_eq_some_iff.mp hi
  obtain ⟨j1, rfl⟩ := List.getElem?_eq_some_iff.mp hj
  exact List.pairwise_iff_getElem.mp h i j i1 j1 ij
/-- two rising rows with the same members are the same -/
theorem up_same {xs ys : List Int} (h : xs.Pairwise (· < ·)) (h' : ys.Pairwise (· < ·)) (m : ∀ k, k ∈ xs ↔ k ∈ ys) : xs = ys := by
  induction xs generalizing ys with
  | nil =>
    cases ys with
    | nil => rfl
    | cons y ys => exact absurd ((m y).mpr List.mem_cons_self) List.not_mem_nil
  | cons x xs ih =>
    cases ys with
    | nil => exact absurd ((m x).mp List.mem_cons_self) List.not_mem_nil
    | cons y ys =>
      rw [List.pairwise_cons] at h h'
      have exy : x = y := by
        rcases List.mem_cons.mp ((m x).mp List.mem_cons_self) with e | e
        · exact e
        · rcases List.mem_cons.mp ((m y).mpr List.mem_cons_self) with e' | e'
          · exact e'.symm
          · have := h'.1 x e
            have := h.1 y e'
            omega
      subst exy
      congr 1
      refine ih h.2 h'.2 fun k => ⟨fun hk => ?_, fun hk => ?_⟩
      · rcases List.mem_cons.mp ((m k).mp (List.mem_cons_of_mem _ hk)) with e | e
        · have := h.1 k hk
          omega
        · exact e
      · rcases List.mem_cons.mp ((m k).mpr (List.mem_cons_of_mem _ hk)) with e | e
        · have := h'.1 k hk
          omega
        · exact e

theorem per_many {f : Int → Bool} {c : Nat} (per : ∀ y, f (y + c) = f y) (y t : Int) : f (y + t * c) = f y := by
  have up : ∀ (n : Nat) (y : Int), f (y + n * c) = f y := by
    intro n
    induction n with
    | zero => intro y; simp
    | succ n ih =>
      intro y
      rw [show y + ((n + 1 : Nat) : Int) * c = (y + n * c) + c by rw [Int.natCast_add, Int.add_mul]; omega, per, ih]
  by_cases h : 0 ≤ t
  · have := up t.toNat y
    rwa [show ((t.toNat : Nat) : Int) = t by omega] at this
  · have := up (-t).toNat (y + t * c)
    rw [show (((-t).toNat : Nat) : Int) = -t by omega, Int.neg_mul, show y + t * (c : Int) + -(t * (c : Int)) = y by omega] at this
    exact this.symm
theorem yrs_none {f : Int → Bool} {a : Int} {n : Nat} (h : yrs f a n = []) (k : Nat) (hk : k < n) : f (a + k) = false := by
  cases e : f (a + k) with
  | false => rfl
  | true =>
    have m : a + (k : Int) ∈ yrs f a n := yrs_mem.mpr ⟨by omega, by omega, e⟩
    rw [h] at m
    cases m
theorem yrs_first {f : Int → Bool} {a : Int} {n : Nat} {y : Int} {r : List Int} (h : yrs f a n = y :: r) : ∃ k : Nat, k < n ∧ y = a + k ∧ f (a + k) = true ∧ ∀ j : Nat, j < k → f (a + j) = false := by
  have m := yrs_mem.mp (show y ∈ yrs f a n by rw [h]; exact List.mem_cons_self)
  have up := yrs_up f a n
  rw [h, List.pairwise_cons] at up
  refine ⟨(y - a).toNat, by omega, by omega, ?_, fun j hj => ?_⟩
  · rw [show a + ((y - a).toNat : Int) = y by omega]
    exact m.2.2
  · cases e : f (a + j) with
    | false => rfl
    | true =>
      have mj : a + (j : Int) ∈ yrs f a n := yrs_mem.mpr ⟨by omega, by omega, e⟩
      rw [h] at mj
      rcases List.mem_cons.mp mj with z | z
      · omega
      · have := up.1 _ z
        omega
theorem yrs_later {f : Int → Bool} {a : Int} {n m : Nat} (hm : m ≤ n) : (yrs f a n).filter (fun y => decide (y ≥ a + m)) = yrs f (a + m) (n - m) := by
  refine up_same ((yrs_up f a n).filter _) (yrs_up f (a + m) (n - m)) fun k => ?_
  rw [List.mem_filter, yrs_mem, yrs_mem]
  simp only [decide_eq_true_eq]
  constructor
  · rintro ⟨⟨h1, h2, h3⟩, h4⟩
    exact ⟨by omega, by omega, h3⟩
  · rintro ⟨h1, h2, h3⟩
    exact ⟨⟨by omega, by omega, h3⟩, by omega⟩
/-- none from a + m on in this turn: the first of the next turn is the first -/
theorem yrs_over {f : Int → Bool} {c : Nat} (per : ∀ y, f (y + c) = f y) {a : Int} {m : Nat} {y : Int} {r : List Int} (hm : m ≤ c) (h : yrs f a c = y :: r) (no : yrs f (a + m) (c - m) = []) :
    ∃ k : Nat, k < c ∧ y + c = a + m + k ∧ f (a + m + k) = true ∧ ∀ j : Nat, j < k → f (a + m + j) = false := by
  obtain ⟨k, kc, rfl, hk, before⟩ := yrs_first h
  have km : k < m := by
    rcases Nat.lt_or_ge k m with l | g
    · exact l
    · have := yrs_none no (k - m) (by omega)
      rw [show a + (m : Int) + ((k - m : Nat) : Int) = a + k by omega, hk] at this
      cases this
  refine ⟨k + c - m, by omega, by omega, ?_, fun j hj => ?_⟩
  · rw [show a + (m : Int) + ((k + c - m : Nat) : Int) = a + k + c by omega, per]
    exact hk
  · rcases Nat.lt_or_ge (m + j) c with l | g
    · exact yrs_none no j (by omega)
    · have := before (m + j - c) (by omega)
      rw [← per, show a + ((m + j - c : Nat) : Int) + c = a + m + j by omega] at this
      exact this
theorem yrs_cnt (f : Int → Bool) (a : Int) (n : Nat) : (yrs f a n).length = cnt f a n := by
  unfold yrs cnt
  rw [List.length_map]

/-- the first of a row, None where there is none -/
def hd : List Int → V
  | [] => .non
  | y :: _ => .int y
theorem hd_first {f : Int → Bool} {a : Int} {n k : Nat} (kn : k < n) (hk : f (a + k) = true) (before : ∀ j : Nat, j < k → f (a + j) = false) : hd (yrs f a n) = .int (a + k) := by
  cases h : yrs f a n with
  | nil =>
    have := yrs_none h k kn
    rw [hk] at this
    cases this
  | cons y r =>
    obtain ⟨k', kn', rfl, hk', before'⟩ := yrs_first h
    rcases Nat.lt_trichotomy k k' with l | e | l
    · rw [before' k l] at hk
      cases hk
    · rw [e]
      rfl
    · rw [before k' l] at hk'
      cases hk'
theorem hd_none {f : Int → Bool} {a : Int} {n : Nat} (no : ∀ k : Nat, k < n → f (a + k) = false) : hd (yrs f a n) = .non := by
  cases h : yrs f a n with
  | nil => rfl
  | cons y r =>
    obtain ⟨k, kn, _, hk, _⟩ := yrs_first h
    rw [no k kn] at hk
    cases hk
/-- where a row from a later year on is empty, the first one of the whole row a turn later -/
def hdOr (zs xs : List Int) (c : Int) : V := match zs, xs with
  | z :: _, _ => .int z
  | [], y :: _ => .int (y + c)
  | [], [] => .non
theorem hd_turn {f : Int → Bool} {c : Nat} (per : ∀ y, f (y + c) = f y) {a : Int} {m : Nat} (hm : m ≤ c) : hd (yrs f (a + m) c) = hdOr (yrs f (a + m) (c - m)) (yrs f a c) c := by
  cases hz : yrs f (a + m) (c - m) with
  | cons z r =>
    obtain ⟨k, kc, rfl, hk, before⟩ := yrs_first hz
    exact hd_first (by omega) hk before
  | nil =>
    cases hx : yrs f a c with
    | cons y r =>
      obtain ⟨k, kc, e, hk, before⟩ := yrs_over per hm hx hz
      rw [hd_first kc hk before, ← e]
      rfl
    | nil =>
      refine hd_none fun k kc => ?_
      by_cases l : m + k < c
      · have := yrs_none hx (m + k) l
        rwa [show a + ((m + k : Nat) : Int) = a + m + k by omega] at this
      · have := yrs_none hx (m + k - c) (by omega)
        rw [← per, show a + ((m + k - c : Nat) : Int) + c = a + m + k by omega] at this
        exact this
theorem sm_hd {H : Hp} {n : Nat} (xs : List Int) : Sm H n (hd xs) (hd xs) := by
  cases xs with
  | nil => exact .non
  | cons x xs => exact .int x
theorem sm_ints {H : Hp} {n : Nat} {a b : Addr} {ns : List Int} (ha : H a = some (.tup (ns.map V.int))) (hb : H b = some (.tup (ns.map V.int))) (hz : ns.length ≤ 1000) : Sm H (n + 1) (.ref a) (.ref b) :=
  .tup ha hb rfl (by rw [List.length_map]; exact hz) fun i x y hx hy => by
    rw [hx] at hy
    cases hy
    rw [List.getElem?_map] at hx
    cases hz : ns[i]? with
    | none => rw [hz] at hx; cases hx
    | some z => rw [hz] at hx; cases hx; exact .int z

theorem few {xs ys : List Int} (nd : xs.Nodup) (sub : ∀ x ∈ xs, x ∈ ys) : xs.length ≤ ys.length := by
  induction xs generalizing ys with
  | nil => exact Nat.zero_le _
  | cons x xs ih =>
    rw [List.nodup_cons] at nd
    have mx := sub x List.mem_cons_self
    have h := ih (ys := ys.erase x) nd.2 fun y hy => (List.mem_erase_of_ne (fun (e : y = x) => nd.1 (e ▸ hy))).mpr (sub y (List.mem_cons_of_mem _ hy))
    rw [List.length_erase_of_mem mx] at h
    have := List.length_pos_of_mem mx
    rw [List.length_cons]
    omega
theorem ex_put {H H' : Hp} {l : Addr} {o : HO} (e : Ex H H') (n : H l = none) : Ex H (upd H' l o) := fun a u h => by
  have ne : a ≠ l := fun z => by
    rw [z, n] at h
    cases h
  rw [upd_ne ne]
  exact e a u h
theorem inV_int (k : Int) : ∀ xs : List Int, inV (.int k) (xs.map V.int) = decide (k ∈ xs) := fun xs => by
  induction xs with
  | nil => rfl
  | cons x xs ih =>
    unfold inV at ih ⊢
    rw [List.map_cons, List.any_cons, ih]
    by_cases e : x = k
    · subst e
      simp [eqV]
    · have e' : ¬ k = x := fun z => e z.symm
      simp [eqV, e, e']
theorem flat_ints (xs : List Int) : (xs.map V.int).all flatV = true := by
  rw [List.all_map, List.all_eq_true]
  intro x _
  rfl
theorem cut_tail (xs : List V) : cutV xs (some 1) none = xs.drop 1 := by
  unfold cutV HT.sIx
  cases xs with
  | nil => rfl
  | cons x xs => simp
theorem cut_head (xs : List V) : cutV xs none (some 1) = xs.take 1 := by
  unfold cutV HT.sIx
  cases xs with
  | nil => rfl
  | cons x xs => simp
theorem given_all (n : Nat) (v : Nat → V) : given n (fun _ => true) v = (List.range n).map v := by
  unfold given
  rw [List.filter_eq_self.mpr fun _ _ => rfl]
theorem range_ints (xs : List Int) (g : Int → Int) : ((List.range xs.length).map fun i => V.int (g (xs[i]?.getD 0))) = (xs.map g).map V.int := by
  refine List.ext_getElem? fun i => ?_
  simp only [List.getElem?_map]
  by_cases h : i < xs.length
  · rw [List.getElem?_range h]
    show some (V.int (g (xs[i]?.getD 0))) = _
    rw [List.getElem?_eq_getElem h]
    rfl
  · rw [List.getElem?_eq_none (by rw [List.length_range]; omega), List.getElem?_eq_none (by omega)] <;> rfl
theorem given_ints (n : Nat) (p : Nat → Bool) (g : Nat → Int) : given n p (fun j => V.int (g j)) = (((List.range n).filter p).map g).map V.int := by
  unfold given
  rw [List.map_map]
  rfl
theorem none_any (n : Nat) (p : Nat → Bool) (g : Nat → Int) : decide (((List.range n).filter p).map g = []) = !((List.range n).any p) := by
  rw [Bool.eq_iff_iff, decide_eq_true_iff, List.map_eq_nil_iff, List.filter_eq_nil_iff]
  simp
theorem inV_any (k : Int) (n : Nat) (g : Nat → Int) : inV (.int k) (((List.range n).map g).map V.int) = (List.range n).any fun j => decide (g j = k) := by
  rw [inV_int, Bool.eq_iff_iff, decide_eq_true_iff, List.any_eq_true, List.mem_map]
  constructor
  · rintro ⟨j, hj, e⟩
    exact ⟨j, hj, decide_eq_true e⟩
  · rintro ⟨j, hj, e⟩
    exact ⟨j, hj, of_decide_eq_true e⟩
theorem ite_else {b : Bool} {X Y : Prop} (h : b = true → Y → X) (y : Y) : if b = true then X else Y := by
  cases b with
  | false => exact y
  | true => exact h rfl y
theorem if_join {b : Bool} {X : Prop} {N : Hp → Prop} {H : Hp} (h : b = true → (∀ H', Ex H H' → N H') → X) (n : ∀ H', Ex H H' → N H') : if b = true then X else N H := by
  cases b with
  | false => exact n H (Ex.refl H)
  | true => exact h rfl n
theorem iteD {c A B : Prop} [Decidable c] (hc : c) (h : A) : if decide c = true then A else B := by
  rw [decide_eq_true hc]
  exact iteT h
theorem iteND {c A B : Prop} [Decidable c] (hc : ¬ c) (h : B) : if decide c = true then A else B := by
  rw [decide_eq_false hc]
  exact iteF h
theorem at_map {n : Nat} {g : Nat → V} {i : Int} (h0 : 0 ≤ i) (h1 : i.toNat < n) : atI ((List.range n).map g) i = some (g i.toNat) := by
  unfold atI ixN
  rw [List.length_map, List.length_range, if_pos h0, if_pos (by omega)]
  show ((List.range n).map g)[i.toNat]? = _
  rw [List.getElem?_map, List.getElem?_range h1]
  rfl
section
variable {K : PySem.W.Frag} {H : Hp} {Q : VK} {σ : L2.St} {a b : Addr} {i j k : Nat} {xs zs : List Int}
theorem ix_first {x : Int} {xs : List Int} (ha : SqL K H a ((x :: xs).map V.int)) (q : Q (.int x) H) : rIxL K (.ref a) (.int 0) H Q := ⟨a, _, 0, _, rfl, rfl, ha, by unfold atI ixN; simp, q⟩
theorem if_hd (hσ : σ[i]? = some (some (.ref a))) (ha : SqL K H a (xs.map V.int)) (q : Q (hd xs) H) : if (!decide (xs = [])) = true then tOp (rIxL K) (tVar i) (tC (.int 0)) σ H Q else tC .non σ H Q := by
  cases xs with
  | nil => exact iteF q
  | cons x xs => exact iteT ⟨_, hσ, ix_first ha q⟩
theorem if_hdOr {c : Int} (hσ : σ[i]? = some (some (.ref a))) (hj : σ[j]? = some (some (.int c))) (ha : SqL K H a (xs.map V.int)) (e : zs = []) (q : Q (hdOr zs xs c) H) : if (!decide (xs = [])) = true then tOp (rI0 fun i j => .int (i + j)) (tOp (rIxL K) (tVar i) (tC (.int 0))) (tVar j) σ H Q else tC .non σ H Q := by
  subst e
  cases xs with
  | nil => exact iteF q
  | cons x xs => exact iteT ⟨_, hσ, ix_first (Q := fun x H1 => tVar j σ H1 fun y H2 => rI0 (fun i j => .int (i + j)) x y H2 Q) ha ⟨_, hj, _, _, rfl, rfl, q⟩⟩
theorem if_later {c : Int} (hi : σ[i]? = some (some (.ref a))) (hj : σ[j]? = some (some (.ref b))) (hk : σ[k]? = some (some (.int c))) (ha : H a = some (.lst (zs.map V.int))) (hb : H b = some (.lst (xs.map V.int))) (q : ∀ H', Ex H H' → Q (hdOr zs xs c) H') :
    tIf (tTest (tOp (rNeD K) (tVar i) (tLst tNil))) (tOp (rIxL K) (tVar i) (tC (.int 0))) (tIf (tTest (tOp (rNeD K) (tVar j) (tLst tNil))) (tOp (rI0 fun i j => .int (i + j)) (tOp (rIxL K) (tVar j) (tC (.int 0))) (tVar k)) (tC .non)) σ H Q := by
  refine ⟨_, hi, by decide, fun p np => ?_⟩
  have x := Ex.new (o := .lst []) np
  refine ne_lsts (ns := zs) (ms := []) (sq_of (x _ _ ha)) (sq_of upd_same) ⟨_, rfl, ?_⟩
  cases zs with
  | cons z zs => exact iteT ⟨_, hi, ix_first (sq_of (x _ _ ha)) (q _ x)⟩
  | nil =>
    refine iteF ⟨_, hj, by decide, fun p' np' => ?_⟩
    have x' := Ex.new (o := .lst []) np'
    have xx := x.trans x'
    exact ne_lsts (ns := xs) (ms := []) (sq_of (xx _ _ hb)) (sq_of upd_same) ⟨_, rfl, if_hdOr hj hk (sq_of (xx _ _ hb)) rfl (q _ xx)⟩
end

/-! ### two lands alike -/
theorem fst_rounds {D T B S y : Int} (hB : 1 ≤ B) (t : Int) : fst D T B S (y + t * B) = fst D T B S y + t * (D * B + T) := by
  unfold fst
  rw [show (D * B + T) * (y + t * B) + S = (D * B + T) * y + S + t * (D * B + T) * B by
    rw [Int.mul_add, ← Int.mul_assoc (D * B + T) t B, Int.mul_comm (D * B + T) t]; omega]
  exact Int.add_mul_ediv_right _ _ (by omega)
theorem by_rounds {F : Int → Int} {c s : Int} (h : ∀ y, F (y + c) = F y + s) (y t : Int) : F (y + t * c) = F y + t * s := by
  have up : ∀ (n : Nat) (y : Int), F (y + n * c) = F y + n * s := by
    intro n
    induction n with
    | zero => intro y; simp
    | succ n ih =>
      intro y
      rw [show y + ((n + 1 : Nat) : Int) * c = (y + n * c) + c by rw [Int.natCast_add, Int.add_mul]; omega, h, ih, Int.natCast_add, Int.add_mul]
      omega
  by_cases l : 0 ≤ t
  · have := up t.toNat y
    rwa [show ((t.toNat : Nat) : Int) = t by omega] at this
  · have := up (-t).toNat (y + t * c)
    rw [show (((-t).toNat : Nat) : Int) = -t by omega, Int.neg_mul, Int.neg_mul, show y + t * c + -(t * c) = y by omega] at this
    omega
def dif (D T B S D' T' B' S' y : Int) : Bool := decide (fst D T B S y ≠ fst D' T' B' S' y)
/-- alike through both bottoms is alike for ever -/
theorem alike_all {D T B S D' T' B' S' : Int} (hB : 1 ≤ B) (hB' : 1 ≤ B') (h : ∀ k : Nat, k < (B + B').toNat → dif D T B S D' T' B' S' (0 + k) = false) (y : Int) : fst D T B S y = fst D' T' B' S' y := by
  have same : ∀ y : Int, 0 ≤ y → y < B + B' → fst D T B S y = fst D' T' B' S' y := fun y y0 y1 => by
    have := h y.toNat (by omega)
    rw [show (0 : Int) + ((y.toNat : Nat) : Int) = y by omega] at this
    exact Classical.byContradiction fun ne => by
      unfold dif at this
      rw [decide_eq_true ne] at this
      cases this
  have step : ∀ y, fst D' T' B' S' (y + B) = fst D' T' B' S' y + (D * B + T) := fun y => by
    have m0 := Int.emod_nonneg y (show B' ≠ 0 by omega)
    have m1 := Int.emod_lt_of_pos y (show 0 < B' by omega)
    have dm := Int.mul_ediv_add_emod y B'
    rw [Int.mul_comm] at dm
    have e1 := fst_rounds (D := D') (T := T') (S := S') (y := y % B' + B) hB' (y / B')
    have e2 := fst_rounds (D := D') (T := T') (S := S') (y := y % B') hB' (y / B')
    have e3 := fst_rounds (D := D) (T := T) (S := S) (y := y % B') hB 1
    rw [Int.one_mul, Int.one_mul, same _ (by omega) (by omega), same _ m0 (by omega)] at e3
    rw [show y % B' + B + y / B' * B' = y + B by omega] at e1
    rw [show y % B' + y / B' * B' = y by omega] at e2
    omega
  have m0 := Int.emod_nonneg y (show B ≠ 0 by omega)
  have m1 := Int.emod_lt_of_pos y (show 0 < B by omega)
  have dm := Int.mul_ediv_add_emod y B
  rw [Int.mul_comm] at dm
  have e1 := fst_rounds (D := D) (T := T) (S := S) (y := y % B) hB (y / B)
  have e2 := by_rounds step (y % B) (y / B)
  rw [show y % B + y / B * B = y by omega] at e1 e2
  have := same (y % B) m0 (by omega)
  omega
theorem dif_comm {D T B S D' T' B' S' : Int} : dif D' T' B' S' D T B S = dif D T B S D' T' B' S' := by
  funext y
  unfold dif
  rw [Bool.eq_iff_iff, decide_eq_true_iff, decide_eq_true_iff]
  exact ne_comm

theorem cut_mem {xs : List V} {lo hi : Option Int} {x : V} (h : x ∈ cutV xs lo hi) : x ∈ xs := by
  unfold cutV at h
  exact List.mem_of_mem_drop (List.mem_of_mem_take h)
theorem cells_int {ns : List Int} {lo hi : Option Int} {i : Nat} {x : V} (h : (cutV (V.int 0 :: ns.map V.int) lo hi)[i]? = some x) : ∃ c : Int, x = .int c := by
  have hm := cut_mem (List.mem_of_getElem? h)
  rcases List.mem_cons.mp hm with rfl | there
  · exact ⟨0, rfl⟩
  · obtain ⟨c, _, rfl⟩ := List.mem_map.mp there
    exact ⟨c, rfl⟩

/-! ### what stands through a cell's turn -/
structure Cv (p : Addr) (cells : List V) (v : V) (D T B S : Int) (d : Addr) (n : Nat) (H : Hp) : Prop where
  hp : H p = some (.lst cells)
  ne : p ≠ d
  land : Land H v D T B S
  dk : Dk n H d
section
variable {p d : Addr} {cells : List V} {v : V} {D T B S : Int} {n m : Nat} {H H' : Hp}
theorem Cv.ex (c : Cv p cells v D T B S d n H) (e : Ex H H') : Cv p cells v D T B S d n H' := ⟨e _ _ c.hp, c.ne, c.land.ex e, c.dk.ex e⟩
theorem Cv.exd (c : Cv p cells v D T B S d n H) (e : ExD d H H') (k : Dk m H' d) : Cv p cells v D T B S d m H' := ⟨e _ _ c.ne c.hp, c.ne, e.land c.dk c.land, k⟩
end
def spLaw (K : PySem.W.Frag) : Sp := fun vs H Q _ => ∃ (a : Addr) (ns : List Int), vs = [.ref a] ∧ SqL K H a (ns.map V.int) ∧ ns.length ≤ 63 ∧ ∀ H', Q (.bl true) H'

section
variable {P : Program} {w : World} {K : PySem.W.Frag} {mg : Str → Option Value} {base : Heap}
theorem ok__law_whole (T : Txt K mg) : FnOk P w K mg base CX0 1 T._law_whole.f T._law_whole.fd ["thing"] spWhole := by
  refine T._law_whole.F.ok sc__law_whole (fun vs H Q E h => ?_) (fun cdv A outer s H vs Q E hr h => ?_)
  · obtain ⟨x, t, rfl, _⟩ := h
    rfl
  · obtain ⟨x, t, rfl, d, q⟩ := h
    have q0 := q H (Ex.refl H)
    refine ⟨_, (pss_one (ps_ret (pe_and (pe_callB call_isi (by rfl) T.isinstance (by decide +kernel) (pa_cons (pv 0) (pa_cons (pe_bltn (v := .ty "int") (by rfl) T.b_int (by decide +kernel) rfl) pa_nil))) (pe_one (pe_not (pe_callB call_isi (by rfl) T.isinstance (by decide +kernel) (pa_cons (pv 0) (pa_cons (pe_bltn (v := .ty "bool") (by rfl) T.b_bool (by decide +kernel) rfl) pa_nil)))))))), ?_⟩
    refine ⟨_, rfl, _, _, _, _, _, rfl, .ty _, d.ty, kit_kd t .int (by decide), _, rfl, ?_⟩
    cases d
    case non => exact iteF q0
    case str => exact iteF q0
    case lst => exact iteF q0
    case tup => exact iteF q0
    case bl b => exact iteT ⟨_, rfl, _, _, _, _, _, rfl, .ty _, Dat.ty (.bl b), kit_kd .bl .bl (by decide), _, rfl, q0⟩
    case int i => exact iteT ⟨_, rfl, _, _, _, _, _, rfl, .ty _, Dat.ty (.int i), kit_kd .int .bl (by decide), _, rfl, q0⟩
end

section
variable {P : Program} {w : World} {K : PySem.W.Frag} {mg : Str → Option Value} {base : Heap}
/-- the first year that parts two lands -/
def parted (D T B S D' T' B' S' : Int) : V := hd (yrs (dif D T B S D' T' B' S') 0 (B + B').toNat)
theorem parted_comm {D T B S D' T' B' S' : Int} : parted D' T' B' S' D T B S = parted D T B S D' T' B' S' := by
  unfold parted
  rw [dif_comm, Int.add_comm]
theorem parted_non {D T B S D' T' B' S' : Int} (hB : 1 ≤ B) (hB' : 1 ≤ B') (h : parted D T B S D' T' B' S' = .non) (y : Int) : fst D T B S y = fst D' T' B' S' y := by
  refine alike_all hB hB' (fun k hk => ?_) y
  unfold parted at h
  cases e : yrs (dif D T B S D' T' B' S') 0 (B + B').toNat with
  | nil => exact yrs_none e k hk
  | cons z r => rw [e] at h; cases h
theorem parted_cases {D T B S D' T' B' S' : Int} : parted D T B S D' T' B' S' = .non ∨ ∃ k : Nat, parted D T B S D' T' B' S' = .int k ∧ k < (B + B').toNat ∧ fst D T B S k ≠ fst D' T' B' S' k ∧ ∀ j : Nat, j < k → fst D T B S j = fst D' T' B' S' j := by
  unfold parted
  cases e : yrs (dif D T B S D' T' B' S') 0 (B + B').toNat with
  | nil => exact .inl rfl
  | cons z r =>
    obtain ⟨k, kn, rfl, hk, before⟩ := yrs_first e
    refine .inr ⟨k, congrArg V.int (by omega), kn, ?_, fun j hj => ?_⟩
    · rw [show (0 : Int) + (k : Int) = k by omega] at hk
      exact of_decide_eq_true hk
    · have := before j hj
      rw [show (0 : Int) + (j : Int) = j by omega] at this
      exact Classical.byContradiction fun ne => by
        unfold dif at this
        rw [decide_eq_true ne] at this
        cases this
theorem parted_self {D T B S : Int} : parted D T B S D T B S = .non := by
  rcases parted_cases (D := D) (T := T) (B := B) (S := S) (D' := D) (T' := T) (B' := B) (S' := S) with h | ⟨k, _, _, h, _⟩
  · exact h
  · exact absurd rfl h
def spParted : Sp := fun vs H Q _ => ∃ v D T B S v' D' T' B' S', vs = [v, v'] ∧ Land H v D T B S ∧ Land H v' D' T' B' S' ∧ RetV (parted D T B S D' T' B' S') H Q
theorem ok_first_parting (T : Txt K mg) : FnOk P w K mg base CX0 5 T.first_parting.f T.first_parting.fd ["one", "other"] spParted := by
  have G_need_land : FnOk P w K mg base CX0 4 T.need_land.f T.need_land.fd ["thing"] spNeedLand := ok_need_land T
  have G_first_day : FnOk P w K mg base CX0 2 T.first_day.f T.first_day.fd ["land", "year"] spFirst := ok_first_day T
  refine T.first_parting.F.ok sc_first_parting (fun vs H Q E h => ?_) (fun cdv A outer s H vs Q E hr h => ?_)
  · obtain ⟨_, _, _, _, _, _, _, _, _, _, rfl, _⟩ := h
    rfl
  · obtain ⟨v, D, T1, B, S, v', D', T', B', S', rfl, hL, hL', q⟩ := h
    obtain ⟨a, rfl, ha, r1, r2, r3, r4⟩ := id hL
    obtain ⟨a', rfl, ha', r1', r2', r3', r4'⟩ := id hL'
    refine ⟨_, (pss_cons (ps_expr (pe_call G_need_land (hr.mono (by omega)) (by rfl) T.need_land.g T.need_land.F.kp T.need_land.b .nil pass0 (pa_cons (pv 0) pa_nil)))
      (pss_cons (ps_expr (pe_call G_need_land (hr.mono (by omega)) (by rfl) T.need_land.g T.need_land.F.kp T.need_land.b .nil pass0 (pa_cons (pv 1) pa_nil)))
      (pss_cons (ps_for PassesOwn.never rfl (pi_range1 rfl T.range (pa_cons (pe_op op_add (pe_ix ix_tup (pv 0) pe_int (fun _ _ => rfl)) (pe_ix ix_tup (pv 1) pe_int (fun _ _ => rfl))) pa_nil)) (pg_name (i := 2) sc_first_parting.nd rfl (Or.inl rfl))
        (pss_one (ps_if (pt_cmpR op_ne (pe_call G_first_day (hr.mono (by omega)) (by rfl) T.first_day.g T.first_day.F.kp T.first_day.b .nil pass0 (pa_cons (pv 0) (pa_cons (pv 2) pa_nil))) (pe_call G_first_day (hr.mono (by omega)) (by rfl) T.first_day.g T.first_day.F.kp T.first_day.b .nil pass0 (pa_cons (pv 1) (pa_cons (pv 2) pa_nil))) (nomark _))
        (pss_one (ps_ret (pv 2)))
        pss_nil)))
      (pss_one (ps_ret pe_non))))), ?_⟩
    refine ⟨_, rfl, _, D, T1, B, S, rfl, hL, fun H1 e1 => ⟨_, rfl, _, D', T', B', S', rfl, hL'.ex e1, fun H2 e2 => ?_⟩⟩
    have e12 := e1.trans e2
    refine ⟨_, rfl, a, _, 2, _, rfl, rfl, st_of (e12 _ _ ha), rfl, _, rfl, a', _, 2, _, rfl, rfl, st_of (e12 _ _ ha'), rfl, _, _, rfl, rfl, ?_⟩
    refine ⟨B + B', rfl, by omega, by omega, for_range (lo := 0) (n := (B + B').toNat) (fun i σ H' => (∃ z, σ = [some (.ref a), some (.ref a'), z]) ∧ Ex H H' ∧ ∀ j : Nat, j < i → dif D T1 B S D' T' B' S' (0 + j) = false) ⟨⟨_, rfl⟩, e12, fun j hj => absurd hj (Nat.not_lt_zero j)⟩ ?_ ?_⟩
    · rintro i σ H3 hi ⟨⟨z, rfl⟩, e3, no⟩
      refine ⟨_, rfl, _, rfl, _, D, T1, B, S, _, rfl, hL.ex e3, fun H4 e4 => ⟨_, rfl, _, rfl, _, D', T', B', S', _, rfl, hL'.ex (e3.trans e4), fun H5 e5 => ⟨rfl, _, rfl, ?_⟩⟩⟩
      have e35 := e3.trans (e4.trans e5)
      by_cases eq : fst D T1 B S (0 + i) = fst D' T' B' S' (0 + i)
      · rw [decide_eq_true (congrArg V.int eq)]
        refine iteF ⟨⟨_, rfl⟩, e35, fun j hj => ?_⟩
        by_cases l : j = i
        · subst l
          exact decide_eq_false fun ne => ne eq
        · exact no j (by omega)
      · rw [decide_eq_false (fun z => eq (V.int.inj z))]
        refine iteT ⟨_, rfl, ?_⟩
        have z := q H5 e35
        unfold parted at z
        rw [hd_first hi (decide_eq_true eq) no] at z
        exact z
    · rintro σ H3 ⟨⟨z, rfl⟩, e3, no⟩
      have z := q H3 e3
      unfold parted at z
      rw [hd_none no] at z
      exact z
def spAlike : Sp := fun vs H Q _ => ∃ v D T B S v' D' T' B' S', vs = [v, v'] ∧ Land H v D T B S ∧ Land H v' D' T' B' S' ∧ RetV (.bl (decide (parted D T B S D' T' B' S' = .non))) H Q
theorem ok_alike (T : Txt K mg) : FnOk P w K mg base CX0 6 T.alike.f T.alike.fd ["one", "other"] spAlike := by
  have G_first_parting : FnOk P w K mg base CX0 5 T.first_parting.f T.first_parting.fd ["one", "other"] spParted := ok_first_parting T
  refine T.alike.F.ok sc_alike (fun vs H Q E h => ?_) (fun cdv A outer s H vs Q E hr h => ?_)
  · obtain ⟨_, _, _, _, _, _, _, _, _, _, rfl, _⟩ := h
    rfl
  · obtain ⟨v, D, T1, B, S, v', D', T', B', S', rfl, hL, hL', q⟩ := h
    refine ⟨_, (pss_one (ps_ret (pe_cmpR op_isN (pe_call G_first_parting (hr.mono (by omega)) (by rfl) T.first_parting.g T.first_parting.F.kp T.first_parting.b .nil pass0 (pa_cons (pv 0) (pa_cons (pv 1) pa_nil))) pe_non (nomark _)))), ?_⟩
    exact ⟨_, rfl, _, rfl, v, D, T1, B, S, v', D', T', B', S', rfl, hL, hL', fun H1 e1 => ⟨rfl, q H1 e1⟩⟩
end

theorem Dk.mono {n m : Nat} {H : Hp} {d : Addr} (h : Dk n H d) (e : n ≤ m) : Dk m H d := by
  obtain ⟨x, y, z, hd, hy, hz⟩ := h
  exact ⟨x, y, z, hd, hy, by omega, by omega⟩
section
variable {P : Program} {w : World} {K : PySem.W.Frag} {mg : Str → Option Value} {base : Heap}
def spNear : Sp := fun vs H Q _ => ∃ (d : Addr) (v : V) (D T B S : Int) (n : Nat), vs = [.ref d, v] ∧ Land H v D T B S ∧ Dk n H d ∧ n < 700000 ∧ ∀ v' H' D' T' B' S', Land H' v' D' T' B' S' → ExD d H H' → Dk (n + 8) H' d → Q v' H'
theorem ok__law_near (T : Txt K mg) : FnOk P w K mg base CX0 4 T._law_near.f T._law_near.fd ["deck", "land"] spNear := by
  have G__law_pick : FnOk P w K mg base CX0 1 T._law_pick.f T._law_pick.fd ["deck", "size"] spPick := ok__law_pick T
  have G__law_any : FnOk P w K mg base CX0 3 T._law_any.f T._law_any.fd ["deck"] spAny := ok__law_any T
  refine T._law_near.F.ok sc__law_near (fun vs H Q E h => ?_) (fun cdv A outer s H vs Q E hr h => ?_)
  · obtain ⟨_, _, _, _, _, _, _, rfl, _⟩ := h
    rfl
  · obtain ⟨d, v, D, T', B, S, n, rfl, hL, hk, hn, q⟩ := h
    obtain ⟨a, rfl, ha, r1, r2, r3, r4⟩ := id hL
    refine ⟨_, (pss_cons (ps_asg (pv 1) (pg_tup rfl (pgs_cons (pg_name (i := 2) sc__law_near.nd rfl (Or.inl rfl)) (pgs_cons (pg_name (i := 3) sc__law_near.nd rfl (Or.inl rfl)) (pgs_cons (pg_name (i := 4) sc__law_near.nd rfl (Or.inl rfl)) (pgs_cons (pg_name (i := 5) sc__law_near.nd rfl (Or.inl rfl)) pgs_nil))))))
      (pss_cons (ps_set (i := 6) sc__law_near.nd rfl (Or.inl rfl) (pe_call G__law_pick (hr.mono (by omega)) (by rfl) T._law_pick.g T._law_pick.F.kp T._law_pick.b .nil pass0 (pa_cons (pv 0) (pa_cons pe_int pa_nil))))
      (pss_cut (ps_if (pt_cmpR op_lt (pv 6) pe_int (nomark _))
        (pss_cons (ps_set (i := 7) sc__law_near.nd rfl (Or.inl rfl) (pe_op op_add pe_int (pe_call G__law_pick (hr.mono (by omega)) (by rfl) T._law_pick.g T._law_pick.F.kp T._law_pick.b .nil pass0 (pa_cons (pv 0) (pa_cons (pe_op op_fdiv pe_int (pv 4)) pa_nil)))))
      (pss_one (ps_if (pt_chain op_le op_le (pe_un un_neg (pe_op op_pow pe_int pe_int)) (pe_op op_mul (pv 5) (pv 7)) (pe_op op_sub (pe_op op_pow pe_int pe_int) pe_int))
        (pss_one (ps_ret (pe_tup (pa_cons (pv 2) (pa_cons (pe_op op_mul (pv 3) (pv 7)) (pa_cons (pe_op op_mul (pv 4) (pv 7)) (pa_cons (pe_op op_add (pe_op op_mul (pv 5) (pv 7)) (pe_call G__law_pick (hr.mono (by omega)) (by rfl) T._law_pick.g T._law_pick.F.kp T._law_pick.b .nil pass0 (pa_cons (pv 0) (pa_cons (pv 7) pa_nil)))) pa_nil)))))))
        pss_nil)))
        pss_nil)
      (pss_cons (ps_if (pt_cmpR op_eq (pv 6) pe_int (nomark _))
        (pss_one (ps_ret (pe_tup (pa_cons (pv 2) (pa_cons (pv 3) (pa_cons (pv 4) (pa_cons (pe_callB (call_max2 rfl) (by rfl) T.max (by decide +kernel) (pa_cons (pe_un un_neg (pe_op op_pow pe_int pe_int)) (pa_cons (pe_callB (call_min2 rfl) (by rfl) T.min (by decide +kernel) (pa_cons (pe_op op_pow pe_int pe_int) (pa_cons (pe_op op_sub (pe_op op_add (pv 5) (pe_call G__law_pick (hr.mono (by omega)) (by rfl) T._law_pick.g T._law_pick.F.kp T._law_pick.b .nil pass0 (pa_cons (pv 0) (pa_cons pe_int pa_nil)))) pe_int) pa_nil))) pa_nil))) pa_nil)))))))
        pss_nil)
      (pss_cons (ps_if (pt_cmpR op_eq (pv 6) pe_int (nomark _))
        (pss_one (ps_ret (pe_tup (pa_cons (pv 2) (pa_cons (pe_call G__law_pick (hr.mono (by omega)) (by rfl) T._law_pick.g T._law_pick.F.kp T._law_pick.b .nil pass0 (pa_cons (pv 0) (pa_cons (pv 4) pa_nil))) (pa_cons (pv 4) (pa_cons (pv 5) pa_nil)))))))
        pss_nil)
      (pss_cons (ps_if (PW.pt (pw_and (pt_cmpR op_eq (pv 6) pe_int (nomark _)) (pw_and1 (pt_cmpR op_lt (pv 4) pe_int (nomark _)))))
        (pss_one (ps_ret (pe_tup (pa_cons (pv 2) (pa_cons (pe_callB (call_min2 rfl) (by rfl) T.min (by decide +kernel) (pa_cons (pv 3) (pa_cons (pv 4) pa_nil))) (pa_cons (pe_op op_add (pv 4) pe_int) (pa_cons (pv 5) pa_nil)))))))
        pss_nil)
      (pss_one (ps_ret (pe_call G__law_any (hr.mono (by omega)) (by rfl) T._law_any.g T._law_any.F.kp T._law_any.b .nil pass0 (pa_cons (pv 0) pa_nil)))))))))), ?_⟩
    refine ⟨_, rfl, a, _, rfl, st_of ha, rfl, _, _, rfl, _, _, rfl, _, _, rfl, _, _, rfl, rfl, ?_⟩
    refine ⟨_, rfl, d, 6, n, rfl, hk, by omega, ⟨by decide, by decide⟩, fun wy H1 w0 w1 e1 k1 => ?_⟩
    have p6 : (10 : Int) ^ (6 : Int).toNat = 1000000 := by decide
    have dv1 : 1 ≤ 60 / B := (Int.le_ediv_iff_mul_le (by omega)).mpr (by omega)
    have dv2 : 60 / B * B ≤ 60 := Int.ediv_mul_le 60 (by omega)
    have dv3 : 60 / B ≤ 60 := by
      have := Int.mul_le_mul_of_nonneg_left r3.1 (show 0 ≤ 60 / B by omega)
      omega
    refine ⟨fun σ H' => (∃ z, σ = [some (.ref d), some (.ref a), some (.int D), some (.int T'), some (.int B), some (.int S), some (.int wy), z]) ∧ ExD d H H' ∧ Dk (n + 2) H' d, ?_, ?_⟩
    · refine ⟨_, rfl, _, _, rfl, rfl, _, rfl, ?_⟩
      by_cases lw : wy < 2
      · rw [decide_eq_true lw]
        refine iteT ⟨_, rfl, _, rfl, _, _, rfl, rfl, ⟨by omega, by omega⟩, d, 60 / B, n + 1, rfl, k1, by omega, ⟨by omega, by omega⟩, fun t0 H2 t1 t2 e2 k2 => ⟨_, _, rfl, rfl, ?_⟩⟩
        have bt : (1 + t0) * B ≤ 60 := by
          have := Int.mul_le_mul_of_nonneg_right (show 1 + t0 ≤ 60 / B by omega) (show 0 ≤ B by omega)
          omega
        have bt0 : B ≤ (1 + t0) * B := by
          have := Int.mul_le_mul_of_nonneg_right (show 1 ≤ 1 + t0 by omega) (show 0 ≤ B by omega)
          omega
        have tt1 : 0 ≤ T' * (1 + t0) := Int.mul_nonneg r2.1 (by omega)
        have tt2 : T' * (1 + t0) < B * (1 + t0) := Int.mul_lt_mul_of_pos_right r2.2 (by omega)
        rw [Int.mul_comm (1 + t0) B] at bt bt0
        refine ⟨_, _, rfl, rfl, ⟨by decide, by decide, by decide⟩, _, rfl, _, rfl, _, rfl, _, _, rfl, rfl, cm_r (by omega), _, _, rfl, rfl, _, rfl, ?_⟩
        by_cases lo : -((10 : Int) ^ (6 : Int).toNat) ≤ S * (1 + t0)
        · rw [decide_eq_true lo]
          refine iteT ⟨_, _, rfl, rfl, ⟨by decide, by decide, by decide⟩, _, _, rfl, rfl, _, _, rfl, rfl, _, rfl, ?_⟩
          by_cases hi : S * (1 + t0) ≤ (10 : Int) ^ (6 : Int).toNat - 60
          · rw [decide_eq_true hi]
            rw [p6] at lo hi
            refine iteT ⟨_, rfl, _, rfl, _, rfl, _, _, rfl, rfl, cm_r (by omega), _, rfl, _, rfl, _, _, rfl, rfl, cm_l (by omega), _, rfl, _, rfl, _, _, rfl, rfl, cm_r (by omega), ?_⟩
            refine ⟨_, rfl, _, rfl, d, 1 + t0, n + 2, rfl, k2, by omega, ⟨by omega, by omega⟩, fun u H3 u0 u1 e3 k3 => ⟨_, _, rfl, rfl, by show 4 ≤ sizeLine; decide, fun p np => ?_⟩⟩
            exact q _ _ D (T' * (1 + t0)) (B * (1 + t0)) (S * (1 + t0) + u) ⟨p, rfl, upd_same, r1, ⟨by omega, by omega⟩, ⟨by omega, by omega⟩, ⟨by omega, by omega⟩⟩ ((e1.trans (e2.trans e3)).trans (ExD.of (Ex.new np))) ((k3.ex (Ex.new np)).mono (by omega))
          · rw [decide_eq_false hi]
            exact iteF ⟨⟨_, rfl⟩, e1.trans e2, k2⟩
        · rw [decide_eq_false lo]
          exact iteF ⟨_, rfl, iteF ⟨⟨_, rfl⟩, e1.trans e2, k2⟩⟩
      · rw [decide_eq_false lw]
        exact iteF ⟨⟨_, rfl⟩, e1, k1.mono (by omega)⟩
    · rintro σ H2 ⟨⟨z, rfl⟩, e2, k2⟩
      refine ⟨_, rfl, rfl, _, rfl, ?_⟩
      by_cases i2 : wy = 2
      · rw [decide_eq_true (congrArg V.int i2)]
        refine iteT ⟨_, rfl, _, rfl, _, rfl, _, _, rfl, rfl, ⟨by decide, by decide, by decide⟩, _, rfl, _, _, rfl, rfl, ⟨by decide, by decide, by decide⟩, _, rfl, _, rfl, d, 5, n + 2, rfl, k2, by omega, ⟨by decide, by decide⟩, fun u H3 u0 u1 e3 k3 => ⟨_, _, rfl, rfl, _, _, rfl, rfl, ?_⟩⟩
        refine ⟨_, _, rfl, _, _, rfl, by show 4 ≤ sizeLine; decide, fun p np => ?_⟩
        refine q _ _ D T' B _ ⟨p, rfl, upd_same, r1, r2, r3, ?_⟩ ((e2.trans e3).trans (ExD.of (Ex.new np))) ((k3.ex (Ex.new np)).mono (by omega))
        rw [p6]
        split <;> split <;> omega
      · rw [decide_eq_false (fun z => i2 (V.int.inj z))]
        refine iteF ⟨_, rfl, rfl, _, rfl, ?_⟩
        by_cases i3 : wy = 3
        · rw [decide_eq_true (congrArg V.int i3)]
          refine iteT ⟨_, rfl, _, rfl, _, rfl, d, B, n + 2, rfl, k2, by omega, ⟨by omega, by omega⟩, fun u H3 u0 u1 e3 k3 => ⟨_, rfl, _, rfl, by show 4 ≤ sizeLine; decide, fun p np => ?_⟩⟩
          exact q _ _ D u B S ⟨p, rfl, upd_same, r1, ⟨by omega, by omega⟩, r3, r4⟩ ((e2.trans e3).trans (ExD.of (Ex.new np))) ((k3.ex (Ex.new np)).mono (by omega))
        · rw [decide_eq_false (fun z => i3 (V.int.inj z))]
          have last : ∀ H3, Ex H2 H3 → tCall spAny [] E0 (tCons (tVar 0) tNil) [some (.ref d), some (.ref a), some (.int D), some (.int T'), some (.int B), some (.int S), some (.int wy), z] H3 Q := fun H3 e3 =>
            ⟨_, rfl, d, n + 2, rfl, k2.ex e3, by omega, fun v' H4 D' T2 B' S' L4 e4 k4 => q v' H4 D' T2 B' S' L4 (e2.trans ((ExD.of e3).trans e4)) (k4.mono (by omega))⟩
          refine iteF ⟨_, rfl, rfl, _, rfl, ?_⟩
          by_cases i4 : wy = 4
          · rw [decide_eq_true (congrArg V.int i4)]
            refine iteT ⟨_, rfl, _, _, rfl, rfl, _, rfl, ?_⟩
            by_cases l60 : B < 60
            · rw [decide_eq_true l60]
              refine iteT ⟨_, rfl, _, rfl, _, rfl, _, _, rfl, _, rfl, _, _, rfl, rfl, _, rfl, by show 4 ≤ sizeLine; decide, fun p np => ?_⟩
              refine q _ _ D _ (B + 1) S ⟨p, rfl, upd_same, r1, ?_, ⟨by omega, by omega⟩, r4⟩ (e2.trans (ExD.of (Ex.new np))) ((k2.ex (Ex.new np)).mono (by omega))
              split <;> omega
            · rw [decide_eq_false l60]
              exact iteF (last H2 (Ex.refl H2))
          · rw [decide_eq_false (fun z => i4 (V.int.inj z))]
            exact iteF (iteF (last H2 (Ex.refl H2)))
end

theorem scal_hd (x : V) (h : x = .non ∨ ∃ k : Nat, x = .int k) : scal x x = true := by
  rcases h with rfl | ⟨k, rfl⟩ <;> rfl
section
variable {P : Program} {w : World} {K : PySem.W.Frag} {mg : Str → Option Value} {base : Heap}
theorem ok_law (T : Txt K mg) {f : Addr} {fd : FuncData} (F : Fun K "law" "law" s_law f fd) : FnOk P w K mg base CX0 7 f fd ["script"] (spLaw K) := by
  have G_alike : FnOk P w K mg base CX0 6 T.alike.f T.alike.fd ["one", "other"] spAlike := ok_alike T
  have G_first_parting : FnOk P w K mg base CX0 5 T.first_parting.f T.first_parting.fd ["one", "other"] spParted := ok_first_parting T
  have G__law_near : FnOk P w K mg base CX0 4 T._law_near.f T._law_near.fd ["deck", "land"] spNear := ok__law_near T
  have G__law_whole : FnOk P w K mg base CX0 1 T._law_whole.f T._law_whole.fd ["thing"] spWhole := ok__law_whole T
  have G__law_begin : FnOk P w K mg base CX0 1 T._law_begin.f T._law_begin.fd ["land", "year"] spBeg := ok__law_begin T
  have G__law_same : FnOk P w K mg base CX0 4 T._law_same.f T._law_same.fd ["told", "due"] (spSame 3) := ok__law_same T 3
  have G__law_deck : FnOk P w K mg base CX0 1 T._law_deck.f T._law_deck.fd ["cell", "turn"] spDeck := ok__law_deck T
  have G__law_any : FnOk P w K mg base CX0 3 T._law_any.f T._law_any.fd ["deck"] spAny := ok__law_any T
  have G__law_far : FnOk P w K mg base CX0 3 T._law_far.f T._law_far.fd ["deck"] spFar := ok__law_far T
  refine F.ok sc_law (fun vs H Q E h => ?_) (fun cdv A outer s H vs Q E hr h => ?_)
  · obtain ⟨a, ns, rfl, _⟩ := h
    rfl
  · obtain ⟨a, ns, rfl, hS, hlen, q⟩ := h
    refine ⟨_, (pss_cons (ps_for PassesOwn.never rfl (pi_list (pe_slice sl_list (pe_op op_catL (pe_lst (pa_cons pe_int pa_nil)) (pv 0)) po_none (po_some pe_int))) (pg_name (i := 1) sc_law.nd rfl (Or.inl rfl))
        (pss_cons (ps_set (i := 2) sc_law.nd rfl (Or.inr rfl) (pe_call G__law_deck (hr.mono (by omega)) (by rfl) T._law_deck.g T._law_deck.F.kp T._law_deck.b .nil pass0 (pa_cons (pv 1) (pa_cons pe_int pa_nil))))
      (pss_cons (ps_for PassesOwn.never rfl (pi_range1 rfl T.range (pa_cons pe_int pa_nil)) (pg_name (i := 3) sc_law.nd rfl (Or.inl rfl))
        (pss_cons (ps_set (i := 4) sc_law.nd rfl (Or.inr rfl) (pe_call G__law_any (hr.mono (by omega)) (by rfl) T._law_any.g T._law_any.F.kp T._law_any.b .nil pass0 (pa_cons (pv 2) pa_nil)))
      (pss_cons (ps_set (i := 5) sc_law.nd rfl (Or.inr rfl) (pe_call G__law_near (hr.mono (by omega)) (by rfl) T._law_near.g T._law_near.F.kp T._law_near.b .nil pass0 (pa_cons (pv 2) (pa_cons (pv 4) pa_nil))))
      (pss_cons (ps_par (i := 6) (j := 7) (by rfl) sc_law.nd rfl rfl (by decide) rfl rfl (pa_cons (pe_call G_alike (hr.mono (by omega)) (by rfl) T.alike.g T.alike.F.kp T.alike.b .nil pass0 (pa_cons (pv 4) (pa_cons (pv 5) pa_nil))) (pa_cons (pe_call G_first_parting (hr.mono (by omega)) (by rfl) T.first_parting.g T.first_parting.F.kp T.first_parting.b .nil pass0 (pa_cons (pv 4) (pa_cons (pv 5) pa_nil))) pa_nil)) (by rfl))
      (pss_cons (ps_if (pt_not (pt_val (pe_call G__law_same (hr.mono (by omega)) (by rfl) T._law_same.g T._law_same.F.kp T._law_same.b .nil pass0 (pa_cons (pe_lst (pa_cons (pv 6) (pa_cons (pe_call G_alike (hr.mono (by omega)) (by rfl) T.alike.g T.alike.F.kp T.alike.b .nil pass0 (pa_cons (pv 5) (pa_cons (pv 4) pa_nil))) pa_nil))) (pa_cons (pe_lst (pa_cons (pe_cmpR op_isN (pv 7) pe_non (nomark _)) (pa_cons (pe_cmpR op_isN (pv 7) pe_non (nomark _)) pa_nil))) pa_nil)))))
        (pss_one (ps_ret pe_bl))
        pss_nil)
      (pss_cons (ps_if (pt_cmpR op_ne (pe_call G_first_parting (hr.mono (by omega)) (by rfl) T.first_parting.g T.first_parting.F.kp T.first_parting.b .nil pass0 (pa_cons (pv 5) (pa_cons (pv 4) pa_nil))) (pv 7) (nomark _))
        (pss_one (ps_ret pe_bl))
        pss_nil)
      (pss_one (ps_if (pt_cmpR op_isN (pv 7) pe_non (nomark _))
        (pss_cons (ps_set (i := 8) sc_law.nd rfl (Or.inl rfl) (pe_op op_catL (pe_lc (own := [("k", 9)]) (g := gName 9) (by rfl) sc_law.nd (pi_range1 rfl T.range (pa_cons pe_int pa_nil)) (blkOk_by (own := [("k", 9)]) (N := ["script", "cell", "deck", "turn", "one", "other", "told", "year", "years", "k", "one_year"]) (sc := defScope s_law) (by decide +kernel)) (fun _ _ _ _ _ => (pg_name (i := 9) sc_law.nd rfl (Or.inl rfl))) (fun _ _ _ _ _ => pts_nil) (fun _ _ _ _ _ => (pe_call G__law_far (hr.mono (by omega)) (by rfl) T._law_far.g T._law_far.F.kp T._law_far.b .nil pass0 (pa_cons (pv 2) pa_nil)))) (pe_listRg rfl (by rfl) T.b_list (prg_2 (by rfl) T.range (pe_un un_neg pe_int) pe_int))))
      (pss_one (ps_if (pt_cmpR (op_neD hr.units) (pe_lc (own := [("one_year", 10)]) (g := gName 10) (by rfl) sc_law.nd (pi_list (pv 8)) (blkOk_by (own := [("one_year", 10)]) (N := ["script", "cell", "deck", "turn", "one", "other", "told", "year", "years", "k", "one_year"]) (sc := defScope s_law) (by decide +kernel)) (fun _ _ _ _ _ => (pg_name (i := 10) sc_law.nd rfl (Or.inl rfl))) (fun _ _ _ _ _ => (pts_one (pt_cmpR op_ne (pe_call G__law_begin (hr.mono (by omega)) (by rfl) T._law_begin.g T._law_begin.F.kp T._law_begin.b .nil pass0 (pa_cons (pv 4) (pa_cons (pv 10) pa_nil))) (pe_call G__law_begin (hr.mono (by omega)) (by rfl) T._law_begin.g T._law_begin.F.kp T._law_begin.b .nil pass0 (pa_cons (pv 5) (pa_cons (pv 10) pa_nil))) (nomark _)))) (fun _ _ _ _ _ => (pv 10))) (pe_lst pa_nil) (nomark _))
        (pss_one (ps_ret pe_bl))
        pss_nil)))
        (pss_cons (ps_if (PW.pt (pw_or (pt_not (pt_val (pe_call G__law_whole (hr.mono (by omega)) (by rfl) T._law_whole.g T._law_whole.F.kp T._law_whole.b .nil pass0 (pa_cons (pv 7) pa_nil)))) (pw_or (pt_cmpR op_lt (pv 7) pe_int (nomark _)) (pw_or1 (pt_cmpR op_eq (pe_call G__law_begin (hr.mono (by omega)) (by rfl) T._law_begin.g T._law_begin.F.kp T._law_begin.b .nil pass0 (pa_cons (pv 4) (pa_cons (pv 7) pa_nil))) (pe_call G__law_begin (hr.mono (by omega)) (by rfl) T._law_begin.g T._law_begin.F.kp T._law_begin.b .nil pass0 (pa_cons (pv 5) (pa_cons (pv 7) pa_nil))) (nomark _))))))
        (pss_one (ps_ret pe_bl))
        pss_nil)
      (pss_one (ps_if (pt_cmpR (op_neD hr.units) (pe_lc (own := [("k", 9)]) (g := gName 9) (by rfl) sc_law.nd (pi_range1 rfl T.range (pa_cons (pe_callB (call_min2 rfl) (by rfl) T.min (by decide +kernel) (pa_cons (pv 7) (pa_cons pe_int pa_nil))) pa_nil)) (blkOk_by (own := [("k", 9)]) (N := ["script", "cell", "deck", "turn", "one", "other", "told", "year", "years", "k", "one_year"]) (sc := defScope s_law) (by decide +kernel)) (fun _ _ _ _ _ => (pg_name (i := 9) sc_law.nd rfl (Or.inl rfl))) (fun _ _ _ _ _ => (pts_one (pt_cmpR op_ne (pe_call G__law_begin (hr.mono (by omega)) (by rfl) T._law_begin.g T._law_begin.F.kp T._law_begin.b .nil pass0 (pa_cons (pv 4) (pa_cons (pv 9) pa_nil))) (pe_call G__law_begin (hr.mono (by omega)) (by rfl) T._law_begin.g T._law_begin.F.kp T._law_begin.b .nil pass0 (pa_cons (pv 5) (pa_cons (pv 9) pa_nil))) (nomark _)))) (fun _ _ _ _ _ => (pv 9))) (pe_lst pa_nil) (nomark _))
        (pss_one (ps_ret pe_bl))
        pss_nil)))))))))))
      (pss_one (ps_if (PW.pt (pw_or (pt_cmpR op_isntT (pe_call G_alike (hr.mono (by omega)) (by rfl) T.alike.g T.alike.F.kp T.alike.b .nil pass0 (pa_cons (pv 4) (pa_cons (pv 4) pa_nil))) pe_bl (nomark _)) (pw_or1 (PW.pt (pw_and (pt_cmpR op_notN (pv 7) pe_non (nomark _)) (pw_and1 (pt_cmpR op_gt (pv 7) pe_int (nomark _))))))))
        (pss_one (ps_ret pe_bl))
        pss_nil)))))
      (pss_one (ps_ret (pe_and (pe_cmpR op_isT (pe_call G_alike (hr.mono (by omega)) (by rfl) T.alike.g T.alike.F.kp T.alike.b .nil pass0 (pa_cons (pe_tup (pa_cons pe_int (pa_cons pe_int (pa_cons pe_int (pa_cons pe_int pa_nil))))) (pa_cons (pe_tup (pa_cons pe_int (pa_cons pe_int (pa_cons pe_int (pa_cons pe_int pa_nil))))) pa_nil))) pe_bl (nomark _)) (pe_one (pe_cmpR op_eq (pe_call G_first_parting (hr.mono (by omega)) (by rfl) T.first_parting.g T.first_parting.F.kp T.first_parting.b .nil pass0 (pa_cons (pe_tup (pa_cons pe_int (pa_cons pe_int (pa_cons pe_int (pa_cons pe_int pa_nil))))) (pa_cons (pe_tup (pa_cons pe_int (pa_cons pe_int (pa_cons pe_int (pa_cons pe_int pa_nil))))) pa_nil))) pe_int (nomark _))))))), ?_⟩
    refine ⟨by show 1 ≤ sizeLine; decide, fun p0 n0 => ?_⟩
    refine ⟨_, rfl, p0, a, _, _, rfl, rfl, sq_of upd_same, ex_l (Ex.new n0) hS, ?_, fun p1 n1 => ?_⟩
    · rw [List.length_map]
      exact sz_of (by show 1 + ns.length ≤ 100000; omega)
    refine ⟨8, rfl, p1, _, rfl, sq_of upd_same, fun p2 n2 => ?_⟩
    refine ⟨p2, rfl, ⟨_, sq_of upd_same⟩, ?_⟩
    refine for_list (xs := cutV (V.int 0 :: ns.map V.int) none (some 8)) (fun i σ H' => (∃ y1 y2 y3 y4 y5 y6 y7 y8 y9 y10, σ = [some (.ref a), y1, y2, y3, y4, y5, y6, y7, y8, y9, y10]) ∧ H' p2 = some (.lst (cutV (V.int 0 :: ns.map V.int) none (some 8))))
      ⟨⟨_, _, _, _, _, _, _, _, _, _, rfl⟩, upd_same⟩ (fun i σ H' _ h => sq_of h.2) ?_ ?_
    · rintro i x σ H1 hx ⟨⟨y1, y2, y3, y4, y5, y6, y7, y8, y9, y10, rfl⟩, hp2⟩
      obtain ⟨c, rfl⟩ := cells_int hx
      generalize cutV (V.int 0 :: ns.map V.int) none (some 8) = cells at hp2 ⊢
      refine ⟨_, rfl, c, 8, rfl, fun d H2 nd e2 k2 => ?_⟩
      have ned : p2 ≠ d := ne_of_none hp2 nd
      have h2 := e2 _ _ hp2
      refine ⟨5, rfl, by decide, by decide, for_range (lo := 0) (n := 5) (fun j σ H' => (∃ y3 y4 y5 y6 y7 y8 y9 y10, σ = [some (.ref a), some (.int c), some (.ref d), y3, y4, y5, y6, y7, y8, y9, y10] ∧ (1 ≤ j → ∃ v D T B S yv, y4 = some v ∧ Land H' v D T B S ∧ y7 = some yv ∧ (yv = .non ∨ ∃ k : Nat, yv = .int k ∧ k ≤ 200))) ∧ H' p2 = some (.lst cells) ∧ Dk (8 + 50 * j) H' d) ⟨⟨_, _, _, _, _, _, _, _, rfl, fun z => absurd z (by decide)⟩, h2, k2⟩ ?_ ?_⟩
      · rintro j σ H3 hj ⟨⟨y3, y4, y5, y6, y7, y8, y9, y10, rfl, _⟩, h3, k3⟩
        refine ⟨_, rfl, d, _, rfl, k3, by omega, fun v H4 D T1 B S L4 e4 k4 => ?_⟩
        refine ⟨_, rfl, _, rfl, d, v, D, T1, B, S, _, rfl, L4, k4, by omega, fun v' H5 D' T' B' S' L5' e5 k5 => ?_⟩
        have L5 := e5.land k4 L4
        have h5 := e5 _ _ ned (e4 _ _ ned h3)
        obtain ⟨_, _, _, r1, r2, r3, r4⟩ := id L5
        obtain ⟨_, _, _, r1', r2', r3', r4'⟩ := id L5'
        clear e4 e5 k4 k3 h3 L4
        have cs := parted_cases (D := D) (T := T1) (B := B) (S := S) (D' := D') (T' := T') (B' := B') (S' := S')
        have alk := fun h => parted_non (D := D) (T := T1) (B := B) (S := S) (D' := D') (T' := T') (B' := B') (S' := S') r3.1 r3'.1 h
        have cm := parted_comm (D := D) (T := T1) (B := B) (S := S) (D' := D') (T' := T') (B' := B') (S' := S')
        have sc : scal (parted D T1 B S D' T' B' S') (parted D T1 B S D' T' B' S') = true := scal_hd _ (cs.imp id fun ⟨k, h, _⟩ => ⟨k, h⟩)
        refine ⟨_, rfl, _, rfl, v, D, T1, B, S, v', D', T', B', S', rfl, L5, L5', fun H6 e6 => ⟨_, rfl, _, rfl, v, D, T1, B, S, v', D', T', B', S', rfl, L5.ex e6, L5'.ex e6, fun H7 e7 => ⟨_, _, rfl, ?_⟩⟩⟩
        have e57 := e6.trans e7
        refine ⟨_, rfl, _, rfl, _, rfl, v', D', T', B', S', v, D, T1, B, S, rfl, L5'.ex e57, L5.ex e57, fun H8 e8 => ?_⟩
        rw [cm]
        refine ⟨by show 2 ≤ sizeLine; decide, fun pa na => ⟨_, rfl, rfl, _, rfl, rfl, by show 2 ≤ sizeLine; decide, fun pb nb => ?_⟩⟩
        have xa := Ex.new (o := .lst [.bl (decide (parted D T1 B S D' T' B' S' = .non)), .bl (decide (parted D T1 B S D' T' B' S' = .non))]) na
        have xb := Ex.new (o := .lst [.bl (decide (parted D T1 B S D' T' B' S' = .non)), .bl (decide (parted D T1 B S D' T' B' S' = .non))]) nb
        refine ⟨_, _, rfl, .lst (xb _ _ upd_same) upd_same rfl (by show 2 ≤ 1000; decide) (fun i x y hx hy => by
          rw [hx] at hy
          cases hy
          match i, hx with
          | 0, hx => cases hx; exact .bl _
          | 1, hx => cases hx; exact .bl _), fun H9 e9 => ⟨_, rfl, iteF ?_⟩⟩
        have e59 := e57.trans (e8.trans (xa.trans (xb.trans e9)))
        have L9 := L5.ex e59
        have L9' := L5'.ex e59
        refine ⟨_, rfl, _, rfl, v', D', T', B', S', v, D, T1, B, S, rfl, L9', L9, fun H10 e10 => ?_⟩
        rw [cm]
        refine ⟨_, rfl, sc, ?_⟩
        rw [decide_eq_true rfl]
        refine ⟨_, rfl, iteF ?_⟩
        have e510 := e59.trans e10
        have L10 := L5.ex e510
        have L10' := L5'.ex e510
        have h10 := e510 _ _ h5
        have k10 := k5.ex e510
        clear e6 e7 e57 e8 xa xb e9 e59 L9 L9' e10 L5 L5' h5 k5 cm
        refine ⟨_, rfl, rfl, _, rfl, ?_⟩
        rcases cs with cs | ⟨k, cs, kb, ne, before⟩
        · have same := alk cs
          rw [show decide (parted D T1 B S D' T' B' S' = .non) = true from decide_eq_true cs]
          refine iteT ?_
          refine ⟨6, rfl, by decide, by decide, fun Dl hD => ?_⟩
          have Dd : Dl ≠ d := fun z => by
            obtain ⟨_, _, _, hd, _⟩ := k10
            rw [z, hd] at hD
            cases hD
          refine lc_range (lo := 0) (n := 6) (fun i H' => ∃ acc : List Int, H' Dl = some (.lst (acc.map V.int)) ∧ acc.length = i ∧ ExD d H10 H' ∧ Dk (8 + 50 * j + 5 + 8 + 5 * i) H' d)
            ⟨[], upd_same, rfl, ExD.of (Ex.new hD), k10.ex (Ex.new hD)⟩ ?_ ?_
          · rintro i H11 hi ⟨acc, hacc, hal, e11, k11⟩
            refine ⟨rfl, _, rfl, d, _, rfl, k11, by omega, fun y H12 _ _ e12 k12 => ⟨acc.map V.int, e12 _ _ Dd hacc, by rw [List.length_map]; exact sz_lt (by omega), acc ++ [y], by rw [upd_same, List.map_append]; rfl, by rw [List.length_append]; show acc.length + 1 = i + 1; omega, ?_, ?_⟩⟩
            · intro b o nb hb
              rw [upd_ne (ne_of_none hb hD)]
              exact e12 _ _ nb (e11 _ _ nb hb)
            · obtain ⟨u1, u2, u3, hd, r⟩ := k12
              rw [show 8 + 50 * j + 5 + 8 + 5 * (i + 1) = 8 + 50 * j + 5 + 8 + 5 * i + 5 by omega]
              exact ⟨u1, u2, u3, by rw [upd_ne (Ne.symm Dd)]; exact hd, r⟩
          · rintro H11 ⟨acc, hacc, hal, e11, k11⟩
            have L11 := e11.land k10 L10
            have L11' := e11.land k10 L10'
            have h11 := e11 _ _ ned h10
            refine ⟨_, rfl, _, _, rfl, rfl, ⟨by decide, by decide, by decide, by decide, by decide⟩, fun pr nr => ?_⟩
            have xr := Ex.new (o := .lst (rgV (-3) 130)) nr
            have asR : rgV (-3) 130 = ((List.range 133).map fun (i : Nat) => (-3 : Int) + (i : Int)).map V.int := by
              unfold rgV
              rw [List.map_map]
              rfl
            refine ⟨Dl, pr, _, _, rfl, rfl, sq_of (xr _ _ hacc), sq_of upd_same, sz_of (by rw [rgV_length, List.length_map]; show acc.length + 133 ≤ 100000; omega), fun py ny => ?_⟩
            rw [asR] at xr ny
            rw [asR, ← List.map_append]
            have ly : (acc ++ (List.range 133).map fun (i : Nat) => (-3 : Int) + (i : Int)).length = 139 := by
              rw [List.length_append, List.length_map, List.length_range, hal]
            generalize acc ++ ((List.range 133).map fun (i : Nat) => (-3 : Int) + (i : Int)) = ys at ly ⊢
            have e12 := xr.trans (Ex.new (o := .lst (ys.map V.int)) ny)
            have hy : upd (upd H11 pr (.lst (((List.range 133).map fun (i : Nat) => (-3 : Int) + (i : Int)).map V.int))) py (.lst (ys.map V.int)) py = some (.lst (ys.map V.int)) := upd_same
            revert e12 hy
            generalize upd (upd H11 pr (.lst (((List.range 133).map fun (i : Nat) => (-3 : Int) + (i : Int)).map V.int))) py (.lst (ys.map V.int)) = H12
            intro e12 hy
            have L12 := L11.ex e12
            have L12' := L11'.ex e12
            have h12 := e12 _ _ h11
            have k12 := k11.ex e12
            refine ⟨_, rfl, py, rfl, ⟨_, sq_of hy⟩, fun D2 hD2 => ?_⟩
            refine lc_list (xs := ys.map V.int) (fun i H' => Ex H12 H' ∧ H' D2 = some (.lst [])) ⟨Ex.new hD2, upd_same⟩ (fun i H' _ p => sq_of (p.1 _ _ hy)) (fun i x H' hi p => ?_) (fun H' p => ?_)
            · obtain ⟨z, rfl⟩ : ∃ z : Int, x = .int z := by
                obtain ⟨z, _, e⟩ := List.mem_map.mp (List.mem_of_getElem? hi)
                exact ⟨z, e.symm⟩
              refine ⟨rfl, ⟨_, rfl, _, rfl, v, D, T1, B, S, z, rfl, L12.ex p.1, fun Ha ea => ⟨_, rfl, _, rfl, v', D', T', B', S', z, rfl, L12'.ex (p.1.trans ea), fun Hb eb => ⟨rfl, _, rfl, ?_⟩⟩⟩⟩
              rw [decide_eq_true (congrArg V.int (same z))]
              exact ⟨p.1.trans (ea.trans eb), (ea.trans eb) _ _ p.2⟩
            · obtain ⟨e13, h13⟩ := p
              refine ⟨by decide, fun pe ne => ?_⟩
              have xe := Ex.new (o := .lst []) ne
              refine ne_lsts (ns := []) (ms := []) (sq_of (xe _ _ h13)) (sq_of upd_same) ⟨_, rfl, iteF ?_⟩
              have e14 := e13.trans xe
              exact ⟨⟨_, _, _, _, _, _, _, _, rfl, fun _ => ⟨v, D, T1, B, S, _, rfl, L12.ex e14, rfl, .inl cs⟩⟩, e14 _ _ h12, (k12.ex e14).mono (by omega)⟩
        · have kb' : k ≤ 119 := by omega
          rw [show decide (parted D T1 B S D' T' B' S' = .non) = false from decide_eq_false (by rw [cs]; intro z; cases z)]
          refine iteF ?_
          generalize parted D T1 B S D' T' B' S' = yv at cs ⊢
          subst cs
          refine ⟨_, rfl, _, _, rfl, .int _, fun H11 e11 => ⟨_, rfl, iteF ⟨_, rfl, _, _, rfl, rfl, _, rfl, ?_⟩⟩⟩
          rw [decide_eq_false (show ¬ ((k : Nat) : Int) < 0 by omega)]
          refine iteF ⟨_, rfl, _, rfl, v, D, T1, B, S, k, rfl, L10.ex e11, fun H12 e12 => ⟨_, rfl, _, rfl, v', D', T', B', S', k, rfl, L10'.ex (e11.trans e12), fun H13 e13 => ⟨rfl, _, rfl, ?_⟩⟩⟩
          rw [decide_eq_false (fun z => ne (V.int.inj z))]
          have e13' := e11.trans (e12.trans e13)
          have L13 := L10.ex e13'
          have L13' := L10'.ex e13'
          refine iteF ⟨_, rfl, _, _, rfl, ?_⟩
          have mn : (if (9000 : Int) < ((k : Nat) : Int) then (9000 : Int) else ((k : Nat) : Int)) = k := if_neg (by omega)
          refine ⟨k, by show [V.int (if (9000 : Int) < ((k : Nat) : Int) then (9000 : Int) else ((k : Nat) : Int))] = _; rw [mn], by omega, by omega, fun D2 hD2 => ?_⟩
          refine lc_range (lo := 0) (n := k) (fun i H' => Ex H13 H' ∧ H' D2 = some (.lst [])) ⟨Ex.new hD2, upd_same⟩ (fun i H' hi p => ?_) (fun H' p => ?_)
          · refine ⟨rfl, ⟨_, rfl, _, rfl, v, D, T1, B, S, _, rfl, L13.ex p.1, fun Ha ea => ⟨_, rfl, _, rfl, v', D', T', B', S', _, rfl, L13'.ex (p.1.trans ea), fun Hb eb => ⟨rfl, _, rfl, ?_⟩⟩⟩⟩
            have bi := before i hi
            rw [decide_eq_true (congrArg V.int (by rw [show (0 : Int) + (i : Int) = i by omega]; exact bi))]
            exact ⟨p.1.trans (ea.trans eb), (ea.trans eb) _ _ p.2⟩
          · obtain ⟨e14, h14⟩ := p
            refine ⟨by decide, fun pe npe => ?_⟩
            have xe := Ex.new (o := .lst []) npe
            refine ne_lsts (ns := []) (ms := []) (sq_of (xe _ _ h14)) (sq_of upd_same) ⟨_, rfl, iteF ?_⟩
            have e15 := e13'.trans (e14.trans xe)
            exact ⟨⟨_, _, _, _, _, _, _, _, rfl, fun _ => ⟨v, D, T1, B, S, _, rfl, L10.ex e15, rfl, .inr ⟨k, rfl, by omega⟩⟩⟩, e15 _ _ h10, (k10.ex e15).mono (by omega)⟩
      · rintro σ H3 ⟨⟨y3, y4, y5, y6, y7, y8, y9, y10, rfl, at5⟩, h3, k3⟩
        obtain ⟨v, D, T1, B, S, yv, rfl, L3, rfl, hyv⟩ := at5 (by decide)
        refine ⟨_, rfl, _, rfl, v, D, T1, B, S, v, D, T1, B, S, rfl, L3, L3, fun H4 e4 => ?_⟩
        rw [parted_self]
        refine ⟨_, _, rfl, rfl, _, rfl, iteF ⟨_, rfl, rfl, _, rfl, ?_⟩⟩
        rcases hyv with rfl | ⟨k, rfl, kb⟩
        · exact iteF (iteF ⟨⟨_, _, _, _, _, _, _, _, _, _, rfl⟩, e4 _ _ h3⟩)
        · refine iteT ⟨_, rfl, _, _, rfl, rfl, _, rfl, ?_⟩
          rw [decide_eq_false (show ¬ (9000 : Int) < ((k : Nat) : Int) by omega)]
          exact iteF ⟨⟨_, _, _, _, _, _, _, _, _, _, rfl⟩, e4 _ _ h3⟩
    · rintro σ H1 ⟨⟨y1, y2, y3, y4, y5, y6, y7, y8, y9, y10, rfl⟩, hp2⟩
      have z1 : parted 5 2 4 3 5 1 2 1 = .non := by rfl
      have z2 : parted 5 1 2 0 5 1 2 1 = .int 1 := by rfl
      refine ⟨by show 4 ≤ sizeLine; decide, fun pa na => ⟨by show 4 ≤ sizeLine; decide, fun pb nb => ?_⟩⟩
      have xb := Ex.new (o := .tup [.int 5, .int 1, .int 2, .int 1]) nb
      refine ⟨.ref pa, 5, 2, 4, 3, .ref pb, 5, 1, 2, 1, rfl, ⟨pa, rfl, xb _ _ upd_same, by decide, by decide, by decide, by decide⟩, ⟨pb, rfl, upd_same, by decide, by decide, by decide, by decide⟩, fun H2 e2 => ?_⟩
      rw [z1]
      refine ⟨_, _, rfl, rfl, _, rfl, iteT ⟨by show 4 ≤ sizeLine; decide, fun pc nc => ⟨by show 4 ≤ sizeLine; decide, fun pd npd => ?_⟩⟩⟩
      have xd := Ex.new (o := .tup [.int 5, .int 1, .int 2, .int 1]) npd
      refine ⟨.ref pc, 5, 1, 2, 0, .ref pd, 5, 1, 2, 1, rfl, ⟨pc, rfl, xd _ _ upd_same, by decide, by decide, by decide, by decide⟩, ⟨pd, rfl, upd_same, by decide, by decide, by decide, by decide⟩, fun H3 e3 => ?_⟩
      rw [z2]
      exact ⟨rfl, q H3⟩
end

theorem all_mk {l : PySem.W.OpenLaw} {w : World} {K : PySem.W.Frag} {h : Heap} {mg : Str → Option Value} {fa : Addr} (X : K.In h) (G : h.Ns mainGlobals mg) (hfa : mg "law" = some (.ref fa))
    {f0 : Addr} {od0 an0 : Option Addr} {sl0 : Array (Option Value)} {oc0 kV0 dc0 pm0 cd0 ct0 : Value}
    (ya0 : PySem.W.nsIn K mainGlobals "is_whole" = some (some (.ref f0))) (yl0 : K.lookup f0 = some ⟨oc0, od0, .func (PySem.W.fnOf "is_whole" "is_whole" (defArgs s_is_whole) (defBody s_is_whole) (defScope s_is_whole) .none kV0 dc0 pm0 an0 cd0 ct0), sl0⟩) (yc0 : PySem.W.codeIn K cd0 "is_whole" = true) (yk0 : PySem.W.keepIn K (.ref f0) = true)
    {f1 : Addr} {od1 an1 : Option Addr} {sl1 : Array (Option Value)} {oc1 kV1 dc1 pm1 cd1 ct1 : Value}
    (ya1 : PySem.W.nsIn K mainGlobals "is_between" = some (some (.ref f1))) (yl1 : K.lookup f1 = some ⟨oc1, od1, .func (PySem.W.fnOf "is_between" "is_between" (defArgs s_is_between) (defBody s_is_between) (defScope s_is_between) .none kV1 dc1 pm1 an1 cd1 ct1), sl1⟩) (yc1 : PySem.W.codeIn K cd1 "is_between" = true) (yk1 : PySem.W.keepIn K (.ref f1) = true)
    {f2 : Addr} {od2 an2 : Option Addr} {sl2 : Array (Option Value)} {oc2 kV2 dc2 pm2 cd2 ct2 : Value}
    (ya2 : PySem.W.nsIn K mainGlobals "is_land" = some (some (.ref f2))) (yl2 : K.lookup f2 = some ⟨oc2, od2, .func (PySem.W.fnOf "is_land" "is_land" (defArgs s_is_land) (defBody s_is_land) (defScope s_is_land) .none kV2 dc2 pm2 an2 cd2 ct2), sl2⟩) (yc2 : PySem.W.codeIn K cd2 "is_land" = true) (yk2 : PySem.W.keepIn K (.ref f2) = true)
    {f3 : Addr} {od3 an3 : Option Addr} {sl3 : Array (Option Value)} {oc3 kV3 dc3 pm3 cd3 ct3 : Value}
    (ya3 : PySem.W.nsIn K mainGlobals "need_land" = some (some (.ref f3))) (yl3 : K.lookup f3 = some ⟨oc3, od3, .func (PySem.W.fnOf "need_land" "need_land" (defArgs s_need_land) (defBody s_need_land) (defScope s_need_land) .none kV3 dc3 pm3 an3 cd3 ct3), sl3⟩) (yc3 : PySem.W.codeIn K cd3 "need_land" = true) (yk3 : PySem.W.keepIn K (.ref f3) = true)
    {f4 : Addr} {od4 an4 : Option Addr} {sl4 : Array (Option Value)} {oc4 kV4 dc4 pm4 cd4 ct4 : Value}
    (ya4 : PySem.W.nsIn K mainGlobals "step_of" = some (some (.ref f4))) (yl4 : K.lookup f4 = some ⟨oc4, od4, .func (PySem.W.fnOf "step_of" "step_of" (defArgs s_step_of) (defBody s_step_of) (defScope s_step_of) .none kV4 dc4 pm4 an4 cd4 ct4), sl4⟩) (yc4 : PySem.W.codeIn K cd4 "step_of" = true) (yk4 : PySem.W.keepIn K (.ref f4) = true)
    {f5 : Addr} {od5 an5 : Option Addr} {sl5 : Array (Option Value)} {oc5 kV5 dc5 pm5 cd5 ct5 : Value}
    (ya5 : PySem.W.nsIn K mainGlobals "first_day" = some (some (.ref f5))) (yl5 : K.lookup f5 = some ⟨oc5, od5, .func (PySem.W.fnOf "first_day" "first_day" (defArgs s_first_day) (defBody s_first_day) (defScope s_first_day) .none kV5 dc5 pm5 an5 cd5 ct5), sl5⟩) (yc5 : PySem.W.codeIn K cd5 "first_day" = true) (yk5 : PySem.W.keepIn K (.ref f5) = true)
    {f6 : Addr} {od6 an6 : Option Addr} {sl6 : Array (Option Value)} {oc6 kV6 dc6 pm6 cd6 ct6 : Value}
    (ya6 : PySem.W.nsIn K mainGlobals "alike" = some (some (.ref f6))) (yl6 : K.lookup f6 = some ⟨oc6, od6, .func (PySem.W.fnOf "alike" "alike" (defArgs s_alike) (defBody s_alike) (defScope s_alike) .none kV6 dc6 pm6 an6 cd6 ct6), sl6⟩) (yc6 : PySem.W.codeIn K cd6 "alike" = true) (yk6 : PySem.W.keepIn K (.ref f6) = true)
    {f7 : Addr} {od7 an7 : Option Addr} {sl7 : Array (Option Value)} {oc7 kV7 dc7 pm7 cd7 ct7 : Value}
    (ya7 : PySem.W.nsIn K mainGlobals "first_parting" = some (some (.ref f7))) (yl7 : K.lookup f7 = some ⟨oc7, od7, .func (PySem.W.fnOf "first_parting" "first_parting" (defArgs s_first_parting) (defBody s_first_parting) (defScope s_first_parting) .none kV7 dc7 pm7 an7 cd7 ct7), sl7⟩) (yc7 : PySem.W.codeIn K cd7 "first_parting" = true) (yk7 : PySem.W.keepIn K (.ref f7) = true)
    {f8 : Addr} {od8 an8 : Option Addr} {sl8 : Array (Option Value)} {oc8 kV8 dc8 pm8 cd8 ct8 : Value}
    (ya8 : PySem.W.nsIn K mainGlobals "_law_deck" = some (some (.ref f8))) (yl8 : K.lookup f8 = some ⟨oc8, od8, .func (PySem.W.fnOf "_law_deck" "_law_deck" (defArgs s__law_deck) (defBody s__law_deck) (defScope s__law_deck) .none kV8 dc8 pm8 an8 cd8 ct8), sl8⟩) (yc8 : PySem.W.codeIn K cd8 "_law_deck" = true) (yk8 : PySem.W.keepIn K (.ref f8) = true)
    {f9 : Addr} {od9 an9 : Option Addr} {sl9 : Array (Option Value)} {oc9 kV9 dc9 pm9 cd9 ct9 : Value}
    (ya9 : PySem.W.nsIn K mainGlobals "_law_pick" = some (some (.ref f9))) (yl9 : K.lookup f9 = some ⟨oc9, od9, .func (PySem.W.fnOf "_law_pick" "_law_pick" (defArgs s__law_pick) (defBody s__law_pick) (defScope s__law_pick) .none kV9 dc9 pm9 an9 cd9 ct9), sl9⟩) (yc9 : PySem.W.codeIn K cd9 "_law_pick" = true) (yk9 : PySem.W.keepIn K (.ref f9) = true)
    {f10 : Addr} {od10 an10 : Option Addr} {sl10 : Array (Option Value)} {oc10 kV10 dc10 pm10 cd10 ct10 : Value}
    (ya10 : PySem.W.nsIn K mainGlobals "_law_whole" = some (some (.ref f10))) (yl10 : K.lookup f10 = some ⟨oc10, od10, .func (PySem.W.fnOf "_law_whole" "_law_whole" (defArgs s__law_whole) (defBody s__law_whole) (defScope s__law_whole) .none kV10 dc10 pm10 an10 cd10 ct10), sl10⟩) (yc10 : PySem.W.codeIn K cd10 "_law_whole" = true) (yk10 : PySem.W.keepIn K (.ref f10) = true)
    {f11 : Addr} {od11 an11 : Option Addr} {sl11 : Array (Option Value)} {oc11 kV11 dc11 pm11 cd11 ct11 : Value}
    (ya11 : PySem.W.nsIn K mainGlobals "_law_one" = some (some (.ref f11))) (yl11 : K.lookup f11 = some ⟨oc11, od11, .func (PySem.W.fnOf "_law_one" "_law_one" (defArgs s__law_one) (defBody s__law_one) (defScope s__law_one) .none kV11 dc11 pm11 an11 cd11 ct11), sl11⟩) (yc11 : PySem.W.codeIn K cd11 "_law_one" = true) (yk11 : PySem.W.keepIn K (.ref f11) = true)
    {f12 : Addr} {od12 an12 : Option Addr} {sl12 : Array (Option Value)} {oc12 kV12 dc12 pm12 cd12 ct12 : Value}
    (ya12 : PySem.W.nsIn K mainGlobals "_law_sort" = some (some (.ref f12))) (yl12 : K.lookup f12 = some ⟨oc12, od12, .func (PySem.W.fnOf "_law_sort" "_law_sort" (defArgs s__law_sort) (defBody s__law_sort) (defScope s__law_sort) .none kV12 dc12 pm12 an12 cd12 ct12), sl12⟩) (yc12 : PySem.W.codeIn K cd12 "_law_sort" = true) (yk12 : PySem.W.keepIn K (.ref f12) = true)
    {f13 : Addr} {od13 an13 : Option Addr} {sl13 : Array (Option Value)} {oc13 kV13 dc13 pm13 cd13 ct13 : Value}
    (ya13 : PySem.W.nsIn K mainGlobals "_law_same" = some (some (.ref f13))) (yl13 : K.lookup f13 = some ⟨oc13, od13, .func (PySem.W.fnOf "_law_same" "_law_same" (defArgs s__law_same) (defBody s__law_same) (defScope s__law_same) .none kV13 dc13 pm13 an13 cd13 ct13), sl13⟩) (yc13 : PySem.W.codeIn K cd13 "_law_same" = true) (yk13 : PySem.W.keepIn K (.ref f13) = true)
    {f14 : Addr} {od14 an14 : Option Addr} {sl14 : Array (Option Value)} {oc14 kV14 dc14 pm14 cd14 ct14 : Value}
    (ya14 : PySem.W.nsIn K mainGlobals "_law_land" = some (some (.ref f14))) (yl14 : K.lookup f14 = some ⟨oc14, od14, .func (PySem.W.fnOf "_law_land" "_law_land" (defArgs s__law_land) (defBody s__law_land) (defScope s__law_land) .none kV14 dc14 pm14 an14 cd14 ct14), sl14⟩) (yc14 : PySem.W.codeIn K cd14 "_law_land" = true) (yk14 : PySem.W.keepIn K (.ref f14) = true)
    {f15 : Addr} {od15 an15 : Option Addr} {sl15 : Array (Option Value)} {oc15 kV15 dc15 pm15 cd15 ct15 : Value}
    (ya15 : PySem.W.nsIn K mainGlobals "_law_any" = some (some (.ref f15))) (yl15 : K.lookup f15 = some ⟨oc15, od15, .func (PySem.W.fnOf "_law_any" "_law_any" (defArgs s__law_any) (defBody s__law_any) (defScope s__law_any) .none kV15 dc15 pm15 an15 cd15 ct15), sl15⟩) (yc15 : PySem.W.codeIn K cd15 "_law_any" = true) (yk15 : PySem.W.keepIn K (.ref f15) = true)
    {f16 : Addr} {od16 an16 : Option Addr} {sl16 : Array (Option Value)} {oc16 kV16 dc16 pm16 cd16 ct16 : Value}
    (ya16 : PySem.W.nsIn K mainGlobals "_law_begin" = some (some (.ref f16))) (yl16 : K.lookup f16 = some ⟨oc16, od16, .func (PySem.W.fnOf "_law_begin" "_law_begin" (defArgs s__law_begin) (defBody s__law_begin) (defScope s__law_begin) .none kV16 dc16 pm16 an16 cd16 ct16), sl16⟩) (yc16 : PySem.W.codeIn K cd16 "_law_begin" = true) (yk16 : PySem.W.keepIn K (.ref f16) = true)
    {f17 : Addr} {od17 an17 : Option Addr} {sl17 : Array (Option Value)} {oc17 kV17 dc17 pm17 cd17 ct17 : Value}
    (ya17 : PySem.W.nsIn K mainGlobals "_law_far" = some (some (.ref f17))) (yl17 : K.lookup f17 = some ⟨oc17, od17, .func (PySem.W.fnOf "_law_far" "_law_far" (defArgs s__law_far) (defBody s__law_far) (defScope s__law_far) .none kV17 dc17 pm17 an17 cd17 ct17), sl17⟩) (yc17 : PySem.W.codeIn K cd17 "_law_far" = true) (yk17 : PySem.W.keepIn K (.ref f17) = true)
    {f18 : Addr} {od18 an18 : Option Addr} {sl18 : Array (Option Value)} {oc18 kV18 dc18 pm18 cd18 ct18 : Value}
    (ya18 : PySem.W.nsIn K mainGlobals "_law_near" = some (some (.ref f18))) (yl18 : K.lookup f18 = some ⟨oc18, od18, .func (PySem.W.fnOf "_law_near" "_law_near" (defArgs s__law_near) (defBody s__law_near) (defScope s__law_near) .none kV18 dc18 pm18 an18 cd18 ct18), sl18⟩) (yc18 : PySem.W.codeIn K cd18 "_law_near" = true) (yk18 : PySem.W.keepIn K (.ref f18) = true)
    {f19 : Addr} {od19 an19 : Option Addr} {sl19 : Array (Option Value)} {oc19 kV19 dc19 pm19 cd19 ct19 : Value}
    (ya19 : PySem.W.nsIn K mainGlobals "law" = some (some (.ref f19))) (yl19 : K.lookup f19 = some ⟨oc19, od19, .func (PySem.W.fnOf "law" "law" (defArgs s_law) (defBody s_law) (defScope s_law) .none kV19 dc19 pm19 an19 cd19 ct19), sl19⟩) (yc19 : PySem.W.codeIn K cd19 "law" = true) (yk19 : PySem.W.keepIn K (.ref f19) = true)
    {tk0 : Tok} (ycst0 : PySem.W.nsIn K mainGlobals "MOST_DAYS" = some (some (.int 400 tk0)))
    {tk1 : Tok} (ycst1 : PySem.W.nsIn K mainGlobals "MOST_BOTTOM" = some (some (.int 60 tk1)))
    {tk2 : Tok} (ycst2 : PySem.W.nsIn K mainGlobals "MOST_SHIFT" = some (some (.int 1000000 tk2)))
    (yz0 : PySem.W.nsIn K mainGlobals "isinstance" = some none)
    (yz1 : PySem.W.nsIn K mainGlobals "int" = some none)
    (yz2 : PySem.W.nsIn K mainGlobals "bool" = some none)
    (yz3 : PySem.W.nsIn K mainGlobals "tuple" = some none)
    (yz4 : PySem.W.nsIn K mainGlobals "len" = some none)
    (yz5 : PySem.W.nsIn K mainGlobals "range" = some none)
    (yz6 : PySem.W.nsIn K mainGlobals "str" = some none)
    (yz7 : PySem.W.nsIn K mainGlobals "list" = some none)
    (yz8 : PySem.W.nsIn K mainGlobals "enumerate" = some none)
    (yz9 : PySem.W.nsIn K mainGlobals "max" = some none)
    (yz10 : PySem.W.nsIn K mainGlobals "min" = some none)
    (yz11 : PySem.W.nsIn K mainGlobals "ValueError" = some none)
    : ∃ fd : FuncData, (∀ (s : Shared) (v : Value), BindsTo s fd ⟨[v], []⟩ [("script", v)]) ∧ ∀ base : Heap, K.In base → base.Ns mainGlobals mg → FnOk l.prog w K mg base CX0 7 fa fd ["script"] (spLaw K) := by
  have e := hfa.symm.trans (PySem.W.mg_of X G ya19)
  cases e
  have F0 := fun_mk (st := s_is_whole) yl0 yc0 yk0
  have b0 := F0.binds (ps := ["thing"]) fun _ _ _ _ _ _ us hl => match us, hl with | [_], _ => rfl
  have F1 := fun_mk (st := s_is_between) yl1 yc1 yk1
  have b1 := F1.binds (ps := ["thing", "least", "most"]) fun _ _ _ _ _ _ us hl => match us, hl with | [_, _, _], _ => rfl
  have F2 := fun_mk (st := s_is_land) yl2 yc2 yk2
  have b2 := F2.binds (ps := ["thing"]) fun _ _ _ _ _ _ us hl => match us, hl with | [_], _ => rfl
  have F3 := fun_mk (st := s_need_land) yl3 yc3 yk3
  have b3 := F3.binds (ps := ["thing"]) fun _ _ _ _ _ _ us hl => match us, hl with | [_], _ => rfl
  have F4 := fun_mk (st := s_step_of) yl4 yc4 yk4
  have b4 := F4.binds (ps := ["land"]) fun _ _ _ _ _ _ us hl => match us, hl with | [_], _ => rfl
  have F5 := fun_mk (st := s_first_day) yl5 yc5 yk5
  have b5 := F5.binds (ps := ["land", "year"]) fun _ _ _ _ _ _ us hl => match us, hl with | [_, _], _ => rfl
  have F6 := fun_mk (st := s_alike) yl6 yc6 yk6
  have b6 := F6.binds (ps := ["one", "other"]) fun _ _ _ _ _ _ us hl => match us, hl with | [_, _], _ => rfl
  have F7 := fun_mk (st := s_first_parting) yl7 yc7 yk7
  have b7 := F7.binds (ps := ["one", "other"]) fun _ _ _ _ _ _ us hl => match us, hl with | [_, _], _ => rfl
  have F8 := fun_mk (st := s__law_deck) yl8 yc8 yk8
  have b8 := F8.binds (ps := ["cell", "turn"]) fun _ _ _ _ _ _ us hl => match us, hl with | [_, _], _ => rfl
  have F9 := fun_mk (st := s__law_pick) yl9 yc9 yk9
  have b9 := F9.binds (ps := ["deck", "size"]) fun _ _ _ _ _ _ us hl => match us, hl with | [_, _], _ => rfl
  have F10 := fun_mk (st := s__law_whole) yl10 yc10 yk10
  have b10 := F10.binds (ps := ["thing"]) fun _ _ _ _ _ _ us hl => match us, hl with | [_], _ => rfl
  have F11 := fun_mk (st := s__law_one) yl11 yc11 yk11
  have b11 := F11.binds (ps := ["deck", "some"]) fun _ _ _ _ _ _ us hl => match us, hl with | [_, _], _ => rfl
  have F12 := fun_mk (st := s__law_sort) yl12 yc12 yk12
  have b12 := F12.binds (ps := ["thing"]) fun _ _ _ _ _ _ us hl => match us, hl with | [_], _ => rfl
  have F13 := fun_mk (st := s__law_same) yl13 yc13 yk13
  have b13 := F13.binds (ps := ["told", "due"]) fun _ _ _ _ _ _ us hl => match us, hl with | [_, _], _ => rfl
  have F14 := fun_mk (st := s__law_land) yl14 yc14 yk14
  have b14 := F14.binds (ps := ["deck", "long_so", "bottoms", "shifts"]) fun _ _ _ _ _ _ us hl => match us, hl with | [_, _, _, _], _ => rfl
  have F15 := fun_mk (st := s__law_any) yl15 yc15 yk15
  have b15 := F15.binds (ps := ["deck"]) fun _ _ _ _ _ _ us hl => match us, hl with | [_], _ => rfl
  have F16 := fun_mk (st := s__law_begin) yl16 yc16 yk16
  have b16 := F16.binds (ps := ["land", "year"]) fun _ _ _ _ _ _ us hl => match us, hl with | [_, _], _ => rfl
  have F17 := fun_mk (st := s__law_far) yl17 yc17 yk17
  have b17 := F17.binds (ps := ["deck"]) fun _ _ _ _ _ _ us hl => match us, hl with | [_], _ => rfl
  have F18 := fun_mk (st := s__law_near) yl18 yc18 yk18
  have b18 := F18.binds (ps := ["deck", "land"]) fun _ _ _ _ _ _ us hl => match us, hl with | [_, _], _ => rfl
  have FL := fun_mk (st := s_law) yl19 yc19 yk19
  let T : Txt K mg := { is_whole := ⟨_, _, F0, b0, PySem.W.mg_of X G ya0⟩, is_between := ⟨_, _, F1, b1, PySem.W.mg_of X G ya1⟩, is_land := ⟨_, _, F2, b2, PySem.W.mg_of X G ya2⟩, need_land := ⟨_, _, F3, b3, PySem.W.mg_of X G ya3⟩, step_of := ⟨_, _, F4, b4, PySem.W.mg_of X G ya4⟩, first_day := ⟨_, _, F5, b5, PySem.W.mg_of X G ya5⟩, alike := ⟨_, _, F6, b6, PySem.W.mg_of X G ya6⟩, first_parting := ⟨_, _, F7, b7, PySem.W.mg_of X G ya7⟩, _law_deck := ⟨_, _, F8, b8, PySem.W.mg_of X G ya8⟩, _law_pick := ⟨_, _, F9, b9, PySem.W.mg_of X G ya9⟩, _law_whole := ⟨_, _, F10, b10, PySem.W.mg_of X G ya10⟩, _law_one := ⟨_, _, F11, b11, PySem.W.mg_of X G ya11⟩, _law_sort := ⟨_, _, F12, b12, PySem.W.mg_of X G ya12⟩, _law_same := ⟨_, _, F13, b13, PySem.W.mg_of X G ya13⟩, _law_land := ⟨_, _, F14, b14, PySem.W.mg_of X G ya14⟩, _law_any := ⟨_, _, F15, b15, PySem.W.mg_of X G ya15⟩, _law_begin := ⟨_, _, F16, b16, PySem.W.mg_of X G ya16⟩, _law_far := ⟨_, _, F17, b17, PySem.W.mg_of X G ya17⟩, _law_near := ⟨_, _, F18, b18, PySem.W.mg_of X G ya18⟩, t_MOST_DAYS := _, c_MOST_DAYS := PySem.W.mg_of X G ycst0, t_MOST_BOTTOM := _, c_MOST_BOTTOM := PySem.W.mg_of X G ycst1, t_MOST_SHIFT := _, c_MOST_SHIFT := PySem.W.mg_of X G ycst2, isinstance := PySem.W.mg_none_of X G yz0, b_int := PySem.W.mg_none_of X G yz1, b_bool := PySem.W.mg_none_of X G yz2, tuple := PySem.W.mg_none_of X G yz3, len := PySem.W.mg_none_of X G yz4, range := PySem.W.mg_none_of X G yz5, str := PySem.W.mg_none_of X G yz6, b_list := PySem.W.mg_none_of X G yz7, enumerate := PySem.W.mg_none_of X G yz8, max := PySem.W.mg_none_of X G yz9, min := PySem.W.mg_none_of X G yz10, ValueError := PySem.W.mg_none_of X G yz11 }
  exact ⟨PySem.W.fnOf "law" "law" (defArgs s_law) (defBody s_law) (defScope s_law) .none kV19 dc19 pm19 an19 cd19 ct19, fun s v => .of_eq rfl, fun base _ _ => ok_law T FL⟩
end LY
open PySem PySem.W PyProof.Rows
set_option maxHeartbeats 0 in
theorem PySem.Challenge.cw_longyears_k08_whole_lands_alike_or_parte_holds : PySem.Challenge.rw_longyears_k08_whole_lands_alike_or_parte.Holds := by
  w_on; o_law; k_head; (case hw => w_witness2)
  k_fill
  refine L2.walk_of (l := PySem.Challenge.rw_longyears_k08_whole_lands_alike_or_parte) (n := 63) (k := 7) (x := "script") (CX := fun _ => L2.CX0) (sp := fun w => LY.spLaw _) rfl (by decide) rfl ⟨rfl, by decide, by decide⟩ (fun w h Y => PySem.W.kIn_of Y) ?F (fun _ _ a ns hl _ hS => ⟨a, ns, rfl, hS, hl, fun _ => rfl⟩) (fun _ _ _ _ _ h => h)
  case F =>
    intro w mg fa h KX G hmg
    refine' LY.all_mk KX G hmg ?ya0 ?yl0 ?yc0 ?yk0 ?ya1 ?yl1 ?yc1 ?yk1 ?ya2 ?yl2 ?yc2 ?yk2 ?ya3 ?yl3 ?yc3 ?yk3 ?ya4 ?yl4 ?yc4 ?yk4 ?ya5 ?yl5 ?yc5 ?yk5 ?ya6 ?yl6 ?yc6 ?yk6 ?ya7 ?yl7 ?yc7 ?yk7 ?ya8 ?yl8 ?yc8 ?yk8 ?ya9 ?yl9 ?yc9 ?yk9 ?ya10 ?yl10 ?yc10 ?yk10 ?ya11 ?yl11 ?yc11 ?yk11 ?ya12 ?yl12 ?yc12 ?yk12 ?ya13 ?yl13 ?yc13 ?yk13 ?ya14 ?yl14 ?yc14 ?yk14 ?ya15 ?yl15 ?yc15 ?yk15 ?ya16 ?yl16 ?yc16 ?yk16 ?ya17 ?yl17 ?yc17 ?yk17 ?ya18 ?yl18 ?yc18 ?yk18 ?ya19 ?yl19 ?yc19 ?yk19 ?ycst0 ?ycst1 ?ycst2 ?yz0 ?yz1 ?yz2 ?yz3 ?yz4 ?yz5 ?yz6 ?yz7 ?yz8 ?yz9 ?yz10 ?yz11
    (case ya0 => k_is)
    (case yl0 => k_is)
    (case yc0 => k_is)
    (case yk0 => k_is)
    (case ya1 => k_is)
    (case yl1 => k_is)
    (case yc1 => k_is)
    (case yk1 => k_is)
    (case ya2 => k_is)
    (case yl2 => k_is)
    (case yc2 => k_is)
    (case yk2 => k_is)
    (case ya3 => k_is)
    (case yl3 => k_is)
    (case yc3 => k_is)
    (case yk3 => k_is)
    (case ya4 => k_is)
    (case yl4 => k_is)
    (case yc4 => k_is)
    (case yk4 => k_is)
    (case ya5 => k_is)
    (case yl5 => k_is)
    (case yc5 => k_is)
    (case yk5 => k_is)
    (case ya6 => k_is)
    (case yl6 => k_is)
    (case yc6 => k_is)
    (case yk6 => k_is)
    (case ya7 => k_is)
    (case yl7 => k_is)
    (case yc7 => k_is)
    (case yk7 => k_is)
    (case ya8 => k_is)
    (case yl8 => k_is)
    (case yc8 => k_is)
    (case yk8 => k_is)
    (case ya9 => k_is)
    (case yl9 => k_is)
    (case yc9 => k_is)
    (case yk9 => k_is)
    (case ya10 => k_is)
    (case yl10 => k_is)
    (case yc10 => k_is)
    (case yk10 => k_is)
    (case ya11 => k_is)
    (case yl11 => k_is)
    (case yc11 => k_is)
    (case yk11 => k_is)
    (case ya12 => k_is)
    (case yl12 => k_is)
    (case yc12 => k_is)
    (case yk12 => k_is)
    (case ya13 => k_is)
    (case yl13 => k_is)
    (case yc13 => k_is)
    (case yk13 => k_is)
    (case ya14 => k_is)
    (case yl14 => k_is)
    (case yc14 => k_is)
    (case yk14 => k_is)
    (case ya15 => k_is)
    (case yl15 => k_is)
    (case yc15 => k_is)
    (case yk15 => k_is)
    (case ya16 => k_is)
    (case yl16 => k_is)
    (case yc16 => k_is)
    (case yk16 => k_is)
    (case ya17 => k_is)
    (case yl17 => k_is)
    (case yc17 => k_is)
    (case yk17 => k_is)
    (case ya18 => k_is)
    (case yl18 => k_is)
    (case yc18 => k_is)
    (case yk18 => k_is)
    (case ya19 => k_is)
    (case yl19 => k_is)
    (case yc19 => k_is)
    (case yk19 => k_is)
    (case ycst0 => k_is)
    (case ycst1 => k_is)
    (case ycst2 => k_is)
    (case yz0 => k_is)
    (case yz1 => k_is)
    (case yz2 => k_is)
    (case yz3 => k_is)
    (case yz4 => k_is)
    (case yz5 => k_is)
    (case yz6 => k_is)
    (case yz7 => k_is)
    (case yz8 => k_is)
    (case yz9 => k_is)
    (case yz10 => k_is)
    (case yz11 => k_is)
